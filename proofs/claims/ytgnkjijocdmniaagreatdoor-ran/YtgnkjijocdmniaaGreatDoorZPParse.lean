import Derived.Stop.Asserts
import Derived.RowKitTokens
import Derived.Test.YtgnkjijocdmniaaGreatDoorZReaderT
namespace Go.Proofs.YtgnkjijocdmniaaGreatDoor
set_option linter.all false
set_option maxRecDepth 100000
set_option maxHeartbeats 4000000
open Go.Proofs.Tryz
open Go.RowKit
variable{W w w':World}{a e:Addr}{b d v:Value}{i:Nat}{l:Array Bool}{t:ByteArray}
section
attribute [local go_sem ↓] Zt Zu
theorem EJ(h:i<l.size):(fun j=>(l.setIfInBounds i true).getD j false)=up (fun j=>l.getD j false) i:=by
 funext j;unfold up;by_cases e:j=i
 .subst e;simp[h]
 .rw[Qg e];exact getD_set_ne false (Ne.symm e)
def tmC(t:ByteArray)(b:Nat)(u8 u16 u18 u20 u25 u26 u27:Value):Act:=
 { tmps:=#[.string t,undef,.pointer none,(Qc (b+1)),.string t,.agg #[.string t,Qa 0,Qa 0,.string ⟨#[]⟩,.string ⟨#[]⟩,Qa 0,Qa 0,Qp,.map none,.map none],(Qc b),(Qc b),u8,(Qc b),(QA 121 #[Qc b] #[]),(Qc b),(QA 122 #[Qc b] #[]),(Qc b),(QA 123 #[Qc b] #[]),(Qc b),u16,(Qc b),u18,(Qc b),u20,(Qc b),(QA 125 #[Qc b] #[]),(Qc b),(QA 126 #[Qc b] #[]),u25,u26,u27,undef,undef,undef,undef,undef,undef,undef,undef,undef,undef,undef,undef,undef,undef,undef,undef,undef,undef,undef],defers:=[] }
def JJC(t:ByteArray)(b:Nat)(W:World)(l:Array Bool)(a:Act)(w:World):Prop:=
 l.size=30/\(∀i∈[0,2,3,5,6,8,9,11,14,17,20,21,23,24],l.getD i false=true)/\∃u8 u16 u18 u20 u25 u26 u27,a=tmC t b u8 u16 u18 u20 u25 u26 u27/\JC t b W (.map none) (fun j=>l.getD j false) u8 u16 u18 u20 u25 u26 u27 w
theorem JJC.next{b:Nat}{u8 u16 u18 u20 u25 u26 u27:Value}(hl:l.size=30)(ht:∀i∈[0,2,3,5,6,8,9,11,14,17,20,21,23,24],l.getD i false=true)(hi:i<30)(J:JC t b W (.map none) (up (fun j=>l.getD j false) i) u8 u16 u18 u20 u25 u26 u27 w):JJC t b W (l.setIfInBounds i true) (tmC t b u8 u16 u18 u20 u25 u26 u27) w:=
 ⟨by simp[hl],fun k hk=>getD_set_true (ht k hk),u8,u16,u18,u20,u25,u26,u27,rfl,by rw[EJ I];exact J⟩
def Oo(t:ByteArray)(w:World)(e:Ending)(w':World):Prop:=∃mc mt pr pt pf p1 k1 p2 k2 p3 k3,e=.returned (Qc w.heap.size)/\RC w' w.heap.size t ps0 Qp mc mt/\Kd w' w.heap.size mt pr pt pf/\KZ w' w.heap.size mc p1 k1 p2 k2 p3 k3/\Qo w w'
def tmT(t:ByteArray)(b:Nat)(u8 u16 u18 u20 u25 u26 u27 u29 u30 u31 u43 u44 u45:Value):Act:=
 { tmps:=#[.string t,undef,.pointer none,(Qc (b+1)),.string t,.agg #[.string t,Qa 0,Qa 0,.string ⟨#[]⟩,.string ⟨#[]⟩,Qa 0,Qa 0,Qp,.map none,.map none],(Qc b),(Qc b),u8,(Qc b),(QA 121 #[Qc b] #[]),(Qc b),(QA 122 #[Qc b] #[]),(Qc b),(QA 123 #[Qc b] #[]),(Qc b),u16,(Qc b),u18,(Qc b),u20,(Qc b),(QA 125 #[Qc b] #[]),(Qc b),(QA 126 #[Qc b] #[]),u25,u26,u27,(Qc b),u29,u30,u31,(Qc b),(QA 128 #[Qc b] #[]),(QA 129 #[] #[(Qc (b+1))]),(QA 131 #[] #[(Qc (b+1))]),(QA 132 #[] #[(Qc (b+1))]),(QA 135 #[] #[(Qc (b+1))]),(QA 138 #[] #[(Qc (b+1))]),(Qc b),(QA 139 #[Qc b] #[]),(Qc b),(QA 140 #[Qc b] #[]),u43,u44,u45,undef],defers:=[] }
def JJT(t:ByteArray)(b:Nat)(W:World)(mv1:Value)(u8 u16 u18 u20 u25 u26 u27:Value)(l:Array Bool)(a:Act)(w:World):Prop:=
 l.size=29/\(∀i∈[0,6,7,9,11,13,15,17,19,20,22,23],l.getD i false=true)/\∃u29 u30 u31 u43 u44 u45,a=tmT t b u8 u16 u18 u20 u25 u26 u27 u29 u30 u31 u43 u44 u45/\JT t b W mv1 (fun j=>l.getD j false) u29 u30 u31 u43 u44 u45 w
theorem JJT.next{b:Nat}{mv1:Value}{u8 u16 u18 u20 u25 u26 u27 u29 u30 u31 u43 u44 u45:Value}(hl:l.size=29)(ht:∀i∈[0,6,7,9,11,13,15,17,19,20,22,23],l.getD i false=true)(hi:i<29)(J:JT t b W mv1 (up (fun j=>l.getD j false) i) u29 u30 u31 u43 u44 u45 w):JJT t b W mv1 u8 u16 u18 u20 u25 u26 u27 (l.setIfInBounds i true) (tmT t b u8 u16 u18 u20 u25 u26 u27 u29 u30 u31 u43 u44 u45) w:=
 ⟨by simp[hl],fun k hk=>getD_set_true (ht k hk),u29,u30,u31,u43,u44,u45,rfl,by rw[EJ I];exact J⟩
theorem Sw{o o':Obj}(h:Mod w.heap.size ((w.alloc o).alloc o') w'):Qo w w':=
 ⟨h.os,h.tape,h.output,by have:=h.size;simp at this;omega,fun k hk=>by
  rw [h.block k (by simp;omega) I,ZL _ _ _ (by simp;omega),ZL _ _ _ hk]⟩
theorem Uy:type_of%@Go.wp_region_held:=@Go.wp_region_held
theorem R4(w:World)(ht:t.size<=600)(aC:∃m,w.cell? (Ql 1 0)=some (Qa m)):Calls prog 89 #[.string t] w (Oo t w):=by
 go_enter func89,ntmps89;go_wp2_with fail;refine Uy (S:=fun q=>q.cell? ⟨w.heap.size+1,0,none⟩=some (Qc w.heap.size)) Qm ?_;have A:({ ((w.alloc (JX t (.map none) (.map none))).alloc (Qe #[Qc w.heap.size] 161))with drawn:=((w.alloc (JX t (.map none) (.map none))).alloc (Qe #[Qc w.heap.size] 161)).drawn+1 }:World).cell? ⟨w.heap.size+1,0,none⟩=some (Qc w.heap.size):=Qj (ZB Qh) 0;refine XC 0 7 (Qc w.heap.size) rfl A ?_;simp only[pt,sz,sc];refine XC 2 9 (Qc w.heap.size) rfl A ?_;simp only[pt,sz,sc];refine XC 3 10 (QA 121 #[Qc w.heap.size] #[]) rfl A ?_;simp only[pt,sz,sc];refine XC 5 11 (Qc w.heap.size) rfl A ?_;simp only[pt,sz,sc];refine XC 6 12 (QA 122 #[Qc w.heap.size] #[]) rfl A ?_;simp only[pt,sz,sc];refine XC 8 13 (Qc w.heap.size) rfl A ?_;simp only[pt,sz,sc];refine XC 9 14 (QA 123 #[Qc w.heap.size] #[]) rfl A ?_;simp only[pt,sz,sc];refine XC 11 15 (Qc w.heap.size) rfl A ?_;simp only[pt,sz,sc];refine XC 14 17 (Qc w.heap.size) rfl A ?_;simp only[pt,sz,sc];refine XC 17 19 (Qc w.heap.size) rfl A ?_;simp only[pt,sz,sc];refine XC 20 21 (Qc w.heap.size) rfl A ?_;simp only[pt,sz,sc];refine XC 21 22 (QA 125 #[Qc w.heap.size] #[]) rfl A ?_;simp only[pt,sz,sc];refine XC 23 23 (Qc w.heap.size) rfl A ?_;simp only[pt,sz,sc];refine XC 24 24 (QA 126 #[Qc w.heap.size] #[]) rfl A ?_;simp only[pt,sz,sc];refine BC (JJC t w.heap.size ((w.alloc (JX t (.map none) (.map none))).alloc (Qe #[Qc w.heap.size] 161))) (fun l a q h=>by rw[h.1];rfl) (fun l a q h=>?hSS) (fun l a q i h u=>?hstep) (fun l a q h F=>?hdone) _ _ _ _ Qb ?hinit
 case hSS=>
  obtain⟨_,_,_,_,_,_,_,_,_,_,J⟩:=h;exact Jr (Qj (ZB Qh) 0) J.mod I
 case hinit=>
  refine⟨rfl,Qb,undef,undef,undef,undef,undef,undef,undef,rfl,?_⟩;exact⟨by simp;omega,(Mod.refl _ _).drew,QJ (Q0),ZA,ZA,ZA,ZA,ZA,ZA,ZA,ZA,ZA,ZA,ZA,ZA,ZA,ZA,ZA,ZA,ZA,ZA,ZA⟩
 case hdone=>
  obtain⟨s,f,u8,u16,u18,u20,u25,u26,u27,rfl,J⟩:=h;have N:=CD s Qm F;obtain⟨m,p1,k1,p2,k2,p3,k3,M,P,H,aD⟩:=J.done N;clear J N F f s A;unfold tmC;go_wp2_with fail;have L:JP q (w.heap.size+1) w.heap.size:=⟨Jr (Qj (ZB Qh) 0) H I,I⟩;have ae:=QI M;have ab:=O M;have aG:=O P;have aa:=O H;have aF:=O L;clear M P H L;refine Uy (S:=fun D=>D.cell? ⟨w.heap.size+1,0,none⟩=some (Qc w.heap.size)) Qm ?_;have A:({ q with drawn:=q.drawn+1 }:World).cell? ⟨w.heap.size+1,0,none⟩=some (Qc w.heap.size):=aF.1;refine XC 0 28 (Qc w.heap.size) rfl A ?_;simp only[pt,sz,sc];refine XC 6 32 (Qc w.heap.size) rfl A ?_;simp only[pt,sz,sc];refine XC 7 33 (QA 128 #[Qc w.heap.size] #[]) rfl A ?_;simp only[pt,sz,sc];refine XC 9 34 (QA 129 #[] #[(Qc (w.heap.size+1))]) rfl A ?_;simp only[pt,sz,sc];refine XC 11 35 (QA 131 #[] #[(Qc (w.heap.size+1))]) rfl A ?_;simp only[pt,sz,sc];refine XC 13 36 (QA 132 #[] #[(Qc (w.heap.size+1))]) rfl A ?_;simp only[pt,sz,sc];refine XC 15 37 (QA 135 #[] #[(Qc (w.heap.size+1))]) rfl A ?_;simp only[pt,sz,sc];refine XC 17 38 (QA 138 #[] #[(Qc (w.heap.size+1))]) rfl A ?_;simp only[pt,sz,sc];refine XC 19 39 (Qc w.heap.size) rfl A ?_;simp only[pt,sz,sc];refine XC 20 40 (QA 139 #[Qc w.heap.size] #[]) rfl A ?_;simp only[pt,sz,sc];refine XC 22 41 (Qc w.heap.size) rfl A ?_;simp only[pt,sz,sc];refine XC 23 42 (QA 140 #[Qc w.heap.size] #[]) rfl A ?_;simp only[pt,sz,sc];refine BC (JJT t w.heap.size q (.map (some m)) u8 u16 u18 u20 u25 u26 u27) (fun l a q h=>by rw[h.1];rfl) (fun l a q h=>?hSS2) (fun l a D i h u=>?hstep2) (fun l a D h F=>?hdone2) _ _ _ _ Qb ?hinit2
  case hSS2=>
   obtain⟨_,_,_,_,_,_,_,_,_,J⟩:=h;exact Jr aF.1 J.mod I
  case hinit2=>
   refine⟨rfl,Qb,undef,undef,undef,undef,undef,undef,rfl,?_⟩;exact⟨ae,(Mod.refl _ _).drew,ab,ZA,ZA,ZA,ZA,ZA,ZA,ZA,ZA,ZA,ZA,ZA,ZA,ZA,ZA,ZA,ZA,ZA,ZA,ZA⟩
  case hdone2=>
   obtain⟨s,f,u29,u30,u31,u43,u44,u45,rfl,J⟩:=h;have N:=CD s Qm F;obtain⟨mt,pt,pf,M,Y,H,_⟩:=J.done N aF;have aE:=(aF.o.mod H).1
   have Z:Hid (Oo t w (.returned (Qc w.heap.size)) D):=by
    have W:=Sw (aa.o.trans H);obtain⟨mm,X⟩:=aC;have T:=QX X;exact⟨m,mt,w.heap.size+1,pt,pf,p1,k1,p2,k2,p3,k3,rfl,⟨M,QR,⟨mm,by rw[W.cell (p:=⟨1,0,none⟩) T];exact X⟩,T,ht,⟨QR,Qb⟩,fun _=>rfl,fun _ c r e=>by cases e⟩,Y,aG.o.mod H,W⟩
   clear J N F f s A M Y H;unfold tmT;go_wp2;go_ret;exact Z
  case hstep2=>
   obtain⟨s,f,u29,u30,u31,u43,u44,u45,rfl,J⟩:=h;obtain⟨K,o,g,d⟩:=mem_ready.1 u;have ax:i<29:=(N'.1 g).1
   have b:l.getD i false=false:=by
    have:i<l.size:=I
    simp[this]at K ⊢;exact K
   clear K;rcases(by omega:i=0\/i=1\/i=2\/i=3\/i=4\/i=5\/i=6\/i=7\/i=8\/i=9\/i=10\/i=11\/i=12\/i=13\/i=14\/i=15\/i=16\/i=17\/i=18\/i=19\/i=20\/i=21\/i=22\/i=23\/i=24\/i=25\/i=26\/i=27\/i=28)with hh|hh|hh|hh|hh|hh|hh|hh|hh|hh|hh|hh|hh|hh|hh|hh|hh|hh|hh|hh|hh|hh|hh|hh|hh|hh|hh|hh|hh<;>subst hh
   .rw[f 0 Qb]at b;cases b
   .clear g d u;refine Zp rfl (by rfl) ?_;unfold tmT;go_simp;exact JJT.next s f Qb (J.s1 b)
   .clear g d u;refine Zp rfl (by rfl) ?_;unfold tmT;go_simp;refine Qu (I8 true) ?_;exact JJT.next s f Qb (J.s2 b)
   .have n:=ZK (show some _=some o from g);subst n;have k:=d { on:=1,ground:=.data } Qh rfl;have G:=d { on:=2,ground:=.data } Qh rfl;clear g d u;obtain⟨B,C,c,rfl,y,x,z,v⟩:=J.s3 b k G;have E:(Instr.mapUpdate 208 (.map (some B)) (.string ⟨#[116,114,117,101]⟩) (u30)).run prog D=.ok () _:=Y6 Uz Z2 y x z;refine Zp rfl (by rfl) ?_;unfold tmT;go_simp;exact JJT.next s f Qb v
   .clear g d u;refine Zp rfl (by rfl) ?_;unfold tmT;go_simp;refine Qu (I8 false) ?_;exact JJT.next s f Qb (J.s4 b)
   .have n:=ZK (show some _=some o from g);subst n;have k:=d { on:=1,ground:=.data } Qh rfl;have G:=d { on:=4,ground:=.data } Qh rfl;clear g d u;obtain⟨B,C,c,rfl,y,x,z,v⟩:=J.s5 b k G;have E:(Instr.mapUpdate 208 (.map (some B)) (.string ⟨#[102,97,108,115,101]⟩) (u31)).run prog D=.ok () _:=Y6 Uz Z2 y x z;refine Zp rfl (by rfl) ?_;unfold tmT;go_simp;exact JJT.next s f Qb v
   .rw[f 6 Qb]at b;cases b
   .rw[f 7 Qb]at b;cases b
   .have n:=ZK (show some _=some o from g);subst n;have k:=d { on:=1,ground:=.data } Qh rfl;clear g d u;obtain⟨B,C,c,rfl,y,x,z,v⟩:=J.s8 b k;have E:(Instr.mapUpdate 208 (.map (some B)) (.string ⟨#[110,111,116]⟩) (QA 128 #[Qc w.heap.size] #[])).run prog D=.ok () _:=Y6 Uz Z2 y x z;refine Zp rfl (by rfl) ?_;unfold tmT;go_simp;exact JJT.next s f Qb v
   .rw[f 9 Qb]at b;cases b
   .have n:=ZK (show some _=some o from g);subst n;have k:=d { on:=1,ground:=.data } Qh rfl;clear g d u;obtain⟨B,C,c,rfl,y,x,z,v⟩:=J.s10 b k;have E:(Instr.mapUpdate 208 (.map (some B)) (.string ⟨#[97,108,108,111,102]⟩) (QA 129 #[] #[(Qc (w.heap.size+1))])).run prog D=.ok () _:=Y6 Uz Z2 y x z;refine Zp rfl (by rfl) ?_;unfold tmT;go_simp;exact JJT.next s f Qb v
   .rw[f 11 Qb]at b;cases b
   .have n:=ZK (show some _=some o from g);subst n;have k:=d { on:=1,ground:=.data } Qh rfl;clear g d u;obtain⟨B,C,c,rfl,y,x,z,v⟩:=J.s12 b k;have E:(Instr.mapUpdate 208 (.map (some B)) (.string ⟨#[97,110,121,111,102]⟩) (QA 131 #[] #[(Qc (w.heap.size+1))])).run prog D=.ok () _:=Y6 Uz Z2 y x z;refine Zp rfl (by rfl) ?_;unfold tmT;go_simp;exact JJT.next s f Qb v
   .rw[f 13 Qb]at b;cases b
   .have n:=ZK (show some _=some o from g);subst n;have k:=d { on:=1,ground:=.data } Qh rfl;clear g d u;obtain⟨B,C,c,rfl,y,x,z,v⟩:=J.s14 b k;have E:(Instr.mapUpdate 208 (.map (some B)) (.string ⟨#[104,101,97,100,101,114]⟩) (QA 132 #[] #[(Qc (w.heap.size+1))])).run prog D=.ok () _:=Y6 Uz Z2 y x z;refine Zp rfl (by rfl) ?_;unfold tmT;go_simp;exact JJT.next s f Qb v
   .rw[f 15 Qb]at b;cases b
   .have n:=ZK (show some _=some o from g);subst n;have k:=d { on:=1,ground:=.data } Qh rfl;clear g d u;obtain⟨B,C,c,rfl,y,x,z,v⟩:=J.s16 b k;have E:(Instr.mapUpdate 208 (.map (some B)) (.string ⟨#[101,110,118,101,108,111,112,101]⟩) (QA 135 #[] #[(Qc (w.heap.size+1))])).run prog D=.ok () _:=Y6 Uz Z2 y x z;refine Zp rfl (by rfl) ?_;unfold tmT;go_simp;exact JJT.next s f Qb v
   .rw[f 17 Qb]at b;cases b
   .have n:=ZK (show some _=some o from g);subst n;have k:=d { on:=1,ground:=.data } Qh rfl;clear g d u;obtain⟨B,C,c,rfl,y,x,z,v⟩:=J.s18 b k;have E:(Instr.mapUpdate 208 (.map (some B)) (.string ⟨#[115,116,114,105,110,103]⟩) (QA 138 #[] #[(Qc (w.heap.size+1))])).run prog D=.ok () _:=Y6 Uz Z2 y x z;refine Zp rfl (by rfl) ?_;unfold tmT;go_simp;exact JJT.next s f Qb v
   .rw[f 19 Qb]at b;cases b
   .rw[f 20 Qb]at b;cases b
   .have n:=ZK (show some _=some o from g);subst n;have k:=d { on:=1,ground:=.data } Qh rfl;clear g d u;obtain⟨B,C,c,rfl,y,x,z,v⟩:=J.s21 b k;have E:(Instr.mapUpdate 208 (.map (some B)) (.string ⟨#[101,120,105,115,116,115]⟩) (QA 139 #[Qc w.heap.size] #[])).run prog D=.ok () _:=Y6 Uz Z2 y x z;refine Zp rfl (by rfl) ?_;unfold tmT;go_simp;exact JJT.next s f Qb v
   .rw[f 22 Qb]at b;cases b
   .rw[f 23 Qb]at b;cases b
   .have n:=ZK (show some _=some o from g);subst n;have k:=d { on:=1,ground:=.data } Qh rfl;clear g d u;obtain⟨B,C,c,rfl,y,x,z,v⟩:=J.s24 b k;have E:(Instr.mapUpdate 208 (.map (some B)) (.string ⟨#[115,105,122,101]⟩) (QA 140 #[Qc w.heap.size] #[])).run prog D=.ok () _:=Y6 Uz Z2 y x z;refine Zp rfl (by rfl) ?_;unfold tmT;go_simp;exact JJT.next s f Qb v
   .have n:=ZK (show some _=some o from g);subst n;have k:=d { on:=1,ground:=.data } Qh rfl;have aw:=d { on:=3,ground:=.data } Qh rfl;have az:=d { on:=5,ground:=.data } Qh rfl;have aB:=d { on:=8,ground:=.data } Qh rfl;have Q:=d { on:=10,ground:=.data } Qh rfl;have ai:=d { on:=12,ground:=.data } Qh rfl;have ak:=d { on:=14,ground:=.data } Qh rfl;have R:=d { on:=16,ground:=.data } Qh rfl;have ao:=d { on:=18,ground:=.data } Qh rfl;have aq:=d { on:=21,ground:=.data } Qh rfl;have au:=d { on:=24,ground:=.data } Qh rfl;clear g d u;refine Zp rfl (by rfl) ?_;unfold tmT;go_simp;exact JJT.next s f Qb (J.s25 b k aw az aB Q ai ak R ao aq au)
   .clear g d u;refine Zp rfl (by rfl) ?_;unfold tmT;go_simp;exact JJT.next s f Qb (J.s26 b)
   .have n:=ZK (show some _=some o from g);subst n;have k:=d { on:=26,ground:=.data } Qh rfl;obtain rfl:=J.m26 k;clear g d u;refine Zp rfl (by rfl) ?_;unfold tmT;go_simp;exact JJT.next s f Qb (J.s27 b)
   .have n:=ZK (show some _=some o from g);subst n;have ac:=d { on:=27,ground:=.data } Qh rfl;have U:=d { on:=25,ground:=.data } Qh rfl;obtain rfl:=J.m27 ac;obtain⟨rfl,k,_⟩:=J.m25 U;obtain⟨B,C,c,rfl,_,_,_⟩:=J.mp k;clear g d u;have F:=J.rd;unfold JX at F;have ag:=Cw F;rw[show(l.getD 28 false)=false from b]at ag;have ah:=QQ F;refine Zp rfl (by rfl) ?_;unfold tmT;go_simp;exact JJT.next s f Qb (J.s28 b U)
 case hstep=>
  obtain⟨s,f,u8,u16,u18,u20,u25,u26,u27,rfl,J⟩:=h;obtain⟨K,o,g,d⟩:=mem_ready.1 u;have ax:i<30:=(N'.1 g).1
  have b:l.getD i false=false:=by
   have:i<l.size:=I
   simp[this]at K ⊢;exact K
  clear K;rcases(by omega:i=0\/i=1\/i=2\/i=3\/i=4\/i=5\/i=6\/i=7\/i=8\/i=9\/i=10\/i=11\/i=12\/i=13\/i=14\/i=15\/i=16\/i=17\/i=18\/i=19\/i=20\/i=21\/i=22\/i=23\/i=24\/i=25\/i=26\/i=27\/i=28\/i=29)with hh|hh|hh|hh|hh|hh|hh|hh|hh|hh|hh|hh|hh|hh|hh|hh|hh|hh|hh|hh|hh|hh|hh|hh|hh|hh|hh|hh|hh|hh<;>subst hh
  .rw[f 0 Qb]at b;cases b
  .clear g d u;refine Zp rfl (by rfl) ?_;unfold tmC;go_simp;exact JJC.next s f Qb (J.s1 b)
  .rw[f 2 Qb]at b;cases b
  .rw[f 3 Qb]at b;cases b
  .have n:=ZK (show some _=some o from g);subst n;have k:=d { on:=1,ground:=.data } Qh rfl;clear g d u;obtain⟨m,C,c,rfl,y,x,z,v⟩:=J.s4 b k;have E:(Instr.mapUpdate 207 (.map (some m)) (.string ⟨#[107,101,101,112]⟩) (QA 121 #[Qc w.heap.size] #[])).run prog q=.ok () _:=Y6 Vt Z2 y x z;refine Zp rfl (by rfl) ?_;unfold tmC;go_simp;exact JJC.next s f Qb v
  .rw[f 5 Qb]at b;cases b
  .rw[f 6 Qb]at b;cases b
  .have n:=ZK (show some _=some o from g);subst n;have k:=d { on:=1,ground:=.data } Qh rfl;clear g d u;obtain⟨m,C,c,rfl,y,x,z,v⟩:=J.s7 b k;have E:(Instr.mapUpdate 207 (.map (some m)) (.string ⟨#[100,105,115,99,97,114,100]⟩) (QA 122 #[Qc w.heap.size] #[])).run prog q=.ok () _:=Y6 Vt Z2 y x z;refine Zp rfl (by rfl) ?_;unfold tmC;go_simp;exact JJC.next s f Qb v
  .rw[f 8 Qb]at b;cases b
  .rw[f 9 Qb]at b;cases b
  .have n:=ZK (show some _=some o from g);subst n;have k:=d { on:=1,ground:=.data } Qh rfl;clear g d u;obtain⟨m,C,c,rfl,y,x,z,v⟩:=J.s10 b k;have E:(Instr.mapUpdate 207 (.map (some m)) (.string ⟨#[115,116,111,112]⟩) (QA 123 #[Qc w.heap.size] #[])).run prog q=.ok () _:=Y6 Vt Z2 y x z;refine Zp rfl (by rfl) ?_;unfold tmC;go_simp;exact JJC.next s f Qb v
  .rw[f 11 Qb]at b;cases b
  .clear g d u;refine Zp rfl (by rfl) ?_;unfold tmC;go_simp;refine Qu (EA w.heap.size 2 rfl) ?_;exact JJC.next s f Qb (J.s12 b)
  .have n:=ZK (show some _=some o from g);subst n;have k:=d { on:=1,ground:=.data } Qh rfl;have G:=d { on:=12,ground:=.data } Qh rfl;clear g d u;obtain⟨m,C,c,rfl,y,x,z,v⟩:=J.s13 b k G;have E:(Instr.mapUpdate 207 (.map (some m)) (.string ⟨#[102,105,108,101,105,110,116,111]⟩) (u16)).run prog q=.ok () _:=Y6 Vt Z2 y x z;refine Zp rfl (by rfl) ?_;unfold tmC;go_simp;exact JJC.next s f Qb v
  .rw[f 14 Qb]at b;cases b
  .clear g d u;refine Zp rfl (by rfl) ?_;unfold tmC;go_simp;refine Qu (EA w.heap.size 3 rfl) ?_;exact JJC.next s f Qb (J.s15 b)
  .have n:=ZK (show some _=some o from g);subst n;have k:=d { on:=1,ground:=.data } Qh rfl;have G:=d { on:=15,ground:=.data } Qh rfl;clear g d u;obtain⟨m,C,c,rfl,y,x,z,v⟩:=J.s16 b k G;have E:(Instr.mapUpdate 207 (.map (some m)) (.string ⟨#[114,101,100,105,114,101,99,116]⟩) (u18)).run prog q=.ok () _:=Y6 Vt Z2 y x z;refine Zp rfl (by rfl) ?_;unfold tmC;go_simp;exact JJC.next s f Qb v
  .rw[f 17 Qb]at b;cases b
  .clear g d u;refine Zp rfl (by rfl) ?_;unfold tmC;go_simp;refine Qu (EA w.heap.size 4 rfl) ?_;exact JJC.next s f Qb (J.s18 b)
  .have n:=ZK (show some _=some o from g);subst n;have k:=d { on:=1,ground:=.data } Qh rfl;have G:=d { on:=18,ground:=.data } Qh rfl;clear g d u;obtain⟨m,C,c,rfl,y,x,z,v⟩:=J.s19 b k G;have E:(Instr.mapUpdate 207 (.map (some m)) (.string ⟨#[114,101,106,101,99,116]⟩) (u20)).run prog q=.ok () _:=Y6 Vt Z2 y x z;refine Zp rfl (by rfl) ?_;unfold tmC;go_simp;exact JJC.next s f Qb v
  .rw[f 20 Qb]at b;cases b
  .rw[f 21 Qb]at b;cases b
  .have n:=ZK (show some _=some o from g);subst n;have k:=d { on:=1,ground:=.data } Qh rfl;clear g d u;obtain⟨m,C,c,rfl,y,x,z,v⟩:=J.s22 b k;have E:(Instr.mapUpdate 207 (.map (some m)) (.string ⟨#[115,101,116]⟩) (QA 125 #[Qc w.heap.size] #[])).run prog q=.ok () _:=Y6 Vt Z2 y x z;refine Zp rfl (by rfl) ?_;unfold tmC;go_simp;exact JJC.next s f Qb v
  .rw[f 23 Qb]at b;cases b
  .rw[f 24 Qb]at b;cases b
  .have n:=ZK (show some _=some o from g);subst n;have k:=d { on:=1,ground:=.data } Qh rfl;clear g d u;obtain⟨m,C,c,rfl,y,x,z,v⟩:=J.s25 b k;have E:(Instr.mapUpdate 207 (.map (some m)) (.string ⟨#[105,102]⟩) (QA 126 #[Qc w.heap.size] #[])).run prog q=.ok () _:=Y6 Vt Z2 y x z;refine Zp rfl (by rfl) ?_;unfold tmC;go_simp;exact JJC.next s f Qb v
  .have n:=ZK (show some _=some o from g);subst n;have k:=d { on:=1,ground:=.data } Qh rfl;have ay:=d { on:=4,ground:=.data } Qh rfl;have aA:=d { on:=7,ground:=.data } Qh rfl;have Q:=d { on:=10,ground:=.data } Qh rfl;have aj:=d { on:=13,ground:=.data } Qh rfl;have R:=d { on:=16,ground:=.data } Qh rfl;have ap:=d { on:=19,ground:=.data } Qh rfl;have ar:=d { on:=22,ground:=.data } Qh rfl;have av:=d { on:=25,ground:=.data } Qh rfl;clear g d u;refine Zp rfl (by rfl) ?_;unfold tmC;go_simp;exact JJC.next s f Qb (J.s26 b k ay aA Q aj R ap ar av)
  .clear g d u;refine Zp rfl (by rfl) ?_;unfold tmC;go_simp;exact JJC.next s f Qb (J.s27 b)
  .have n:=ZK (show some _=some o from g);subst n;have k:=d { on:=27,ground:=.data } Qh rfl;obtain rfl:=J.m27 k;clear g d u;refine Zp rfl (by rfl) ?_;unfold tmC;go_simp;exact JJC.next s f Qb (J.s28 b)
  .have n:=ZK (show some _=some o from g);subst n;have ad:=d { on:=28,ground:=.data } Qh rfl;have V:=d { on:=26,ground:=.data } Qh rfl;obtain rfl:=J.m28 ad;obtain⟨rfl,k,_⟩:=J.m26 V;obtain⟨m,C,c,rfl,_,_,_⟩:=J.mp k;clear g d u;have F:=J.rd;unfold JX at F;have af:=Cv F;rw[show(l.getD 29 false)=false from b]at af;have ah:=QQ F;refine Zp rfl (by rfl) ?_;unfold tmC;go_simp;exact JJC.next s f Qb (J.s29 b V)
end
theorem RD(W:World)(v:Value)(a:TypeId):(Instr.typeAssert (.iface 125 v) a 125 true).run prog W=.ok (.tuple #[v,.bool true]) W:=Qm
theorem If(w:World):Calls prog 88 #[.nilIface] w fun e w'=>e=.returned (.pointer none)/\w'=w:=by
 go_enter func88,ntmps88;go_wp2;go_ret;exact⟨rfl,rfl⟩
theorem FW(w:World):Calls prog 88 #[.iface 125 (.pointer (some a))] w fun e w'=>e=.returned (.pointer (some a))/\w'=w:=by
 go_enter func88,ntmps88;have b:=RD w (.pointer (some a));go_wp2;go_ret;exact⟨rfl,rfl⟩
theorem QsA(p q:Addr) :
 CallsD prog 87 #[.pointer (some p),.pointer (some q)] .returning w fun e u' w'=>e=.returned (.tuple #[])/\u'=.returning/\w'=w:=by
 refine callsD_of_wpS func87 rfl fun a c b=>?_
 apply wpS_seq;apply wpS_region;simp[wpOpsS,go_sem,recoverD,b,ntmps87,Exit.thenS];refine Qu (If w) ?_;apply wpS_seq;apply wpS_region;simp[wpOpsS,go_sem,Exit.thenS];refine wpS_cond (t:=false) (by simp[Act.eval,Array.replicate]) ?_;simp only[J2,if_false];refine wpS_of_wp (wp_skip ?_);cases a;simp_all [bodyPostS,results,results87]
theorem Ry(P Q:Nat){l m n:Value}(a:Addr)(b:List PanicEntry)(c:w.cell? (Ql P 0)=some l)(d:w.cell? (Ql P 1)=some m)(f:w.cell? (Ql Q 0)=some n)(i:∀j,w.frozen? ⟨P,j,none⟩=false)(k:∀j,w.frozen? ⟨Q,j,none⟩=false)(q:P≠Q) :
 CallsD prog 87 #[Qc P,Qc Q] (.panicking ({ v:=.iface 125 (.pointer (some a)),recovered:=false }::b)) w fun e u' w'=>
  e=.returned (.tuple #[])/\u'=.panicking ({ v:=.iface 125 (.pointer (some a)),recovered:=true }::b)/\w'=((w.setCell ⟨P,0,none⟩ Qp).setCell ⟨P,1,none⟩ Qp).setCell ⟨Q,0,none⟩ (.iface 125 (.pointer (some a))):=by
 refine callsD_of_wpS func87 rfl fun p o g=>?_
 apply wpS_seq;apply wpS_region;simp[wpOpsS,go_sem,recoverD,g,ntmps87,Exit.thenS];refine Qu (FW w) ?_;apply wpS_seq;apply wpS_region;simp[wpOpsS,go_sem,Exit.thenS];refine wpS_cond (t:=true) (by simp[Act.eval,Array.replicate]) ?_;simp only[if_true];apply wpS_region;simp[wpOpsS,go_sem,c,d,f,i,k,bodyPostS,results,results87]
section
attribute [local go_sem ↓] Zt Zu
def EY(r:Qq (Qn×List (Q5 7)))(w:World)(e:Ending)(w':World):Prop:=
 Qo w w'/\((∃y tv,r=.ok y/\e=.returned (.tuple #[tv,.nilIface])/\E5 (fromB w.heap.size) y w' tv)\/(∃f bb,r=.error f/\e=.returned (.tuple #[.agg #[Qp,Qp],.iface 125 (Qc bb)])/\w.heap.size<=bb/\w'.heap[bb]?=some (Qe #[Qa f.err,Qa f.pos] 130)))
theorem WL(w:World)(U:t.size<=600)(J:∃m,w.cell? (Ql 1 0)=some (Qa m)):Calls prog 59 #[.string t] w (EY (prL t.data.toList) w):=by
 have ab:¬(600:Int)<(t.size:Int):=I
 go_enter_defers func59,ntmps59;go_wp2_with fail;obtain⟨V,j⟩:=Q3 ((w.alloc (Qe #[Qp,Qp] 91)).alloc (Qe #[.nilIface] 84));have X:V.heap.size=w.heap.size+1+1:=by rw[j];simp
 have F:V.heap[w.heap.size]?=some (Qe #[Qp,Qp] 91):=by rw[j];exact QJ (Q0)
 have G:V.heap[w.heap.size+1]?=some (Qe #[.nilIface] 84):=by rw[j];exact ZB Qh
 have b:Qo w V:=by rw[j];exact(QH _).alloc Qh _
 have E:∃m,V.cell? (Ql 1 0)=some (Qa m):=by
  obtain⟨m,H⟩:=J;exact⟨m,by rw[b.cell (p:=⟨1,0,none⟩) (QX H)];exact H⟩
 rw[<-j];clear j;refine(R4 V U E).mono ?_;rintro e n ⟨mc,mt,pr,pt,pf,p1,Y,p2,Z,p3,k3,rfl,C,D,B,c⟩;change Below V.heap.size V n at c;rw[X]at C D B c;have ad:=O b;have aj:=O C;have ao:=O D;have ai:=O B;have z:n.heap[w.heap.size]?=some (Qe #[Qp,Qp] 91):=by rw[c.block _ I];exact F
 have A:n.heap[w.heap.size+1]?=some (Qe #[.nilIface] 84):=by rw[c.block _ I];exact G
 have d:=O c;have af:=O z;have ag:=O A;have ac:=c.size;clear b F G E J C D B c z A;go_wp2_with fail;refine(Quc aj ao ai).mono ?_;rintro e w2 ⟨a,⟨y,v,L,rfl,W⟩ | ⟨f,hf,⟨bb,hz,rfl,hcc⟩⟩⟩
 .obtain⟨rv,lv,rfl,x,c⟩:=W;have ak:=O x;have ah:=O c;obtain⟨P,R,Q,rfl⟩:=x.form;obtain⟨la,N,M,rfl⟩:=c.form;have g:=QY af a I;have i:=QY ag a I;have q:=Qj g 0;have r:=Qj g 1;have s:=Qj i 0;have S:=QQ g;have T:=QQ i;have ae:=O a;have HY:=O L;clear a L x c g i;go_wp2;have hB2:Qo w w2:=⟨ae.os.trans (d.os.trans ad.os),ae.tape.trans (d.tape.trans ad.tape),ae.output.trans (d.output.trans ad.output),QE ad.size (QE d.size ae.size),fun k l=>by rw[ae.o.block k I I,d.o.block k I,ad.o.block k l]⟩;have u:¬fromB n.heap.size w.heap.size:=by unfold fromB;omega
  have K:¬fromB n.heap.size (w.heap.size+1):=by unfold fromB;omega
  have HFIN:Hid (EY (prL t.data.toList) w (.returned (.tuple #[.agg #[.slice P R Q,.slice la N M],.nilIface])) (((w2.setCell ⟨w.heap.size,0,none⟩ (.slice P R Q)).setCell ⟨w.heap.size,1,none⟩ (.slice la N M)).setCell ⟨w.heap.size+1,0,none⟩ .nilIface)):=⟨((hB2.setCell QF _).setCell QF _).setCell (by show w.heap.size<=w.heap.size+1;omega) _,Qt ⟨y,_,HY,rfl,⟨_,_,rfl,(((ak.o.keep (AbvX.set u _ _)).keep (AbvX.set u _ _)).keep (AbvX.set K _ _)).weak (fun k l _=>by unfold fromB at *;omega),blX.weak (XO 7) (((ah.o.keep (XO 7) (AbvX.set u _ _)).keep (XO 7) (AbvX.set u _ _)).keep (XO 7) (AbvX.set K _ _)) (fun k l _=>by unfold fromB at *;omega)⟩⟩⟩;refine leaves_cons (f:=87) (args:=#[Qc w.heap.size,(Qc (w.heap.size+1))]) Qh (by simp[go_sem]) ?_;refine(QsA ⟨w.heap.size,0,none⟩ ⟨w.heap.size+1,0,none⟩).mono ?_;rintro e u' aa ⟨rfl,rfl,rfl⟩;simp[Leaves,settle,results,results59,go_sem,q,r,s];exact HFIN
 .have g:=QY af a I;have i:=QY ag a I;have q:=Qj g 0;have r:=Qj g 1;have s:=Qj i 0;have S:=QQ g;have T:=QQ i;have hB2:Qo w w2:=⟨a.os.trans (d.os.trans ad.os),a.tape.trans (d.tape.trans ad.tape),a.output.trans (d.output.trans ad.output),QE ad.size (QE d.size a.size),fun k l=>by rw[a.block k I I,d.o.block k I,ad.o.block k l]⟩
  have HFIN:Hid (EY (prL t.data.toList) w (.returned (.tuple #[.agg #[Qp,Qp],.iface 125 (Qc bb)])) (((w2.setCell ⟨w.heap.size,0,none⟩ Qp).setCell ⟨w.heap.size,1,none⟩ Qp).setCell ⟨w.heap.size+1,0,none⟩ (.iface 125 (Qc bb)))):=⟨((hB2.setCell QF _).setCell QF _).setCell (by show w.heap.size<=w.heap.size+1;omega) _,Qr ⟨f,bb,hf,rfl,I,by
   rw[Q' (show bb≠w.heap.size+1 by omega),Q' (show bb≠w.heap.size by omega),Q' (show bb≠w.heap.size by omega)]
   exact hcc⟩⟩
  refine leaves_cons (f:=87) (args:=#[Qc w.heap.size,(Qc (w.heap.size+1))]) Qh (by simp[go_sem]) ?_;refine(Ry w.heap.size (w.heap.size+1) ⟨bb,0,none⟩ [] q r s S T I).mono ?_;rintro e u' aa ⟨rfl,rfl,rfl⟩;simp[Leaves,settle,results,results59,go_sem,q,r,s];exact HFIN
theorem QsR(w:World)(b:600<t.size):Calls prog 59 #[.string t] w fun e w'=>e=.returned (.tuple #[.agg #[Qp,Qp],.iface 33 (Qa 1)])/\Qo w w':=by
 have c:(600:Int)<(t.size:Int):=I
 go_enter_defers func59,ntmps59;go_wp2;have a:Qo w ((w.alloc (Qe #[Qp,Qp] 91)).alloc (Qe #[.iface 33 (Qa 1)] 84)):=(QH _).alloc Qh _;have d:=O a;clear a;simp[bodyPostD,Leaves,settle,results,results59,go_sem];exact d
def OX(r:Qq (Qn×List (Q5 7)))(w:World)(e:Ending)(w':World):Prop:=
 Qo w w'/\((∃y g rv lv,r=.ok y/\e=.returned (.tuple #[Qc g,.nilIface])/\w.heap.size<=g/\w'.heap[g]?=some (Qe #[rv,lv] 124)/\Y1 (fromB w.heap.size) y.1 w' rv/\blX (fromB w.heap.size) (Yx 7) y.2 w' lv)\/(∃f bb,r=.error f/\e=.returned (.tuple #[.pointer none,.iface 125 (Qc bb)])/\w.heap.size<=bb/\w'.heap[bb]?=some (Qe #[Qa f.err,Qa f.pos] 130)))
theorem SX(w:World)(B:t.size<=600)(A:∃m,w.cell? (Ql 1 0)=some (Qa m)):Calls prog 36 #[.string t] w (OX (prL t.data.toList) w):=by
 go_enter func36,ntmps36;go_wp2_with fail;refine(WL w B A).mono ?_;rintro e g ⟨a,⟨y,G,p,rfl,C⟩ | ⟨f,i,n,rfl,d,l⟩⟩
 .obtain⟨F,E,rfl,c,b⟩:=C;have H:=O a;have N:=O p;have M:=O c;have J:=O b;obtain⟨s,x,u,rfl⟩:=c.form;obtain⟨la,r,q,rfl⟩:=b.form;have d:=a.size;clear a p c b;go_wp2;refine Q_ (v:=.tuple #[(Qc (g.heap.size+1)),.nilIface]) (by simp[results,results36,go_sem]) rfl ?_
  have j:∀X,AbvX X g ((g.alloc (Qe #[.slice s x u,.slice la r q] 91)).alloc (Qe #[.slice s x u,.slice la r q] 124)):=fun X k _ z=>by
   rw[ZL _ _ _ (by simp;omega),ZL _ _ _ z]
  exact⟨(H.o.alloc d _).alloc (by simp;omega) _,Qt ⟨y,_,_,_,N,rfl,I,ZB Qh,M.o.keep (j _),J.o.keep (XO 7) (j _)⟩⟩
 .have H:=O a;have L:=O n;have K:=O l;have D:=a.size;clear a n l;go_wp2;refine Q_ (v:=.tuple #[.pointer none,.iface 125 (Qc i)]) (by simp[results,results36,go_sem]) rfl ?_;exact⟨H.o.alloc D _,Qr ⟨f,i,L,rfl,d,QJ K⟩⟩
end
section
open Go.RowKit Go.Extern.Stop Go.Stop Go.Extern
theorem Tryz.valueOfFF(t:Addr)(w:World):(ReflectliteValue.unpack (.iface 127 (.pointer (some t)))).run prog w
 = .ok (.agg #[.pointer (some ⟨5,127,none⟩),Qc w.heap.size,.int .u64 150]) (w.alloc (Qe #[.pointer (some t)] 127)):=Qm
theorem Tryz.valueOfNN(t:Addr)(w:World):(ReflectliteValue.unpack (.iface 131 (.pointer (some t)))).run prog w
 = .ok (.agg #[.pointer (some ⟨5,131,none⟩),Qc w.heap.size,.int .u64 150]) (w.alloc (Qe #[.pointer (some t)] 131)):=Qm
theorem Tryz.typeFF(a:Addr)(w:World):(ReflectliteValue.methodAny (ReflectliteValue.valueError "reflectlite.Value.Type" 0) (fun t _ _ _=>ReflectliteType.toType t) #[.agg #[.pointer (some ⟨5,127,none⟩),.pointer (some a),.int .u64 150]]).run prog w
 = .ok (.iface 238 (.agg #[.pointer (some ⟨5,127,none⟩)])) w:=Qm
theorem Tryz.typeNN(a:Addr)(w:World):(ReflectliteValue.methodAny (ReflectliteValue.valueError "reflectlite.Value.Type" 0) (fun t _ _ _=>ReflectliteType.toType t) #[.agg #[.pointer (some ⟨5,131,none⟩),.pointer (some a),.int .u64 150]]).run prog w
 = .ok (.iface 238 (.agg #[.pointer (some ⟨5,131,none⟩)])) w:=Qm
theorem Tryz.methodKind(h:Value)(w:World):(Go.method 518 238 (.agg #[h]) "Kind").run prog w=.ok (317,h) w:=Qm
theorem Tryz.kindFF(w:World):((ReflectliteType.abiMethod fun t=>Functor.map (fun a:Nat=>Value.int IntKind.u8 (a:Int)) (Rtype.kind t)) #[.pointer (some ⟨5,127,none⟩)]).run prog w=.ok (.int .u8 22) w:=Qm
theorem Tryz.kindF(w:World):((ReflectliteType.abiMethod fun t=>Functor.map (fun a:Nat=>Value.int IntKind.u8 (a:Int)) (Rtype.kind t)) #[.pointer (some ⟨5,125,none⟩)]).run prog w=.ok (.int .u8 22) w:=Qm
theorem Tryz.kindNN(w:World):((ReflectliteType.abiMethod fun t=>Functor.map (fun a:Nat=>Value.int IntKind.u8 (a:Int)) (Rtype.kind t)) #[.pointer (some ⟨5,131,none⟩)]).run prog w=.ok (.int .u8 22) w:=Qm
theorem Tryz.kindN(w:World):((ReflectliteType.abiMethod fun t=>Functor.map (fun a:Nat=>Value.int IntKind.u8 (a:Int)) (Rtype.kind t)) #[.pointer (some ⟨5,33,none⟩)]).run prog w=.ok (.int .u8 2) w:=Qm
theorem rlm(z:Sem Value)(f:TypeId->Addr->Nat->Nat->Sem Value)(v:Value) :
 ReflectliteValue.method z f #[v]=(do match <-ReflectliteValue.parts v with|none=>z|some (t,a,fl)=>f t a fl (fl % 32)):=rfl
theorem Tryz.partsFF(a:Addr)(w:World):(ReflectliteValue.parts (.agg #[.pointer (some ⟨5,127,none⟩),.pointer (some a),.int .u64 150])).run prog w=.ok (some (127,a,150)) w:=Qm
theorem Tryz.partsNN(a:Addr)(w:World):(ReflectliteValue.parts (.agg #[.pointer (some ⟨5,131,none⟩),.pointer (some a),.int .u64 150])).run prog w=.ok (some (131,a,150)) w:=Qm
theorem Tryz.isNilFF(a p:Addr)(W:World)(b:W.cell? a=some (.pointer (some p))) :
 (ReflectliteValue.method (ReflectliteValue.valueError "reflectlite.Value.IsNil" 0) ReflectliteValue.isNil #[.agg #[.pointer (some ⟨5,127,none⟩),.pointer (some a),.int .u64 150]]).run prog W=.ok (.bool false) W:=by
 rw[rlm];simp only[Sem.run_bind,Tryz.partsFF,Result.andThen];simp[ReflectliteValue.isNil,loadVar,isAgg,underlying,underlying127,b,Result.andThen]
theorem Tryz.isNilNN(a p:Addr)(W:World)(b:W.cell? a=some (.pointer (some p))) :
 (ReflectliteValue.method (ReflectliteValue.valueError "reflectlite.Value.IsNil" 0) ReflectliteValue.isNil #[.agg #[.pointer (some ⟨5,131,none⟩),.pointer (some a),.int .u64 150]]).run prog W=.ok (.bool false) W:=by
 rw[rlm];simp only[Sem.run_bind,Tryz.partsNN,Result.andThen];simp[ReflectliteValue.isNil,loadVar,isAgg,underlying,underlying131,b,Result.andThen]
theorem Tryz.methodElem(h:Value)(w:World):(Go.method 518 238 (.agg #[h]) "Elem").run prog w=.ok (332,.agg #[h]) w:=Qm
theorem Tryz.methodImplements(h:Value)(w:World):(Go.method 518 238 (.agg #[h]) "Implements").run prog w=.ok (333,.agg #[h]) w:=Qm
theorem Tryz.methodAssignableTo(h:Value)(w:World):(Go.method 518 238 (.agg #[h]) "AssignableTo").run prog w=.ok (330,.agg #[h]) w:=Qm
theorem Tryz.methodComparable(h:Value)(w:World):(Go.method 518 238 (.agg #[h]) "Comparable").run prog w=.ok (331,.agg #[h]) w:=Qm
theorem Tryz.elemFF(w:World):(ReflectliteType.method ReflectliteType.elem #[.agg #[.pointer (some ⟨5,127,none⟩)]]).run prog w=.ok (.iface 238 (.agg #[.pointer (some ⟨5,125,none⟩)])) w:=Qm
theorem Tryz.elemNN(w:World):(ReflectliteType.method ReflectliteType.elem #[.agg #[.pointer (some ⟨5,131,none⟩)]]).run prog w=.ok (.iface 238 (.agg #[.pointer (some ⟨5,33,none⟩)])) w:=Qm
theorem Tryz.implementsF(w:World):(ReflectliteType.relation "Implements" ReflectliteType.implements_ #[.agg #[.pointer (some ⟨5,125,none⟩)],.iface 238 (.agg #[.pointer (some ⟨5,84,none⟩)])]).run prog w=.ok (.bool true) w:=Qm
theorem Tryz.implementsN(w:World):(ReflectliteType.relation "Implements" ReflectliteType.implements_ #[.agg #[.pointer (some ⟨5,33,none⟩)],.iface 238 (.agg #[.pointer (some ⟨5,84,none⟩)])]).run prog w=.ok (.bool true) w:=Qm
theorem Tryz.typeOfF(v:Value)(w:World):(ReflectliteType.typeOf #[.iface 125 v]).run prog w=.ok (.iface 238 (.agg #[.pointer (some ⟨5,125,none⟩)])) w:=Qm
theorem Tryz.typeOfN(v:Value)(w:World):(ReflectliteType.typeOf #[.iface 33 v]).run prog w=.ok (.iface 238 (.agg #[.pointer (some ⟨5,33,none⟩)])) w:=Qm
theorem Tryz.assignFF(w:World):(ReflectliteType.relation "AssignableTo" ReflectliteType.assignableTo #[.agg #[.pointer (some ⟨5,125,none⟩)],.iface 238 (.agg #[.pointer (some ⟨5,125,none⟩)])]).run prog w=.ok (.bool true) w:=Qm
theorem Tryz.assignNN(w:World):(ReflectliteType.relation "AssignableTo" ReflectliteType.assignableTo #[.agg #[.pointer (some ⟨5,33,none⟩)],.iface 238 (.agg #[.pointer (some ⟨5,33,none⟩)])]).run prog w=.ok (.bool true) w:=Qm
theorem Tryz.assignNF(w:World):(ReflectliteType.relation "AssignableTo" ReflectliteType.assignableTo #[.agg #[.pointer (some ⟨5,33,none⟩)],.iface 238 (.agg #[.pointer (some ⟨5,125,none⟩)])]).run prog w=.ok (.bool false) w:=Qm
theorem Tryz.valueOfF(e:Addr)(w:World):(ReflectliteValue.unpack (.iface 125 (.pointer (some e)))).run prog w
 = .ok (.agg #[.pointer (some ⟨5,125,none⟩),Qc w.heap.size,.int .u64 150]) (w.alloc (Qe #[.pointer (some e)] 125)):=Qm
theorem Tryz.valueOfN(n:Int)(w:World):(ReflectliteValue.unpack (.iface 33 (Qa n))).run prog w
 = .ok (.agg #[.pointer (some ⟨5,33,none⟩),Qc w.heap.size,.int .u64 130]) (w.alloc (Qe #[Qa n] 33)):=Qm
theorem Tryz.elemOfFF(w:World):(Rtype.elem? 127).run prog w=.ok (some 125) w:=Qm
theorem Tryz.elemOfNN(w:World):(Rtype.elem? 131).run prog w=.ok (some 33) w:=Qm
theorem Tryz.mkF(p:Addr)(w:World):(ReflectliteValue.mk 125 p ReflectliteValue.flagAddr).run prog w=.ok (.agg #[.pointer (some ⟨5,125,none⟩),.pointer (some p),.int .u64 406]) w:=Qm
theorem Tryz.mkN(p:Addr)(w:World):(ReflectliteValue.mk 33 p ReflectliteValue.flagAddr).run prog w=.ok (.agg #[.pointer (some ⟨5,33,none⟩),.pointer (some p),.int .u64 386]) w:=Qm
theorem Tryz.elemVFF(a p:Addr)(W:World)(b:W.cell? a=some (.pointer (some p))) :
 (ReflectliteValue.method (ReflectliteValue.valueError "reflectlite.Value.Elem" 0) ReflectliteValue.elem #[.agg #[.pointer (some ⟨5,127,none⟩),.pointer (some a),.int .u64 150]]).run prog W
   = .ok (.agg #[.pointer (some ⟨5,125,none⟩),.pointer (some p),.int .u64 406]) W:=by
 rw[rlm];simp only[Sem.run_bind,Tryz.partsFF,Result.andThen];simp[ReflectliteValue.elem,loadVar,isAgg,underlying,underlying127,b,Result.andThen,Tryz.elemOfFF,Tryz.mkF]
theorem Tryz.elemVNN(a p:Addr)(W:World)(b:W.cell? a=some (.pointer (some p))) :
 (ReflectliteValue.method (ReflectliteValue.valueError "reflectlite.Value.Elem" 0) ReflectliteValue.elem #[.agg #[.pointer (some ⟨5,131,none⟩),.pointer (some a),.int .u64 150]]).run prog W
   = .ok (.agg #[.pointer (some ⟨5,33,none⟩),.pointer (some p),.int .u64 386]) W:=by
 rw[rlm];simp only[Sem.run_bind,Tryz.partsNN,Result.andThen];simp[ReflectliteValue.elem,loadVar,isAgg,underlying,underlying131,b,Result.andThen,Tryz.elemOfNN,Tryz.mkN]
theorem rls (v x:Value):ReflectliteValue.set #[v,x]=(do
 let (some (dst,a,fl),some (src,b,_)):=(<-ReflectliteValue.parts v,<-ReflectliteValue.parts x)
  |unsupported (.noEntry "extern/(internal/reflectlite.Value).Set.zeroValue")
 if fl / ReflectliteValue.flagAddr % 2==0 then unsupported (.noEntry "extern/(internal/reflectlite.Value).Set.unaddressable")
 let val <-loadVar src b
 if <-Rtype.directlyAssignable dst src then storeVar dst a val
 else if <-Rtype.implements dst src then
  if(<-Rtype.kind src)==20 then
   match val with
   | .nilIface=>unsupported (.noEntry "extern/reflectlite: a nil value of one interface type handed on as a value of another")
   |_=>storeVar dst a val
  else storeVar dst a (.iface src val)
 else panicString ("reflectlite.Set: value of type "++(<-Rtype.spelt src) ++ " is not assignable to type "++(<-Rtype.spelt dst))
 pure (.tuple #[])):=rfl
theorem Tryz.partsFa(a:Addr)(w:World):(ReflectliteValue.parts (.agg #[.pointer (some ⟨5,125,none⟩),.pointer (some a),.int .u64 406])).run prog w=.ok (some (125,a,406)) w:=Qm
theorem Tryz.partsF(a:Addr)(w:World):(ReflectliteValue.parts (.agg #[.pointer (some ⟨5,125,none⟩),.pointer (some a),.int .u64 150])).run prog w=.ok (some (125,a,150)) w:=Qm
theorem Tryz.partsNa(a:Addr)(w:World):(ReflectliteValue.parts (.agg #[.pointer (some ⟨5,33,none⟩),.pointer (some a),.int .u64 386])).run prog w=.ok (some (33,a,386)) w:=Qm
theorem Tryz.partsN(a:Addr)(w:World):(ReflectliteValue.parts (.agg #[.pointer (some ⟨5,33,none⟩),.pointer (some a),.int .u64 130])).run prog w=.ok (some (33,a,130)) w:=Qm
theorem Tryz.directF(w:World):(Rtype.directlyAssignable 125 125).run prog w=.ok true w:=Qm
theorem Tryz.directN(w:World):(Rtype.directlyAssignable 33 33).run prog w=.ok true w:=Qm
theorem Tryz.setF(a b e:Addr)(g:Value)(W:World)(c:W.cell? b=some (.pointer (some e)))(f:W.cell? a=some g)(d:W.frozen? a=false) :
 (ReflectliteValue.set #[.agg #[.pointer (some ⟨5,125,none⟩),.pointer (some a),.int .u64 406],.agg #[.pointer (some ⟨5,125,none⟩),.pointer (some b),.int .u64 150]]).run prog W
   = .ok (.tuple #[]) (W.setCell a (.pointer (some e))):=by
 rw[rls];simp only[Sem.run_bind,Tryz.partsFa,Tryz.partsF,Result.andThen];simp[ReflectliteValue.flagAddr,loadVar,isAgg,underlying,underlying125,c,Result.andThen,Tryz.directF,storeVar,Value.cells,storeCells,Addr.add];rw[run_store prog W a _ _ (by rfl)];simp[f,d]
theorem Tryz.setN(a b:Addr)(n:Int)(f:Value)(W:World)(c:W.cell? b=some (Qa n))(e:W.cell? a=some f)(d:W.frozen? a=false) :
 (ReflectliteValue.set #[.agg #[.pointer (some ⟨5,33,none⟩),.pointer (some a),.int .u64 386],.agg #[.pointer (some ⟨5,33,none⟩),.pointer (some b),.int .u64 130]]).run prog W
   = .ok (.tuple #[]) (W.setCell a (Qa n)):=by
 rw[rls];simp only[Sem.run_bind,Tryz.partsNa,Tryz.partsN,Result.andThen];simp[ReflectliteValue.flagAddr,loadVar,isAgg,underlying,underlying33,c,Result.andThen,Tryz.directN,storeVar,Value.cells,storeCells,Addr.add];rw[run_store prog W a _ _ (by rfl)];simp[e,d]
theorem Tryz.noAsN(v:Value)(xT:TypeId)(w:World):(Instr.typeAssert (.iface 33 v) xT 242 true).run prog w=.ok (.tuple #[.nilIface,.bool false]) w:=run_typeAssert_lacksB underlying242 Qm Qm v xT w
theorem Tryz.noUnwrapN(v:Value)(xT:TypeId)(w:World):(Instr.typeAssert (.iface 33 v) xT 245 true).run prog w=.ok (.tuple #[.nilIface,.bool false]) w:=run_typeAssert_lacksB underlying245 Qm Qm v xT w
theorem Tryz.noUnwrapsN(v:Value)(xT:TypeId)(w:World):(Instr.typeAssert (.iface 33 v) xT 247 true).run prog w=.ok (.tuple #[.nilIface,.bool false]) w:=run_typeAssert_lacksB underlying247 Qm Qm v xT w
theorem Tryz.noIsF(v:Value)(xT:TypeId)(w:World):(Instr.typeAssert (.iface 125 v) xT 250 true).run prog w=.ok (.tuple #[.nilIface,.bool false]) w:=run_typeAssert_lacksB underlying250 Qm Qm v xT w
theorem Tryz.hasUnwrapF(v:Value)(xT:TypeId)(w:World):(Instr.typeAssert (.iface 125 v) xT 245 true).run prog w=.ok (.tuple #[.iface 125 v,.bool true]) w:=run_typeAssert_hasB underlying245 Qm v xT w
theorem Tryz.methodUnwrap(v:Value)(w:World):(Go.method 518 125 v "Unwrap").run prog w=.ok (322,v) w:=Qm
theorem Tryz.compN:(prog.info? 33).map (·.comparable)=some true:=Qm
theorem I6(n:Int)(w:World):(binOp .eql 84 (.iface 33 (Qa n)) (.iface 33 (Qa n))).run prog w=.ok (.bool true) w:=by
 obtain⟨i,b,a⟩:=Option.map_eq_some_iff.1 Tryz.compN
 have h:∀d:Nat,(Op.equalIn (d+2) 84 (.iface 33 (Qa n)) (.iface 33 (Qa n))).run prog w=.ok true w:=fun d=>by
  simp[Op.equalIn,run_underlying underlying84,run_underlying underlying33,typeInfo,b,a]
 simp only[binOp];simp[Op.equal,Op.maxDepth,h 9998]
def Yy(w:World):Prop:=w.cell? (Ql 0 0)=some (.iface 238 (.agg #[.pointer (some ⟨5,84,none⟩)]))
theorem V5(h:w.cell? a=some v):a.block<w.heap.size:=by
 rcases Ki a.block w.heap.size with h'|h'
 .exact h'
 .simp[World.cell?,GH h']at h
theorem Ya:type_of%@Go.World.cell?_alloc_lt:=@Go.World.cell?_alloc_lt
theorem V0:type_of%@Go.World.frozen?_alloc_old:=@Go.World.frozen?_alloc_old
theorem Pw{t:Addr}(a:Yy w)(b:w.cell? t=some d)(g:w.frozen? t=false):Calls prog 60 #[.iface 125 (.pointer (some e)),.iface 127 (.pointer (some t))] w fun ev w'=>ev=.returned (.bool true)/\w'=((((w.alloc (Qe #[.pointer (some t)] 127)).alloc (Qe #[.pointer (some ⟨5,127,none⟩),Qc w.heap.size,.int .u64 150] 166)).alloc (Qe #[.pointer (some ⟨5,127,none⟩),Qc w.heap.size,.int .u64 150] 166)).alloc (Qe #[.pointer (some e)] 125)).setCell t (.pointer (some e)):=by
 unfold Yy at a;have x:=@run_callFunc_extern prog 91 _ (fun f=>ReflectliteValue.unpack (f.getD 0 (.tuple #[]))) func91 Qm Qm Qm Qm;have y:=@run_callFunc_extern prog 92 _ (ReflectliteValue.methodAny (ReflectliteValue.valueError "reflectlite.Value.Type" 0) (fun t _ _ _=>ReflectliteType.toType t)) func92 Qm Qm Qm Qm;have z:=@run_callFunc_extern prog 93 _ (ReflectliteValue.method (ReflectliteValue.valueError "reflectlite.Value.IsNil" 0) ReflectliteValue.isNil) func93 Qm Qm Qm Qm;have r:=@run_callFunc_extern prog 317 _ (ReflectliteType.abiMethod fun t=>do pure (.int .u8 (<-Rtype.kind t))) func317 Qm Qm Qm Qm;have u:=@run_callFunc_extern prog 332 _ (ReflectliteType.method ReflectliteType.elem) func332 Qm Qm Qm Qm;have v:=@run_callFunc_extern prog 333 _ (ReflectliteType.relation "Implements" ReflectliteType.implements_) func333 Qm Qm Qm Qm;have o:=@run_callFunc_extern prog 95 _ ReflectliteType.typeOf func95 Qm Qm Qm Qm;have s:=@run_callFunc_extern prog 330 _ (ReflectliteType.relation "AssignableTo" ReflectliteType.assignableTo) func330 Qm Qm Qm Qm;have p:=@run_callFunc_extern prog 144 _ (ReflectliteValue.method (ReflectliteValue.valueError "reflectlite.Value.Elem" 0) ReflectliteValue.elem) func144 Qm Qm Qm Qm;have q:=@run_callFunc_extern prog 145 _ ReflectliteValue.set func145 Qm Qm Qm Qm;have L:=Tryz.typeOfF;have E:=Tryz.methodAssignableTo;have j:=Tryz.assignFF;have M:=Tryz.valueOfF;have m:=Tryz.valueOfFF;have n:=Tryz.typeFF;have H:=Tryz.methodKind;have F:=Tryz.methodElem;have G:=Tryz.methodImplements;have D:=Tryz.kindFF;have C:=Tryz.kindF;have k:=Tryz.elemFF;have B:=Tryz.implementsF;have J:=Tryz.isNilFF ⟨w.heap.size,0,none⟩ t ((w.alloc (Qe #[.pointer (some t)] 127)).alloc (Qe #[.pointer (some ⟨5,127,none⟩),Qc w.heap.size,.int .u64 150] 166)) Qh;have i:=V5 a
 have A:((w.alloc (Qe #[.pointer (some t)] 127)).alloc (Qe #[.pointer (some ⟨5,127,none⟩),Qc w.heap.size,.int .u64 150] 166)).cell? (Ql 0 0)=some (.iface 238 (.agg #[.pointer (some ⟨5,84,none⟩)])):=by
  rw[Ya _ _ ⟨0,0,none⟩ Qh,Ya _ _ ⟨0,0,none⟩ i];exact a
 have c:=V5 b;have l:=Tryz.elemVFF ⟨w.heap.size,0,none⟩ t (((w.alloc (Qe #[.pointer (some t)] 127)).alloc (Qe #[.pointer (some ⟨5,127,none⟩),Qc w.heap.size,.int .u64 150] 166)).alloc (Qe #[.pointer (some ⟨5,127,none⟩),Qc w.heap.size,.int .u64 150] 166)) (by rw[Ya _ _ ⟨w.heap.size,0,none⟩ (by simp;omega)];simp)
 have K:=Tryz.setF t ⟨w.heap.size+1+1+1,0,none⟩ e d ((((w.alloc (Qe #[.pointer (some t)] 127)).alloc (Qe #[.pointer (some ⟨5,127,none⟩),Qc w.heap.size,.int .u64 150] 166)).alloc (Qe #[.pointer (some ⟨5,127,none⟩),Qc w.heap.size,.int .u64 150] 166)).alloc (Qe #[.pointer (some e)] 125))
  (by rw[World.cell?_alloc_at _ _ _ _ Qh];rfl)
  (by rw[Ya _ _ t (by simp;omega),Ya _ _ t (by simp;omega),Ya _ _ t (by simp;omega),Ya _ _ t c];exact b)
  (by rw[V0 _ _ t (by simp;omega),V0 _ _ t (by simp;omega),V0 _ _ t (by simp;omega),V0 _ _ t (Nat.ne_of_lt c)];exact g)
 go_enter func60,ntmps60;go_wp2;refine Vs 1 ?_;rw[UB];go_wp2;go_ret;exact⟨rfl,rfl⟩
theorem PD(n:Int){t:Addr}(a:Yy w)(b:w.cell? t=some d)(f:w.frozen? t=false):Calls prog 60 #[.iface 33 (Qa n),.iface 131 (.pointer (some t))] w fun ev w'=>ev=.returned (.bool true)/\w'=((((w.alloc (Qe #[.pointer (some t)] 131)).alloc (Qe #[.pointer (some ⟨5,131,none⟩),Qc w.heap.size,.int .u64 150] 166)).alloc (Qe #[.pointer (some ⟨5,131,none⟩),Qc w.heap.size,.int .u64 150] 166)).alloc (Qe #[Qa n] 33)).setCell t (Qa n):=by
 unfold Yy at a;have x:=@run_callFunc_extern prog 91 _ (fun e=>ReflectliteValue.unpack (e.getD 0 (.tuple #[]))) func91 Qm Qm Qm Qm;have y:=@run_callFunc_extern prog 92 _ (ReflectliteValue.methodAny (ReflectliteValue.valueError "reflectlite.Value.Type" 0) (fun t _ _ _=>ReflectliteType.toType t)) func92 Qm Qm Qm Qm;have z:=@run_callFunc_extern prog 93 _ (ReflectliteValue.method (ReflectliteValue.valueError "reflectlite.Value.IsNil" 0) ReflectliteValue.isNil) func93 Qm Qm Qm Qm;have r:=@run_callFunc_extern prog 317 _ (ReflectliteType.abiMethod fun t=>do pure (.int .u8 (<-Rtype.kind t))) func317 Qm Qm Qm Qm;have u:=@run_callFunc_extern prog 332 _ (ReflectliteType.method ReflectliteType.elem) func332 Qm Qm Qm Qm;have v:=@run_callFunc_extern prog 333 _ (ReflectliteType.relation "Implements" ReflectliteType.implements_) func333 Qm Qm Qm Qm;have o:=@run_callFunc_extern prog 95 _ ReflectliteType.typeOf func95 Qm Qm Qm Qm;have s:=@run_callFunc_extern prog 330 _ (ReflectliteType.relation "AssignableTo" ReflectliteType.assignableTo) func330 Qm Qm Qm Qm;have p:=@run_callFunc_extern prog 144 _ (ReflectliteValue.method (ReflectliteValue.valueError "reflectlite.Value.Elem" 0) ReflectliteValue.elem) func144 Qm Qm Qm Qm;have q:=@run_callFunc_extern prog 145 _ ReflectliteValue.set func145 Qm Qm Qm Qm;have L:=Tryz.typeOfN;have E:=Tryz.methodAssignableTo;have i:=Tryz.assignNN;have M:=Tryz.valueOfN;have l:=Tryz.valueOfNN;have m:=Tryz.typeNN;have H:=Tryz.methodKind;have F:=Tryz.methodElem;have G:=Tryz.methodImplements;have D:=Tryz.kindNN;have C:=Tryz.kindN;have j:=Tryz.elemNN;have B:=Tryz.implementsN;have J:=Tryz.isNilNN ⟨w.heap.size,0,none⟩ t ((w.alloc (Qe #[.pointer (some t)] 131)).alloc (Qe #[.pointer (some ⟨5,131,none⟩),Qc w.heap.size,.int .u64 150] 166)) Qh;have g:=V5 a
 have A:((w.alloc (Qe #[.pointer (some t)] 131)).alloc (Qe #[.pointer (some ⟨5,131,none⟩),Qc w.heap.size,.int .u64 150] 166)).cell? (Ql 0 0)=some (.iface 238 (.agg #[.pointer (some ⟨5,84,none⟩)])):=by
  rw[Ya _ _ ⟨0,0,none⟩ Qh,Ya _ _ ⟨0,0,none⟩ g];exact a
 have c:=V5 b;have k:=Tryz.elemVNN ⟨w.heap.size,0,none⟩ t (((w.alloc (Qe #[.pointer (some t)] 131)).alloc (Qe #[.pointer (some ⟨5,131,none⟩),Qc w.heap.size,.int .u64 150] 166)).alloc (Qe #[.pointer (some ⟨5,131,none⟩),Qc w.heap.size,.int .u64 150] 166)) (by rw[Ya _ _ ⟨w.heap.size,0,none⟩ (by simp;omega)];simp)
 have K:=Tryz.setN t ⟨w.heap.size+1+1+1,0,none⟩ n d ((((w.alloc (Qe #[.pointer (some t)] 131)).alloc (Qe #[.pointer (some ⟨5,131,none⟩),Qc w.heap.size,.int .u64 150] 166)).alloc (Qe #[.pointer (some ⟨5,131,none⟩),Qc w.heap.size,.int .u64 150] 166)).alloc (Qe #[Qa n] 33))
  (by rw[World.cell?_alloc_at _ _ _ _ Qh];rfl)
  (by rw[Ya _ _ t (by simp;omega),Ya _ _ t (by simp;omega),Ya _ _ t (by simp;omega),Ya _ _ t c];exact b)
  (by rw[V0 _ _ t (by simp;omega),V0 _ _ t (by simp;omega),V0 _ _ t (by simp;omega),V0 _ _ t (Nat.ne_of_lt c)];exact f)
 go_enter func60,ntmps60;go_wp2;refine Vs 1 ?_;rw[UB];go_wp2;go_ret;exact⟨rfl,rfl⟩
theorem Qw3(n:Int){t:Addr}(a:Yy w):Calls prog 60 #[.iface 33 (Qa n),.iface 127 (.pointer (some t))] w fun ev w'=>ev=.returned (.bool false)/\w'=(((w.alloc (Qe #[.pointer (some t)] 127)).alloc (Qe #[.pointer (some ⟨5,127,none⟩),Qc w.heap.size,.int .u64 150] 166)).alloc (Qe #[.pointer (some ⟨5,127,none⟩),Qc w.heap.size,.int .u64 150] 166)):=by
 unfold Yy at a;have o:=@run_callFunc_extern prog 91 _ (fun b=>ReflectliteValue.unpack (b.getD 0 (.tuple #[]))) func91 Qm Qm Qm Qm;have p:=@run_callFunc_extern prog 92 _ (ReflectliteValue.methodAny (ReflectliteValue.valueError "reflectlite.Value.Type" 0) (fun t _ _ _=>ReflectliteType.toType t)) func92 Qm Qm Qm Qm;have q:=@run_callFunc_extern prog 93 _ (ReflectliteValue.method (ReflectliteValue.valueError "reflectlite.Value.IsNil" 0) ReflectliteValue.isNil) func93 Qm Qm Qm Qm;have j:=@run_callFunc_extern prog 317 _ (ReflectliteType.abiMethod fun t=>do pure (.int .u8 (<-Rtype.kind t))) func317 Qm Qm Qm Qm;have l:=@run_callFunc_extern prog 332 _ (ReflectliteType.method ReflectliteType.elem) func332 Qm Qm Qm Qm;have m:=@run_callFunc_extern prog 333 _ (ReflectliteType.relation "Implements" ReflectliteType.implements_) func333 Qm Qm Qm Qm;have i:=@run_callFunc_extern prog 95 _ ReflectliteType.typeOf func95 Qm Qm Qm Qm;have k:=@run_callFunc_extern prog 330 _ (ReflectliteType.relation "AssignableTo" ReflectliteType.assignableTo) func330 Qm Qm Qm Qm;have F:=Tryz.typeOfN;have x:=Tryz.methodAssignableTo;have d:=Tryz.assignNF;have f:=Tryz.valueOfFF;have g:=Tryz.typeFF;have A:=Tryz.methodKind;have y:=Tryz.methodElem;have z:=Tryz.methodImplements;have v:=Tryz.kindFF;have u:=Tryz.kindF;have e:=Tryz.elemFF;have s:=Tryz.implementsF;have C:=Tryz.noAsN;have D:=Tryz.noUnwrapN;have E:=Tryz.noUnwrapsN;have B:=Tryz.isNilFF ⟨w.heap.size,0,none⟩ t ((w.alloc (Qe #[.pointer (some t)] 127)).alloc (Qe #[.pointer (some ⟨5,127,none⟩),Qc w.heap.size,.int .u64 150] 166)) Qh;have c:=V5 a
 have r:((w.alloc (Qe #[.pointer (some t)] 127)).alloc (Qe #[.pointer (some ⟨5,127,none⟩),Qc w.heap.size,.int .u64 150] 166)).cell? (Ql 0 0)=some (.iface 238 (.agg #[.pointer (some ⟨5,84,none⟩)])):=by
  rw[Ya _ _ ⟨0,0,none⟩ Qh,Ya _ _ ⟨0,0,none⟩ c];exact a
 go_enter func60,ntmps60;go_wp2;refine Vs 1 ?_;rw[UB];go_wp2;go_ret;exact⟨rfl,rfl⟩
def Et(t:TypeId):Sem Value:=do Rtype.noPackHeld "Comparable" t;pure (.bool (<-typeInfo t).comparable)
theorem Tryz.cmpN(w:World):(ReflectliteType.method Et #[.agg #[.pointer (some ⟨5,33,none⟩)]]).run prog w=.ok (.bool true) w:=Qm
theorem Qw6(n:Int)(w:World):Calls prog 61 #[.iface 33 (Qa n),.iface 33 (Qa n)] w fun e w'=>e=.returned (.bool true)/\w'=w:=by
 have c:=@run_callFunc_extern prog 95 _ ReflectliteType.typeOf func95 Qm Qm Qm Qm;have b:=@run_callFunc_extern prog 331 _ (ReflectliteType.method Et) func331 Qm Qm Qm Qm;have g:=Tryz.typeOfN;have a:=Tryz.cmpN;have f:=Tryz.methodComparable;have d:=I6 n w;go_enter func61,ntmps61;go_wp2;refine Vs 1 ?_;rw[UB];go_wp2;go_ret;exact⟨rfl,rfl⟩
theorem QyD(a:Nat)(n:Int)(w:World)(c:w.cell? (Ql a 0)=some (Qa n)):Calls prog 61 #[.iface 125 (Qc a),.iface 33 (Qa n)] w fun e w'=>e=.returned (.bool true)/\w'=w:=by
 have f:=@run_callFunc_extern prog 95 _ ReflectliteType.typeOf func95 Qm Qm Qm Qm;have d:=@run_callFunc_extern prog 331 _ (ReflectliteType.method Et) func331 Qm Qm Qm Qm;have m:=Tryz.typeOfN;have b:=Tryz.cmpN;have j:=Tryz.methodComparable;have l:=Tryz.noIsF;have o:=Tryz.hasUnwrapF;have k:=Tryz.methodUnwrap;have g:=I6 n w;have i:=run_eql_iface_types (P:=prog) 125 33 (Qc a) (Qa n) underlying84 Qb w;go_enter func61,ntmps61;go_wp2;refine Vs 2 ?_;rw[UB];go_wp2;rw[UB];go_wp2;go_ret;exact⟨rfl,rfl⟩
theorem MB(w:World):Calls prog 37 #[.nilIface] w fun e w'=>e=.returned (.tuple #[Qa 0,Qa (-1)])/\Qo w w':=by
 go_enter func37,ntmps37;go_wp2;refine Q_ (v:=.tuple #[Qa 0,Qa (-1)]) (by simp[results,results37,go_sem]) rfl ?_;exact⟨rfl,(QH _).alloc Qh _⟩
theorem F0{t:Addr}{b c d e:Obj}:Mod t.block w (((((w.alloc b).alloc c).alloc d).alloc e).setCell t v):=by
 have h:=((((Mod.refl t.block w).alloc b).alloc c).alloc d).alloc e;exact⟨h.os,h.tape,h.output,by simpa using h.size,fun k f a=>by rw[Q' a];exact h.block k f a⟩
theorem H8{t:Addr}(a:w.cell? t=some b){d e f g:Obj}:(((((w.alloc d).alloc e).alloc f).alloc g).setCell t v).cell? t=some v:=by
 have c:=V5 a;refine GF _ _ _ (?_:_=some b);rw[Ya _ _ t (by simp;omega),Ya _ _ t (by simp;omega),Ya _ _ t (by simp;omega),Ya _ _ t c];exact a
theorem TY{t:Addr}(b:Value)(d:Yy w)(a:w.cell? t=some b)(c:w.frozen? t=false):Calls prog 60 #[.iface 125 (.pointer (some e)),.iface 127 (.pointer (some t))] w fun ev w'=>ev=.returned (.bool true)/\Mod t.block w w'/\w'.cell? t=some (.pointer (some e)):=by
 refine Qu (Pw d a c) ?_;exact⟨rfl,F0,H8 a⟩
theorem Wz(n:Int){t:Addr}(d:Yy w)(a:w.cell? t=some b)(c:w.frozen? t=false):Calls prog 60 #[.iface 33 (Qa n),.iface 131 (.pointer (some t))] w fun ev w'=>ev=.returned (.bool true)/\Mod t.block w w'/\w'.cell? t=some (Qa n):=by
 refine Qu (PD n d a c) ?_;exact⟨rfl,F0,H8 a⟩
theorem RV(n:Int){t:Addr}(a:Yy w):Calls prog 60 #[.iface 33 (Qa n),.iface 127 (.pointer (some t))] w fun ev w'=>ev=.returned (.bool false)/\Qo w w':=by
 refine Qu (Qw3 n a) ?_;exact⟨rfl,((QH _).alloc Qh _).alloc (by simp;omega) _⟩
theorem Yy.below(h:Yy w)(a:Qo w w'):Yy w':=by
 unfold Yy at h ⊢;rw[a.cell (p:=⟨0,0,none⟩) (V5 h)];exact h
theorem Yy.alloc{w:World}(h:Yy w)(o:Obj):Yy (w.alloc o):=h.below (QH _)
theorem Ic(bb:Nat)(n pos:Int)(f:Yy w)(d:w.cell? (Ql bb 0)=some (Qa n))(g:w.cell? (Ql bb 1)=some (Qa pos)):Calls prog 37 #[.iface 125 (Qc bb)] w fun e w'=>e=.returned (.tuple #[Qa n,Qa pos])/\Qo w w':=by
 have i:=V5 d;have x:=O f;have t:=O d;have u:=O g;clear f d g;go_enter func37,ntmps37;go_wp2_with fail;refine Qv (TY (.pointer none) ((x.o.alloc _).alloc _) Qh Qh) ?_;rintro c ⟨j,r⟩;have a:Mod w.heap.size ((w.alloc (Qe #[.pointer none] 125)).alloc (Qe #[Qa 0] 33)) c:=j
 have l:c.cell? (Ql bb 0)=some (Qa n):=by
  rw[a.cell (p:=⟨bb,0,none⟩) (by simp;omega) (by simp;omega),Ya _ _ ⟨bb,0,none⟩ (by simp;omega),Ya _ _ ⟨bb,0,none⟩ i];exact t
 have q:c.cell? (Ql bb 1)=some (Qa pos):=by
  rw[a.cell (p:=⟨bb,1,none⟩) (by simp;omega) (by simp;omega),Ya _ _ ⟨bb,1,none⟩ (by simp;omega),Ya _ _ ⟨bb,1,none⟩ i];exact u
 have b:Hid (Qo w c):=by
  refine⟨a.os,a.tape,a.output,?_,fun k m=>?_⟩
  .have:=a.size;simp at this;omega
  .rw[a.block k (by simp;omega) I,ZL _ _ _ (by simp;omega),ZL _ _ _ m]
 clear j a;go_wp2_with fail;refine Qu (QyD bb n c l) ?_;go_wp2_with fail;go_quiet (fail);go_wp2;refine Q_ (v:=.tuple #[Qa n,Qa pos]) (by simp[results,results37,go_sem]) rfl ?_;exact⟨rfl,b.os,b.tape,b.output,b.size,b.o.block⟩
theorem QtJ(n:Int)(c:Yy w):Calls prog 37 #[.iface 33 (Qa n)] w fun e w'=>e=.returned (.tuple #[Qa n,Qa (-1)])/\Qo w w':=by
 have t:=O c;clear c;go_enter func37,ntmps37;go_wp2_with fail;refine Qv (RV n ((t.o.alloc _).alloc _)) ?_;rintro d a
 have k:d.cell? ⟨w.heap.size+1,0,none⟩=some (Qa 0):=by
  rw[a.cell (p:=⟨w.heap.size+1,0,none⟩) Qh];simp
 have l:d.frozen? ⟨w.heap.size+1,0,none⟩=false:=by
  rw[a.frozen (p:=⟨w.heap.size+1,0,none⟩) Qh];simp
 have j:=O (((t.o.alloc (Qe #[.pointer none] 125)).alloc (Qe #[Qa 0] 33)).below a);have m:=a.size;have g:=O (((QH (Qe #[.pointer none] 125)).alloc Qh (Qe #[Qa 0] 33)).trans (a.mono (by simp;omega)));clear a;simp at m;go_wp2_with fail;refine Qv (Wz n j k l) ?_;rintro q ⟨f,r⟩;have i:=O (g.o.trans (Mod.below (b:=w.heap.size+1) f I I));clear f;go_wp2_with fail;refine Qu (Qw6 n q) ?_;go_wp2;refine Q_ (v:=.tuple #[Qa n,Qa (-1)]) (by simp[results,results37,go_sem]) rfl ?_;exact⟨rfl,i⟩
end
section
attribute [local go_sem ↓] Zt Zu
theorem T3(w:World)(b:600<t.size):Calls prog 36 #[.string t] w fun e w'=>e=.returned (.tuple #[.pointer none,.iface 33 (Qa 1)])/\Qo w w':=by
 go_enter func36,ntmps36;go_wp2_with fail;refine Qv (QsR w b) ?_;rintro d a;have f:=O a;have c:=a.size;clear a;go_wp2;refine Q_ (v:=.tuple #[.pointer none,.iface 33 (Qa 1)]) (by simp[results,results36,go_sem]) rfl ?_;exact⟨rfl,f.o.alloc c _⟩
def PP(t:ByteArray)(w:World)(e:Ending)(w':World):Prop:=
 Qo w w'∧((600 < t.size∧e=.returned (.tuple #[.pointer none,Qa 1,Qa (-1)]))∨
  (t.size<=600/\∃y g rv lv,prL t.data.toList=.ok y/\e=.returned (.tuple #[Qc g,Qa 0,Qa (-1)])/\w.heap.size<=g/\w'.heap[g]?=some (Qe #[rv,lv] 124)/\Y1 (fromB w.heap.size) y.1 w' rv/\blX (fromB w.heap.size) (Yx 7) y.2 w' lv)\/
  (t.size<=600∧∃f,prL t.data.toList=.error f∧e=.returned (.tuple #[.pointer none,Qa f.err,Qa f.pos])))
theorem Qto(t:ByteArray)(G:∃m,w.cell? (Ql 1 0)=some (Qa m))(i:Yy w):Calls prog 19 #[.string t] w (PP t w):=by
 have M:=O i;clear i;rcases Ki 600 t.size with ht|ht
 .go_enter func19,ntmps19;go_wp2_with fail;refine Qv (T3 w ht) ?_;rintro j a;have K:=O a;have d:=a.size;clear a;go_wp2_with fail;refine Qv (QtJ 1 (M.o.below K)) ?_;rintro B b;have c:=O (K.o.trans (b.mono d));clear b;go_wp2;refine Q_ (v:=.tuple #[.pointer none,Qa 1,Qa (-1)]) (by simp[results,results19,go_sem]) rfl ?_;exact⟨c,Qt ⟨ht,rfl⟩⟩
 .go_enter func19,ntmps19;go_wp2_with fail;refine(SX w ht G).mono ?_;rintro e j ⟨a,⟨y,g,J,H,z,rfl,A,n,r,l⟩ | ⟨f,F,x,rfl,A,p⟩⟩
  .have K:=O a;have d:=a.size;have T:=O z;have L:=O n;have S:=O r;have N:=O l;clear a z n r l;go_wp2_with fail;refine Qv (MB j) ?_;rintro B b;have c:=O (K.o.trans (b.mono d));have D:=O (b.block g (QI L));have E:=O (S.o.keep (fun k _ q=>b.block k q));have C:=O (N.o.keep (XO 7) (fun k _ q=>b.block k q));clear b;go_wp2;refine Q_ (v:=.tuple #[Qc g,Qa 0,Qa (-1)]) (by simp[results,results19,go_sem]) rfl ?_;exact⟨c,Qr (Qt ⟨ht,y,g,J,H,T,rfl,A,by rw[D.o];exact L,E,C⟩)⟩
  .have K:=O a;have d:=a.size;have R:=O x;have s:=Qj p 0;have u:=Qj p 1;have P:=O s;have Q:=O u;clear a x p s u;go_wp2_with fail;refine Qv (Ic F f.err f.pos (M.o.below K) P Q) ?_;rintro B b;have c:=O (K.o.trans (b.mono d));clear b;go_wp2;refine Q_ (v:=.tuple #[.pointer none,Qa f.err,Qa f.pos]) (by simp[results,results19,go_sem]) rfl ?_;exact⟨c,Qr (Qr ⟨ht,f,R,rfl⟩)⟩
end
end Go.Proofs.YtgnkjijocdmniaaGreatDoor
