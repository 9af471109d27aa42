import Derived.Test.YtgnkjijocdmniaaGreatDoorZGroup
namespace Go.Proofs.YtgnkjijocdmniaaGreatDoor
set_option linter.unusedVariables false
set_option linter.unusedSimpArgs false
set_option maxRecDepth 100000
set_option maxHeartbeats 4000000
open Go.RowKit
attribute [local go_sem ↓] Go.wp_at_zero Go.wp_at_succ
theorem allof_any {α:Type} (sub:PS→Except Flt (α×PS)) (P:(Nat→Prop)→α→World→Value→Prop) (hw:List UInt8) (hp:Nat) (d:Int) (pr:Nat) (b F:Nat) (t:ByteArray) (s:PS) (rv:Value) (mc mt:Nat) (w:World) (h:RC w b t s rv mc mt) (hpr:PrAt w pr b) (hF:2*t.size+1 < F) (hd0:0≤d) (hd1:d≤100) (hP:TreeP P) (hS:SubMu t.size sub) (ho:SubOk 186 w b t rv mc mt (d+1) sub P) :
 Calls Tryz.prog 129 #[headV hw hp,.int .i64 d,.pointer (some ⟨pr,0,none⟩)] w (RPost (groupL t.data.toList F sub s) b t rv mc mt w (fun xs w' v=>∃ u,v=.iface 224 (.agg #[.string (strA hw),.int .i64 hp,u])∧trX (fromB w.heap.size) P xs w' u∧xs≠[])):=by
 have hlt:=hpr.lt
 have h':(w.alloc (.cells #[.string (strA hw),.int .i64 hp] 216)).cell? ⟨pr,0,none⟩=some (.pointer (some ⟨b,0,none⟩)):=by rw [World.cell?_alloc_past _ _ _ hlt];exact hpr.1
 have HG:=hide (group_any sub P hw hp d b F t s rv mc mt (w.alloc (.cells #[.string (strA hw),.int .i64 hp] 216)) (h.alloc _) hF hd0 hd1 hP hS (ho.mod ((Mod.refl b w).alloc _)))
 have HP:=hide hP
 clear h hpr ho hP hS
 unfold headV at *
 go_enter Tryz.func129,Tryz.ntmps129
 go_wp2_with fail
 refine HG.out.mono ?_
 intro e w1 h1
 rcases h1.cases with ⟨y,v,hy,rfl,⟨u,rfl,hu,hne⟩,hc,hm⟩ | ⟨f,hf,⟨bb,hz,rfl,hcc⟩,hm⟩
 rotate_left
 ·exact ⟨rfl,RPost.err hf (((Mod.refl b w).alloc _).trans hm) ⟨bb,by simp at hz;omega,rfl,hcc⟩⟩
 have HY:=hide hy
 have HC:=hide hc
 have HM:=hide (((Mod.refl b w).alloc _).trans hm)
 have HU:=hide (trX.weak HP.out hne hu (fun k hk _=>Nat.le_trans (by simp) hk:∀ k,_→_→fromB w.heap.size k))
 have HNE:=hide hne
 obtain ⟨g1,n1,c1,rfl⟩:=hu.form
 clear h1 hy hc hm hu hne
 go_wp2
 go_ret
 exact RPost.ok HY.out HM.out ⟨_,rfl,HU.out,HNE.out⟩ HC.out
theorem anyof_any {α:Type} (sub:PS→Except Flt (α×PS)) (P:(Nat→Prop)→α→World→Value→Prop) (hw:List UInt8) (hp:Nat) (d:Int) (pr:Nat) (b F:Nat) (t:ByteArray) (s:PS) (rv:Value) (mc mt:Nat) (w:World) (h:RC w b t s rv mc mt) (hpr:PrAt w pr b) (hF:2*t.size+1 < F) (hd0:0≤d) (hd1:d≤100) (hP:TreeP P) (hS:SubMu t.size sub) (ho:SubOk 186 w b t rv mc mt (d+1) sub P) :
 Calls Tryz.prog 131 #[headV hw hp,.int .i64 d,.pointer (some ⟨pr,0,none⟩)] w (RPost (groupL t.data.toList F sub s) b t rv mc mt w (fun xs w' v=>∃ u,v=.iface 225 (.agg #[.string (strA hw),.int .i64 hp,u])∧trX (fromB w.heap.size) P xs w' u∧xs≠[])):=by
 have hlt:=hpr.lt
 have h':(w.alloc (.cells #[.string (strA hw),.int .i64 hp] 216)).cell? ⟨pr,0,none⟩=some (.pointer (some ⟨b,0,none⟩)):=by rw [World.cell?_alloc_past _ _ _ hlt];exact hpr.1
 have HG:=hide (group_any sub P hw hp d b F t s rv mc mt (w.alloc (.cells #[.string (strA hw),.int .i64 hp] 216)) (h.alloc _) hF hd0 hd1 hP hS (ho.mod ((Mod.refl b w).alloc _)))
 have HP:=hide hP
 clear h hpr ho hP hS
 unfold headV at *
 go_enter Tryz.func131,Tryz.ntmps131
 go_wp2_with fail
 refine HG.out.mono ?_
 intro e w1 h1
 rcases h1.cases with ⟨y,v,hy,rfl,⟨u,rfl,hu,hne⟩,hc,hm⟩ | ⟨f,hf,⟨bb,hz,rfl,hcc⟩,hm⟩
 rotate_left
 ·exact ⟨rfl,RPost.err hf (((Mod.refl b w).alloc _).trans hm) ⟨bb,by simp at hz;omega,rfl,hcc⟩⟩
 have HY:=hide hy
 have HC:=hide hc
 have HM:=hide (((Mod.refl b w).alloc _).trans hm)
 have HU:=hide (trX.weak HP.out hne hu (fun k hk _=>Nat.le_trans (by simp) hk:∀ k,_→_→fromB w.heap.size k))
 have HNE:=hide hne
 obtain ⟨g1,n1,c1,rfl⟩:=hu.form
 clear h1 hy hc hm hu hne
 go_wp2
 go_ret
 exact RPost.ok HY.out HM.out ⟨_,rfl,HU.out,HNE.out⟩ HC.out
def envW (w:World) (hw:List UInt8) (hp:Nat):World:=
 ((((w.alloc (.cells #[.string (strA hw),.int .i64 hp] 216)).alloc (.cells #[.string ⟨#[102,114,111,109]⟩,.string ⟨#[116,111]⟩] 9)).alloc (.cells #[.int .i64 7] 33)).alloc (.cells #[.slice (some ⟨w.heap.size+1,0,none⟩) 2 2] 61)).alloc (.cells #[.func (.func 190) #[] #[.pointer (some ⟨w.heap.size+1+1+1,0,none⟩),.pointer (some ⟨w.heap.size+1+1,0,none⟩)]] 229)
theorem envW_small (w:World) (hw:List UInt8) (hp:Nat):SmallAt (envW w hw hp) (w.heap.size+1+1+1+1) (w.heap.size+1+1+1) (w.heap.size+1+1) (w.heap.size+1) 2 2 7 [kFrom,kTo]:=by
 refine ⟨?_,?_,?_,?_,rfl,by decide⟩
 ·exact blk_cell (blk_newAt (by simp)) 0
 ·exact blk_cell (blk_alloc (blk_newAt (by simp))) 0
 ·exact blk_cell (blk_alloc (blk_alloc (blk_newAt (by simp)))) 0
 ·have h:=txt_alloc (w.alloc (.cells #[.string (strA hw),.int .i64 hp] 216)) [kFrom,kTo] #[.string ⟨#[102,114,111,109]⟩,.string ⟨#[116,111]⟩] 9 rfl
  rw [show (w.alloc (.cells #[.string (strA hw),.int .i64 hp] 216)).heap.size=w.heap.size+1 from by simp] at h
  exact ((h.below ((Below.refl _ _).alloc (Nat.le_refl _) _)).below ((Below.refl _ _).alloc (Nat.le_refl _) _)).below ((Below.refl _ _).alloc (Nat.le_refl _) _)
theorem envW_mod (w:World) (hw:List UInt8) (hp b:Nat):Mod b w (envW w hw hp):=(((((Mod.refl b w).alloc _).alloc _).alloc _).alloc _).alloc _
theorem cell_mod {w w':World} {b g o:Nat} {v:Value} (h:w.cell? ⟨g,o,none⟩=some v) (hm:Mod b w w') (hn:g≠b):w'.cell? ⟨g,o,none⟩=some v:=by
 rw [hm.cell (p:=⟨g,o,none⟩) (cell_lt h) hn];exact h
theorem SmallAt.mod {w w':World} {b q p1 p2 g n c er:Nat} {zs:List (List UInt8)} (h:SmallAt w q p1 p2 g n c er zs) (hm:Mod b w w') (h1:q≠b) (h2:p1≠b) (h3:p2≠b) (h4:g≠b):SmallAt w' q p1 p2 g n c er zs:=by
 obtain ⟨a1,a2,a3,a4,a5,a6⟩:=h
 exact ⟨cell_mod a1 hm h1,cell_mod a2 hm h2,cell_mod a3 hm h3,fun j hj=>cell_mod (a4 j hj) hm h4,a5,a6⟩
theorem envW_str (w:World) (hw:List UInt8) (hp b:Nat) (t:ByteArray) (rv:Value) (mc mt:Nat) (hb:b < w.heap.size):StrOk (envW w hw hp) b t rv mc mt (.func (.func 189) #[] #[.pointer (some ⟨w.heap.size+1+1+1+1,0,none⟩)]) (chkSmall (chkOne 7 [kFrom,kTo])):=
 fun W s hm hr=>string_inSmall _ _ _ _ _ _ _ _ b t s rv mc mt W hr ((envW_small w hw hp).mod hm (by omega) (by omega) (by omega) (by omega))
theorem StrOk.drew {w:World} {b:Nat} {t:ByteArray} {rv:Value} {mc mt:Nat} {cv:Value} {chk:List UInt8→Nat} (h:StrOk w b t rv mc mt cv chk):StrOk w.drew b t rv mc mt cv chk:=h.mod ((Mod.refl b w).drew)
theorem envelope_any (hw:List UInt8) (hp:Nat) (d:Int) (pr:Nat) (b F:Nat) (t:ByteArray) (s:PS) (rv:Value) (mc mt:Nat) (w:World) (h:RC w b t s rv mc mt) (hpr:PrAt w pr b) (hF:2*t.size+1 < F) :
 Calls Tryz.prog 135 #[headV hw hp,.int .i64 d,.pointer (some ⟨pr,0,none⟩)] w (RPost (matchL t.data.toList F (chkSmall (chkOne 7 [kFrom,kTo])) 6 hp s) b t rv mc mt w (fun x w' v=>∃ u,v=.iface 234 u∧mtV w.heap.size hw x w' u)):=by
 have hlt:=hpr.lt
 have a1:∀ o,(w.alloc o).cell? ⟨pr,0,none⟩=some (.pointer (some ⟨b,0,none⟩)):=fun o=>by rw [World.cell?_alloc_past _ _ _ hlt];exact hpr.1
 have a2:∀ o o2,((w.alloc o).alloc o2).cell? ⟨pr,0,none⟩=some (.pointer (some ⟨b,0,none⟩)):=fun o o2=>by rw [World.cell?_alloc_past _ _ _ (by simp;omega)];exact a1 o
 have a3:∀ o o2 o3,(((w.alloc o).alloc o2).alloc o3).cell? ⟨pr,0,none⟩=some (.pointer (some ⟨b,0,none⟩)):=fun o o2 o3=>by rw [World.cell?_alloc_past _ _ _ (by simp;omega)];exact a2 o o2
 have a4:∀ o o2 o3 o4,((((w.alloc o).alloc o2).alloc o3).alloc o4).cell? ⟨pr,0,none⟩=some (.pointer (some ⟨b,0,none⟩)):=fun o o2 o3 o4=>by rw [World.cell?_alloc_past _ _ _ (by simp;omega)];exact a3 o o2 o3
 have a5:∀ o o2 o3 o4 o5,(((((w.alloc o).alloc o2).alloc o3).alloc o4).alloc o5).cell? ⟨pr,0,none⟩=some (.pointer (some ⟨b,0,none⟩)):=fun o o2 o3 o4 o5=>by rw [World.cell?_alloc_past _ _ _ (by simp;omega)];exact a4 o o2 o3 o4
 have H:=hide h
 have hb:=h.at_.lt
 clear h hpr
 unfold headV
 have HW:=hide (match_any _ (chkSmall (chkOne 7 [kFrom,kTo])) 6 hw hp b F t s rv mc mt (envW w hw hp).drew ((H.out.step (envW_mod w hw hp b) (H.out.at_.mod (⟨rfl,rfl,rfl,(envW_mod w hw hp b).size,fun k hk=>by
  by_cases e:k=b
  ·subst e
   unfold envW
   rw [Below.heap_alloc _ _ _ (by simp;omega),Below.heap_alloc _ _ _ (by simp;omega),Below.heap_alloc _ _ _ (by simp;omega),Below.heap_alloc _ _ _ (by simp;omega),Below.heap_alloc _ _ _ hk]
  ·exact (envW_mod w hw hp b).block k hk e⟩:Below w.heap.size w (envW w hw hp))) H.out.le H.out.sz H.out.e0 H.out.nm).drew) (envW_str w hw hp b t rv mc mt hb).drew hF)
 have HMW:=hide (envW_mod w hw hp b)
 have HZ:=hide ((envW_mod w hw hp b).size)
 unfold envW at HW HMW
 go_enter Tryz.func135,Tryz.ntmps135
 go_wp2_with fail
 go_region_with (first | (go_at_call 137;refine (oneOf_any _ _ _ _ _).mono ?_;rintro e w' ⟨rfl,rfl⟩;skip) | (go_at_call 136;refine (inSmall_any _ _ _ _).mono ?_;rintro e w' ⟨rfl,rfl⟩;skip) | (go_at_call 133;refine HW.out.mono ?_;intro e w1 h1;rcases h1.cases with ⟨y,v,hy,rfl,⟨fv,kv,rfl,hf1,hk1⟩,hc,hm⟩ | ⟨f,hf,⟨bb,hz,rfl,hcc⟩,hm⟩;rotate_left;exact ⟨rfl,RPost.err hf (HMW.out.trans (mod_drew hm)) ⟨bb,by simp at hz;omega,rfl,hcc⟩⟩;have HY:=hide hy;have HC:=hide hc;have HM:=hide (HMW.out.trans (mod_drew hm));have HF1:=hide (hf1.weak (B':=w.heap.size) (by simp;omega));have HK1:=hide (hk1.weak (B':=w.heap.size) (by simp;omega));obtain ⟨g1,n1,c1,rfl⟩:=hf1.form;obtain ⟨g2,n2,c2,rfl⟩:=hk1.form;clear h1 hy hc hm hf1 hk1;skip))
 all_goals go_wp2
 all_goals go_ret
 all_goals exact RPost.ok HY.out HM.out ⟨_,rfl,_,_,rfl,HF1.out,HK1.out⟩ HC.out
end Go.Proofs.YtgnkjijocdmniaaGreatDoor
