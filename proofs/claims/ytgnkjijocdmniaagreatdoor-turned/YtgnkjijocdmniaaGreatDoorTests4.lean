import Derived.Test.YtgnkjijocdmniaaGreatDoorZGroup
namespace Go.Proofs.YtgnkjijocdmniaaGreatDoor
set_option linter.unusedVariables false
set_option linter.unusedSimpArgs false
set_option maxRecDepth 100000
set_option maxHeartbeats 4000000
open Go.Proofs.Tryz
open Go.RowKit
attribute [local go_sem ↓] Go.wp_at_zero Go.wp_at_succ
theorem QtB{α:Type}(sub:PS->Except Flt (α×PS))(P:(Nat->Prop)->α->World->Value->Prop)(hw:L8)(hp:Nat)(d:Int)(pr:Nat)(b F:Nat)(t:ByteArray)(s:PS)(rv:Value)(mc mt:Nat)(w:World)(h:RC w b t s rv mc mt)(ab:Qm4 w pr b)(hF:2*t.size+1<F)(ae:0<=d)(af:d<=100)(hP:TreeP P)(hS:SubMu t.size sub)(ho:Qfd 186 w b t rv mc mt (d+1) sub P) :
 Calls Tryz.prog 129 #[QcH hw hp,.int .i64 d,.pointer (some ⟨pr,0,none⟩)] w (Qap (groupL t.data.toList F sub s) b t rv mc mt w (fun xs w' v=>∃ u,v=.iface 224 (.agg #[.string (Qaf hw),.int .i64 hp,u])/\trX (fromB w.heap.size) P xs w' u/\xs≠[])):=by
 have ag:=ab.lt;have h':(w.alloc (.cells #[.string (Qaf hw),.int .i64 hp] 216)).cell? ⟨pr,0,none⟩=some (.pointer (some ⟨b,0,none⟩)):=by rw[World.cell?_alloc_past _ _ _ ag];exact ab.1
 have HG:=Qab (QnZ sub P hw hp d b F t s rv mc mt (w.alloc (.cells #[.string (Qaf hw),.int .i64 hp] 216)) (h.alloc _) hF ae af hP hS (ho.mod ((Mod.refl b w).alloc _)));have HP:=Qab hP;clear h ab ho hP hS;unfold QcH at *;go_enter func129,ntmps129;go_wp2_with fail;refine HG.o.mono ?_;intro e w1 h1;rcases h1.cases with⟨y,v,hy,rfl,⟨u,rfl,hu,aa⟩,hc,hm⟩ | ⟨f,hf,⟨bb,hz,rfl,ad⟩,hm⟩
 rotate_left
 ·exact⟨rfl,Qap.err hf (((Mod.refl b w).alloc _).trans hm) ⟨bb,by simp at hz;omega,rfl,ad⟩⟩
 have HY:=Qab hy;have HC:=Qab hc;have HM:=Qab (((Mod.refl b w).alloc _).trans hm);have HU:=Qab (trX.weak HP.o aa hu (fun k hk _=>Nat.le_trans (by simp) hk:∀ k,_->_->fromB w.heap.size k));have ac:=Qab aa;obtain⟨g1,n1,c1,rfl⟩:=hu.form;clear h1 hy hc hm hu aa;go_wp2;go_ret;exact Qap.ok HY.o HM.o ⟨_,rfl,HU.o,ac.o⟩ HC.o
theorem QtC{α:Type}(sub:PS->Except Flt (α×PS))(P:(Nat->Prop)->α->World->Value->Prop)(hw:L8)(hp:Nat)(d:Int)(pr:Nat)(b F:Nat)(t:ByteArray)(s:PS)(rv:Value)(mc mt:Nat)(w:World)(h:RC w b t s rv mc mt)(ab:Qm4 w pr b)(hF:2*t.size+1<F)(ae:0<=d)(af:d<=100)(hP:TreeP P)(hS:SubMu t.size sub)(ho:Qfd 186 w b t rv mc mt (d+1) sub P) :
 Calls Tryz.prog 131 #[QcH hw hp,.int .i64 d,.pointer (some ⟨pr,0,none⟩)] w (Qap (groupL t.data.toList F sub s) b t rv mc mt w (fun xs w' v=>∃ u,v=.iface 225 (.agg #[.string (Qaf hw),.int .i64 hp,u])/\trX (fromB w.heap.size) P xs w' u/\xs≠[])):=by
 have ag:=ab.lt;have h':(w.alloc (.cells #[.string (Qaf hw),.int .i64 hp] 216)).cell? ⟨pr,0,none⟩=some (.pointer (some ⟨b,0,none⟩)):=by rw[World.cell?_alloc_past _ _ _ ag];exact ab.1
 have HG:=Qab (QnZ sub P hw hp d b F t s rv mc mt (w.alloc (.cells #[.string (Qaf hw),.int .i64 hp] 216)) (h.alloc _) hF ae af hP hS (ho.mod ((Mod.refl b w).alloc _)));have HP:=Qab hP;clear h ab ho hP hS;unfold QcH at *;go_enter func131,ntmps131;go_wp2_with fail;refine HG.o.mono ?_;intro e w1 h1;rcases h1.cases with⟨y,v,hy,rfl,⟨u,rfl,hu,aa⟩,hc,hm⟩ | ⟨f,hf,⟨bb,hz,rfl,ad⟩,hm⟩
 rotate_left
 ·exact⟨rfl,Qap.err hf (((Mod.refl b w).alloc _).trans hm) ⟨bb,by simp at hz;omega,rfl,ad⟩⟩
 have HY:=Qab hy;have HC:=Qab hc;have HM:=Qab (((Mod.refl b w).alloc _).trans hm);have HU:=Qab (trX.weak HP.o aa hu (fun k hk _=>Nat.le_trans (by simp) hk:∀ k,_->_->fromB w.heap.size k));have ac:=Qab aa;obtain⟨g1,n1,c1,rfl⟩:=hu.form;clear h1 hy hc hm hu aa;go_wp2;go_ret;exact Qap.ok HY.o HM.o ⟨_,rfl,HU.o,ac.o⟩ HC.o
def Qxq (w:World) (hw:L8) (hp:Nat):World:=
 ((((w.alloc (.cells #[.string (Qaf hw),.int .i64 hp] 216)).alloc (.cells #[.string ⟨#[102,114,111,109]⟩,.string ⟨#[116,111]⟩] 9)).alloc (.cells #[.int .i64 7] 33)).alloc (.cells #[.slice (some ⟨w.heap.size+1,0,none⟩) 2 2] 61)).alloc (.cells #[.func (.func 190) #[] #[.pointer (some ⟨w.heap.size+1+1+1,0,none⟩),.pointer (some ⟨w.heap.size+1+1,0,none⟩)]] 229)
theorem QrP(w:World)(hw:L8)(hp:Nat):QhS (Qxq w hw hp) (w.heap.size+1+1+1+1) (w.heap.size+1+1+1) (w.heap.size+1+1) (w.heap.size+1) 2 2 7 [QhJ,kTo]:=by
 refine⟨?_,?_,?_,?_,rfl,by decide⟩
 ·exact Qaa (Qaw (by simp)) 0
 ·exact Qaa (Qae (Qaw (by simp))) 0
 ·exact Qaa (Qae (Qae (Qaw (by simp)))) 0
 ·have h:=Qba (w.alloc (.cells #[.string (Qaf hw),.int .i64 hp] 216)) [QhJ,kTo] #[.string ⟨#[102,114,111,109]⟩,.string ⟨#[116,111]⟩] 9 rfl;rw[show(w.alloc (.cells #[.string (Qaf hw),.int .i64 hp] 216)).heap.size=w.heap.size+1 from by simp]at h;exact((h.below ((Below.refl _ _).alloc (Nat.le_refl _) _)).below ((Below.refl _ _).alloc (Nat.le_refl _) _)).below ((Below.refl _ _).alloc (Nat.le_refl _) _)
theorem Qhe(w:World)(hw:L8)(hp b:Nat):Mod b w (Qxq w hw hp):=(((((Mod.refl b w).alloc _).alloc _).alloc _).alloc _).alloc _
theorem Qb3{w w':World}{b g o:Nat}{v:Value}(h:w.cell? ⟨g,o,none⟩=some v)(hm:Mod b w w')(hn:g≠b):w'.cell? ⟨g,o,none⟩=some v:=by
 rw[hm.cell (p:=⟨g,o,none⟩) (Qau h) hn];exact h
theorem QhS.mod{w w':World}{b q p1 p2 g n c er:Nat}{zs:List (L8)}(h:QhS w q p1 p2 g n c er zs)(hm:Mod b w w')(h1:q≠b)(h2:p1≠b)(h3:p2≠b)(h4:g≠b):QhS w' q p1 p2 g n c er zs:=by
 obtain⟨a1,a2,a3,a4,a5,a6⟩:=h;exact⟨Qb3 a1 hm h1,Qb3 a2 hm h2,Qb3 a3 hm h3,fun j hj=>Qb3 (a4 j hj) hm h4,a5,a6⟩
theorem Qwn(w:World)(hw:L8)(hp b:Nat)(t:ByteArray)(rv:Value)(mc mt:Nat)(hb:b<w.heap.size):QkV (Qxq w hw hp) b t rv mc mt (.func (.func 189) #[] #[.pointer (some ⟨w.heap.size+1+1+1+1,0,none⟩)]) (QdA (QcL 7 [QhJ,kTo])):=
 fun W s hm hr=>QkQ _ _ _ _ _ _ _ _ b t s rv mc mt W hr ((QrP w hw hp).mod hm (by omega) (by omega) (by omega) (by omega))
theorem QkV.drew{w:World}{b:Nat}{t:ByteArray}{rv:Value}{mc mt:Nat}{cv:Value}{chk:L8->Nat}(h:QkV w b t rv mc mt cv chk):QkV w.drew b t rv mc mt cv chk:=h.mod ((Mod.refl b w).drew)
theorem QoO(hw:L8)(hp:Nat)(d:Int)(pr:Nat)(b F:Nat)(t:ByteArray)(s:PS)(rv:Value)(mc mt:Nat)(w:World)(h:RC w b t s rv mc mt)(ad:Qm4 w pr b)(hF:2*t.size+1<F) :
 Calls Tryz.prog 135 #[QcH hw hp,.int .i64 d,.pointer (some ⟨pr,0,none⟩)] w (Qap (Qbp t.data.toList F (QdA (QcL 7 [QhJ,kTo])) 6 hp s) b t rv mc mt w (fun x w' v=>∃ u,v=.iface 234 u/\mtV w.heap.size hw x w' u)):=by
 have ah:=ad.lt;have a1:∀ o,(w.alloc o).cell? ⟨pr,0,none⟩=some (.pointer (some ⟨b,0,none⟩)):=fun o=>by rw[World.cell?_alloc_past _ _ _ ah];exact ad.1
 have a2:∀ o o2,((w.alloc o).alloc o2).cell? ⟨pr,0,none⟩=some (.pointer (some ⟨b,0,none⟩)):=fun o o2=>by rw[World.cell?_alloc_past _ _ _ (by simp;omega)];exact a1 o
 have a3:∀ o o2 o3,(((w.alloc o).alloc o2).alloc o3).cell? ⟨pr,0,none⟩=some (.pointer (some ⟨b,0,none⟩)):=fun o o2 o3=>by rw[World.cell?_alloc_past _ _ _ (by simp;omega)];exact a2 o o2
 have a4:∀ o o2 o3 o4,((((w.alloc o).alloc o2).alloc o3).alloc o4).cell? ⟨pr,0,none⟩=some (.pointer (some ⟨b,0,none⟩)):=fun o o2 o3 o4=>by rw[World.cell?_alloc_past _ _ _ (by simp;omega)];exact a3 o o2 o3
 have a5:∀ o o2 o3 o4 o5,(((((w.alloc o).alloc o2).alloc o3).alloc o4).alloc o5).cell? ⟨pr,0,none⟩=some (.pointer (some ⟨b,0,none⟩)):=fun o o2 o3 o4 o5=>by rw[World.cell?_alloc_past _ _ _ (by simp;omega)];exact a4 o o2 o3 o4
 have H:=Qab h;have hb:=h.at_.lt;clear h ad;unfold QcH
 have HW:=Qab (Qjx _ (QdA (QcL 7 [QhJ,kTo])) 6 hw hp b F t s rv mc mt (Qxq w hw hp).drew ((H.o.step (Qhe w hw hp b) (H.o.at_.mod (⟨rfl,rfl,rfl,(Qhe w hw hp b).size,fun k hk=>by
  by_cases e:k=b
  ·subst e;unfold Qxq;rw[Below.heap_alloc _ _ _ (by simp;omega),Below.heap_alloc _ _ _ (by simp;omega),Below.heap_alloc _ _ _ (by simp;omega),Below.heap_alloc _ _ _ (by simp;omega),Below.heap_alloc _ _ _ hk]
  ·exact (Qhe w hw hp b).block k hk e⟩:Below w.heap.size w (Qxq w hw hp))) H.o.le H.o.sz H.o.e0 H.o.nm).drew) (Qwn w hw hp b t rv mc mt hb).drew hF)
 have aa:=Qab (Qhe w hw hp b);have HZ:=Qab ((Qhe w hw hp b).size);unfold Qxq at HW aa;go_enter func135,ntmps135;go_wp2_with fail;go_region_with (first|(go_at_call 137;refine(Qj8 _ _ _ _ _).mono ?_;rintro e w' ⟨rfl,rfl⟩;skip)|(go_at_call 136;refine(Qo2 _ _ _ _).mono ?_;rintro e w' ⟨rfl,rfl⟩;skip)|(go_at_call 133;refine HW.o.mono ?_;intro e w1 h1;rcases h1.cases with⟨y,v,hy,rfl,⟨fv,kv,rfl,ab,ac⟩,hc,hm⟩ | ⟨f,hf,⟨bb,hz,rfl,ag⟩,hm⟩;rotate_left;exact⟨rfl,Qap.err hf (aa.o.trans (QaY hm)) ⟨bb,by simp at hz;omega,rfl,ag⟩⟩;have HY:=Qab hy;have HC:=Qab hc;have HM:=Qab (aa.o.trans (QaY hm));have ae:=Qab (ab.weak (B':=w.heap.size) (by simp;omega));have af:=Qab (ac.weak (B':=w.heap.size) (by simp;omega));obtain⟨g1,n1,c1,rfl⟩:=ab.form;obtain⟨g2,n2,c2,rfl⟩:=ac.form;clear h1 hy hc hm ab ac;skip))
 all_goals go_wp2
 all_goals go_ret
 all_goals exact Qap.ok HY.o HM.o ⟨_,rfl,_,_,rfl,ae.o,af.o⟩ HC.o
end Go.Proofs.YtgnkjijocdmniaaGreatDoor
