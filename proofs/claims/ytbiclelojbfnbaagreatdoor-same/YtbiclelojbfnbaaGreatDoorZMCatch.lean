import Derived.Lib.ItoaLen
import Derived.Test.YtbiclelojbfnbaaGreatDoorZPParse
import Derived.Test.YtbiclelojbfnbaaGreatDoorZSAct
namespace Go.Proofs.YtbiclelojbfnbaaGreatDoor
set_option linter.unusedVariables false
set_option linter.unusedSimpArgs false
set_option maxRecDepth 100000
set_option maxHeartbeats 4000000
section
open Go.RowKit
attribute [local go_sem ↓] Go.wp_at_zero Go.wp_at_succ
theorem QbC {w:World} {m k:Nat} {o:Obj} (h:k≠m):({ w with heap:=w.heap.setIfInBounds m o }:World).heap[k]?=w.heap[k]?:=by
 show (w.heap.setIfInBounds m o)[k]?=_
 rw [Array.getElem?_setIfInBounds_ne (Ne.symm h)]
theorem QhI {w:World} {m:Nat} {o o':Obj} (h:w.heap[m]?=some o'):({ w with heap:=w.heap.setIfInBounds m o }:World).heap[m]?=some o:=by
 show (w.heap.setIfInBounds m o)[m]?=_
 exact (MapKept.heap_set h).1
theorem SI.setMap {w:World} {B sb:Nat} {M:Msg} {s:SS} {hv:Value} {mb:Nat} {tv mv:Value} (h:SI w B sb M s hv mb tv mv) (vals':List UInt8→Option (List UInt8)) (es':Array MapEntry) (c':Nat) (hu:QsC es' (Qnb ⟨s.vs,vals',s.told,s.met,s.disc⟩)) (hb:∀ x t,vals' x=some t→t.length≤48) :
 SI { w with heap:=w.heap.setIfInBounds mb (.map es' c') } B sb M ⟨s.vs,vals',s.told,s.met,s.disc⟩ hv mb tv mv∧Fr (PSt B) w { w with heap:=w.heap.setIfInBounds mb (.map es' c') }:=by
 obtain ⟨es,c,hm,hu0⟩:=h.mp
 have hne:∀ (k:Nat) (o:Obj),w.heap[k]?=some o→(∀ cs t f,o=.cells cs t f→({ w with heap:=w.heap.setIfInBounds mb (.map es' c') }:World).heap[k]?=some o):=fun k o hk cs t f ho=>by
  rw [QbC (fun e=>by subst e;rw [hm] at hk;cases hk;cases ho)];exact hk
 obtain ⟨m,h7⟩:=h.m1
 refine ⟨⟨h.bs,h.bm,h.b1,⟨m,?_⟩,hne _ _ h.blk _ _ _ rfl,?_,⟨es',c',QhI hm,hu⟩,?_,?_,h.mn,⟨h.bd.fr,h.bd.to,h.bd.hl,h.bd.hd,h.bd.told,h.bd.tl,hb,h.bd.met⟩⟩,⟨rfl,rfl,rfl,by simp,fun k o hk hn=>?_⟩⟩
 ·have:(1:Nat)≠mb:=by have:=h.b1;have:=h.bm;omega
  rw [World.cell?_of_block (a:=⟨1,0,none⟩) (w:=w) (QbC this)];exact h7
 ·rcases h.hd with h' | ⟨g,c,cs,hv',hb,hc⟩
  ·exact Or.inl h'
  ·exact Or.inr ⟨g,c,cs,hv',hne _ _ hb _ _ _ rfl,hc⟩
 ·rcases h.told with h' | ⟨g,c,hv',cs,hb,hc⟩
  ·exact Or.inl h'
  ·exact Or.inr ⟨g,c,hv',cs,hne _ _ hb _ _ _ rfl,hc⟩
 ·obtain ⟨h1,h2⟩:=h.met
  refine ⟨h1,?_⟩
  rcases h2 with h2 | ⟨g,cap,cur,hv',hg,hh,r⟩
  ·exact Or.inl h2
  ·exact Or.inr ⟨g,cap,cur,hv',hg,hne _ _ hh _ _ _ rfl,r⟩
 ·rw [QbC (fun e=>by
   subst e
   rw [hm] at hk
   cases hk
   exact hn ⟨h.bm,rfl⟩)]
  exact hk
theorem QtF (x:List UInt8) (w:World) (h:x.length≤1000000):Calls Tryz.prog 333 #[.string (Qad x)] w fun e w'=>e=.returned (.string (Qad (capL x)))∧Below w.heap.size w w':=
 QnL (Qad x) w (by rw [Qat];omega)
theorem Qus (s:SS) (name:List UInt8) (tag:Int) (said:List UInt8):Qvu s name tag said=⟨s.vs,fun x=>if x=name then some ((Qn5 tag (expL s said)).take 48) else s.vals x,s.told,s.met,s.disc⟩:=rfl
theorem Qur:∀ n:Nat,n≤1000000→(Lib.decDigits n).length≤1000000:=fun n hn=>by
 rw [Lib.decDigits_length]
 have:=Lib.nDigits_le20 n (by omega)
 omega
theorem Qvm (B sb:Nat) (M:Msg) (s:SS) (name:List UInt8) (tag:Int) (said:List UInt8) (w:World) (h:SAt w B sb M s) (ht:Tab w) (hl:said.length≤1000000) :
 Calls Tryz.prog 277 #[.pointer (some ⟨sb,0,none⟩),.string (Qad name),.int .i64 tag,.string (Qad said)] w (Qm9 (.ok (Qvu s name tag said)) B sb M w):=by
 have HS:=Qab h
 have HTAB:=Qab ht
 have HSE:=Qab (Qus s name tag said)
 have e1:=QeU tag 1
 have e2:=QeU tag 2
 have e3:=QeU tag 3
 have hel:=Qku s said 1000000 hl (by decide)
 go_enter Tryz.func277,Tryz.ntmps277
 go_wp2_with fail
 refine (Qk7 B sb M s said w h hl).mono ?_
 rintro e w1 ⟨rfl,hb1⟩
 obtain ⟨x,hx⟩:∃ x,expL s said=x:=⟨_,rfl⟩
 rw [hx] at HSE hel
 rw [hx]
 have HB1:=Qab hb1
 clear hx hb1 h ht
 by_cases t1:tag=1
 ·rw [decide_eq_true t1] at e1
  subst t1
  go_wp2_with fail
  refine (Qef x w1 hel).mono ?_
  rintro e w2 ⟨rfl,hb2⟩
  have HB2:=Qab (HB1.out.trans (hb2.mono HB1.out.size))
  obtain ⟨y,hy⟩:∃ y,smallL x=y:=⟨_,rfl⟩
  have hyl:y.length≤1000000:=by rw [← hy];simp [smallL];omega
  rw [show Qn5 1 x=y from hy] at HSE
  rw [hy]
  clear hy hb2
  go_wp2_with fail
  obtain ⟨z,hz⟩:∃ z,y.take 48=z:=⟨_,rfl⟩
  have hz48:z.length≤48:=by rw [← hz,List.length_take];omega
  obtain ⟨q,hq0⟩:∃ q:Nat,q=min y.length 48:=⟨_,rfl⟩
  have hq:min (y.length:Int) 48=(q:Int):=by omega
  have hq1:(q:Int)≤(y.length:Int):=by omega
  have hex:(Qad y).extract 0 q=Qad z:=by
   rw [QbZ,← hz,hq0]
   rcases Nat.le_total y.length 48 with hh | hh
   ·rw [Nat.min_eq_left hh,List.take_of_length_le (Nat.le_refl _),List.take_of_length_le hh]
   ·rw [Nat.min_eq_right hh]
  have hyz:=Qat y
  obtain ⟨hv,mb,tv,mv,hSI⟩:=HS.out.below (Qaz HB2.out)
  have HSI:=Qab hSI
  obtain ⟨es,mc,hm,hu⟩:=hSI.mp
  have k5:w2.cell? ⟨sb,5,none⟩=some (.map (some mb)):=hSI.cell 5
  rw [hz] at HSE
  obtain ⟨es',c',hput,hu'⟩:=QhU (T:=319) (g:=Qnb ⟨s.vs,fun x=>if x=name then some z else s.vals x,s.told,s.met,s.disc⟩) Tryz.underlying319 Tryz.underlying9 hm hu name (.agg #[.string (Qad z)]) (by unfold Qnb;simp) (fun x hx=>by unfold Qnb;simp [hx])
  have HU:=Qab hu'
  have HBD:=Qab hSI.bd
  have hnm:sb≠mb:=fun e=>by have h1:=hSI.blk;rw [e,hm] at h1;cases h1
  have HK5:Hid (({ w2.drew with heap:=w2.drew.heap.setIfInBounds mb (.map es' c') }:World).cell? ⟨sb,5,none⟩=some (.map (some mb))):=(World.cell?_of_block (a:=⟨sb,5,none⟩) (w:=w2) (QbC (w:=w2.drew) hnm)).trans k5
  clear hSI hm hu hu' hz hq0
  go_region_held3 (fun w'=>w'.cell? ⟨sb,5,none⟩=some (.map (some mb))) (first | go_keep | exact HK5.out) (fail)
  all_goals go_wp2
  all_goals go_end0
  all_goals have hfin:=HSI.out.setMap _ es' c' HU.out (fun a t hat=>by
   split at hat
   ·cases hat;exact hz48
   ·exact HBD.out.vals a t hat)
  all_goals refine ⟨(Fr.of_below (Qaz HB2.out)).trans hfin.2,?_⟩
  all_goals rw [HSE.out]
  all_goals exact ⟨rfl,hv,mb,tv,mv,hfin.1⟩
 rw [decide_eq_false t1] at e1
 by_cases t2:tag=2
 ·rw [decide_eq_true t2] at e2
  subst t2
  go_wp2_with fail
  refine (QtF x w1 hel).mono ?_
  rintro e w2 ⟨rfl,hb2⟩
  have HB2:=Qab (HB1.out.trans (hb2.mono HB1.out.size))
  obtain ⟨y,hy⟩:∃ y,capL x=y:=⟨_,rfl⟩
  have hyl:y.length≤1000000:=by rw [← hy];simp [capL];omega
  rw [show Qn5 2 x=y from hy] at HSE
  rw [hy]
  clear hy hb2
  go_wp2_with fail
  obtain ⟨z,hz⟩:∃ z,y.take 48=z:=⟨_,rfl⟩
  have hz48:z.length≤48:=by rw [← hz,List.length_take];omega
  obtain ⟨q,hq0⟩:∃ q:Nat,q=min y.length 48:=⟨_,rfl⟩
  have hq:min (y.length:Int) 48=(q:Int):=by omega
  have hq1:(q:Int)≤(y.length:Int):=by omega
  have hex:(Qad y).extract 0 q=Qad z:=by
   rw [QbZ,← hz,hq0]
   rcases Nat.le_total y.length 48 with hh | hh
   ·rw [Nat.min_eq_left hh,List.take_of_length_le (Nat.le_refl _),List.take_of_length_le hh]
   ·rw [Nat.min_eq_right hh]
  have hyz:=Qat y
  obtain ⟨hv,mb,tv,mv,hSI⟩:=HS.out.below (Qaz HB2.out)
  have HSI:=Qab hSI
  obtain ⟨es,mc,hm,hu⟩:=hSI.mp
  have k5:w2.cell? ⟨sb,5,none⟩=some (.map (some mb)):=hSI.cell 5
  rw [hz] at HSE
  obtain ⟨es',c',hput,hu'⟩:=QhU (T:=319) (g:=Qnb ⟨s.vs,fun x=>if x=name then some z else s.vals x,s.told,s.met,s.disc⟩) Tryz.underlying319 Tryz.underlying9 hm hu name (.agg #[.string (Qad z)]) (by unfold Qnb;simp) (fun x hx=>by unfold Qnb;simp [hx])
  have HU:=Qab hu'
  have HBD:=Qab hSI.bd
  have hnm:sb≠mb:=fun e=>by have h1:=hSI.blk;rw [e,hm] at h1;cases h1
  have HK5:Hid (({ w2.drew with heap:=w2.drew.heap.setIfInBounds mb (.map es' c') }:World).cell? ⟨sb,5,none⟩=some (.map (some mb))):=(World.cell?_of_block (a:=⟨sb,5,none⟩) (w:=w2) (QbC (w:=w2.drew) hnm)).trans k5
  clear hSI hm hu hu' hz hq0
  go_region_held3 (fun w'=>w'.cell? ⟨sb,5,none⟩=some (.map (some mb))) (first | go_keep | exact HK5.out) (fail)
  all_goals go_wp2
  all_goals go_end0
  all_goals have hfin:=HSI.out.setMap _ es' c' HU.out (fun a t hat=>by
   split at hat
   ·cases hat;exact hz48
   ·exact HBD.out.vals a t hat)
  all_goals refine ⟨(Fr.of_below (Qaz HB2.out)).trans hfin.2,?_⟩
  all_goals rw [HSE.out]
  all_goals exact ⟨rfl,hv,mb,tv,mv,hfin.1⟩
 rw [decide_eq_false t2] at e2
 by_cases t3:tag=3
 ·rw [decide_eq_true t3] at e3
  subst t3
  have hxz:=Qat x
  go_wp2_with fail
  refine (Qpp x.length (by omega) w1 (HTAB.out.below HB1.out)).mono ?_
  rintro e w2 ⟨rfl,hb2⟩
  have HB2:=Qab (HB1.out.trans (hb2.mono HB1.out.size))
  obtain ⟨y,hy⟩:∃ y,itoaL x.length=y:=⟨_,rfl⟩
  have hyl:y.length≤1000000:=by rw [← hy];exact Qur _ hel
  rw [show Qn5 3 x=y from hy] at HSE
  rw [hy]
  clear hy hb2
  go_wp2_with fail
  obtain ⟨z,hz⟩:∃ z,y.take 48=z:=⟨_,rfl⟩
  have hz48:z.length≤48:=by rw [← hz,List.length_take];omega
  obtain ⟨q,hq0⟩:∃ q:Nat,q=min y.length 48:=⟨_,rfl⟩
  have hq:min (y.length:Int) 48=(q:Int):=by omega
  have hq1:(q:Int)≤(y.length:Int):=by omega
  have hex:(Qad y).extract 0 q=Qad z:=by
   rw [QbZ,← hz,hq0]
   rcases Nat.le_total y.length 48 with hh | hh
   ·rw [Nat.min_eq_left hh,List.take_of_length_le (Nat.le_refl _),List.take_of_length_le hh]
   ·rw [Nat.min_eq_right hh]
  have hyz:=Qat y
  obtain ⟨hv,mb,tv,mv,hSI⟩:=HS.out.below (Qaz HB2.out)
  have HSI:=Qab hSI
  obtain ⟨es,mc,hm,hu⟩:=hSI.mp
  have k5:w2.cell? ⟨sb,5,none⟩=some (.map (some mb)):=hSI.cell 5
  rw [hz] at HSE
  obtain ⟨es',c',hput,hu'⟩:=QhU (T:=319) (g:=Qnb ⟨s.vs,fun x=>if x=name then some z else s.vals x,s.told,s.met,s.disc⟩) Tryz.underlying319 Tryz.underlying9 hm hu name (.agg #[.string (Qad z)]) (by unfold Qnb;simp) (fun x hx=>by unfold Qnb;simp [hx])
  have HU:=Qab hu'
  have HBD:=Qab hSI.bd
  have hnm:sb≠mb:=fun e=>by have h1:=hSI.blk;rw [e,hm] at h1;cases h1
  have HK5:Hid (({ w2.drew with heap:=w2.drew.heap.setIfInBounds mb (.map es' c') }:World).cell? ⟨sb,5,none⟩=some (.map (some mb))):=(World.cell?_of_block (a:=⟨sb,5,none⟩) (w:=w2) (QbC (w:=w2.drew) hnm)).trans k5
  clear hSI hm hu hu' hz hq0
  go_region_held3 (fun w'=>w'.cell? ⟨sb,5,none⟩=some (.map (some mb))) (first | go_keep | exact HK5.out) (fail)
  all_goals go_wp2
  all_goals go_end0
  all_goals have hfin:=HSI.out.setMap _ es' c' HU.out (fun a t hat=>by
   split at hat
   ·cases hat;exact hz48
   ·exact HBD.out.vals a t hat)
  all_goals refine ⟨(Fr.of_below (Qaz HB2.out)).trans hfin.2,?_⟩
  all_goals rw [HSE.out]
  all_goals exact ⟨rfl,hv,mb,tv,mv,hfin.1⟩
 rw [decide_eq_false t3] at e3
 rw [show Qn5 tag x=x by unfold Qn5;rw [if_neg t1,if_neg t2,if_neg t3]] at HSE
 obtain ⟨y,hy⟩:∃ y,x=y:=⟨_,rfl⟩
 subst hy
 obtain ⟨w2,hw2⟩:∃ w2,w1=w2:=⟨_,rfl⟩
 subst hw2
 have HB2:=HB1
 have hyl:=hel
 clear t1 t2 t3
 go_wp2_with fail
 obtain ⟨z,hz⟩:∃ z,x.take 48=z:=⟨_,rfl⟩
 have hz48:z.length≤48:=by rw [← hz,List.length_take];omega
 obtain ⟨q,hq0⟩:∃ q:Nat,q=min x.length 48:=⟨_,rfl⟩
 have hq:min (x.length:Int) 48=(q:Int):=by omega
 have hq1:(q:Int)≤(x.length:Int):=by omega
 have hex:(Qad x).extract 0 q=Qad z:=by
  rw [QbZ,← hz,hq0]
  rcases Nat.le_total x.length 48 with hh | hh
  ·rw [Nat.min_eq_left hh,List.take_of_length_le (Nat.le_refl _),List.take_of_length_le hh]
  ·rw [Nat.min_eq_right hh]
 have hyz:=Qat x
 obtain ⟨hv,mb,tv,mv,hSI⟩:=HS.out.below (Qaz HB2.out)
 have HSI:=Qab hSI
 obtain ⟨es,mc,hm,hu⟩:=hSI.mp
 have k5:w1.cell? ⟨sb,5,none⟩=some (.map (some mb)):=hSI.cell 5
 rw [hz] at HSE
 obtain ⟨es',c',hput,hu'⟩:=QhU (T:=319) (g:=Qnb ⟨s.vs,fun x=>if x=name then some z else s.vals x,s.told,s.met,s.disc⟩) Tryz.underlying319 Tryz.underlying9 hm hu name (.agg #[.string (Qad z)]) (by unfold Qnb;simp) (fun x hx=>by unfold Qnb;simp [hx])
 have HU:=Qab hu'
 have HBD:=Qab hSI.bd
 have hnm:sb≠mb:=fun e=>by have h1:=hSI.blk;rw [e,hm] at h1;cases h1
 have HK5:Hid (({ w1.drew with heap:=w1.drew.heap.setIfInBounds mb (.map es' c') }:World).cell? ⟨sb,5,none⟩=some (.map (some mb))):=(World.cell?_of_block (a:=⟨sb,5,none⟩) (w:=w1) (QbC (w:=w1.drew) hnm)).trans k5
 clear hSI hm hu hu' hz hq0
 go_region_held3 (fun w'=>w'.cell? ⟨sb,5,none⟩=some (.map (some mb))) (first | go_keep | exact HK5.out) (fail)
 all_goals go_wp2
 all_goals go_end0
 all_goals have hfin:=HSI.out.setMap _ es' c' HU.out (fun a t hat=>by
  split at hat
  ·cases hat;exact hz48
  ·exact HBD.out.vals a t hat)
 all_goals refine ⟨(Fr.of_below (Qaz HB2.out)).trans hfin.2,?_⟩
 all_goals rw [HSE.out]
 all_goals exact ⟨rfl,hv,mb,tv,mv,hfin.1⟩
end
section
open Go.RowKit
attribute [local go_sem ↓] Go.wp_at_zero Go.wp_at_succ
theorem Tryz.infoBool:(Tryz.prog.info? 4).map (fun i=>(i.zero,i.size,i.bytes))=some (some (.bool false),1,1):=by kernel_rfl
def QeI (l:List Bool):List Value:=l.map Value.bool
theorem Qnf (l:List Bool) (b:Bool):QeI l++[.bool b]=QeI (l++[b]):=by simp [QeI]
def QeE (sb:Nat) (kv:Value) (now next count:Nat):Array Value:=#[.pointer (some ⟨sb,0,none⟩),kv,.int .i64 (now:Int),.int .i64 (next:Int),.int .i64 (count:Int)]
def kO (late:Bool):Obj→Bool
 | .cells _ t _=>t == 210 || (t == 4 && late)
 | _=>false
def PK (B xb k:Nat) (o:Obj):Prop:=B≤k∧kO (decide (xb+7≤k)) o=true
def PMc (B xb k:Nat) (o:Obj):Prop:=B≤k∧(kO (decide (xb+7≤k)) o || stO o)=true
theorem PMc.st {B xb k:Nat} {o:Obj} (h:PSt B k o):PMc B xb k o:=⟨h.1,by rw [h.2,Bool.or_true]⟩
theorem PMc.k {B xb k:Nat} {o:Obj} (h:PK B xb k o):PMc B xb k o:=⟨h.1,by rw [h.2,Bool.true_or]⟩
theorem PK.not {B xb k:Nat} {cs:Array Value} {t:TypeId} {f:Nat×Nat} (h1:t≠210) (h2:t≠4):¬ PK B xb k (.cells cs t f):=fun h=>by
 have:=h.2
 unfold kO at this
 simp at this
 rcases this with h | h
 ·exact h1 h
 ·exact h2 h.1
theorem PMc.not {B xb k:Nat} {cs:Array Value} {t:TypeId} {f:Nat×Nat} (h1:t≠210) (h2:t≠4) (h3:t≠323) (h4:t≠76):¬ PMc B xb k (.cells cs t f):=fun h=>by
 have:=h.2
 unfold kO stO at this
 simp at this
 rcases this with (h | h) | (h | h)
 ·exact h1 h
 ·exact h2 h.1
 ·exact h3 h
 ·exact h4 h
theorem SlT.pm {B xb:Nat} {w w':World} {v:Value} {zs:List (List UInt8)} (h:SlT w v zs) (hf:Fr (PMc B xb) w w'):SlT w' v zs:=h.fr hf (fun _ _=>PMc.not (by decide) (by decide) (by decide) (by decide))
structure MI (w:World) (B xb sb:Nat) (M:Msg) (m:MS) (count:Nat) (kv:Value):Prop where
 bx:B≤xb
 blk:w.heap[xb]?=some (.cells (QeE sb kv m.now m.next count) 210)
 st:SAt w B sb M m.st
 stack:w.ownsRow (xb+7) 4 1 kv m.stack.length (QeI m.stack)
 sl:m.stack.length≤8
 nw:m.now≤400
 nx:m.next≤count
 cl:count≤400
 kz:xb+7≤w.heap.size
def MAt (w:World) (B xb sb:Nat) (M:Msg) (m:MS) (count:Nat):Prop:=∃ kv,MI w B xb sb M m count kv
theorem MI.below {w w':World} {B xb sb:Nat} {M:Msg} {m:MS} {count:Nat} {kv:Value} (h:MI w B xb sb M m count kv) (hb:Below w.heap.size w w'):MI w' B xb sb M m count kv:=
 ⟨h.bx,Qal h.blk hb,h.st.below hb,Qbf (P:=fun _ _=>False) h.stack (Fr.of_below hb) (fun _ _ h=>h),h.sl,h.nw,h.nx,h.cl,Nat.le_trans h.kz hb.size⟩
theorem MAt.below {w w':World} {B xb sb:Nat} {M:Msg} {m:MS} {count:Nat} (h:MAt w B xb sb M m count) (hb:Below w.heap.size w w'):MAt w' B xb sb M m count:=by
 obtain ⟨kv,h⟩:=h;exact ⟨kv,h.below hb⟩
theorem MI.st' {w w':World} {B xb sb:Nat} {M:Msg} {m:MS} {count:Nat} {kv:Value} (h:MI w B xb sb M m count kv) {s:SS} (hs:SAt w' B sb M s) (hf:Fr (PSt B) w w'):MI w' B xb sb M (stL m s) count kv:=
 ⟨h.bx,hf.block _ _ h.blk (PSt.not (by decide) (by decide)),hs,Qbf h.stack hf (fun _ _=>PSt.not (by decide) (by decide)),h.sl,h.nw,h.nx,h.cl,Nat.le_trans h.kz hf.size⟩
theorem SAt.pk {w w':World} {B xb sb:Nat} {M:Msg} {s:SS} (h:SAt w B sb M s) (hf:Fr (PK B xb) w w'):SAt w' B sb M s:=by
 obtain ⟨hv,mb,tv,mv,h⟩:=h
 exact ⟨hv,mb,tv,mv,h.fr hf (fun _ _=>PK.not (by decide) (by decide)) (fun _ _=>PK.not (by decide) (by decide)) (fun _ _=>PK.not (by decide) (by decide)) (fun _ _=>PK.not (by decide) (by decide)) (fun _ _ _ h=>Bool.false_ne_true h.2) (fun _ h'=>by have:=h'.1;have:=h.b1;omega)⟩
theorem MI.set {w:World} {B xb sb:Nat} {M:Msg} {m:MS} {count:Nat} {kv:Value} (h:MI w B xb sb M m count kv) (o:Nat) (v:Value) (m':MS) (kv':Value) (hc:(QeE sb kv m.now m.next count).setIfInBounds o v=QeE sb kv' m'.now m'.next count) (hs:m'.st=m.st) (hk:(w.setCell ⟨xb,o,none⟩ v).ownsRow (xb+7) 4 1 kv' m'.stack.length (QeI m'.stack)) (hl:m'.stack.length≤8) (hn:m'.now≤400) (hx:m'.next≤count):MI (w.setCell ⟨xb,o,none⟩ v) B xb sb M m' count kv'∧Fr (PK B xb) w (w.setCell ⟨xb,o,none⟩ v):=by
 have hf:Fr (PK B xb) w (w.setCell ⟨xb,o,none⟩ v):=(Fr.refl _ w).set h.blk ⟨h.bx,rfl⟩ o v
 refine ⟨⟨h.bx,?_,?_,hk,hl,hn,hx,h.cl,Nat.le_trans h.kz hf.size⟩,hf⟩
 ·rw [← hc];exact Qah _ _ _ _ _ _ h.blk
 ·rw [hs];exact h.st.pk hf
theorem MI.row {w:World} {B xb sb:Nat} {M:Msg} {m:MS} {count:Nat} {kv:Value} (h:MI w B xb sb M m count kv):kv.ownBlock≠some xb:=fun e=>by
 obtain ⟨_,cs,hcs⟩:=QbR h.stack xb _ e h.blk
 injection hcs with e1 e2
 exact absurd e2 (by decide)
theorem Qqu {w:World} {base:Nat} {e:TypeId} {g n c:Nat} {xs:List Value} (h:w.ownsRow base e 1 (.slice (some ⟨g,0,none⟩) (n+1) c) (n+1) xs):w.ownsRow base e 1 (.slice (some ⟨g,0,none⟩) n c) n xs.dropLast:=by
 obtain ⟨h1,h2⟩:=h
 rcases h2 with ⟨h2,_⟩ | ⟨g',cap,cur,hv,hg,hh,hc,hm,hs,ht⟩
 ·injection h2 with h2;cases h2
 ·injection hv with hv1 hv2 hv3
  refine ⟨by rw [List.length_dropLast];omega,Or.inr ⟨g',cap,cur,?_,hg,hh,by omega,hm,hs,?_⟩⟩
  ·rw [hv1,hv3]
  ·rw [← ht,List.dropLast_eq_take,List.length_take,List.take_take]
   congr 1
   have:cur.toList.length=cap*1:=by simpa using hs
   omega
theorem Qov (l:List Bool):(QeI l).dropLast=QeI l.dropLast:=by simp [QeI,List.map_dropLast]
def QaP (r:Except FZ MS) (B xb sb:Nat) (M:Msg) (count:Nat) (w:World) (e:Ending) (w':World):Prop:=
 Fr (PMc B xb) w w'∧
 match r with
 | .ok m=>e=.returned (.tuple #[])∧MAt w' B xb sb M m count
 | .error f=>Qd9 f w e w'
theorem QaP.ok {r:Except FZ MS} {B xb sb:Nat} {M:Msg} {count:Nat} {m:MS} {w w':World} (h:r=.ok m) (hf:Fr (PMc B xb) w w') (hm:MAt w' B xb sb M m count):QaP r B xb sb M count w (.returned (.tuple #[])) w':=by
 subst h;exact ⟨hf,rfl,hm⟩
theorem QaP.err {r:Except FZ MS} {B xb sb:Nat} {M:Msg} {count:Nat} {f:FZ} {e:Ending} {w w':World} (h:r=.error f) (hf:Fr (PMc B xb) w w') (hm:Qd9 f w e w'):QaP r B xb sb M count w e w':=by
 subst h;exact ⟨hf,hm⟩
theorem QaP.cases {r:Except FZ MS} {B xb sb:Nat} {M:Msg} {count:Nat} {w w':World} {e:Ending} (h:QaP r B xb sb M count w e w'):Fr (PMc B xb) w w'∧((∃ m,r=.ok m∧e=.returned (.tuple #[])∧MAt w' B xb sb M m count)∨∃ f,r=.error f∧Qd9 f w e w'):=by
 obtain ⟨hf,h⟩:=h
 cases r with
 | ok m=>exact ⟨hf,Or.inl ⟨m,rfl,h⟩⟩
 | error f=>exact ⟨hf,Or.inr ⟨f,rfl,h⟩⟩
theorem Qd9.from {f:FZ} {w u:World} {e:Ending} {w':World} (h:Qd9 f w e w') (hz:u.heap.size≤w.heap.size):Qd9 f u e w':=by
 obtain ⟨b,h1,h2,h3⟩:=h;exact ⟨b,by omega,h2,h3⟩
theorem QaP.from {r:Except FZ MS} {B xb sb:Nat} {M:Msg} {count:Nat} {u w w':World} {e:Ending} (h:QaP r B xb sb M count w e w') (hf:Fr (PMc B xb) u w):QaP r B xb sb M count u e w':=by
 obtain ⟨h1,h⟩:=h
 refine ⟨hf.trans h1,?_⟩
 cases r with
 | ok m=>exact h
 | error f=>exact h.from hf.size
theorem Qg2 (er at_:Int) (w:World):Qd9 (er,at_) w (.panicked [{ v:=.iface 140 (.pointer (some ⟨w.heap.size,0,none⟩)),recovered:=false }]) (w.alloc (.cells #[.int .i64 er,.int .i64 at_] 145)):=
 ⟨w.heap.size,Nat.le_refl _,rfl,Qay _ _⟩
theorem QbO (xb:Nat) (w:World):Calls Tryz.prog 199 #[.pointer (some ⟨xb,0,none⟩),.bool true] w fun e w'=>e=.returned (.tuple #[])∧w'=w:=by
 go_enter Tryz.func199,Tryz.ntmps199
 go_wp2
 go_end0
 exact ⟨rfl,rfl⟩
theorem Qg8 (xb:Nat) (now:Int) (w:World) (hc:w.cell? ⟨xb,2,none⟩=some (.int .i64 now)):Calls Tryz.prog 199 #[.pointer (some ⟨xb,0,none⟩),.bool false] w fun e w'=>e=.panicked [{ v:=.iface 140 (.pointer (some ⟨w.heap.size,0,none⟩)),recovered:=false }]∧w'=w.alloc (.cells #[.int .i64 12,.int .i64 now] 145):=by
 go_enter Tryz.func199,Tryz.ntmps199
 go_wp2_with (go_at_call 118;refine (QaB _ _ _).mono ?_;rintro e w3 ⟨rfl,rfl⟩)
 exact ⟨rfl,rfl,rfl⟩
end
section
open Go.RowKit
attribute [local go_sem ↓] Go.wp_at_zero Go.wp_at_succ
def ActsV (w:World) (B:Nat) (v:Value) (l:List (Int×List UInt8)):Prop:=
 w.ownsRow B 76 2 v l.length (QbN l)∧(l=[]→v=.slice none 0 0)
theorem Qpa (w:World):Calls Tryz.prog 117 #[] w fun e w'=>∃ v,e=.returned v∧ActsV w' w.heap.size v [(1,[])]∧Below w.heap.size w w':=by
 go_enter Tryz.func117,Tryz.ntmps117
 go_wp2
 go_ret
 refine ⟨_,rfl,⟨?_,fun h=>by cases h⟩,(Below.refl _ _).alloc (Nat.le_refl _) _⟩
 exact World.ownsRow_lit (e:=76) (size:=2) w #[.int .i64 1,.string (Qad [])] 1 (Nat.le_refl _) (by unfold maxLen;omega) rfl
theorem Quk (W:World):(binOp .eql 33 (.slice none 0 0) (.slice none 0 0)).run Tryz.prog W=.ok (.bool true) W:=by kernel_rfl
theorem QsE (W:World) (a:Addr) (n c:Nat):(binOp .eql 33 (.slice (some a) n c) (.slice none 0 0)).run Tryz.prog W=.ok (.bool false) W:=by kernel_rfl
theorem Qqy (l:List (Int×List UInt8)):∀ u∈QbN l,u.oneCell'=true:=by
 intro u hu
 unfold QbN at hu
 obtain ⟨a,_,ha⟩:=List.mem_flatMap.1 hu
 simp at ha
 rcases ha with rfl | rfl <;> rfl
theorem Qm4 (base:Nat) (met:List (Int×List UInt8)) (mv:Value) (w:World) (ho:w.ownsRow base 76 2 mv met.length (QbN met)) (hn:met=[]→mv=.slice none 0 0) (hl:met.length≤6) :
 Calls Tryz.prog 278 #[mv] w fun e w'=>∃ v,e=.returned v∧ActsV w' w.heap.size v met∧Below w.heap.size w w':=by
 obtain ⟨i0,hi,hz0,hz1,hz2⟩:=info_parts Tryz.infoAction
 have q1:=Quk
 have q2:=QsE
 by_cases h0:met=[]
 ·subst h0
  have hmv:=hn rfl
  subst hmv
  go_enter Tryz.func278,Tryz.ntmps278
  go_wp2
  go_ret
  exact ⟨_,rfl,⟨World.ownsRow_nil _ _ _ _,fun _=>rfl⟩,Below.refl _ _⟩
 ·have hpos:=List.length_pos_iff.2 h0
  obtain ⟨g,c,hv,hbg,hgl,hcells⟩:=QdB ho hpos
  subst hv
  have HC:=Qab hcells
  clear hcells ho hn
  go_enter Tryz.func278,Tryz.ntmps278
  have HN:Hid (∀ j u,(QbN met)[j]?=some u→(w.alloc (.cells #[] 76)).cell? ((⟨g,0,none⟩:Addr).add j)=some u):=fun j u hj=>by
   rw [Qcs,World.cell?_of_block (a:=⟨g,j,none⟩) (w:=w) (Below.heap_alloc _ _ _ hgl)]
   exact HC.out j u hj
  go_wp2_with (at_builtin;refine wpList_append_own _ rfl _ _ 33 rfl w.heap.size 76 i0 _ 2 24 Tryz.underlying33 hi hz0 hz1 hz2 rfl (by decide) _ _ _ rfl (World.ownsRow_made w #[] 0 (Nat.le_refl _) (Nat.zero_le _) rfl) ⟨g,0,none⟩ met.length c (QbN met) rfl (Qki met) HN.out (Qqy met) (by unfold maxLen;omega) (by omega) (by simp) ?_;intro v5 w5 ho5 hg5 _;obtain ⟨a5,k5,hv5⟩:=QaL ho5;subst hv5;have HO5:=Qab ho5;have HB5:=Qab (Qe6 ((Below.refl _ _).alloc (Nat.le_refl _) _) hg5 (by simp) (fun k hk=>((World.ownsRow_made (e:=76) (size:=2) w #[] 0 (Nat.le_refl _) (Nat.zero_le _) rfl).lt k hk).1));clear ho5 hg5)
  go_ret
  refine ⟨_,rfl,⟨?_,fun h=>absurd h h0⟩,HB5.out⟩
  have:=HO5.out
  rw [Nat.zero_add,List.nil_append] at this
  exact this
theorem Qtd (B sb:Nat) (M:Msg) (s:SS) (disc:Bool) (w:World) (h:SAt w B sb M s) (hd:disc=s.disc) :
 Calls Tryz.prog 200 #[.pointer (some ⟨sb,7,none⟩),.bool disc] w fun e w'=>∃ v,e=.returned v∧ActsV w' w.heap.size v (Qu5 s)∧Below w.heap.size w w':=by
 obtain ⟨hv,mb,tv,mv,hSI⟩:=h
 have c7:w.cell? ⟨sb,7,none⟩=some mv:=hSI.cell 7
 have hn:=hSI.mn
 have ho:=hSI.met
 have hm6:=hSI.bd.met
 obtain ⟨la,lc,hll⟩:=QaL ho
 subst hll
 have HR:Hid (Qu5 s=if s.met=[]∧s.disc=false then [(1,[])] else s.met):=rfl
 clear hSI
 by_cases h0:s.met=[]∧s.disc=false
 ·rw [if_pos h0] at HR
  rw [h0.2] at hd
  subst hd
  have hl0:((s.met.length:Int) == 0)=true:=by rw [h0.1];rfl
  have hl1:s.met.length=0:=by rw [h0.1];rfl
  go_enter Tryz.func200,Tryz.ntmps200
  go_wp2_with (go_at_call 117;refine (Qpa _).mono ?_;rintro e w1 ⟨v,rfl,hv1,hb1⟩;obtain ⟨a5,k5,hv5⟩:=QaL hv1.1;subst hv5;have HV:=Qab hv1;have HB:=Qab hb1;clear hv1 hb1)
  go_ret
  exact ⟨_,rfl,by rw [HR.out];exact HV.out,HB.out⟩
 ·rw [if_neg h0] at HR
  have HC:=Qab (Qm4 B s.met (.slice la s.met.length lc) w ho hn hm6)
  by_cases hl:s.met=[]
  ·have hds:s.disc=true:=by cases hh:s.disc with | true=>rfl | false=>exact absurd ⟨hl,hh⟩ h0
   rw [hds] at hd
   subst hd
   have hl0:((s.met.length:Int) == 0)=true:=by rw [hl];rfl
   clear h0 hn hl
   go_enter Tryz.func200,Tryz.ntmps200
   go_wp2_with (go_at_call 278;refine HC.out.mono ?_;rintro e w1 ⟨v,rfl,hv1,hb1⟩;obtain ⟨a5,k5,hv5⟩:=QaL hv1.1;subst hv5;have HV:=Qab hv1;have HB:=Qab hb1;clear hv1 hb1)
   go_ret
   exact ⟨_,rfl,by rw [HR.out];exact HV.out,HB.out⟩
  ·have hl0:((s.met.length:Int) == 0)=false:=by have:=List.length_pos_iff.2 hl;simp;omega
   clear h0 hn
   go_enter Tryz.func200,Tryz.ntmps200
   go_wp2_with (go_at_call 278;refine HC.out.mono ?_;rintro e w1 ⟨v,rfl,hv1,hb1⟩;obtain ⟨a5,k5,hv5⟩:=QaL hv1.1;subst hv5;have HV:=Qab hv1;have HB:=Qab hb1;clear hv1 hb1)
   go_ret
   exact ⟨_,rfl,by rw [HR.out];exact HV.out,HB.out⟩
end
section
open Go.RowKit
attribute [local go_sem ↓] Go.wp_at_zero Go.wp_at_succ
theorem Qn3 (B sb:Nat) (M:Msg) (s:SS) (w:World) (h:SAt w B sb M s) :
 Calls Tryz.prog 122 #[.pointer (some ⟨sb,0,none⟩)] w fun e w'=>∃ v,e=.returned v∧ActsV w' w.heap.size v (Qu5 s)∧Below w.heap.size w w':=by
 have HS:=Qab (h.below (Qaz (Below.refl _ _)))
 obtain ⟨hv,mb,tv,mv,hSI⟩:=h
 have c8:w.cell? ⟨sb,8,none⟩=some (.bool s.disc):=hSI.cell 8
 have hsl:=hSI.lt
 clear hSI
 go_enter Tryz.func122,Tryz.ntmps122
 go_wp2_with fail
 go_region_held3 (fun w'=>w'.cell? ⟨sb,8,none⟩=some (.bool s.disc)) (first | go_keep | exact d8) (first | (go_at_call 200;refine (Qtd B sb M s s.disc w.drew HS.out rfl).mono ?_;rintro e w1 ⟨v,rfl,hv1,hb1⟩;have hb2:=Qa4 hb1;have d8:w1.cell? ⟨sb,8,none⟩=some (.bool s.disc):=(hb2.cell (p:=⟨sb,8,none⟩) hsl).trans c8;obtain ⟨a5,k5,hv5⟩:=QaL hv1.1;subst hv5;have HV:=Qab hv1;have HB:=Qab hb2;clear hv1 hb1 hb2;skip))
 all_goals go_wp2
 all_goals go_ret
 all_goals exact ⟨_,rfl,HV.out,HB.out⟩
theorem QoG (p q:Addr) (w:World) :
 CallsD Tryz.prog 116 #[.pointer (some p),.pointer (some q)] .returning w fun e u' w'=>e=.returned (.tuple #[])∧u'=.returning∧w'=w:=by
 refine callsD_of_wpS Tryz.func116 rfl fun c₀ cs hu=>?_
 apply wpS_seq
 apply wpS_region
 simp [wpOpsS,go_sem,recoverD,hu,Tryz.ntmps116,Exit.thenS]
 refine (Qj3 w).mono ?_
 rintro e w' ⟨rfl,rfl⟩
 apply wpS_seq
 apply wpS_region
 simp [wpOpsS,go_sem,Exit.thenS]
 refine wpS_cond (t:=false) (by simp [Act.eval,Array.replicate]) ?_
 simp only [Bool.false_eq_true,if_false]
 refine wpS_of_wp (wp_skip ?_)
 cases c₀
 simp_all [bodyPostS,results,Tryz.results116]
theorem QeL (P Q:Nat) (x1 x3:Value) (a:Addr) (older:List PanicEntry) (w:World) (hc1:w.cell? ⟨P,0,none⟩=some x1) (hc3:w.cell? ⟨Q,0,none⟩=some x3) (hz1:∀ j,w.frozen? ⟨P,j,none⟩=false) (hz2:∀ j,w.frozen? ⟨Q,j,none⟩=false) (hPQ:P≠Q) :
 CallsD Tryz.prog 116 #[.pointer (some ⟨P,0,none⟩),.pointer (some ⟨Q,0,none⟩)] (.panicking ({ v:=.iface 140 (.pointer (some a)),recovered:=false } :: older)) w fun e u' w'=>
  e=.returned (.tuple #[])∧u'=.panicking ({ v:=.iface 140 (.pointer (some a)),recovered:=true } :: older)∧∃ v w1,ActsV w1 w.heap.size v [(1,[])]∧Below w.heap.size w w1∧w'=(w1.setCell ⟨P,0,none⟩ v).setCell ⟨Q,0,none⟩ (.iface 140 (.pointer (some a))):=by
 refine callsD_of_wpS Tryz.func116 rfl fun c₀ cs hu=>?_
 apply wpS_seq
 apply wpS_region
 simp [wpOpsS,go_sem,recoverD,hu,Tryz.ntmps116,Exit.thenS]
 refine (Qhr a w).mono ?_
 rintro e w' ⟨rfl,rfl⟩
 apply wpS_seq
 apply wpS_region
 simp [wpOpsS,go_sem,Exit.thenS]
 refine wpS_cond (t:=true) (by simp [Act.eval,Array.replicate]) ?_
 simp only [if_true]
 apply wpS_region
 simp [wpOpsS,go_sem,Exit.thenS]
 refine (Qpa _).mono ?_
 rintro e w1 ⟨v,rfl,hv1,hb1⟩
 obtain ⟨a5,k5,hv5⟩:=QaL hv1.1
 subst hv5
 have d1:w1.cell? ⟨P,0,none⟩=some x1:=(hb1.cell (p:=⟨P,0,none⟩) (Qax hc1)).trans hc1
 have d3:w1.cell? ⟨Q,0,none⟩=some x3:=(hb1.cell (p:=⟨Q,0,none⟩) (Qax hc3)).trans hc3
 have z1:∀ j,w1.frozen? ⟨P,j,none⟩=false:=fun j=>(hb1.frozen (p:=⟨P,j,none⟩) (show P < _ from Qax (a:=⟨P,0,none⟩) hc1)).trans (hz1 j)
 have z2:∀ j,w1.frozen? ⟨Q,j,none⟩=false:=fun j=>(hb1.frozen (p:=⟨Q,j,none⟩) (show Q < _ from Qax (a:=⟨Q,0,none⟩) hc3)).trans (hz2 j)
 have hQP:Q≠P:=Ne.symm hPQ
 simp [wpOpsS,go_sem,d1,d3,z1,z2,hPQ,hQP,bodyPostS,results,Tryz.results116]
 exact ⟨_,w1,hv1,hb1,rfl⟩
end
end Go.Proofs.YtbiclelojbfnbaaGreatDoor
