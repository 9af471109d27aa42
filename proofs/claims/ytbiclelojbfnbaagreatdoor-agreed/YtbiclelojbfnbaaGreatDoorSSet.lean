import Derived.Lib.ItoaLen
import Derived.Test.YtbiclelojbfnbaaGreatDoorZSAct
namespace Go.Proofs.YtbiclelojbfnbaaGreatDoor
set_option linter.unusedVariables false
set_option linter.unusedSimpArgs false
set_option maxRecDepth 100000
set_option maxHeartbeats 4000000
open Go.RowKit
attribute [local go_sem ↓] Go.wp_at_zero Go.wp_at_succ
theorem heap_setObj_other {w:World} {m k:Nat} {o:Obj} (h:k≠m):({ w with heap:=w.heap.setIfInBounds m o }:World).heap[k]?=w.heap[k]?:=by
 show (w.heap.setIfInBounds m o)[k]?=_
 rw [Array.getElem?_setIfInBounds_ne (Ne.symm h)]
theorem heap_setObj_same {w:World} {m:Nat} {o o':Obj} (h:w.heap[m]?=some o'):({ w with heap:=w.heap.setIfInBounds m o }:World).heap[m]?=some o:=by
 show (w.heap.setIfInBounds m o)[m]?=_
 exact (MapKept.heap_set h).1
theorem SI.setMap {w:World} {B sb:Nat} {M:Msg} {s:SS} {hv:Value} {mb:Nat} {tv mv:Value} (h:SI w B sb M s hv mb tv mv) (vals':List UInt8→Option (List UInt8)) (es':Array MapEntry) (c':Nat) (hu:MapU es' (valF ⟨s.vs,vals',s.told,s.met,s.disc⟩)) (hb:∀ x t,vals' x=some t→t.length≤48) :
  SI { w with heap:=w.heap.setIfInBounds mb (.map es' c') } B sb M ⟨s.vs,vals',s.told,s.met,s.disc⟩ hv mb tv mv∧Fr (PSt B) w { w with heap:=w.heap.setIfInBounds mb (.map es' c') }:=by
 obtain ⟨es,c,hm,hu0⟩:=h.mp
 have hne:∀ (k:Nat) (o:Obj),w.heap[k]?=some o→(∀ cs t f,o=.cells cs t f→({ w with heap:=w.heap.setIfInBounds mb (.map es' c') }:World).heap[k]?=some o):=fun k o hk cs t f ho=>by
  rw [heap_setObj_other (fun e=>by subst e;rw [hm] at hk;cases hk;cases ho)];exact hk
 obtain ⟨m,h7⟩:=h.m1
 refine ⟨⟨h.bs,h.bm,h.b1,⟨m,?_⟩,hne _ _ h.blk _ _ _ rfl,?_,⟨es',c',heap_setObj_same hm,hu⟩,?_,?_,h.mn,⟨h.bd.fr,h.bd.to,h.bd.hl,h.bd.hd,h.bd.told,h.bd.tl,hb,h.bd.met⟩⟩,⟨rfl,rfl,rfl,by simp,fun k o hk hn=>?_⟩⟩
 ·have:(1:Nat)≠mb:=by have:=h.b1;have:=h.bm;omega
  rw [World.cell?_of_block (a:=⟨1,0,none⟩) (w:=w) (heap_setObj_other this)];exact h7
 ·rcases h.hd with h' | ⟨g,c,cs,hv',hb,hc⟩
  ·exact Or.inl h'
  ·exact Or.inr ⟨g,c,cs,hv',hne _ _ hb _ _ _ rfl,hc⟩
 ·rcases h.told with h' | ⟨g,c,hv',cs,hb,hc⟩
  ·exact Or.inl h'
  ·exact Or.inr ⟨g,c,hv',cs,hne _ _ hb _ _ _ rfl,hc⟩
 ·obtain ⟨h1,h2⟩:=h.met
  refine ⟨h1,?_⟩
  rcases h2 with h2 | ⟨g,cap,cur,hv',hg,hh,r⟩
  ·exact Or.inl h2
  ·exact Or.inr ⟨g,cap,cur,hv',hg,hne _ _ hh _ _ _ rfl,r⟩
 ·rw [heap_setObj_other (fun e=>by
   subst e
   rw [hm] at hk
   cases hk
   exact hn ⟨h.bm,rfl⟩)]
  exact hk
theorem capA_any (x:List UInt8) (w:World) (h:x.length≤1000000):Calls Tryz.prog 333 #[.string (strA x)] w fun e w'=>e=.returned (.string (strA (capL x)))∧Below w.heap.size w w':=
 capital_any (strA x) w (by rw [strA_size];omega)
theorem setS_eq (s:SS) (name:List UInt8) (tag:Int) (said:List UInt8):setS s name tag said=⟨s.vs,fun x=>if x=name then some ((turnL tag (expL s said)).take 48) else s.vals x,s.told,s.met,s.disc⟩:=rfl
theorem dec_len:∀ n:Nat,n≤1000000→(Lib.decDigits n).length≤1000000:=fun n hn=>by
 rw [Lib.decDigits_length]
 have:=Lib.nDigits_le20 n (by omega)
 omega
theorem set_st (B sb:Nat) (M:Msg) (s:SS) (name:List UInt8) (tag:Int) (said:List UInt8) (w:World) (h:SAt w B sb M s) (ht:Tab w) (hl:said.length≤1000000) :
  Calls Tryz.prog 277 #[.pointer (some ⟨sb,0,none⟩),.string (strA name),.int .i64 tag,.string (strA said)] w (StPost (.ok (setS s name tag said)) B sb M w):=by
 have HS:=hide h
 have HTAB:=hide ht
 have HSE:=hide (setS_eq s name tag said)
 have e1:=intEq tag 1
 have e2:=intEq tag 2
 have e3:=intEq tag 3
 have hel:=expL_len s said 1000000 hl (by decide)
 go_enter Tryz.func277,Tryz.ntmps277
 go_wp2_with fail
 refine (text_any B sb M s said w h hl).mono ?_
 rintro e w1 ⟨rfl,hb1⟩
 obtain ⟨x,hx⟩:∃ x,expL s said=x:=⟨_,rfl⟩
 rw [hx] at HSE hel
 rw [hx]
 have HB1:=hide hb1
 clear hx hb1 h ht
 by_cases t1:tag=1
 ·rw [decide_eq_true t1] at e1
  subst t1
  go_wp2_with fail
  refine (smallA_any x w1 hel).mono ?_
  rintro e w2 ⟨rfl,hb2⟩
  have HB2:=hide (HB1.out.trans (hb2.mono HB1.out.size))
  obtain ⟨y,hy⟩:∃ y,smallL x=y:=⟨_,rfl⟩
  have hyl:y.length≤1000000:=by rw [← hy];simp [smallL];omega
  rw [show turnL 1 x=y from hy] at HSE
  rw [hy]
  clear hy hb2
  go_wp2_with fail
  obtain ⟨z,hz⟩:∃ z,y.take 48=z:=⟨_,rfl⟩
  have hz48:z.length≤48:=by rw [← hz,List.length_take];omega
  obtain ⟨q,hq0⟩:∃ q:Nat,q=min y.length 48:=⟨_,rfl⟩
  have hq:min (y.length:Int) 48=(q:Int):=by omega
  have hq1:(q:Int)≤(y.length:Int):=by omega
  have hex:(strA y).extract 0 q=strA z:=by
   rw [extract_takeS,← hz,hq0]
   rcases Nat.le_total y.length 48 with hh | hh
   ·rw [Nat.min_eq_left hh,List.take_of_length_le (Nat.le_refl _),List.take_of_length_le hh]
   ·rw [Nat.min_eq_right hh]
  have hyz:=strA_size y
  obtain ⟨hv,mb,tv,mv,hSI⟩:=HS.out.below (below_drew1 HB2.out)
  have HSI:=hide hSI
  obtain ⟨es,mc,hm,hu⟩:=hSI.mp
  have k5:w2.cell? ⟨sb,5,none⟩=some (.map (some mb)):=hSI.cell 5
  rw [hz] at HSE
  obtain ⟨es',c',hput,hu'⟩:=mapU_put (T:=319) (g:=valF ⟨s.vs,fun x=>if x=name then some z else s.vals x,s.told,s.met,s.disc⟩) Tryz.underlying319 Tryz.underlying9 hm hu name (.agg #[.string (strA z)]) (by unfold valF;simp) (fun x hx=>by unfold valF;simp [hx])
  have HU:=hide hu'
  have HBD:=hide hSI.bd
  have hnm:sb≠mb:=fun e=>by have h1:=hSI.blk;rw [e,hm] at h1;cases h1
  have HK5:Hid (({ w2.drew with heap:=w2.drew.heap.setIfInBounds mb (.map es' c') }:World).cell? ⟨sb,5,none⟩=some (.map (some mb))):=(World.cell?_of_block (a:=⟨sb,5,none⟩) (w:=w2) (heap_setObj_other (w:=w2.drew) hnm)).trans k5
  clear hSI hm hu hu' hz hq0
  go_region_held3 (fun w'=>w'.cell? ⟨sb,5,none⟩=some (.map (some mb))) (first | go_keep | exact HK5.out) (fail)
  all_goals go_wp2
  all_goals go_end0
  all_goals have hfin:=HSI.out.setMap _ es' c' HU.out (fun a t hat=>by
   split at hat
   ·cases hat;exact hz48
   ·exact HBD.out.vals a t hat)
  all_goals refine ⟨(Fr.of_below (below_drew1 HB2.out)).trans hfin.2,?_⟩
  all_goals rw [HSE.out]
  all_goals exact ⟨rfl,hv,mb,tv,mv,hfin.1⟩
 rw [decide_eq_false t1] at e1
 by_cases t2:tag=2
 ·rw [decide_eq_true t2] at e2
  subst t2
  go_wp2_with fail
  refine (capA_any x w1 hel).mono ?_
  rintro e w2 ⟨rfl,hb2⟩
  have HB2:=hide (HB1.out.trans (hb2.mono HB1.out.size))
  obtain ⟨y,hy⟩:∃ y,capL x=y:=⟨_,rfl⟩
  have hyl:y.length≤1000000:=by rw [← hy];simp [capL];omega
  rw [show turnL 2 x=y from hy] at HSE
  rw [hy]
  clear hy hb2
  go_wp2_with fail
  obtain ⟨z,hz⟩:∃ z,y.take 48=z:=⟨_,rfl⟩
  have hz48:z.length≤48:=by rw [← hz,List.length_take];omega
  obtain ⟨q,hq0⟩:∃ q:Nat,q=min y.length 48:=⟨_,rfl⟩
  have hq:min (y.length:Int) 48=(q:Int):=by omega
  have hq1:(q:Int)≤(y.length:Int):=by omega
  have hex:(strA y).extract 0 q=strA z:=by
   rw [extract_takeS,← hz,hq0]
   rcases Nat.le_total y.length 48 with hh | hh
   ·rw [Nat.min_eq_left hh,List.take_of_length_le (Nat.le_refl _),List.take_of_length_le hh]
   ·rw [Nat.min_eq_right hh]
  have hyz:=strA_size y
  obtain ⟨hv,mb,tv,mv,hSI⟩:=HS.out.below (below_drew1 HB2.out)
  have HSI:=hide hSI
  obtain ⟨es,mc,hm,hu⟩:=hSI.mp
  have k5:w2.cell? ⟨sb,5,none⟩=some (.map (some mb)):=hSI.cell 5
  rw [hz] at HSE
  obtain ⟨es',c',hput,hu'⟩:=mapU_put (T:=319) (g:=valF ⟨s.vs,fun x=>if x=name then some z else s.vals x,s.told,s.met,s.disc⟩) Tryz.underlying319 Tryz.underlying9 hm hu name (.agg #[.string (strA z)]) (by unfold valF;simp) (fun x hx=>by unfold valF;simp [hx])
  have HU:=hide hu'
  have HBD:=hide hSI.bd
  have hnm:sb≠mb:=fun e=>by have h1:=hSI.blk;rw [e,hm] at h1;cases h1
  have HK5:Hid (({ w2.drew with heap:=w2.drew.heap.setIfInBounds mb (.map es' c') }:World).cell? ⟨sb,5,none⟩=some (.map (some mb))):=(World.cell?_of_block (a:=⟨sb,5,none⟩) (w:=w2) (heap_setObj_other (w:=w2.drew) hnm)).trans k5
  clear hSI hm hu hu' hz hq0
  go_region_held3 (fun w'=>w'.cell? ⟨sb,5,none⟩=some (.map (some mb))) (first | go_keep | exact HK5.out) (fail)
  all_goals go_wp2
  all_goals go_end0
  all_goals have hfin:=HSI.out.setMap _ es' c' HU.out (fun a t hat=>by
   split at hat
   ·cases hat;exact hz48
   ·exact HBD.out.vals a t hat)
  all_goals refine ⟨(Fr.of_below (below_drew1 HB2.out)).trans hfin.2,?_⟩
  all_goals rw [HSE.out]
  all_goals exact ⟨rfl,hv,mb,tv,mv,hfin.1⟩
 rw [decide_eq_false t2] at e2
 by_cases t3:tag=3
 ·rw [decide_eq_true t3] at e3
  subst t3
  have hxz:=strA_size x
  go_wp2_with fail
  refine (itoa_any x.length (by omega) w1 (HTAB.out.below HB1.out)).mono ?_
  rintro e w2 ⟨rfl,hb2⟩
  have HB2:=hide (HB1.out.trans (hb2.mono HB1.out.size))
  obtain ⟨y,hy⟩:∃ y,itoaL x.length=y:=⟨_,rfl⟩
  have hyl:y.length≤1000000:=by rw [← hy];exact dec_len _ hel
  rw [show turnL 3 x=y from hy] at HSE
  rw [hy]
  clear hy hb2
  go_wp2_with fail
  obtain ⟨z,hz⟩:∃ z,y.take 48=z:=⟨_,rfl⟩
  have hz48:z.length≤48:=by rw [← hz,List.length_take];omega
  obtain ⟨q,hq0⟩:∃ q:Nat,q=min y.length 48:=⟨_,rfl⟩
  have hq:min (y.length:Int) 48=(q:Int):=by omega
  have hq1:(q:Int)≤(y.length:Int):=by omega
  have hex:(strA y).extract 0 q=strA z:=by
   rw [extract_takeS,← hz,hq0]
   rcases Nat.le_total y.length 48 with hh | hh
   ·rw [Nat.min_eq_left hh,List.take_of_length_le (Nat.le_refl _),List.take_of_length_le hh]
   ·rw [Nat.min_eq_right hh]
  have hyz:=strA_size y
  obtain ⟨hv,mb,tv,mv,hSI⟩:=HS.out.below (below_drew1 HB2.out)
  have HSI:=hide hSI
  obtain ⟨es,mc,hm,hu⟩:=hSI.mp
  have k5:w2.cell? ⟨sb,5,none⟩=some (.map (some mb)):=hSI.cell 5
  rw [hz] at HSE
  obtain ⟨es',c',hput,hu'⟩:=mapU_put (T:=319) (g:=valF ⟨s.vs,fun x=>if x=name then some z else s.vals x,s.told,s.met,s.disc⟩) Tryz.underlying319 Tryz.underlying9 hm hu name (.agg #[.string (strA z)]) (by unfold valF;simp) (fun x hx=>by unfold valF;simp [hx])
  have HU:=hide hu'
  have HBD:=hide hSI.bd
  have hnm:sb≠mb:=fun e=>by have h1:=hSI.blk;rw [e,hm] at h1;cases h1
  have HK5:Hid (({ w2.drew with heap:=w2.drew.heap.setIfInBounds mb (.map es' c') }:World).cell? ⟨sb,5,none⟩=some (.map (some mb))):=(World.cell?_of_block (a:=⟨sb,5,none⟩) (w:=w2) (heap_setObj_other (w:=w2.drew) hnm)).trans k5
  clear hSI hm hu hu' hz hq0
  go_region_held3 (fun w'=>w'.cell? ⟨sb,5,none⟩=some (.map (some mb))) (first | go_keep | exact HK5.out) (fail)
  all_goals go_wp2
  all_goals go_end0
  all_goals have hfin:=HSI.out.setMap _ es' c' HU.out (fun a t hat=>by
   split at hat
   ·cases hat;exact hz48
   ·exact HBD.out.vals a t hat)
  all_goals refine ⟨(Fr.of_below (below_drew1 HB2.out)).trans hfin.2,?_⟩
  all_goals rw [HSE.out]
  all_goals exact ⟨rfl,hv,mb,tv,mv,hfin.1⟩
 rw [decide_eq_false t3] at e3
 rw [show turnL tag x=x by unfold turnL;rw [if_neg t1,if_neg t2,if_neg t3]] at HSE
 obtain ⟨y,hy⟩:∃ y,x=y:=⟨_,rfl⟩
 subst hy
 obtain ⟨w2,hw2⟩:∃ w2,w1=w2:=⟨_,rfl⟩
 subst hw2
 have HB2:=HB1
 have hyl:=hel
 clear t1 t2 t3
 go_wp2_with fail
 obtain ⟨z,hz⟩:∃ z,x.take 48=z:=⟨_,rfl⟩
 have hz48:z.length≤48:=by rw [← hz,List.length_take];omega
 obtain ⟨q,hq0⟩:∃ q:Nat,q=min x.length 48:=⟨_,rfl⟩
 have hq:min (x.length:Int) 48=(q:Int):=by omega
 have hq1:(q:Int)≤(x.length:Int):=by omega
 have hex:(strA x).extract 0 q=strA z:=by
  rw [extract_takeS,← hz,hq0]
  rcases Nat.le_total x.length 48 with hh | hh
  ·rw [Nat.min_eq_left hh,List.take_of_length_le (Nat.le_refl _),List.take_of_length_le hh]
  ·rw [Nat.min_eq_right hh]
 have hyz:=strA_size x
 obtain ⟨hv,mb,tv,mv,hSI⟩:=HS.out.below (below_drew1 HB2.out)
 have HSI:=hide hSI
 obtain ⟨es,mc,hm,hu⟩:=hSI.mp
 have k5:w1.cell? ⟨sb,5,none⟩=some (.map (some mb)):=hSI.cell 5
 rw [hz] at HSE
 obtain ⟨es',c',hput,hu'⟩:=mapU_put (T:=319) (g:=valF ⟨s.vs,fun x=>if x=name then some z else s.vals x,s.told,s.met,s.disc⟩) Tryz.underlying319 Tryz.underlying9 hm hu name (.agg #[.string (strA z)]) (by unfold valF;simp) (fun x hx=>by unfold valF;simp [hx])
 have HU:=hide hu'
 have HBD:=hide hSI.bd
 have hnm:sb≠mb:=fun e=>by have h1:=hSI.blk;rw [e,hm] at h1;cases h1
 have HK5:Hid (({ w1.drew with heap:=w1.drew.heap.setIfInBounds mb (.map es' c') }:World).cell? ⟨sb,5,none⟩=some (.map (some mb))):=(World.cell?_of_block (a:=⟨sb,5,none⟩) (w:=w1) (heap_setObj_other (w:=w1.drew) hnm)).trans k5
 clear hSI hm hu hu' hz hq0
 go_region_held3 (fun w'=>w'.cell? ⟨sb,5,none⟩=some (.map (some mb))) (first | go_keep | exact HK5.out) (fail)
 all_goals go_wp2
 all_goals go_end0
 all_goals have hfin:=HSI.out.setMap _ es' c' HU.out (fun a t hat=>by
  split at hat
  ·cases hat;exact hz48
  ·exact HBD.out.vals a t hat)
 all_goals refine ⟨(Fr.of_below (below_drew1 HB2.out)).trans hfin.2,?_⟩
 all_goals rw [HSE.out]
 all_goals exact ⟨rfl,hv,mb,tv,mv,hfin.1⟩
end Go.Proofs.YtbiclelojbfnbaaGreatDoor
