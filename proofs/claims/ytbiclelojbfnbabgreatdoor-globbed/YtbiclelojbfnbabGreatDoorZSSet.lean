import Derived.Lib.ItoaLen
import Derived.Test.YtbiclelojbfnbabGreatDoorAAdd
import Derived.Test.YtbiclelojbfnbabGreatDoorZSText
import Derived.Test.YtbiclelojbfnbabGreatDoorZWTab
namespace Go.Proofs.YtbiclelojbfnbabGreatDoor
set_option linter.unusedVariables false
set_option linter.unusedSimpArgs false
set_option maxRecDepth 100000
set_option maxHeartbeats 4000000
section
open Go.RowKit
attribute [local go_sem ↓] Go.wp_at_zero Go.wp_at_succ
def QdT (f:FZ) (w:World) (e:Ending) (w':World):Prop:=
 ∃ b,w.heap.size≤b∧e=.panicked [{ v:=.iface 76 (.pointer (some ⟨b,0,none⟩)),recovered:=false }]∧
  w'.heap[b]?=some (.cells #[.int .i64 f.1,.int .i64 f.2] 81)
def QlF (r:Except FZ SS) (B sb:Nat) (M:Msg) (w:World) (e:Ending) (w':World):Prop:=
 Fr (PSt B) w w'∧
 match r with
 | .ok s=>e=.returned (.tuple #[])∧SAt w' B sb M s
 | .error f=>QdT f w e w'
def Qt0 (s:SS) (kind:Int) (arg:List UInt8) (at_:Int):Except FZ SS:=
 if (addL s.met kind (expL s arg)).1=0 then .ok (QrF s (addL s.met kind (expL s arg)).2) else .error ((addL s.met kind (expL s arg)).1,at_)
theorem QsU (B sb:Nat) (M:Msg) (s:SS) (kind at_:Int) (arg:List UInt8) (w:World) (h:SAt w B sb M s) (hl:arg.length≤1000000) :
 Calls Tryz.prog 189 #[.pointer (some ⟨sb,0,none⟩),.int .i64 kind,.string (Qag arg),.int .i64 at_] w (QlF (Qt0 s kind arg at_) B sb M w):=by
 have HS:=Qaa h
 have hel:=Qku s arg 1000000 hl (by decide)
 have HR:Hid (Qt0 s kind arg at_=if (addL s.met kind (expL s arg)).1=0 then .ok (QrF s (addL s.met kind (expL s arg)).2) else .error ((addL s.met kind (expL s arg)).1,at_)):=rfl
 have HT:=Qaa (QjB B sb M s arg)
 have HA:=Qaa (QtL B sb M s kind (expL s arg))
 unfold QbV at HA
 generalize expL s arg=x at *
 obtain ⟨q,hq⟩:∃ q,addL s.met kind x=q:=⟨_,rfl⟩
 rw [hq] at HA HR
 obtain ⟨n,l⟩:=q
 clear hq h
 dsimp only at HA HR
 by_cases hn:n=0
 ·subst hn
  rw [if_pos rfl] at HR
  go_enter Tryz.func189,Tryz.ntmps189
  go_wp2_with fail
  go_region_with (first | (go_at_call 226;refine (HT.out w.drew (HS.out.below (Qar (Below.refl _ _))) hl).mono ?_;rintro e w1 ⟨rfl,hb1⟩;have HB1:=Qaa (QaS hb1);clear hb1;skip) | (go_at_call 229;refine (HA.out w1 (HS.out.below HB1.out) hel).mono ?_;rintro e w2 ⟨rfl,hs2,hf2⟩;have H2:=Qaa hs2;have HF2:=Qaa ((Fr.of_below HB1.out).trans hf2);clear hs2 hf2;skip))
  all_goals go_wp2
  all_goals go_end0
  all_goals rw [HR.out]
  all_goals exact ⟨HF2.out,rfl,H2.out⟩
 ·rw [if_neg hn] at HR
  have hn':(n != 0)=true:=by simp [hn]
  go_enter Tryz.func189,Tryz.ntmps189
  go_wp2_with fail
  go_region_with (first | (go_at_call 226;refine (HT.out w.drew (HS.out.below (Qar (Below.refl _ _))) hl).mono ?_;rintro e w1 ⟨rfl,hb1⟩;have HB1:=Qaa (QaS hb1);clear hb1;skip) | (go_at_call 229;refine (HA.out w1 (HS.out.below HB1.out) hel).mono ?_;rintro e w2 ⟨rfl,hs2,hf2⟩;have H2:=Qaa hs2;have HF2:=Qaa ((Fr.of_below HB1.out).trans hf2);clear hs2 hf2;skip))
  all_goals go_wp2_with (go_at_call 64;refine (Qau _ _ _).mono ?_;rintro e w3 ⟨rfl,rfl⟩)
  all_goals refine ⟨rfl,?_⟩
  all_goals rw [HR.out]
  all_goals exact ⟨HF2.out.alloc _,w2.heap.size,HF2.out.size,rfl,QaB _ _⟩
theorem Qpk (B sb:Nat) (M:Msg) (s:SS) (w:World) (h:SAt w B sb M s) :
 Calls Tryz.prog 137 #[.pointer (some ⟨sb,0,none⟩)] w (QlF (.ok (Qr4 s)) B sb M w):=by
 obtain ⟨hv,mb,tv,mv,hSI⟩:=h
 have c8:w.cell? ⟨sb,8,none⟩=some (.bool s.disc):=hSI.cell 8
 have f8:=hSI.frozen 8
 have HSI:=Qaa hSI
 clear hSI
 go_enter Tryz.func137,Tryz.ntmps137
 go_wp2
 go_end0
 have hf:Fr (fun k _=>k=sb) w (w.setCell ⟨sb,8,none⟩ (.bool true)):=(Fr.refl _ w).set HSI.out.blk rfl 8 _
 have hne:∀ (k:Nat) (o:Obj),w.heap[k]?=some o→(∀ cs,o≠.cells cs 227)→(w.setCell ⟨sb,8,none⟩ (.bool true)).heap[k]?=some o:=fun k o hk ho=>hf.block k o hk (fun e=>by
  subst e;rw [HSI.out.blk] at hk;cases hk;exact ho _ rfl)
 have h:=HSI.out
 obtain ⟨es,c,hm,hu⟩:=h.mp
 obtain ⟨m,h7⟩:=h.m1
 refine ⟨(Fr.refl _ w).set h.blk h.ps 8 _,rfl,hv,mb,tv,mv,h.bs,h.bm,h.b1,⟨m,?_⟩,?_,?_,⟨es,c,hne _ _ hm (fun cs e=>by cases e),hu⟩,?_,?_,h.mn,⟨h.bd.fr,h.bd.to,h.bd.hl,h.bd.hd,h.bd.told,h.bd.tl,h.bd.vals,h.bd.met⟩⟩
 ·have:(1:Nat)≠sb:=by have:=h.b1;have:=h.bs;omega
  rw [World.cell?_of_block (a:=⟨1,0,none⟩) (Below.heap_setCell _ _ _ _ this)];exact h7
 ·exact Qah _ _ _ _ _ _ h.blk
 ·rcases h.hd with h' | ⟨g,c,cs,hv',hb,hc⟩
  ·exact Or.inl h'
  ·exact Or.inr ⟨g,c,cs,hv',hne _ _ hb (fun cs e=>by injection e with e1 e2;exact absurd e2 (by decide)),hc⟩
 ·rcases h.told with h' | ⟨g,c,hv',cs,hb,hc⟩
  ·exact Or.inl h'
  ·exact Or.inr ⟨g,c,hv',cs,hne _ _ hb (fun cs e=>by injection e with e1 e2;exact absurd e2 (by decide)),hc⟩
 ·obtain ⟨h1,h2⟩:=h.met
  refine ⟨h1,?_⟩
  rcases h2 with h2 | ⟨g,cap,cur,hv',hg,hh,r⟩
  ·exact Or.inl h2
  ·exact Or.inr ⟨g,cap,cur,hv',hg,hne _ _ hh (fun cs e=>by injection e with e1 e2;exact absurd e2 (by decide)),r⟩
theorem Qtj (B sb:Nat) (M:Msg) (s:SS) (tag n:Int) (w:World) (h:SAt w B sb M s) :
 Calls Tryz.prog 188 #[.pointer (some ⟨sb,0,none⟩),.int .i64 tag,.int .i64 n] w fun e w'=>e=.returned (.bool (sizeB M tag n))∧w'=w:=by
 obtain ⟨hv,mb,tv,mv,hSI⟩:=h
 have c2:w.cell? ⟨sb,2,none⟩=some (.int .i64 M.size):=hSI.cell 2
 have et:=QeE tag 2
 have HR:Hid (sizeB M tag n=if tag=2 then decide (M.size < n) else decide (n < M.size)):=rfl
 clear hSI
 by_cases h2:tag=2
 ·rw [decide_eq_true h2] at et
  rw [if_pos h2] at HR
  clear h2
  go_enter Tryz.func188,Tryz.ntmps188
  go_wp2
  all_goals go_ret
  all_goals exact ⟨QaU (by rw [HR.out]),rfl⟩
 ·rw [decide_eq_false h2] at et
  rw [if_neg h2] at HR
  clear h2
  go_enter Tryz.func188,Tryz.ntmps188
  go_wp2
  all_goals go_ret
  all_goals exact ⟨QaU (by rw [HR.out]),rfl⟩
end
section
open Go.RowKit
attribute [local go_sem ↓] Go.wp_at_zero Go.wp_at_succ
theorem Qbp {w:World} {m k:Nat} {o:Obj} (h:k≠m):({ w with heap:=w.heap.setIfInBounds m o }:World).heap[k]?=w.heap[k]?:=by
 show (w.heap.setIfInBounds m o)[k]?=_
 rw [Array.getElem?_setIfInBounds_ne (Ne.symm h)]
theorem QgY {w:World} {m:Nat} {o o':Obj} (h:w.heap[m]?=some o'):({ w with heap:=w.heap.setIfInBounds m o }:World).heap[m]?=some o:=by
 show (w.heap.setIfInBounds m o)[m]?=_
 exact (MapKept.heap_set h).1
theorem SI.setMap {w:World} {B sb:Nat} {M:Msg} {s:SS} {hv:Value} {mb:Nat} {tv mv:Value} (h:SI w B sb M s hv mb tv mv) (vals':List UInt8→Option (List UInt8)) (es':Array MapEntry) (c':Nat) (hu:QrE es' (Qme ⟨s.vs,vals',s.told,s.met,s.disc⟩)) (hb:∀ x t,vals' x=some t→t.length≤48) :
 SI { w with heap:=w.heap.setIfInBounds mb (.map es' c') } B sb M ⟨s.vs,vals',s.told,s.met,s.disc⟩ hv mb tv mv∧Fr (PSt B) w { w with heap:=w.heap.setIfInBounds mb (.map es' c') }:=by
 obtain ⟨es,c,hm,hu0⟩:=h.mp
 have hne:∀ (k:Nat) (o:Obj),w.heap[k]?=some o→(∀ cs t f,o=.cells cs t f→({ w with heap:=w.heap.setIfInBounds mb (.map es' c') }:World).heap[k]?=some o):=fun k o hk cs t f ho=>by
  rw [Qbp (fun e=>by subst e;rw [hm] at hk;cases hk;cases ho)];exact hk
 obtain ⟨m,h7⟩:=h.m1
 refine ⟨⟨h.bs,h.bm,h.b1,⟨m,?_⟩,hne _ _ h.blk _ _ _ rfl,?_,⟨es',c',QgY hm,hu⟩,?_,?_,h.mn,⟨h.bd.fr,h.bd.to,h.bd.hl,h.bd.hd,h.bd.told,h.bd.tl,hb,h.bd.met⟩⟩,⟨rfl,rfl,rfl,by simp,fun k o hk hn=>?_⟩⟩
 ·have:(1:Nat)≠mb:=by have:=h.b1;have:=h.bm;omega
  rw [World.cell?_of_block (a:=⟨1,0,none⟩) (w:=w) (Qbp this)];exact h7
 ·rcases h.hd with h' | ⟨g,c,cs,hv',hb,hc⟩
  ·exact Or.inl h'
  ·exact Or.inr ⟨g,c,cs,hv',hne _ _ hb _ _ _ rfl,hc⟩
 ·rcases h.told with h' | ⟨g,c,hv',cs,hb,hc⟩
  ·exact Or.inl h'
  ·exact Or.inr ⟨g,c,hv',cs,hne _ _ hb _ _ _ rfl,hc⟩
 ·obtain ⟨h1,h2⟩:=h.met
  refine ⟨h1,?_⟩
  rcases h2 with h2 | ⟨g,cap,cur,hv',hg,hh,r⟩
  ·exact Or.inl h2
  ·exact Or.inr ⟨g,cap,cur,hv',hg,hne _ _ hh _ _ _ rfl,r⟩
 ·rw [Qbp (fun e=>by
   subst e
   rw [hm] at hk
   cases hk
   exact hn ⟨h.bm,rfl⟩)]
  exact hk
theorem Qr7 (x:List UInt8) (w:World) (h:x.length≤1000000):Calls Tryz.prog 230 #[.string (Qag x)] w fun e w'=>e=.returned (.string (Qag (capL x)))∧Below w.heap.size w w':=
 Qnu (Qag x) w (by rw [QaD];omega)
theorem Qtv (s:SS) (name:List UInt8) (tag:Int) (said:List UInt8):Qup s name tag said=⟨s.vs,fun x=>if x=name then some ((Qm0 tag (expL s said)).take 48) else s.vals x,s.told,s.met,s.disc⟩:=rfl
theorem QtK:∀ n:Nat,n≤1000000→(Lib.decDigits n).length≤1000000:=fun n hn=>by
 rw [Lib.decDigits_length]
 have:=Lib.nDigits_le20 n (by omega)
 omega
theorem Qum (B sb:Nat) (M:Msg) (s:SS) (name:List UInt8) (tag:Int) (said:List UInt8) (w:World) (h:SAt w B sb M s) (ht:Tab w) (hl:said.length≤1000000) :
 Calls Tryz.prog 190 #[.pointer (some ⟨sb,0,none⟩),.string (Qag name),.int .i64 tag,.string (Qag said)] w (QlF (.ok (Qup s name tag said)) B sb M w):=by
 have HS:=Qaa h
 have HTAB:=Qaa ht
 have HSE:=Qaa (Qtv s name tag said)
 have e1:=QeE tag 1
 have e2:=QeE tag 2
 have e3:=QeE tag 3
 have hel:=Qku s said 1000000 hl (by decide)
 go_enter Tryz.func190,Tryz.ntmps190
 go_wp2_with fail
 refine (QjB B sb M s said w h hl).mono ?_
 rintro e w1 ⟨rfl,hb1⟩
 obtain ⟨x,hx⟩:∃ x,expL s said=x:=⟨_,rfl⟩
 rw [hx] at HSE hel
 rw [hx]
 have HB1:=Qaa hb1
 clear hx hb1 h ht
 by_cases t1:tag=1
 ·rw [decide_eq_true t1] at e1
  subst t1
  go_wp2_with fail
  refine (QdZ x w1 hel).mono ?_
  rintro e w2 ⟨rfl,hb2⟩
  have HB2:=Qaa (HB1.out.trans (hb2.mono HB1.out.size))
  obtain ⟨y,hy⟩:∃ y,smallL x=y:=⟨_,rfl⟩
  have hyl:y.length≤1000000:=by rw [← hy];simp [smallL];omega
  rw [show Qm0 1 x=y from hy] at HSE
  rw [hy]
  clear hy hb2
  go_wp2_with fail
  obtain ⟨z,hz⟩:∃ z,y.take 48=z:=⟨_,rfl⟩
  have hz48:z.length≤48:=by rw [← hz,List.length_take];omega
  obtain ⟨q,hq0⟩:∃ q:Nat,q=min y.length 48:=⟨_,rfl⟩
  have hq:min (y.length:Int) 48=(q:Int):=by omega
  have hq1:(q:Int)≤(y.length:Int):=by omega
  have hex:(Qag y).extract 0 q=Qag z:=by
   rw [Qbk,← hz,hq0]
   rcases Nat.le_total y.length 48 with hh | hh
   ·rw [Nat.min_eq_left hh,List.take_of_length_le (Nat.le_refl _),List.take_of_length_le hh]
   ·rw [Nat.min_eq_right hh]
  have hyz:=QaD y
  obtain ⟨hv,mb,tv,mv,hSI⟩:=HS.out.below (Qar HB2.out)
  have HSI:=Qaa hSI
  obtain ⟨es,mc,hm,hu⟩:=hSI.mp
  have k5:w2.cell? ⟨sb,5,none⟩=some (.map (some mb)):=hSI.cell 5
  rw [hz] at HSE
  obtain ⟨es',c',hput,hu'⟩:=Qg8 (T:=223) (g:=Qme ⟨s.vs,fun x=>if x=name then some z else s.vals x,s.told,s.met,s.disc⟩) Tryz.underlying223 Tryz.underlying9 hm hu name (.agg #[.string (Qag z)]) (by unfold Qme;simp) (fun x hx=>by unfold Qme;simp [hx])
  have HU:=Qaa hu'
  have HBD:=Qaa hSI.bd
  have hnm:sb≠mb:=fun e=>by have h1:=hSI.blk;rw [e,hm] at h1;cases h1
  have HK5:Hid (({ w2.drew with heap:=w2.drew.heap.setIfInBounds mb (.map es' c') }:World).cell? ⟨sb,5,none⟩=some (.map (some mb))):=(World.cell?_of_block (a:=⟨sb,5,none⟩) (w:=w2) (Qbp (w:=w2.drew) hnm)).trans k5
  clear hSI hm hu hu' hz hq0
  go_region_held3 (fun w'=>w'.cell? ⟨sb,5,none⟩=some (.map (some mb))) (first | go_keep | exact HK5.out) (fail)
  all_goals go_wp2
  all_goals go_end0
  all_goals have hfin:=HSI.out.setMap _ es' c' HU.out (fun a t hat=>by
   split at hat
   ·cases hat;exact hz48
   ·exact HBD.out.vals a t hat)
  all_goals refine ⟨(Fr.of_below (Qar HB2.out)).trans hfin.2,?_⟩
  all_goals rw [HSE.out]
  all_goals exact ⟨rfl,hv,mb,tv,mv,hfin.1⟩
 rw [decide_eq_false t1] at e1
 by_cases t2:tag=2
 ·rw [decide_eq_true t2] at e2
  subst t2
  go_wp2_with fail
  refine (Qr7 x w1 hel).mono ?_
  rintro e w2 ⟨rfl,hb2⟩
  have HB2:=Qaa (HB1.out.trans (hb2.mono HB1.out.size))
  obtain ⟨y,hy⟩:∃ y,capL x=y:=⟨_,rfl⟩
  have hyl:y.length≤1000000:=by rw [← hy];simp [capL];omega
  rw [show Qm0 2 x=y from hy] at HSE
  rw [hy]
  clear hy hb2
  go_wp2_with fail
  obtain ⟨z,hz⟩:∃ z,y.take 48=z:=⟨_,rfl⟩
  have hz48:z.length≤48:=by rw [← hz,List.length_take];omega
  obtain ⟨q,hq0⟩:∃ q:Nat,q=min y.length 48:=⟨_,rfl⟩
  have hq:min (y.length:Int) 48=(q:Int):=by omega
  have hq1:(q:Int)≤(y.length:Int):=by omega
  have hex:(Qag y).extract 0 q=Qag z:=by
   rw [Qbk,← hz,hq0]
   rcases Nat.le_total y.length 48 with hh | hh
   ·rw [Nat.min_eq_left hh,List.take_of_length_le (Nat.le_refl _),List.take_of_length_le hh]
   ·rw [Nat.min_eq_right hh]
  have hyz:=QaD y
  obtain ⟨hv,mb,tv,mv,hSI⟩:=HS.out.below (Qar HB2.out)
  have HSI:=Qaa hSI
  obtain ⟨es,mc,hm,hu⟩:=hSI.mp
  have k5:w2.cell? ⟨sb,5,none⟩=some (.map (some mb)):=hSI.cell 5
  rw [hz] at HSE
  obtain ⟨es',c',hput,hu'⟩:=Qg8 (T:=223) (g:=Qme ⟨s.vs,fun x=>if x=name then some z else s.vals x,s.told,s.met,s.disc⟩) Tryz.underlying223 Tryz.underlying9 hm hu name (.agg #[.string (Qag z)]) (by unfold Qme;simp) (fun x hx=>by unfold Qme;simp [hx])
  have HU:=Qaa hu'
  have HBD:=Qaa hSI.bd
  have hnm:sb≠mb:=fun e=>by have h1:=hSI.blk;rw [e,hm] at h1;cases h1
  have HK5:Hid (({ w2.drew with heap:=w2.drew.heap.setIfInBounds mb (.map es' c') }:World).cell? ⟨sb,5,none⟩=some (.map (some mb))):=(World.cell?_of_block (a:=⟨sb,5,none⟩) (w:=w2) (Qbp (w:=w2.drew) hnm)).trans k5
  clear hSI hm hu hu' hz hq0
  go_region_held3 (fun w'=>w'.cell? ⟨sb,5,none⟩=some (.map (some mb))) (first | go_keep | exact HK5.out) (fail)
  all_goals go_wp2
  all_goals go_end0
  all_goals have hfin:=HSI.out.setMap _ es' c' HU.out (fun a t hat=>by
   split at hat
   ·cases hat;exact hz48
   ·exact HBD.out.vals a t hat)
  all_goals refine ⟨(Fr.of_below (Qar HB2.out)).trans hfin.2,?_⟩
  all_goals rw [HSE.out]
  all_goals exact ⟨rfl,hv,mb,tv,mv,hfin.1⟩
 rw [decide_eq_false t2] at e2
 by_cases t3:tag=3
 ·rw [decide_eq_true t3] at e3
  subst t3
  have hxz:=QaD x
  go_wp2_with fail
  refine (QsH x.length (by omega) w1 (HTAB.out.below HB1.out)).mono ?_
  rintro e w2 ⟨rfl,hb2⟩
  have HB2:=Qaa (HB1.out.trans (hb2.mono HB1.out.size))
  obtain ⟨y,hy⟩:∃ y,itoaL x.length=y:=⟨_,rfl⟩
  have hyl:y.length≤1000000:=by rw [← hy];exact QtK _ hel
  rw [show Qm0 3 x=y from hy] at HSE
  rw [hy]
  clear hy hb2
  go_wp2_with fail
  obtain ⟨z,hz⟩:∃ z,y.take 48=z:=⟨_,rfl⟩
  have hz48:z.length≤48:=by rw [← hz,List.length_take];omega
  obtain ⟨q,hq0⟩:∃ q:Nat,q=min y.length 48:=⟨_,rfl⟩
  have hq:min (y.length:Int) 48=(q:Int):=by omega
  have hq1:(q:Int)≤(y.length:Int):=by omega
  have hex:(Qag y).extract 0 q=Qag z:=by
   rw [Qbk,← hz,hq0]
   rcases Nat.le_total y.length 48 with hh | hh
   ·rw [Nat.min_eq_left hh,List.take_of_length_le (Nat.le_refl _),List.take_of_length_le hh]
   ·rw [Nat.min_eq_right hh]
  have hyz:=QaD y
  obtain ⟨hv,mb,tv,mv,hSI⟩:=HS.out.below (Qar HB2.out)
  have HSI:=Qaa hSI
  obtain ⟨es,mc,hm,hu⟩:=hSI.mp
  have k5:w2.cell? ⟨sb,5,none⟩=some (.map (some mb)):=hSI.cell 5
  rw [hz] at HSE
  obtain ⟨es',c',hput,hu'⟩:=Qg8 (T:=223) (g:=Qme ⟨s.vs,fun x=>if x=name then some z else s.vals x,s.told,s.met,s.disc⟩) Tryz.underlying223 Tryz.underlying9 hm hu name (.agg #[.string (Qag z)]) (by unfold Qme;simp) (fun x hx=>by unfold Qme;simp [hx])
  have HU:=Qaa hu'
  have HBD:=Qaa hSI.bd
  have hnm:sb≠mb:=fun e=>by have h1:=hSI.blk;rw [e,hm] at h1;cases h1
  have HK5:Hid (({ w2.drew with heap:=w2.drew.heap.setIfInBounds mb (.map es' c') }:World).cell? ⟨sb,5,none⟩=some (.map (some mb))):=(World.cell?_of_block (a:=⟨sb,5,none⟩) (w:=w2) (Qbp (w:=w2.drew) hnm)).trans k5
  clear hSI hm hu hu' hz hq0
  go_region_held3 (fun w'=>w'.cell? ⟨sb,5,none⟩=some (.map (some mb))) (first | go_keep | exact HK5.out) (fail)
  all_goals go_wp2
  all_goals go_end0
  all_goals have hfin:=HSI.out.setMap _ es' c' HU.out (fun a t hat=>by
   split at hat
   ·cases hat;exact hz48
   ·exact HBD.out.vals a t hat)
  all_goals refine ⟨(Fr.of_below (Qar HB2.out)).trans hfin.2,?_⟩
  all_goals rw [HSE.out]
  all_goals exact ⟨rfl,hv,mb,tv,mv,hfin.1⟩
 rw [decide_eq_false t3] at e3
 rw [show Qm0 tag x=x by unfold Qm0;rw [if_neg t1,if_neg t2,if_neg t3]] at HSE
 obtain ⟨y,hy⟩:∃ y,x=y:=⟨_,rfl⟩
 subst hy
 obtain ⟨w2,hw2⟩:∃ w2,w1=w2:=⟨_,rfl⟩
 subst hw2
 have HB2:=HB1
 have hyl:=hel
 clear t1 t2 t3
 go_wp2_with fail
 obtain ⟨z,hz⟩:∃ z,x.take 48=z:=⟨_,rfl⟩
 have hz48:z.length≤48:=by rw [← hz,List.length_take];omega
 obtain ⟨q,hq0⟩:∃ q:Nat,q=min x.length 48:=⟨_,rfl⟩
 have hq:min (x.length:Int) 48=(q:Int):=by omega
 have hq1:(q:Int)≤(x.length:Int):=by omega
 have hex:(Qag x).extract 0 q=Qag z:=by
  rw [Qbk,← hz,hq0]
  rcases Nat.le_total x.length 48 with hh | hh
  ·rw [Nat.min_eq_left hh,List.take_of_length_le (Nat.le_refl _),List.take_of_length_le hh]
  ·rw [Nat.min_eq_right hh]
 have hyz:=QaD x
 obtain ⟨hv,mb,tv,mv,hSI⟩:=HS.out.below (Qar HB2.out)
 have HSI:=Qaa hSI
 obtain ⟨es,mc,hm,hu⟩:=hSI.mp
 have k5:w1.cell? ⟨sb,5,none⟩=some (.map (some mb)):=hSI.cell 5
 rw [hz] at HSE
 obtain ⟨es',c',hput,hu'⟩:=Qg8 (T:=223) (g:=Qme ⟨s.vs,fun x=>if x=name then some z else s.vals x,s.told,s.met,s.disc⟩) Tryz.underlying223 Tryz.underlying9 hm hu name (.agg #[.string (Qag z)]) (by unfold Qme;simp) (fun x hx=>by unfold Qme;simp [hx])
 have HU:=Qaa hu'
 have HBD:=Qaa hSI.bd
 have hnm:sb≠mb:=fun e=>by have h1:=hSI.blk;rw [e,hm] at h1;cases h1
 have HK5:Hid (({ w1.drew with heap:=w1.drew.heap.setIfInBounds mb (.map es' c') }:World).cell? ⟨sb,5,none⟩=some (.map (some mb))):=(World.cell?_of_block (a:=⟨sb,5,none⟩) (w:=w1) (Qbp (w:=w1.drew) hnm)).trans k5
 clear hSI hm hu hu' hz hq0
 go_region_held3 (fun w'=>w'.cell? ⟨sb,5,none⟩=some (.map (some mb))) (first | go_keep | exact HK5.out) (fail)
 all_goals go_wp2
 all_goals go_end0
 all_goals have hfin:=HSI.out.setMap _ es' c' HU.out (fun a t hat=>by
  split at hat
  ·cases hat;exact hz48
  ·exact HBD.out.vals a t hat)
 all_goals refine ⟨(Fr.of_below (Qar HB2.out)).trans hfin.2,?_⟩
 all_goals rw [HSE.out]
 all_goals exact ⟨rfl,hv,mb,tv,mv,hfin.1⟩
end
end Go.Proofs.YtbiclelojbfnbabGreatDoor
