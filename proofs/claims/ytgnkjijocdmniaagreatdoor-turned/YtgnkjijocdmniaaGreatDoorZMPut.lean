import Derived.Test.YtgnkjijocdmniaaGreatDoorAAdd
namespace Go.Proofs.YtgnkjijocdmniaaGreatDoor
set_option linter.unusedVariables false
set_option linter.unusedSimpArgs false
set_option maxRecDepth 100000
set_option maxHeartbeats 4000000
open Go.Proofs.Tryz
section
open Go.RowKit
attribute [local go_sem ↓] Go.wp_at_zero Go.wp_at_succ
def Qex (f:FZ) (w:World) (e:Ending) (w':World):Prop:=
 ∃ b,w.heap.size≤b∧e=.panicked [{ v:=.iface 125 (.pointer (some ⟨b,0,none⟩)),recovered:=false }]∧
  w'.heap[b]?=some (.cells #[.int .i64 f.1,.int .i64 f.2] 130)
def QnC (r:Except FZ SS) (B sb:Nat) (M:Msg) (w:World) (e:Ending) (w':World):Prop:=
 Fr (PSt B) w w'∧
 match r with
 | .ok s=>e=.returned (.tuple #[])∧SAt w' B sb M s
 | .error f=>Qex f w e w'
def QxN (s:SS) (kind:Int) (arg:L8) (at_:Int):Except FZ SS:=
 if (addL s.met kind (expL s arg)).1=0 then .ok (Qxa s (addL s.met kind (expL s arg)).2) else .error ((addL s.met kind (expL s arg)).1,at_)
theorem Qwu(B sb:Nat)(M:Msg)(s:SS)(kind af:Int)(arg:L8)(w:World)(h:SAt w B sb M s)(hl:arg.length<=1000000) :
 Calls Tryz.prog 210 #[.pointer (some ⟨sb,0,none⟩),.int .i64 kind,.string (Qaf arg),.int .i64 af] w (QnC (QxN s kind arg af) B sb M w):=by
 have HS:=Qab h;have ag:=QmB s arg 1000000 hl (by decide);have HR:Hid (QxN s kind arg af=if(addL s.met kind (expL s arg)).1=0 then .ok (Qxa s (addL s.met kind (expL s arg)).2)else .error ((addL s.met kind (expL s arg)).1,af)):=rfl;have HT:=Qab (QmW B sb M s arg);have HA:=Qab (QwV B sb M s kind (expL s arg));unfold QfQ at HA;generalize expL s arg=x at *;obtain⟨q,hq⟩:∃ q,addL s.met kind x=q:=⟨_,rfl⟩;rw[hq]at HA HR;obtain⟨n,l⟩:=q;clear hq h;dsimp only at HA HR;by_cases hn:n=0
 ·subst hn;rw[if_pos rfl]at HR;go_enter func210,ntmps210;go_wp2_with fail;go_region_with (first|(go_at_call 249;refine(HT.o w.drew (HS.o.below (Qar (Below.refl _ _))) hl).mono ?_;rintro e w1 ⟨rfl,ab⟩;have aa:=Qab (Qbk ab);clear ab;skip)|(go_at_call 252;refine(HA.o w1 (HS.o.below aa.o) ag).mono ?_;rintro e w2 ⟨rfl,ad,ac⟩;have H2:=Qab ad;have ae:=Qab ((Fr.of_below aa.o).trans ac);clear ad ac;skip))
  all_goals go_wp2
  all_goals go_end0
  all_goals rw[HR.o]
  all_goals exact⟨ae.o,rfl,H2.o⟩
 ·rw[if_neg hn]at HR;have hn':(n != 0)=true:=by simp[hn]
  go_enter func210,ntmps210;go_wp2_with fail;go_region_with (first|(go_at_call 249;refine(HT.o w.drew (HS.o.below (Qar (Below.refl _ _))) hl).mono ?_;rintro e w1 ⟨rfl,ab⟩;have aa:=Qab (Qbk ab);clear ab;skip)|(go_at_call 252;refine(HA.o w1 (HS.o.below aa.o) ag).mono ?_;rintro e w2 ⟨rfl,ad,ac⟩;have H2:=Qab ad;have ae:=Qab ((Fr.of_below aa.o).trans ac);clear ad ac;skip))
  all_goals go_wp2_with (go_at_call 103;refine(Qbi _ _ _).mono ?_;rintro e w3 ⟨rfl,rfl⟩)
  all_goals refine⟨rfl,?_⟩
  all_goals rw[HR.o]
  all_goals exact⟨ae.o.alloc _,w2.heap.size,ae.o.size,rfl,Qat _ _⟩
theorem Qsz(B sb:Nat)(M:Msg)(s:SS)(w:World)(h:SAt w B sb M s) :
 Calls Tryz.prog 166 #[.pointer (some ⟨sb,0,none⟩)] w (QnC (.ok (Qsp s)) B sb M w):=by
 obtain⟨hv,mb,tv,mv,ab⟩:=h;have c8:w.cell? ⟨sb,8,none⟩=some (.bool s.disc):=ab.cell 8;have f8:=ab.frozen 8;have HSI:=Qab ab;clear ab;go_enter func166,ntmps166;go_wp2;go_end0;have hf:Fr (fun k _=>k=sb) w (w.setCell ⟨sb,8,none⟩ (.bool true)):=(Fr.refl _ w).set HSI.o.blk rfl 8 _
 have hne:∀ (k:Nat) (o:Obj),w.heap[k]?=some o→(∀ cs,o≠.cells cs 274)→(w.setCell ⟨sb,8,none⟩ (.bool true)).heap[k]?=some o:=fun k o hk ho=>hf.block k o hk (fun e=>by
  subst e;rw [HSI.o.blk] at hk;cases hk;exact ho _ rfl)
 have h:=HSI.o;obtain⟨es,c,hm,hu⟩:=h.mp;obtain⟨m,h7⟩:=h.m1;refine⟨(Fr.refl _ w).set h.blk h.ps 8 _,rfl,hv,mb,tv,mv,h.bs,h.bm,h.b1,⟨m,?_⟩,?_,?_,⟨es,c,hne _ _ hm (fun cs e=>by cases e),hu⟩,?_,?_,h.mn,⟨h.bd.fr,h.bd.tu,h.bd.hl,h.bd.hd,h.bd.told,h.bd.tl,h.bd.vals,h.bd.met⟩⟩
 ·have:(1:Nat)≠sb:=by have:=h.b1;have:=h.bs;omega
  rw[World.cell?_of_block (a:=⟨1,0,none⟩) (Below.heap_setCell _ _ _ _ this)];exact h7
 ·exact Qah _ _ _ _ _ _ h.blk
 ·rcases h.hd with h' | ⟨g,c,cs,aa,hb,hc⟩
  ·exact Or.inl h'
  ·exact Or.inr ⟨g,c,cs,aa,hne _ _ hb (fun cs e=>by injection e with e1 e2;exact absurd e2 (by decide)),hc⟩
 ·rcases h.told with h' | ⟨g,c,aa,cs,hb,hc⟩
  ·exact Or.inl h'
  ·exact Or.inr ⟨g,c,aa,cs,hne _ _ hb (fun cs e=>by injection e with e1 e2;exact absurd e2 (by decide)),hc⟩
 ·obtain⟨h1,h2⟩:=h.met;refine⟨h1,?_⟩;rcases h2 with h2 | ⟨g,ac,ad,aa,hg,hh,r⟩
  ·exact Or.inl h2
  ·exact Or.inr ⟨g,ac,ad,aa,hg,hne _ _ hh (fun cs e=>by injection e with e1 e2;exact absurd e2 (by decide)),r⟩
theorem Qw5(B sb:Nat)(M:Msg)(s:SS)(tag n:Int)(w:World)(h:SAt w B sb M s) :
 Calls Tryz.prog 209 #[.pointer (some ⟨sb,0,none⟩),.int .i64 tag,.int .i64 n] w fun e w'=>e=.returned (.bool (sizeB M tag n))/\w'=w:=by
 obtain⟨hv,mb,tv,mv,aa⟩:=h;have c2:w.cell? ⟨sb,2,none⟩=some (.int .i64 M.size):=aa.cell 2;have et:=Qfw tag 2;have HR:Hid (sizeB M tag n=if tag=2 then decide (M.size<n)else decide (n<M.size)):=rfl;clear aa;by_cases h2:tag=2
 ·rw[decide_eq_true h2]at et;rw[if_pos h2]at HR;clear h2;go_enter func209,ntmps209;go_wp2
  all_goals go_ret
  all_goals exact⟨QaZ (by rw[HR.o]),rfl⟩
 ·rw[decide_eq_false h2]at et;rw[if_neg h2]at HR;clear h2;go_enter func209,ntmps209;go_wp2
  all_goals go_ret
  all_goals exact⟨QaZ (by rw[HR.o]),rfl⟩
theorem QbA{w:World}{m k:Nat}{o:Obj}(h:k≠m):({ w with heap:=w.heap.setIfInBounds m o }:World).heap[k]?=w.heap[k]?:=by
 show(w.heap.setIfInBounds m o)[k]?=_
 rw[Array.getElem?_setIfInBounds_ne (Ne.symm h)]
theorem QiN{w:World}{m:Nat}{o o':Obj}(h:w.heap[m]?=some o'):({ w with heap:=w.heap.setIfInBounds m o }:World).heap[m]?=some o:=by
 show(w.heap.setIfInBounds m o)[m]?=_
 exact(MapKept.heap_set h).1
theorem SI.setMap{w:World}{B sb:Nat}{M:Msg}{s:SS}{hv:Value}{mb:Nat}{tv mv:Value}(h:SI w B sb M s hv mb tv mv)(aa:L8->Option (L8))(ab:Array MapEntry)(c':Nat)(hu:Qu4 ab (QoV ⟨s.vs,aa,s.told,s.met,s.disc⟩))(hb:∀ x t,aa x=some t->t.length<=48) :
 SI { w with heap:=w.heap.setIfInBounds mb (.map ab c') } B sb M ⟨s.vs,aa,s.told,s.met,s.disc⟩ hv mb tv mv/\Fr (PSt B) w { w with heap:=w.heap.setIfInBounds mb (.map ab c') }:=by
 obtain⟨es,c,hm,hu0⟩:=h.mp
 have ad:∀(k:Nat) (o:Obj),w.heap[k]?=some o->(∀ cs t f,o=.cells cs t f->({ w with heap:=w.heap.setIfInBounds mb (.map ab c') }:World).heap[k]?=some o):=fun k o hk cs t f ho=>by
  rw[QbA (fun e=>by subst e;rw[hm]at hk;cases hk;cases ho)];exact hk
 obtain⟨m,h7⟩:=h.m1;refine⟨⟨h.bs,h.bm,h.b1,⟨m,?_⟩,ad _ _ h.blk _ _ _ rfl,?_,⟨ab,c',QiN hm,hu⟩,?_,?_,h.mn,⟨h.bd.fr,h.bd.tu,h.bd.hl,h.bd.hd,h.bd.told,h.bd.tl,hb,h.bd.met⟩⟩,⟨rfl,rfl,rfl,by simp,fun k o hk hn=>?_⟩⟩
 ·have:(1:Nat)≠mb:=by have:=h.b1;have:=h.bm;omega
  rw[World.cell?_of_block (a:=⟨1,0,none⟩) (w:=w) (QbA this)];exact h7
 ·rcases h.hd with h' | ⟨g,c,cs,ac,hb,hc⟩
  ·exact Or.inl h'
  ·exact Or.inr ⟨g,c,cs,ac,ad _ _ hb _ _ _ rfl,hc⟩
 ·rcases h.told with h' | ⟨g,c,ac,cs,hb,hc⟩
  ·exact Or.inl h'
  ·exact Or.inr ⟨g,c,ac,cs,ad _ _ hb _ _ _ rfl,hc⟩
 ·obtain⟨h1,h2⟩:=h.met;refine⟨h1,?_⟩;rcases h2 with h2 | ⟨g,ae,af,ac,hg,hh,r⟩
  ·exact Or.inl h2
  ·exact Or.inr ⟨g,ae,af,ac,hg,ad _ _ hh _ _ _ rfl,r⟩
 ·rw [QbA (fun e=>by
   subst e;rw[hm]at hk;cases hk
   exact hn ⟨h.bm,rfl⟩)]
  exact hk
theorem Qva(x:L8)(w:World)(h:x.length<=1000000):Calls Tryz.prog 253 #[.string (Qaf x)] w fun e w'=>e=.returned (.string (Qaf (capL x)))/\Below w.heap.size w w':=
 QqE (Qaf x) w (by rw[Qaj];omega)
theorem Qxz(s:SS)(name:L8)(tag:Int)(said:L8):QxK s name tag said=⟨s.vs,fun x=>if x=name then some ((Qo1 tag (expL s said)).take 48)else s.vals x,s.told,s.met,s.disc⟩:=rfl
theorem QwQ:∀ n:Nat,n<=1000000->(Lib.decDigits n).length<=1000000:=fun n hn=>by
 rw[Lib.decDigits_length];have:=Lib.nDigits_le20 n (by omega);omega
theorem Qyd(B sb:Nat)(M:Msg)(s:SS)(ab:L8)(tag:Int)(ad:L8)(w:World)(h:SAt w B sb M s)(ht:Tab w)(hl:ad.length<=1000000) :
 Calls Tryz.prog 211 #[.pointer (some ⟨sb,0,none⟩),.string (Qaf ab),.int .i64 tag,.string (Qaf ad)] w (QnC (.ok (QxK s ab tag ad)) B sb M w):=by
 have HS:=Qab h;have ar:=Qab ht;have ae:=Qab (Qxz s ab tag ad);have e1:=Qfw tag 1;have e2:=Qfw tag 2;have e3:=Qfw tag 3;have aq:=QmB s ad 1000000 hl (by decide);go_enter func211,ntmps211;go_wp2_with fail;refine(QmW B sb M s ad w h hl).mono ?_;rintro e w1 ⟨rfl,ay⟩;obtain⟨x,hx⟩:∃ x,expL s ad=x:=⟨_,rfl⟩;rw[hx]at ae aq;rw[hx];have ai:=Qab ay;clear hx ay h ht;by_cases t1:tag=1
 ·rw[decide_eq_true t1]at e1;subst t1;go_wp2_with fail;refine(Qeu x w1 aq).mono ?_;rintro e w2 ⟨rfl,aj⟩;have af:=Qab (ai.o.trans (aj.mono ai.o.size));obtain⟨y,hy⟩:∃ y,zL x=y:=⟨_,rfl⟩;have aw:y.length<=1000000:=by rw[<-hy];simp[zL];omega
  rw[show Qo1 1 x=y from hy]at ae;rw[hy];clear hy aj;go_wp2_with fail;obtain⟨z,hz⟩:∃ z,y.take 48=z:=⟨_,rfl⟩;have ac:z.length<=48:=by rw[<-hz,List.length_take];omega
  obtain⟨q,ag⟩:∃ q:Nat,q=min y.length 48:=⟨_,rfl⟩;have hq:min (y.length:Int) 48=(q:Int):=by omega
  have av:(q:Int)<=(y.length:Int):=by omega
  have au:(Qaf y).extract 0 q=Qaf z:=by
   rw[Qb1,<-hz,ag];rcases Nat.le_total y.length 48 with hh|hh
   ·rw[Nat.min_eq_left hh,List.take_of_length_le (Nat.le_refl _),List.take_of_length_le hh]
   ·rw[Nat.min_eq_right hh]
  have ax:=Qaj y;obtain⟨hv,mb,tv,mv,aa⟩:=HS.o.below (Qar af.o);have HSI:=Qab aa;obtain⟨es,mc,hm,hu⟩:=aa.mp;have k5:w2.cell? ⟨sb,5,none⟩=some (.map (some mb)):=aa.cell 5;rw[hz]at ae;obtain⟨es',c',ap,ah⟩:=Qi4 (T:=270) (g:=QoV ⟨s.vs,fun x=>if x=ab then some z else s.vals x,s.told,s.met,s.disc⟩) underlying270 underlying9 hm hu ab (.agg #[.string (Qaf z)]) (by unfold QoV;simp) (fun x hx=>by unfold QoV;simp[hx]);have HU:=Qab ah;have HBD:=Qab aa.bd;have ao:sb≠mb:=fun e=>by have h1:=aa.blk;rw[e,hm]at h1;cases h1
  have ak:Hid (({ w2.drew with heap:=w2.drew.heap.setIfInBounds mb (.map es' c') }:World).cell? ⟨sb,5,none⟩=some (.map (some mb))):=(World.cell?_of_block (a:=⟨sb,5,none⟩) (w:=w2) (QbA (w:=w2.drew) ao)).trans k5;clear aa hm hu ah hz ag;go_region_held3 (fun w'=>w'.cell? ⟨sb,5,none⟩=some (.map (some mb))) (first|go_keep|exact ak.o) (fail)
  all_goals go_wp2
  all_goals go_end0
  all_goals have hfin:=HSI.o.setMap _ es' c' HU.o (fun a t hat=>by
   split at hat
   ·cases hat;exact ac
   ·exact HBD.o.vals a t hat)
  all_goals refine⟨(Fr.of_below (Qar af.o)).trans hfin.2,?_⟩
  all_goals rw[ae.o]
  all_goals exact⟨rfl,hv,mb,tv,mv,hfin.1⟩
 rw[decide_eq_false t1]at e1;by_cases t2:tag=2
 ·rw[decide_eq_true t2]at e2;subst t2;go_wp2_with fail;refine(Qva x w1 aq).mono ?_;rintro e w2 ⟨rfl,aj⟩;have af:=Qab (ai.o.trans (aj.mono ai.o.size));obtain⟨y,hy⟩:∃ y,capL x=y:=⟨_,rfl⟩;have aw:y.length<=1000000:=by rw[<-hy];simp[capL];omega
  rw[show Qo1 2 x=y from hy]at ae;rw[hy];clear hy aj;go_wp2_with fail;obtain⟨z,hz⟩:∃ z,y.take 48=z:=⟨_,rfl⟩;have ac:z.length<=48:=by rw[<-hz,List.length_take];omega
  obtain⟨q,ag⟩:∃ q:Nat,q=min y.length 48:=⟨_,rfl⟩;have hq:min (y.length:Int) 48=(q:Int):=by omega
  have av:(q:Int)<=(y.length:Int):=by omega
  have au:(Qaf y).extract 0 q=Qaf z:=by
   rw[Qb1,<-hz,ag];rcases Nat.le_total y.length 48 with hh|hh
   ·rw[Nat.min_eq_left hh,List.take_of_length_le (Nat.le_refl _),List.take_of_length_le hh]
   ·rw[Nat.min_eq_right hh]
  have ax:=Qaj y;obtain⟨hv,mb,tv,mv,aa⟩:=HS.o.below (Qar af.o);have HSI:=Qab aa;obtain⟨es,mc,hm,hu⟩:=aa.mp;have k5:w2.cell? ⟨sb,5,none⟩=some (.map (some mb)):=aa.cell 5;rw[hz]at ae;obtain⟨es',c',ap,ah⟩:=Qi4 (T:=270) (g:=QoV ⟨s.vs,fun x=>if x=ab then some z else s.vals x,s.told,s.met,s.disc⟩) underlying270 underlying9 hm hu ab (.agg #[.string (Qaf z)]) (by unfold QoV;simp) (fun x hx=>by unfold QoV;simp[hx]);have HU:=Qab ah;have HBD:=Qab aa.bd;have ao:sb≠mb:=fun e=>by have h1:=aa.blk;rw[e,hm]at h1;cases h1
  have ak:Hid (({ w2.drew with heap:=w2.drew.heap.setIfInBounds mb (.map es' c') }:World).cell? ⟨sb,5,none⟩=some (.map (some mb))):=(World.cell?_of_block (a:=⟨sb,5,none⟩) (w:=w2) (QbA (w:=w2.drew) ao)).trans k5;clear aa hm hu ah hz ag;go_region_held3 (fun w'=>w'.cell? ⟨sb,5,none⟩=some (.map (some mb))) (first|go_keep|exact ak.o) (fail)
  all_goals go_wp2
  all_goals go_end0
  all_goals have hfin:=HSI.o.setMap _ es' c' HU.o (fun a t hat=>by
   split at hat
   ·cases hat;exact ac
   ·exact HBD.o.vals a t hat)
  all_goals refine⟨(Fr.of_below (Qar af.o)).trans hfin.2,?_⟩
  all_goals rw[ae.o]
  all_goals exact⟨rfl,hv,mb,tv,mv,hfin.1⟩
 rw[decide_eq_false t2]at e2;by_cases t3:tag=3
 ·rw[decide_eq_true t3]at e3;subst t3;have hxz:=Qaj x;go_wp2_with fail;refine(QqP x.length (by omega) w1 (ar.o.below ai.o)).mono ?_;rintro e w2 ⟨rfl,aj⟩;have af:=Qab (ai.o.trans (aj.mono ai.o.size));obtain⟨y,hy⟩:∃ y,iL x.length=y:=⟨_,rfl⟩;have aw:y.length<=1000000:=by rw[<-hy];exact QwQ _ aq
  rw[show Qo1 3 x=y from hy]at ae;rw[hy];clear hy aj;go_wp2_with fail;obtain⟨z,hz⟩:∃ z,y.take 48=z:=⟨_,rfl⟩;have ac:z.length<=48:=by rw[<-hz,List.length_take];omega
  obtain⟨q,ag⟩:∃ q:Nat,q=min y.length 48:=⟨_,rfl⟩;have hq:min (y.length:Int) 48=(q:Int):=by omega
  have av:(q:Int)<=(y.length:Int):=by omega
  have au:(Qaf y).extract 0 q=Qaf z:=by
   rw[Qb1,<-hz,ag];rcases Nat.le_total y.length 48 with hh|hh
   ·rw[Nat.min_eq_left hh,List.take_of_length_le (Nat.le_refl _),List.take_of_length_le hh]
   ·rw[Nat.min_eq_right hh]
  have ax:=Qaj y;obtain⟨hv,mb,tv,mv,aa⟩:=HS.o.below (Qar af.o);have HSI:=Qab aa;obtain⟨es,mc,hm,hu⟩:=aa.mp;have k5:w2.cell? ⟨sb,5,none⟩=some (.map (some mb)):=aa.cell 5;rw[hz]at ae;obtain⟨es',c',ap,ah⟩:=Qi4 (T:=270) (g:=QoV ⟨s.vs,fun x=>if x=ab then some z else s.vals x,s.told,s.met,s.disc⟩) underlying270 underlying9 hm hu ab (.agg #[.string (Qaf z)]) (by unfold QoV;simp) (fun x hx=>by unfold QoV;simp[hx]);have HU:=Qab ah;have HBD:=Qab aa.bd;have ao:sb≠mb:=fun e=>by have h1:=aa.blk;rw[e,hm]at h1;cases h1
  have ak:Hid (({ w2.drew with heap:=w2.drew.heap.setIfInBounds mb (.map es' c') }:World).cell? ⟨sb,5,none⟩=some (.map (some mb))):=(World.cell?_of_block (a:=⟨sb,5,none⟩) (w:=w2) (QbA (w:=w2.drew) ao)).trans k5;clear aa hm hu ah hz ag;go_region_held3 (fun w'=>w'.cell? ⟨sb,5,none⟩=some (.map (some mb))) (first|go_keep|exact ak.o) (fail)
  all_goals go_wp2
  all_goals go_end0
  all_goals have hfin:=HSI.o.setMap _ es' c' HU.o (fun a t hat=>by
   split at hat
   ·cases hat;exact ac
   ·exact HBD.o.vals a t hat)
  all_goals refine⟨(Fr.of_below (Qar af.o)).trans hfin.2,?_⟩
  all_goals rw[ae.o]
  all_goals exact⟨rfl,hv,mb,tv,mv,hfin.1⟩
 rw[decide_eq_false t3]at e3;rw[show Qo1 tag x=x by unfold Qo1;rw[if_neg t1,if_neg t2,if_neg t3]]at ae;obtain⟨y,hy⟩:∃ y,x=y:=⟨_,rfl⟩;subst hy;obtain⟨w2,az⟩:∃ w2,w1=w2:=⟨_,rfl⟩;subst az;have af:=ai;have aw:=aq;clear t1 t2 t3;go_wp2_with fail;obtain⟨z,hz⟩:∃ z,x.take 48=z:=⟨_,rfl⟩;have ac:z.length<=48:=by rw[<-hz,List.length_take];omega
 obtain⟨q,ag⟩:∃ q:Nat,q=min x.length 48:=⟨_,rfl⟩;have hq:min (x.length:Int) 48=(q:Int):=by omega
 have av:(q:Int)<=(x.length:Int):=by omega
 have au:(Qaf x).extract 0 q=Qaf z:=by
  rw[Qb1,<-hz,ag];rcases Nat.le_total x.length 48 with hh|hh
  ·rw[Nat.min_eq_left hh,List.take_of_length_le (Nat.le_refl _),List.take_of_length_le hh]
  ·rw[Nat.min_eq_right hh]
 have ax:=Qaj x;obtain⟨hv,mb,tv,mv,aa⟩:=HS.o.below (Qar af.o);have HSI:=Qab aa;obtain⟨es,mc,hm,hu⟩:=aa.mp;have k5:w1.cell? ⟨sb,5,none⟩=some (.map (some mb)):=aa.cell 5;rw[hz]at ae;obtain⟨es',c',ap,ah⟩:=Qi4 (T:=270) (g:=QoV ⟨s.vs,fun x=>if x=ab then some z else s.vals x,s.told,s.met,s.disc⟩) underlying270 underlying9 hm hu ab (.agg #[.string (Qaf z)]) (by unfold QoV;simp) (fun x hx=>by unfold QoV;simp[hx]);have HU:=Qab ah;have HBD:=Qab aa.bd;have ao:sb≠mb:=fun e=>by have h1:=aa.blk;rw[e,hm]at h1;cases h1
 have ak:Hid (({ w1.drew with heap:=w1.drew.heap.setIfInBounds mb (.map es' c') }:World).cell? ⟨sb,5,none⟩=some (.map (some mb))):=(World.cell?_of_block (a:=⟨sb,5,none⟩) (w:=w1) (QbA (w:=w1.drew) ao)).trans k5;clear aa hm hu ah hz ag;go_region_held3 (fun w'=>w'.cell? ⟨sb,5,none⟩=some (.map (some mb))) (first|go_keep|exact ak.o) (fail)
 all_goals go_wp2
 all_goals go_end0
 all_goals have hfin:=HSI.o.setMap _ es' c' HU.o (fun a t hat=>by
  split at hat
  ·cases hat;exact ac
  ·exact HBD.o.vals a t hat)
 all_goals refine⟨(Fr.of_below (Qar af.o)).trans hfin.2,?_⟩
 all_goals rw[ae.o]
 all_goals exact⟨rfl,hv,mb,tv,mv,hfin.1⟩
theorem Tryz.infoBool:(Tryz.prog.info? 4).map (fun i=>(i.zero,i.size,i.bytes))=some (some (.bool false),1,1):=by kernel_rfl
def Qe9 (l:List Bool):List Value:=l.map Value.bool
theorem QpP(l:List Bool)(b:Bool):Qe9 l++[.bool b]=Qe9 (l++[b]):=by simp[Qe9]
def QeU (sb:Nat) (kv:Value) (now next count:Nat):Array Value:=#[.pointer (some ⟨sb,0,none⟩),kv,.int .i64 (now:Int),.int .i64 (next:Int),.int .i64 (count:Int)]
def kO (late:Bool):Obj→Bool
 | .cells _ t _=>t == 188 || (t == 4 && late)
 | _=>false
def PK (B xb k:Nat) (o:Obj):Prop:=B≤k∧kO (decide (xb+7≤k)) o=true
def PMc (B xb k:Nat) (o:Obj):Prop:=B≤k∧(kO (decide (xb+7≤k)) o || stO o)=true
theorem PMc.st{B xb k:Nat}{o:Obj}(h:PSt B k o):PMc B xb k o:=⟨h.1,by rw[h.2,Bool.or_true]⟩
theorem PMc.k{B xb k:Nat}{o:Obj}(h:PK B xb k o):PMc B xb k o:=⟨h.1,by rw[h.2,Bool.true_or]⟩
theorem PK.not{B xb k:Nat}{cs:Array Value}{t:TypeId}{f:Nat×Nat}(h1:t≠188)(h2:t≠4):¬ PK B xb k (.cells cs t f):=fun h=>by
 have:=h.2;unfold kO at this;simp at this;rcases this with h|h
 ·exact h1 h
 ·exact h2 h.1
theorem PMc.not{B xb k:Nat}{cs:Array Value}{t:TypeId}{f:Nat×Nat}(h1:t≠188)(h2:t≠4)(h3:t≠274)(h4:t≠52):¬ PMc B xb k (.cells cs t f):=fun h=>by
 have:=h.2;unfold kO stO at this;simp at this;rcases this with(h|h)|(h|h)
 ·exact h1 h
 ·exact h2 h.1
 ·exact h3 h
 ·exact h4 h
theorem SlT.pm{B xb:Nat}{w w':World}{v:Value}{zs:List (L8)}(h:SlT w v zs)(hf:Fr (PMc B xb) w w'):SlT w' v zs:=h.fr hf (fun _ _=>PMc.not (by decide) (by decide) (by decide) (by decide))
structure MI (w:World) (B xb sb:Nat) (M:Msg) (m:MS) (count:Nat) (kv:Value):Prop where
 bx:B≤xb
 blk:w.heap[xb]?=some (.cells (QeU sb kv m.now m.next count) 188)
 st:SAt w B sb M m.st
 stack:w.ownsRow (xb+7) 4 1 kv m.stack.length (Qe9 m.stack)
 sl:m.stack.length≤8
 nw:m.now≤400
 nx:m.next≤count
 cl:count≤400
 kz:xb+7≤w.heap.size
def MAt (w:World) (B xb sb:Nat) (M:Msg) (m:MS) (count:Nat):Prop:=∃ kv,MI w B xb sb M m count kv
theorem MI.below{w w':World}{B xb sb:Nat}{M:Msg}{m:MS}{count:Nat}{kv:Value}(h:MI w B xb sb M m count kv)(hb:Below w.heap.size w w'):MI w' B xb sb M m count kv:=
 ⟨h.bx,Qal h.blk hb,h.st.below hb,QbL (P:=fun _ _=>False) h.stack (Fr.of_below hb) (fun _ _ h=>h),h.sl,h.nw,h.nx,h.cl,Nat.le_trans h.kz hb.size⟩
theorem MAt.below{w w':World}{B xb sb:Nat}{M:Msg}{m:MS}{aa:Nat}(h:MAt w B xb sb M m aa)(hb:Below w.heap.size w w'):MAt w' B xb sb M m aa:=by
 obtain⟨kv,h⟩:=h;exact⟨kv,h.below hb⟩
theorem MI.st'{w w':World}{B xb sb:Nat}{M:Msg}{m:MS}{count:Nat}{kv:Value}(h:MI w B xb sb M m count kv){s:SS}(hs:SAt w' B sb M s)(hf:Fr (PSt B) w w'):MI w' B xb sb M (stL m s) count kv:=
 ⟨h.bx,hf.block _ _ h.blk (PSt.not (by decide) (by decide)),hs,QbL h.stack hf (fun _ _=>PSt.not (by decide) (by decide)),h.sl,h.nw,h.nx,h.cl,Nat.le_trans h.kz hf.size⟩
theorem SAt.pk{w w':World}{B xb sb:Nat}{M:Msg}{s:SS}(h:SAt w B sb M s)(hf:Fr (PK B xb) w w'):SAt w' B sb M s:=by
 obtain⟨hv,mb,tv,mv,h⟩:=h;exact⟨hv,mb,tv,mv,h.fr hf (fun _ _=>PK.not (by decide) (by decide)) (fun _ _=>PK.not (by decide) (by decide)) (fun _ _=>PK.not (by decide) (by decide)) (fun _ _=>PK.not (by decide) (by decide)) (fun _ _ _ h=>Bool.false_ne_true h.2) (fun _ h'=>by have:=h'.1;have:=h.b1;omega)⟩
theorem MI.set{w:World}{B xb sb:Nat}{M:Msg}{m:MS}{aa:Nat}{kv:Value}(h:MI w B xb sb M m aa kv)(o:Nat)(v:Value)(m':MS)(ab:Value)(hc:(QeU sb kv m.now m.next aa).setIfInBounds o v=QeU sb ab m'.now m'.next aa)(hs:m'.st=m.st)(hk:(w.setCell ⟨xb,o,none⟩ v).ownsRow (xb+7) 4 1 ab m'.stack.length (Qe9 m'.stack))(hl:m'.stack.length<=8)(hn:m'.now<=400)(hx:m'.next<=aa):MI (w.setCell ⟨xb,o,none⟩ v) B xb sb M m' aa ab/\Fr (PK B xb) w (w.setCell ⟨xb,o,none⟩ v):=by
 have hf:Fr (PK B xb) w (w.setCell ⟨xb,o,none⟩ v):=(Fr.refl _ w).set h.blk ⟨h.bx,rfl⟩ o v;refine⟨⟨h.bx,?_,?_,hk,hl,hn,hx,h.cl,Nat.le_trans h.kz hf.size⟩,hf⟩
 ·rw[<-hc];exact Qah _ _ _ _ _ _ h.blk
 ·rw[hs];exact h.st.pk hf
theorem MI.row{w:World}{B xb sb:Nat}{M:Msg}{m:MS}{aa:Nat}{kv:Value}(h:MI w B xb sb M m aa kv):kv.ownBlock≠some xb:=fun e=>by
 obtain⟨_,cs,ab⟩:=Qcg h.stack xb _ e h.blk;injection ab with e1 e2
 exact absurd e2 (by decide)
theorem Qs2{w:World}{base:Nat}{e:TypeId}{g n c:Nat}{xs:List Value}(h:w.ownsRow base e 1 (.slice (some ⟨g,0,none⟩) (n+1) c) (n+1) xs):w.ownsRow base e 1 (.slice (some ⟨g,0,none⟩) n c) n xs.dropLast:=by
 obtain⟨h1,h2⟩:=h;rcases h2 with⟨h2,_⟩ | ⟨g',aa,ab,hv,hg,hh,hc,hm,hs,ht⟩
 ·injection h2 with h2;cases h2
 ·injection hv with hv1 hv2 hv3
  refine⟨by rw[List.length_dropLast];omega,Or.inr ⟨g',aa,ab,?_,hg,hh,by omega,hm,hs,?_⟩⟩
  ·rw[hv1,hv3]
  ·rw[<-ht,List.dropLast_eq_take,List.length_take,List.take_take];congr 1;have:ab.toList.length=aa*1:=by simpa using hs
   omega
theorem QpF(l:List Bool):(Qe9 l).dropLast=Qe9 l.dropLast:=by simp[Qe9,List.map_dropLast]
def QaQ (r:Except FZ MS) (B xb sb:Nat) (M:Msg) (count:Nat) (w:World) (e:Ending) (w':World):Prop:=
 Fr (PMc B xb) w w'∧
 match r with
 | .ok m=>e=.returned (.tuple #[])∧MAt w' B xb sb M m count
 | .error f=>Qex f w e w'
theorem QaQ.ok{r:Except FZ MS}{B xb sb:Nat}{M:Msg}{aa:Nat}{m:MS}{w w':World}(h:r=.ok m)(hf:Fr (PMc B xb) w w')(hm:MAt w' B xb sb M m aa):QaQ r B xb sb M aa w (.returned (.tuple #[])) w':=by
 subst h;exact⟨hf,rfl,hm⟩
theorem QaQ.err{r:Except FZ MS}{B xb sb:Nat}{M:Msg}{aa:Nat}{f:FZ}{e:Ending}{w w':World}(h:r=.error f)(hf:Fr (PMc B xb) w w')(hm:Qex f w e w'):QaQ r B xb sb M aa w e w':=by
 subst h;exact⟨hf,hm⟩
theorem QaQ.cases{r:Except FZ MS}{B xb sb:Nat}{M:Msg}{aa:Nat}{w w':World}{e:Ending}(h:QaQ r B xb sb M aa w e w'):Fr (PMc B xb) w w'/\((∃ m,r=.ok m/\e=.returned (.tuple #[])/\MAt w' B xb sb M m aa)\/∃ f,r=.error f/\Qex f w e w'):=by
 obtain⟨hf,h⟩:=h
 cases r with
 |ok m=>exact⟨hf,Or.inl ⟨m,rfl,h⟩⟩
 |error f=>exact⟨hf,Or.inr ⟨f,rfl,h⟩⟩
theorem Qex.from{f:FZ}{w u:World}{e:Ending}{w':World}(h:Qex f w e w')(hz:u.heap.size<=w.heap.size):Qex f u e w':=by
 obtain⟨b,h1,h2,h3⟩:=h;exact⟨b,by omega,h2,h3⟩
theorem QaQ.from{r:Except FZ MS}{B xb sb:Nat}{M:Msg}{aa:Nat}{u w w':World}{e:Ending}(h:QaQ r B xb sb M aa w e w')(hf:Fr (PMc B xb) u w):QaQ r B xb sb M aa u e w':=by
 obtain⟨h1,h⟩:=h;refine⟨hf.trans h1,?_⟩
 cases r with
 |ok m=>exact h
 |error f=>exact h.from hf.size
theorem QhA(er at_:Int)(w:World):Qex (er,at_) w (.panicked [{ v:=.iface 125 (.pointer (some ⟨w.heap.size,0,none⟩)),recovered:=false }]) (w.alloc (.cells #[.int .i64 er,.int .i64 at_] 130)):=
 ⟨w.heap.size,Nat.le_refl _,rfl,Qat _ _⟩
theorem QbS(xb:Nat)(w:World):Calls Tryz.prog 168 #[.pointer (some ⟨xb,0,none⟩),.bool true] w fun e w'=>e=.returned (.tuple #[])/\w'=w:=by
 go_enter func168,ntmps168;go_wp2;go_end0;exact⟨rfl,rfl⟩
theorem Qh0(xb:Nat)(now:Int)(w:World)(hc:w.cell? ⟨xb,2,none⟩=some (.int .i64 now)):Calls Tryz.prog 168 #[.pointer (some ⟨xb,0,none⟩),.bool false] w fun e w'=>e=.panicked [{ v:=.iface 125 (.pointer (some ⟨w.heap.size,0,none⟩)),recovered:=false }]/\w'=w.alloc (.cells #[.int .i64 12,.int .i64 now] 130):=by
 go_enter func168,ntmps168;go_wp2_with (go_at_call 103;refine(Qbi _ _ _).mono ?_;rintro e w3 ⟨rfl,rfl⟩);exact⟨rfl,rfl,rfl⟩
def ActsV (w:World) (B:Nat) (v:Value) (l:List (Int×L8)):Prop:=
 w.ownsRow B 52 2 v l.length (Qcp l)∧(l=[]→v=.slice none 0 0)
theorem Qrj(w:World):Calls Tryz.prog 102 #[] w fun e w'=>∃ v,e=.returned v/\ActsV w' w.heap.size v [(1,[])]/\Below w.heap.size w w':=by
 go_enter func102,ntmps102;go_wp2;go_ret;refine⟨_,rfl,⟨?_,fun h=>by cases h⟩,(Below.refl _ _).alloc (Nat.le_refl _) _⟩;exact World.ownsRow_lit (e:=52) (size:=2) w #[.int .i64 1,.string (Qaf [])] 1 (Nat.le_refl _) (by unfold maxLen;omega) rfl
theorem Qxl(W:World):(binOp .eql 32 (.slice none 0 0) (.slice none 0 0)).run Tryz.prog W=.ok (.bool true) W:=by kernel_rfl
theorem Qvt(W:World)(a:Addr)(n c:Nat):(binOp .eql 32 (.slice (some a) n c) (.slice none 0 0)).run Tryz.prog W=.ok (.bool false) W:=by kernel_rfl
theorem QsB(l:List (Int×L8)):∀ u∈Qcp l,u.oneCell'=true:=by
 intro u hu;unfold Qcp at hu;obtain⟨a,_,ha⟩:=List.mem_flatMap.1 hu;simp at ha;rcases ha with rfl|rfl<;>rfl
theorem Qnp(base:Nat)(met:List (Int×L8))(mv:Value)(w:World)(ho:w.ownsRow base 52 2 mv met.length (Qcp met))(hn:met=[]->mv=.slice none 0 0)(hl:met.length<=6) :
 Calls Tryz.prog 212 #[mv] w fun e w'=>∃ v,e=.returned v/\ActsV w' w.heap.size v met/\Below w.heap.size w w':=by
 obtain⟨i0,hi,ai,aj,ak⟩:=info_parts Tryz.infoAction;have q1:=Qxl;have q2:=Qvt;by_cases h0:met=[]
 ·subst h0;have ag:=hn rfl;subst ag;go_enter func212,ntmps212;go_wp2;go_ret;exact⟨_,rfl,⟨World.ownsRow_nil _ _ _ _,fun _=>rfl⟩,Below.refl _ _⟩
 ·have ab:=List.length_pos_iff.2 h0;obtain⟨g,c,hv,hbg,af,hcells⟩:=Qc6 ho ab;subst hv;have HC:=Qab hcells;clear hcells ho hn;go_enter func212,ntmps212
  have HN:Hid (∀ j u,(Qcp met)[j]?=some u->(w.alloc (.cells #[] 52)).cell? ((⟨g,0,none⟩:Addr).add j)=some u):=fun j u hj=>by
   rw[Qcs,World.cell?_of_block (a:=⟨g,j,none⟩) (w:=w) (Below.heap_alloc _ _ _ af)];exact HC.o j u hj
  go_wp2_with (at_builtin;refine wpList_append_own _ rfl _ _ 32 rfl w.heap.size 52 i0 _ 2 24 underlying32 hi ai aj ak rfl (by decide) _ _ _ rfl (World.ownsRow_made w #[] 0 (Nat.le_refl _) (Nat.zero_le _) rfl) ⟨g,0,none⟩ met.length c (Qcp met) rfl (QmP met) HN.o (QsB met) (by unfold maxLen;omega) (by omega) (by simp) ?_;intro v5 w5 aa ac _;obtain⟨a5,k5,ah⟩:=QaD aa;subst ah;have ae:=Qab aa;have ad:=Qab (QfP ((Below.refl _ _).alloc (Nat.le_refl _) _) ac (by simp) (fun k hk=>((World.ownsRow_made (e:=52) (size:=2) w #[] 0 (Nat.le_refl _) (Nat.zero_le _) rfl).lt k hk).1));clear aa ac);go_ret;refine⟨_,rfl,⟨?_,fun h=>absurd h h0⟩,ad.o⟩;have:=ae.o;rw[Nat.zero_add,List.nil_append]at this;exact this
theorem Qve(B sb:Nat)(M:Msg)(s:SS)(ac:Bool)(w:World)(h:SAt w B sb M s)(hd:ac=s.disc) :
 Calls Tryz.prog 169 #[.pointer (some ⟨sb,7,none⟩),.bool ac] w fun e w'=>∃ v,e=.returned v/\ActsV w' w.heap.size v (QxF s)/\Below w.heap.size w w':=by
 obtain⟨hv,mb,tv,mv,ad⟩:=h;have c7:w.cell? ⟨sb,7,none⟩=some mv:=ad.cell 7;have hn:=ad.mn;have ho:=ad.met;have ai:=ad.bd.met;obtain⟨la,lc,ah⟩:=QaD ho;subst ah;have HR:Hid (QxF s=if s.met=[]/\s.disc=false then [(1,[])]else s.met):=rfl;clear ad;by_cases h0:s.met=[]/\s.disc=false
 ·rw[if_pos h0]at HR;rw[h0.2]at hd;subst hd;have af:((s.met.length:Int)==0)=true:=by rw[h0.1];rfl
  have hl1:s.met.length=0:=by rw[h0.1];rfl
  go_enter func169,ntmps169;go_wp2_with (go_at_call 102;refine(Qrj _).mono ?_;rintro e w1 ⟨v,rfl,aa,ab⟩;obtain⟨a5,k5,ae⟩:=QaD aa.1;subst ae;have HV:=Qab aa;have HB:=Qab ab;clear aa ab);go_ret;exact⟨_,rfl,by rw[HR.o];exact HV.o,HB.o⟩
 ·rw[if_neg h0]at HR;have HC:=Qab (Qnp B s.met (.slice la s.met.length lc) w ho hn ai);by_cases hl:s.met=[]
  ·have ag:s.disc=true:=by cases hh:s.disc with|true=>rfl|false=>exact absurd ⟨hl,hh⟩ h0
   rw[ag]at hd;subst hd;have af:((s.met.length:Int)==0)=true:=by rw[hl];rfl
   clear h0 hn hl;go_enter func169,ntmps169;go_wp2_with (go_at_call 212;refine HC.o.mono ?_;rintro e w1 ⟨v,rfl,aa,ab⟩;obtain⟨a5,k5,ae⟩:=QaD aa.1;subst ae;have HV:=Qab aa;have HB:=Qab ab;clear aa ab);go_ret;exact⟨_,rfl,by rw[HR.o];exact HV.o,HB.o⟩
  ·have af:((s.met.length:Int)==0)=false:=by have:=List.length_pos_iff.2 hl;simp;omega
   clear h0 hn;go_enter func169,ntmps169;go_wp2_with (go_at_call 212;refine HC.o.mono ?_;rintro e w1 ⟨v,rfl,aa,ab⟩;obtain⟨a5,k5,ae⟩:=QaD aa.1;subst ae;have HV:=Qab aa;have HB:=Qab ab;clear aa ab);go_ret;exact⟨_,rfl,by rw[HR.o];exact HV.o,HB.o⟩
theorem QcE(xb:Nat)(now:Int)(w:World)(hc:w.cell? ⟨xb,2,none⟩=some (.int .i64 now)):Calls Tryz.prog 168 #[.pointer (some ⟨xb,0,none⟩),.bool false] w fun e w'=>Qex (12,now) w e w'/\Below w.heap.size w w':=
 (Qh0 xb now w hc).mono fun e w' h=>by
   obtain⟨rfl,rfl⟩:=h;exact⟨QhA _ _ _,(Below.refl _ _).alloc (Nat.le_refl _) _⟩
theorem Qxs(x:Bool):∀ u∈[Value.bool x],u.oneCell'=true:=by
 intro u hu;simp at hu;subst hu;rfl
theorem Qgw(v:Bool)(B xb sb:Nat)(M:Msg)(m:MS)(aa:Nat)(w:World)(h:MAt w B xb sb M m aa) :
 Calls Tryz.prog 199 #[.pointer (some ⟨xb,0,none⟩),.bool v] w (QaQ (Qm0 v m) B xb sb M aa w):=by
 obtain⟨kv,ac⟩:=h;have ab:=Qab ac;obtain⟨ka,kc,aw⟩:=QaD ac.stack;subst aw;have c1:w.cell? ⟨xb,1,none⟩=some (.slice ka m.stack.length kc):=Qaa ac.blk 1;have c2:w.cell? ⟨xb,2,none⟩=some (.int .i64 (m.now:Int)):=Qaa ac.blk 2;have av:=QaI ac.blk;have hsl:=ac.sl;have ag:=ac.bx;have ax:=ac.kz;obtain⟨i0,hi,ay,az,aA⟩:=info_parts Tryz.infoBool;clear ac;by_cases hlt:m.stack.length<8
 ·have aj:(m.stack.length:Int)<8:=by omega
  have HR:Hid (Qm0 v m=.ok ⟨m.st,m.stack++[v],m.now,m.next⟩):=by show _=_;unfold Qm0;rw[if_pos hlt]
  have af:=ab.o.row;have ad:=Qab af;clear af;go_enter func199,ntmps199;go_wp2_with (first|(go_at_call 168;refine(QbS _ _).mono ?_;rintro e w' ⟨rfl,au⟩;rw[au];clear au)|(at_builtin;refine wpList_append_own _ rfl _ _ 106 rfl (xb+7) 4 i0 _ 1 1 underlying106 hi ay az aA rfl (by decide) _ _ _ rfl (ab.o.stack.alloc _) ⟨w.heap.size,0,none⟩ 1 1 [.bool v] rfl rfl (cell_one_new _ _ _) (Qxs _) (by unfold maxLen;omega) (by omega) (by simp;omega) ?_;intro v5 w5 ak ah _;obtain⟨a5,k5,ao⟩:=QaD ak;subst ao;have aq:=Qab ak;have HG5:=Qab ah;have d1:w5.cell? ⟨xb,1,none⟩=some (.slice ka m.stack.length kc):=ah.cell (a:=⟨xb,1,none⟩) ((World.cell?_of_block (a:=⟨xb,1,none⟩) (w:=w) (Below.heap_alloc _ _ _ av)).trans c1) (fun e=>ad.o e.symm);have hft:∀ j,w5.frozen? ⟨xb,j,none⟩=false:=fun j=>(World.frozen?_of_block (a:=⟨xb,j,none⟩) (w:=w) ((ah.block xb (by simp;omega) (fun e=>ad.o e.symm)).trans (Below.heap_alloc _ _ _ av))).trans (Qao ab.o.blk j);clear ak ah));go_end0
  have hf5:Fr (PK B xb) w w5:=((Fr.refl _ w).alloc _).grown HG5.o (fun k o e ho=>by
   obtain⟨hb,cs,ai⟩:=Qcg (ab.o.stack.alloc _) k o e ho;subst ai
   exact ⟨by omega,by unfold kO;simp;omega⟩)
  have ae:w5.heap[xb]?=some (.cells (QeU sb (.slice ka m.stack.length kc) m.now m.next aa) 188):=by
   rw[HG5.o.block xb (by simp;omega) (fun e=>ad.o e.symm)];exact Qae ab.o.blk
  obtain⟨v5,ap⟩:∃ v5,v5=Value.slice a5 (m.stack.length+1) k5:=⟨_,rfl⟩;rw[<-ap]at aq ⊢;have ar:w5.ownsRow (xb+7) 4 1 v5 (m.stack++[v]).length (Qe9 (m.stack++[v])):=by rw[List.length_append,<-QpP];exact aq.o
  have ao:v5.ownBlock≠some xb:=fun e=>by
   obtain⟨_,cs,ai⟩:=Qcg ar xb _ e ae;injection ai with e1 e2
   exact absurd e2 (by decide)
  refine QaQ.ok HR.o ((hf5.mono (fun _ _=>PMc.k)).set ae (PMc.k ⟨ag,rfl⟩) 1 _) ⟨v5,ag,?_,?_,Qcc ar ao _ _,by simp;omega,ab.o.nw,ab.o.nx,ab.o.cl,Nat.le_trans ax ((hf5.set ae ⟨ag,rfl⟩ 1 v5).size)⟩
  ·exact Qah _ _ _ _ _ _ ae
  ·exact ab.o.st.pk (hf5.set ae ⟨ag,rfl⟩ 1 _)
 ·have aj:¬(m.stack.length:Int)<8:=by omega
  have HR:Hid (Qm0 v m=.error (12,(m.now:Int))):=by show _=_;unfold Qm0;rw[if_neg hlt]
  go_enter func199,ntmps199;go_wp2_with (first|(go_at_call 168;refine(Qh0 _ _ _ c2).mono ?_;rintro e w' ⟨rfl,rfl⟩));exact⟨rfl,QaQ.err HR.o ((Fr.refl _ _).alloc _) (QhA _ _ _)⟩
theorem Qot(B xb sb:Nat)(M:Msg)(m:MS)(aa:Nat)(w:World)(h:MAt w B xb sb M m aa)(h0:m.stack=[]) :
 Calls Tryz.prog 200 #[.pointer (some ⟨xb,0,none⟩)] w fun e w'=>Qex (12,(m.now:Int)) w e w'/\Below w.heap.size w w':=by
 obtain⟨kv,ab⟩:=h;obtain⟨ka,kc,ac⟩:=QaD ab.stack;subst ac;have c1:w.cell? ⟨xb,1,none⟩=some (.slice ka m.stack.length kc):=Qaa ab.blk 1;have c2:w.cell? ⟨xb,2,none⟩=some (.int .i64 (m.now:Int)):=Qaa ab.blk 2;rw[h0]at c1;clear ab;go_enter func200,ntmps200;go_wp2_with (first|(go_at_call 168;refine(Qh0 _ _ _ c2).mono ?_;rintro e w' ⟨rfl,rfl⟩));exact⟨rfl,QhA _ _ _,(Below.refl _ _).alloc (Nat.le_refl _) _⟩
theorem Qnq(B xb sb:Nat)(M:Msg)(m:MS)(aa:Nat)(w:World)(h:MAt w B xb sb M m aa)(h0:m.stack≠[]) :
 Calls Tryz.prog 200 #[.pointer (some ⟨xb,0,none⟩)] w fun e w'=>e=.returned (.bool (topL m))/\MAt w' B xb sb M (Qrs m) aa/\Fr (PMc B xb) w w':=by
 obtain⟨kv,ab⟩:=h;have ae:=Qab ab;have hpos:=List.length_pos_iff.2 h0;obtain⟨n,hn⟩:∃ n,m.stack.length=n+1:=⟨m.stack.length - 1,by omega⟩;have ad:=ab.stack;rw[hn]at ad;obtain⟨g,kc,ai,hbg,hgl,hcells⟩:=Qc6 ad (by omega);subst ai;have c1:w.cell? ⟨xb,1,none⟩=some (.slice (some ⟨g,0,none⟩) (n+1) kc):=Qaa ab.blk 1
 have ht:w.cell? ⟨g,n,none⟩=some (.bool (topL m)):=hcells n _ (by
  unfold Qe9 topL;rw[List.getElem?_map,List.getLastD_eq_getLast?,List.getLast?_eq_getElem?,hn,Nat.add_sub_cancel];rw[List.getElem?_eq_getElem (show n<m.stack.length by omega)]
  rfl)
 have hfx:=Qao ab.blk;have hsl:=ab.sl;have hbx:=ab.bx;have ah:=Qab ad;have hn8:n+1<=8:=by omega
 have hcap:n+1<=kc:=by
  rcases ad.2 with⟨h1,_⟩ | ⟨g',cap,cur,h1,_,_,h2,_⟩
  ·injection h1 with h1;cases h1
  ·injection h1 with h3 h4 h5;omega
 have hcap':(n:Int)<=(kc:Int):=by omega
 have hn0:(0:Int)<=(n:Int):=by omega
 have hn1:(n:Int)<(n:Int)+1:=by omega
 have hn2:(0:Int)<(n:Int)+1:=by omega
 clear ab ad hcells;go_enter func200,ntmps200;go_wp2_with (first|(go_at_call 168;refine(QbS _ _).mono ?_;rintro e w' ⟨rfl,ag⟩;rw[ag];clear ag));go_ret
 have aj:w.ownsRow (xb+7) 4 1 (.slice (some ⟨g,0,none⟩) n kc) (Qrs m).stack.length (Qe9 (Qrs m).stack):=by
  have:=Qs2 ah.o;rw[QpF]at this;show w.ownsRow (xb+7) 4 1 _ m.stack.dropLast.length (Qe9 m.stack.dropLast)
  rw[List.length_dropLast,hn,Nat.add_sub_cancel];exact this
 have af:(Value.slice (some ⟨g,0,none⟩) n kc).ownBlock≠some xb:=ae.o.row;have ac:=ae.o.set 1 (.slice (some ⟨g,0,none⟩) n kc) (Qrs m) (.slice (some ⟨g,0,none⟩) n kc) rfl rfl (Qcc aj af _ _) (by show m.stack.dropLast.length<=8;rw[List.length_dropLast];omega) ae.o.nw ae.o.nx;exact⟨rfl,⟨_,ac.1⟩,ac.2.mono (fun _ _=>PMc.k)⟩
theorem Qu9(B xb sb:Nat)(M:Msg)(m:MS)(aa:Nat)(w:World)(h:MAt w B xb sb M m aa) :
 Calls Tryz.prog 200 #[.pointer (some ⟨xb,0,none⟩)] w fun e w'=>(m.stack=[]/\Qex (12,(m.now:Int)) w e w'/\Below w.heap.size w w')\/(m.stack≠[]/\e=.returned (.bool (topL m))/\MAt w' B xb sb M (Qrs m) aa/\Fr (PMc B xb) w w'):=by
 by_cases h0:m.stack=[]
 ·exact(Qot B xb sb M m aa w h h0).mono fun e w' h=>Or.inl ⟨h0,h⟩
 ·exact(Qnq B xb sb M m aa w h h0).mono fun e w' h=>Or.inr ⟨h0,h⟩
theorem QeD(n:Int)(B xb sb:Nat)(M:Msg)(m:MS)(aa:Nat)(w:World)(h:MAt w B xb sb M m aa) :
 Calls Tryz.prog 201 #[.pointer (some ⟨xb,0,none⟩),.int .i64 n] w fun e w'=>e=.returned (.bool (QiL aa m n))/\Below w.heap.size w w':=by
 obtain⟨kv,ab⟩:=h;have c3:w.cell? ⟨xb,3,none⟩=some (.int .i64 (m.next:Int)):=Qaa ab.blk 3;have c4:w.cell? ⟨xb,4,none⟩=some (.int .i64 (aa:Int)):=Qaa ab.blk 4;have hx:=ab.nx;have hc:=ab.cl;have HR:Hid (QiL aa m n=(decide (0<=n)&&decide (n<=(aa:Int) - m.next))):=rfl;have hw:IntKind.i64.wrap ((aa:Int) - (m.next:Int))=(aa:Int) - (m.next:Int):=by rw[IntKind.wrap_i64];omega
 clear ab;by_cases h0:0<=n
 ·have hd:decide (0<=n)=true:=decide_eq_true h0;rw[hd]at HR;by_cases h1:n<=(aa:Int) - m.next
  ·rw[decide_eq_true h1]at HR;go_enter func201,ntmps201;go_wp2_with fail;go_quiet (fail)
   all_goals go_wp2
   all_goals go_ret
   all_goals exact⟨QaZ (by rw[HR.o];simp[h1]),QbG (Below.refl _ _)⟩
  ·rw[decide_eq_false h1]at HR;go_enter func201,ntmps201;go_wp2_with fail;go_quiet (fail)
   all_goals go_wp2
   all_goals go_ret
   all_goals exact⟨QaZ (by rw[HR.o];simp[h1]),QbG (Below.refl _ _)⟩
 ·have hd:decide (0<=n)=false:=decide_eq_false h0;rw[hd]at HR;go_enter func201,ntmps201;go_wp2_with fail;go_quiet (fail)
  all_goals go_wp2
  all_goals go_ret
  all_goals exact⟨QaZ (by rw[HR.o];rfl),QbG (Below.refl _ _)⟩
end
end Go.Proofs.YtgnkjijocdmniaaGreatDoor
