import Derived.Test.YtbiclelojbfnbabGreatDoorZAList
namespace Go.Proofs.YtbiclelojbfnbabGreatDoor
set_option linter.unusedVariables false
set_option linter.unusedSimpArgs false
set_option maxRecDepth 100000
set_option maxHeartbeats 4000000
open Go.RowKit
attribute [local go_sem ↓] Go.wp_at_zero Go.wp_at_succ
theorem Qe0 (s:ByteArray) (w:World) (h:s.size≤1000000):Calls Tryz.prog 251 #[.string s] w fun e w'=>e=.returned (.string s)∧Below w.heap.size w w':=by
 go_enter Tryz.func251,Tryz.ntmps251
 go_wp2_with fail
 refine (Tryz.stringslite_Clone s w (by omega)).mono ?_
 rintro e w1 ⟨rfl,hb1⟩
 have HB1:=Qaa hb1
 clear hb1
 go_wp2
 go_ret
 exact ⟨rfl,HB1.out⟩
def Qsl (met:List (Int×List UInt8)) (kind:Int):Bool:=!met.isEmpty && (decide (kind=4) || decide ((met.headD (0,[])).1=4))
theorem QeE (a b:Int):(a == b)=decide (a=b):=rfl
theorem Qdj (base sb:Nat) (met:List (Int×List UInt8)) (mv:Value) (a:Int×List UInt8) (w:World) (hc:w.cell? ⟨sb,7,none⟩=some mv) (ho:w.ownsRow base 34 2 mv met.length (QbB met)) (hl:met.length≤1000000) :
 Calls Tryz.prog 250 #[.pointer (some ⟨sb,7,none⟩),.agg #[.int .i64 a.1,.string (Qag a.2)]] w fun e w'=>e=.returned (.bool (Qsl met a.1))∧Below w.heap.size w w':=by
 obtain ⟨la,lc,hll⟩:=QaN ho
 subst hll
 have hsl:=Qay hc
 have hsl':sb < w.heap.size:=hsl
 by_cases h0:met.length=0
 ·have hm:met=[]:=List.eq_nil_of_length_eq_zero h0
  subst hm
  go_enter Tryz.func250,Tryz.ntmps250
  go_wp2
  go_ret
  exact ⟨rfl,(Below.refl _ _).alloc (Nat.le_refl _) _⟩
 obtain ⟨x,r,rfl⟩:∃ x r,met=x :: r:=by cases met with | nil=>exact absurd rfl h0 | cons x r=>exact ⟨x,r,rfl⟩
 have hpos:(0:Int) < ((x :: r).length:Int):=by simp
 obtain ⟨g,c,hla,hbg,hgl,hcells⟩:=Qdn ho (by simp)
 injection hla with hla1 hla2 hla3
 subst hla1
 have c1:w.cell? ⟨g,0,none⟩=some (.int .i64 x.1):=hcells 0 _ rfl
 have HR:Hid (Qsl (x :: r) a.1=(decide (a.1=4) || decide (x.1=4))):=rfl
 have e1:=QeE a.1 4
 have e2:=QeE x.1 4
 obtain ⟨n,hn⟩:∃ n,(x :: r).length=n:=⟨_,rfl⟩
 rw [hn] at hc hpos hl
 generalize decide (a.1=4)=b1 at *
 generalize decide (x.1=4)=b2 at *
 clear hcells ho hla3 hn h0
 cases b1 <;> cases b2 <;>
 (go_enter Tryz.func250,Tryz.ntmps250
  go_wp2
  go_ret
  exact ⟨QaU (by rw [HR.out];rfl),(Below.refl _ _).alloc (Nat.le_refl _) _⟩)
theorem SBd.met' {M:Msg} {s:SS} (b:SBd M s) (l:List (Int×List UInt8)) (h:l.length≤6):SBd M (QrF s l):=⟨b.fr,b.to,b.hl,b.hd,b.told,b.tl,b.vals,h⟩
theorem SI.regrow {w w5:World} {B sb:Nat} {M:Msg} {s:SS} {hv:Value} {mb:Nat} {tv mv:Value} (h:SI w B sb M s hv mb tv mv) (hf:Fr (fun k _=>mv.ownBlock=some k) w w5) (v':Value) (met':List (Int×List UInt8)) (ho:w5.ownsRow B 34 2 v' met'.length (QbB met')) (hm:met'.length≤6) (hnn:met'≠[]):SI (w5.setCell ⟨sb,7,none⟩ v') B sb M (QrF s met') hv mb tv v'∧Fr (PSt B) w (w5.setCell ⟨sb,7,none⟩ v'):=by
 have hne:∀ (k:Nat) (o:Obj),w.heap[k]?=some o→(∀ cs,o≠.cells cs 34)→w5.heap[k]?=some o:=fun k o hk ho=>by
  refine hf.block k o hk (fun e=>?_)
  obtain ⟨_,cs,hcs⟩:=QbG h.met k o e hk
  exact ho cs hcs
 have hb5:=hne sb _ h.blk (fun cs e=>by injection e with e1 e2;exact absurd e2 (by decide))
 have hf5:Fr (fun k _=>k=sb) w5 (w5.setCell ⟨sb,7,none⟩ v'):=(Fr.refl _ w5).set hb5 rfl 7 v'
 have hnb:∀ (k:Nat) (o:Obj),w5.heap[k]?=some o→(∀ cs,o≠.cells cs 227)→(w5.setCell ⟨sb,7,none⟩ v').heap[k]?=some o:=fun k o hk ho=>hf5.block k o hk (fun e=>by subst e;rw [hb5] at hk;cases hk;exact ho _ rfl)
 obtain ⟨es,c,hm1,hu⟩:=h.mp
 obtain ⟨m,h7⟩:=h.m1
 have hl1:∃ o,w.heap[1]?=some o:=⟨_,Array.getElem?_eq_getElem (Qay h7)⟩
 obtain ⟨o1,hl1⟩:=hl1
 refine ⟨⟨h.bs,h.bm,h.b1,⟨m,?_⟩,?_,?_,⟨es,c,hnb _ _ (hne _ _ hm1 (fun cs e=>by cases e)) (fun cs e=>by cases e),hu⟩,?_,?_,fun e=>absurd e hnn,h.bd.met' met' hm⟩,?_⟩
 ·have n1:(1:Nat)≠sb:=by have:=h.b1;have:=h.bs;omega
  have n2:w5.heap[1]?=some o1:=hf.block 1 o1 hl1 (fun e=>by
   obtain ⟨hb,_⟩:=QbG h.met 1 o1 e hl1
   have:=h.b1;omega)
  rw [World.cell?_of_block (a:=⟨1,0,none⟩) (w:=w) ((Below.heap_setCell _ _ _ _ n1).trans (n2.trans hl1.symm))]
  exact h7
 ·exact Qah _ _ _ _ _ _ hb5
 ·rcases h.hd with h' | ⟨g,c,cs,hv',hb,hc⟩
  ·exact Or.inl h'
  ·exact Or.inr ⟨g,c,cs,hv',hnb _ _ (hne _ _ hb (fun cs e=>by injection e with e1 e2;exact absurd e2 (by decide))) (fun cs e=>by injection e with e1 e2;exact absurd e2 (by decide)),hc⟩
 ·rcases h.told with h' | ⟨g,c,hv',cs,hb,hc⟩
  ·exact Or.inl h'
  ·exact Or.inr ⟨g,c,hv',cs,hnb _ _ (hne _ _ hb (fun cs e=>by injection e with e1 e2;exact absurd e2 (by decide))) (fun cs e=>by injection e with e1 e2;exact absurd e2 (by decide)),hc⟩
 ·obtain ⟨h1,h2⟩:=ho
  refine ⟨h1,?_⟩
  rcases h2 with h2 | ⟨g,cap,cur,hv',hg,hh,r⟩
  ·exact Or.inl h2
  ·exact Or.inr ⟨g,cap,cur,hv',hg,hnb _ _ hh (fun cs e=>by injection e with e1 e2;exact absurd e2 (by decide)),r⟩
 ·refine (Fr.mono ⟨hf.os,hf.tape,hf.output,hf.size,fun k o hk hn=>?_⟩ (fun k o h=>h)).set hb5 ⟨h.bs,rfl⟩ 7 v'
  exact hf.block k o hk (fun e=>hn (by
   obtain ⟨hb,cs,hcs⟩:=QbG h.met k o e hk
   subst hcs
   exact ⟨hb,rfl⟩))
theorem Qbt {w:World} {base:Nat} {e:TypeId} {size:Nat} {v:Value} {n:Nat} {xs:List Value} (h:w.ownsRow base e size v n xs) {b:Nat} (hne:v.ownBlock≠some b) (j:Nat) (x:Value):(w.setCell ⟨b,j,none⟩ x).ownsRow base e size v n xs:=by
 obtain ⟨h1,h2⟩:=h
 refine ⟨h1,?_⟩
 rcases h2 with h2 | ⟨g,cap,cur,hv,hg,hh,r⟩
 ·exact Or.inl h2
 ·refine Or.inr ⟨g,cap,cur,hv,hg,?_,r⟩
  rw [Below.heap_setCell _ _ _ _ (show g≠b from fun e=>hne (by rw [hv,e];rfl))]
  exact hh
def QbV (s:SS) (kind:Int) (arg:List UInt8) (B sb:Nat) (M:Msg) (w:World) (e:Ending) (w':World):Prop:=
 e=.returned (.int .i64 (addL s.met kind arg).1)∧SAt w' B sb M (QrF s (addL s.met kind arg).2)∧Fr (PSt B) w w'
theorem QqB {met:List (Int×List UInt8)} {kind:Int} {arg:List UInt8} (h2:¬ (kind=2∧Qc4 arg=false)) (h3:¬ (kind=3∧Qcc arg=false)):addL met kind arg =
 (if QoG (kind,cutArg kind arg) met=true then (0,met) else if Qsl met kind=true then (10,met) else if met.length=6 then (11,met) else (0,met++[(kind,cutArg kind arg)])):=by
 unfold addL
 rw [if_neg h2,if_neg h3]
 by_cases hm:(kind,cutArg kind arg)∈met
 ·rw [if_pos hm,if_pos ((Qoe _ _).2 hm)]
 rw [if_neg hm,if_neg (fun h=>hm ((Qoe _ _).1 h))]
 have hc:Qsl met kind=true↔(met≠[]∧(kind=4∨(met.headD (0,[])).1=4)):=by
  unfold Qsl
  cases met <;> simp
 by_cases hcc:met≠[]∧(kind=4∨(met.headD (0,[])).1=4)
 ·rw [if_pos hcc,if_pos (hc.2 hcc)]
 ·rw [if_neg hcc,if_neg (fun h=>hcc (hc.1 h))]
theorem QjZ (w:World) (x:Int×List UInt8) (t:TypeId):∀ j u,[Value.int .i64 x.1,.string (Qag x.2)][j]?=some u→(w.alloc (.cells #[.int .i64 x.1,.string (Qag x.2)] t)).cell? ((⟨w.heap.size,0,none⟩:Addr).add j)=some u:=by
 intro j u hj
 match j,hj with
 | 0,hj=>simp at hj;subst hj;simp [Addr.add]
 | 1,hj=>simp at hj;subst hj;simp [Addr.add]
theorem Qju (x:Int×List UInt8):∀ u∈[Value.int .i64 x.1,Value.string (Qag x.2)],u.oneCell'=true:=by
 intro u hu
 simp at hu
 rcases hu with rfl | rfl <;> rfl
theorem QtL (B sb:Nat) (M:Msg) (s:SS) (kind:Int) (arg:List UInt8) (w:World) (h:SAt w B sb M s) (hl:arg.length≤1000000) :
 Calls Tryz.prog 229 #[.pointer (some ⟨sb,7,none⟩),.agg #[.int .i64 kind,.string (Qag arg)]] w (QbV s kind arg B sb M w):=by
 have HS:=Qaa h
 obtain ⟨hv,mb,tv,mv,hSI⟩:=h
 have HSI:=Qaa hSI
 have hsl:=hSI.lt
 have c7:w.cell? ⟨sb,7,none⟩=some mv:=hSI.cell 7
 obtain ⟨la,lc,hll⟩:=QaN hSI.met
 subst hll
 have hm6:=hSI.bd.met
 have hz:=QaD arg
 have ek2:=QeE kind 2
 have ek3:=QeE kind 3
 have ek4:=QeE kind 4
 obtain ⟨i0,hi,hz0,hz1,hz2⟩:=info_parts Tryz.infoAction
 clear hSI
 by_cases h2:kind=2∧Qc4 arg=false
 ·obtain ⟨rfl,hb⟩:=h2
  have hr:addL s.met 2 arg=(8,s.met):=by unfold addL;rw [if_pos ⟨rfl,hb⟩]
  have HR:=Qaa hr
  clear hr
  go_enter Tryz.func229,Tryz.ntmps229
  go_wp2_with (go_at_call 144;refine (Qk4 _ _ (by rw [QaD];omega)).mono ?_;rintro e w' ⟨rfl,rfl⟩;rw [show Qc4 (Qag arg).data.toList=false from hb])
  go_ret
  unfold QbV
  rw [HR.out]
  exact ⟨rfl,HS.out.below ((Below.refl _ _).alloc (Nat.le_refl _) _),(Fr.refl _ _).alloc _⟩
 by_cases h3:kind=3∧Qcc arg=false
 ·obtain ⟨rfl,hb⟩:=h3
  have hr:addL s.met 3 arg=(9,s.met):=by unfold addL;rw [if_neg h2,if_pos ⟨rfl,hb⟩]
  have HR:=Qaa hr
  clear hr
  go_enter Tryz.func229,Tryz.ntmps229
  go_wp2_with (go_at_call 248;refine (QfP _ _ (by rw [QaD];omega)).mono ?_;rintro e w' ⟨rfl,rfl⟩;rw [show Qcc (Qag arg).data.toList=false from hb])
  go_ret
  unfold QbV
  rw [HR.out]
  exact ⟨rfl,HS.out.below ((Below.refl _ _).alloc (Nat.le_refl _) _),(Fr.refl _ _).alloc _⟩
 have hrest:=QqB (met:=s.met) (kind:=kind) (arg:=arg) h2 h3
 obtain ⟨z,hzz⟩:∃ z,cutArg kind arg=z:=⟨_,rfl⟩
 rw [hzz] at hrest
 have HZ:=Qaa hzz
 have hzl:z.length≤1000000:=by
  rw [← hzz]
  unfold cutArg
  split
  ·rw [List.length_take];omega
  ·exact hl
 have HRest:=Qaa hrest
 clear hrest
 have hbx:kind=2→Qc4 arg=true:=fun e=>by cases hb:Qc4 arg with | true=>rfl | false=>exact absurd ⟨e,hb⟩ h2
 have had:kind=3→Qcc arg=true:=fun e=>by cases hb:Qcc arg with | true=>rfl | false=>exact absurd ⟨e,hb⟩ h3
 have HBX:=Qaa hbx
 have HAD:=Qaa had
 clear h2 h3 hbx had hzz
 by_cases k2:kind=2
 ·subst k2
  have hb:Qc4 arg=true:=HBX.out rfl
  have hza:arg=z:=HZ.out
  subst hza
  go_enter Tryz.func229,Tryz.ntmps229
  go_wp2_with (go_at_call 144;refine (Qk4 _ _ (by rw [QaD];omega)).mono ?_;rintro e w' ⟨rfl,hww⟩;rw [hww];rw [show Qc4 (Qag arg).data.toList=true from hb])
  obtain ⟨W,hW⟩:∃ W,W=w.alloc (.cells #[.int .i64 2,.string (Qag arg)] 34):=⟨_,rfl⟩
  have HWB:Hid (Below w.heap.size w W):=by rw [hW];exact (Below.refl _ _).alloc (Nat.le_refl _) _
  have hWa:W.heap[w.heap.size]?=some (.cells #[.int .i64 2,.string (Qag arg)] 34):=by rw [hW];exact QaB _ _
  have HWA:=Qaa hWa
  rw [← hW]
  clear hW
  have d7:W.cell? ⟨sb,7,none⟩=some (.slice la s.met.length lc):=(HWB.out.cell (p:=⟨sb,7,none⟩) hsl).trans c7
  have b0:W.cell? ⟨w.heap.size,0,none⟩=some (.int .i64 2):=Qab hWa 0
  have b1:W.cell? ⟨w.heap.size,1,none⟩=some (.string (Qag arg)):=Qab hWa 1
  have hWl:=QaM hWa
  have hsW:sb < W.heap.size:=by omega
  have HWO:Hid (W.ownsRow B 34 2 (.slice la s.met.length lc) s.met.length (QbB s.met)):=Qa8 (P:=fun _ _=>False) HSI.out.met (Fr.of_below HWB.out) (fun _ _ h=>h)
  clear hWa
  cases hmem:QoG (2,arg) s.met
  rotate_left
  ·rw [hmem] at HRest
   go_region_held3 (fun w'=>w'.cell? ⟨sb,7,none⟩=some (.slice la s.met.length lc)∧w'.cell? ⟨w.heap.size,0,none⟩=some (.int .i64 2)∧w'.cell? ⟨w.heap.size,1,none⟩=some (.string (Qag arg))) (first | go_keep | exact ⟨q7,q0,q1⟩) (first | (go_at_call 249;refine (Qbv B s.met _ (2,arg) W.drew HWO.out (by omega)).mono ?_;rintro e w1 ⟨rfl,hb1⟩;rw [hmem];have hb2:=QaS hb1;have q7:w1.cell? ⟨sb,7,none⟩=some (.slice la s.met.length lc):=(hb2.cell (p:=⟨sb,7,none⟩) hsW).trans d7;have q0:w1.cell? ⟨w.heap.size,0,none⟩=some (.int .i64 2):=(hb2.cell (p:=⟨w.heap.size,0,none⟩) hWl).trans b0;have q1:w1.cell? ⟨w.heap.size,1,none⟩=some (.string (Qag arg)):=(hb2.cell (p:=⟨w.heap.size,1,none⟩) hWl).trans b1;have HB1:=Qaa (HWB.out.trans (hb2.mono HWB.out.size));clear hb1 hb2;skip))
   all_goals go_wp2
   all_goals go_ret
   all_goals unfold QbV
   all_goals rw [HRest.out]
   all_goals exact ⟨rfl,HS.out.below HB1.out,Fr.of_below HB1.out⟩
  rw [hmem] at HRest
  go_region_held3 (fun w'=>w'.cell? ⟨sb,7,none⟩=some (.slice la s.met.length lc)∧w'.cell? ⟨w.heap.size,0,none⟩=some (.int .i64 2)∧w'.cell? ⟨w.heap.size,1,none⟩=some (.string (Qag arg))) (first | go_keep | exact ⟨q7,q0,q1⟩) (first | (go_at_call 249;refine (Qbv B s.met _ (2,arg) W.drew HWO.out (by omega)).mono ?_;rintro e w1 ⟨rfl,hb1⟩;rw [hmem];have hb2:=QaS hb1;have q7:w1.cell? ⟨sb,7,none⟩=some (.slice la s.met.length lc):=(hb2.cell (p:=⟨sb,7,none⟩) hsW).trans d7;have q0:w1.cell? ⟨w.heap.size,0,none⟩=some (.int .i64 2):=(hb2.cell (p:=⟨w.heap.size,0,none⟩) hWl).trans b0;have q1:w1.cell? ⟨w.heap.size,1,none⟩=some (.string (Qag arg)):=(hb2.cell (p:=⟨w.heap.size,1,none⟩) hWl).trans b1;have HB1:=Qaa (HWB.out.trans (hb2.mono HWB.out.size));have HO1:=Qaa (Qa8 (P:=fun _ _=>False) HWO.out (Fr.of_below hb2) (fun _ _ h=>h));have HA1:=Qaa (Qaq HWA.out hb2);clear hb1 hb2;skip))
  all_goals go_wp2_with fail
  all_goals refine (Qdj B sb s.met _ (2,arg) w1 q7 HO1.out (by omega)).mono ?_
  all_goals rintro e w2 ⟨rfl,hb2⟩
  all_goals have HB2:=Qaa (HB1.out.trans (hb2.mono HB1.out.size))
  all_goals have HO2:=Qaa (Qa8 (P:=fun _ _=>False) HO1.out (Fr.of_below hb2) (fun _ _ h=>h))
  all_goals have HA2:=Qaa (Qaq HA1.out hb2)
  all_goals have r7:w2.cell? ⟨sb,7,none⟩=some (.slice la s.met.length lc):=(hb2.cell (p:=⟨sb,7,none⟩) (Qay q7)).trans q7
  all_goals have r1:w2.cell? ⟨w.heap.size,1,none⟩=some (.string (Qag arg)):=Qab HA2.out 1
  all_goals clear hb2 q7 q0 q1
  all_goals dsimp only
  all_goals cases hcon:Qsl s.met 2
  rotate_left
  ·rw [hcon] at HRest
   go_wp2
   go_ret
   unfold QbV
   rw [HRest.out]
   exact ⟨rfl,HS.out.below HB2.out,Fr.of_below HB2.out⟩
  rw [hcon] at HRest
  by_cases h6:s.met.length=6
  ·rw [if_pos h6] at HRest
   have h6':((s.met.length:Int) == 6)=true:=by rw [h6];rfl
   go_wp2
   go_ret
   unfold QbV
   rw [HRest.out]
   exact ⟨rfl,HS.out.below HB2.out,Fr.of_below HB2.out⟩
  rw [if_neg h6] at HRest
  have h6':((s.met.length:Int) == 6)=false:=by simp;omega
  go_wp2_with fail
  refine (Qe0 (Qag arg) w2 (by rw [QaD];omega)).mono ?_
  rintro e w3 ⟨rfl,hb3⟩
  have HB3:=Qaa (HB2.out.trans (hb3.mono HB2.out.size))
  have HO3:=Qaa (Qa8 (P:=fun _ _=>False) HO2.out (Fr.of_below hb3) (fun _ _ h=>h))
  have ha3:=Qaq HA2.out hb3
  have s0:w3.cell? ⟨w.heap.size,0,none⟩=some (.int .i64 2):=Qab ha3 0
  have s1:w3.cell? ⟨w.heap.size,1,none⟩=some (.string (Qag arg)):=Qab ha3 1
  have sf:=Qam ha3
  have s7:w3.cell? ⟨sb,7,none⟩=some (.slice la s.met.length lc):=(hb3.cell (p:=⟨sb,7,none⟩) (Qay r7)).trans r7
  have HA3:=Qaa ha3
  have hne:¬ sb=w.heap.size:=by omega
  have hne':¬ w.heap.size=sb:=by omega
  clear hb3 ha3 r7 r1
  go_wp2_with fail
  obtain ⟨V,hV⟩:∃ V,V=w3.setCell ⟨w.heap.size,1,none⟩ (.string (Qag arg)):=⟨_,rfl⟩
  have HBV:Hid (Below w.heap.size w V):=by rw [hV];exact HB3.out.setCell (Nat.le_refl _) _
  have hVa:V.heap[w.heap.size]?=some (.cells #[.int .i64 2,.string (Qag arg)] 34):=by rw [hV];exact Qah _ _ _ _ _ _ HA3.out
  have HVO:Hid (V.ownsRow B 34 2 (.slice la s.met.length lc) s.met.length (QbB s.met)):=by
   rw [hV]
   exact Qbt HO3.out (fun e=>by have:=(HSI.out.met.lt _ e).2;omega) _ _
  have v7:V.cell? ⟨sb,7,none⟩=some (.slice la s.met.length lc):=by rw [hV,World.cell?_of_block (a:=⟨sb,7,none⟩) (Below.heap_setCell _ _ _ _ hne)];exact s7
  have v0:V.cell? ⟨w.heap.size,0,none⟩=some (.int .i64 2):=Qab hVa 0
  have v1:V.cell? ⟨w.heap.size,1,none⟩=some (.string (Qag arg)):=Qab hVa 1
  have HSV:=Qaa (HSI.out.below HBV.out)
  have hVl:=QaM hVa
  have hsV:sb < V.heap.size:=by omega
  rw [← hV]
  have HBs:=HSV.out.bs
  have hrow:¬ (Value.slice la s.met.length lc).ownBlock=some sb:=fun e=>by
   obtain ⟨_,cs,hcs⟩:=QbG HSV.out.met sb _ e HSV.out.blk
   injection hcs with e1 e2
   exact absurd e2 (by decide)
  have HROW:=Qaa hrow
  clear hV hVa s7 s0 s1 sf hrow HB3 HO3 HA3
  have hBV:B≤V.heap.size:=by omega
  go_region_law (refine step_append_lies _ rfl (.tmp 52) (.tmp 54) 29 rfl B 34 i0 (.agg #[.int .i64 0,.string ⟨#[]⟩]) 2 24 Tryz.underlying29 hi hz0 hz1 hz2 rfl (by decide) (.slice la s.met.length lc) s.met.length (QbB s.met) (by simp [Act.eval,Act.put]) (HVO.out.alloc _) ⟨V.heap.size,0,none⟩ 1 1 [.int .i64 2,.string (Qag arg)] (by simp [Act.eval,Act.put]) rfl (QjZ _ (2,arg) _) (Qju (2,arg)) (by decide) (by unfold maxLen;omega) (by omega) (by simp;omega) _ rfl ?_;intro g' cap' w5 hown5 hgrow hat hlt5;have HO5:=Qaa hown5;have HG5:=Qaa hgrow;have t7:w5.cell? ⟨sb,7,none⟩=some (.slice la s.met.length lc):=hgrow.cell (a:=⟨sb,7,none⟩) ((World.cell?_of_block (a:=⟨sb,7,none⟩) (w:=V) (Below.heap_alloc _ _ _ hsV)).trans v7) (fun e=>HROW.out e.symm);have hft:∀ j,w5.frozen? ⟨sb,j,none⟩=false:=fun j=>(World.frozen?_of_block (a:=⟨sb,j,none⟩) (w:=V) ((hgrow.block sb (by simp;omega) (fun e=>HROW.out e.symm)).trans (Below.heap_alloc _ _ _ hsV))).trans (HSV.out.frozen j);clear hown5 hgrow;skip)
  all_goals go_wp2
  all_goals go_ret
  all_goals unfold QbV
  all_goals rw [HRest.out]
  all_goals have hfin:=HSV.out.regrow ((((Fr.refl _ V).alloc _).drew).grown HG5.out (fun k o e _=>e)) (.slice (some ⟨g',0,none⟩) (s.met.length+1) cap') (s.met++[(2,arg)]) (by rw [List.length_append,← Qec];exact HO5.out) (by rw [List.length_append];simp;omega) (by simp)
  all_goals exact ⟨rfl,⟨_,_,_,_,hfin.1⟩,(Fr.of_below HBV.out).trans hfin.2⟩
 by_cases k3:kind=3
 ·subst k3
  have hb:Qcc arg=true:=HAD.out rfl
  have hza:arg=z:=HZ.out
  subst hza
  go_enter Tryz.func229,Tryz.ntmps229
  go_wp2_with (go_at_call 248;refine (QfP _ _ (by rw [QaD];omega)).mono ?_;rintro e w' ⟨rfl,hww⟩;rw [hww];rw [show Qcc (Qag arg).data.toList=true from hb])
  obtain ⟨W,hW⟩:∃ W,W=w.alloc (.cells #[.int .i64 3,.string (Qag arg)] 34):=⟨_,rfl⟩
  have HWB:Hid (Below w.heap.size w W):=by rw [hW];exact (Below.refl _ _).alloc (Nat.le_refl _) _
  have hWa:W.heap[w.heap.size]?=some (.cells #[.int .i64 3,.string (Qag arg)] 34):=by rw [hW];exact QaB _ _
  have HWA:=Qaa hWa
  rw [← hW]
  clear hW
  have d7:W.cell? ⟨sb,7,none⟩=some (.slice la s.met.length lc):=(HWB.out.cell (p:=⟨sb,7,none⟩) hsl).trans c7
  have b0:W.cell? ⟨w.heap.size,0,none⟩=some (.int .i64 3):=Qab hWa 0
  have b1:W.cell? ⟨w.heap.size,1,none⟩=some (.string (Qag arg)):=Qab hWa 1
  have hWl:=QaM hWa
  have hsW:sb < W.heap.size:=by omega
  have HWO:Hid (W.ownsRow B 34 2 (.slice la s.met.length lc) s.met.length (QbB s.met)):=Qa8 (P:=fun _ _=>False) HSI.out.met (Fr.of_below HWB.out) (fun _ _ h=>h)
  clear hWa
  cases hmem:QoG (3,arg) s.met
  rotate_left
  ·rw [hmem] at HRest
   go_region_held3 (fun w'=>w'.cell? ⟨sb,7,none⟩=some (.slice la s.met.length lc)∧w'.cell? ⟨w.heap.size,0,none⟩=some (.int .i64 3)∧w'.cell? ⟨w.heap.size,1,none⟩=some (.string (Qag arg))) (first | go_keep | exact ⟨q7,q0,q1⟩) (first | (go_at_call 249;refine (Qbv B s.met _ (3,arg) W.drew HWO.out (by omega)).mono ?_;rintro e w1 ⟨rfl,hb1⟩;rw [hmem];have hb2:=QaS hb1;have q7:w1.cell? ⟨sb,7,none⟩=some (.slice la s.met.length lc):=(hb2.cell (p:=⟨sb,7,none⟩) hsW).trans d7;have q0:w1.cell? ⟨w.heap.size,0,none⟩=some (.int .i64 3):=(hb2.cell (p:=⟨w.heap.size,0,none⟩) hWl).trans b0;have q1:w1.cell? ⟨w.heap.size,1,none⟩=some (.string (Qag arg)):=(hb2.cell (p:=⟨w.heap.size,1,none⟩) hWl).trans b1;have HB1:=Qaa (HWB.out.trans (hb2.mono HWB.out.size));clear hb1 hb2;skip))
   all_goals go_wp2
   all_goals go_ret
   all_goals unfold QbV
   all_goals rw [HRest.out]
   all_goals exact ⟨rfl,HS.out.below HB1.out,Fr.of_below HB1.out⟩
  rw [hmem] at HRest
  go_region_held3 (fun w'=>w'.cell? ⟨sb,7,none⟩=some (.slice la s.met.length lc)∧w'.cell? ⟨w.heap.size,0,none⟩=some (.int .i64 3)∧w'.cell? ⟨w.heap.size,1,none⟩=some (.string (Qag arg))) (first | go_keep | exact ⟨q7,q0,q1⟩) (first | (go_at_call 249;refine (Qbv B s.met _ (3,arg) W.drew HWO.out (by omega)).mono ?_;rintro e w1 ⟨rfl,hb1⟩;rw [hmem];have hb2:=QaS hb1;have q7:w1.cell? ⟨sb,7,none⟩=some (.slice la s.met.length lc):=(hb2.cell (p:=⟨sb,7,none⟩) hsW).trans d7;have q0:w1.cell? ⟨w.heap.size,0,none⟩=some (.int .i64 3):=(hb2.cell (p:=⟨w.heap.size,0,none⟩) hWl).trans b0;have q1:w1.cell? ⟨w.heap.size,1,none⟩=some (.string (Qag arg)):=(hb2.cell (p:=⟨w.heap.size,1,none⟩) hWl).trans b1;have HB1:=Qaa (HWB.out.trans (hb2.mono HWB.out.size));have HO1:=Qaa (Qa8 (P:=fun _ _=>False) HWO.out (Fr.of_below hb2) (fun _ _ h=>h));have HA1:=Qaa (Qaq HWA.out hb2);clear hb1 hb2;skip))
  all_goals go_wp2_with fail
  all_goals refine (Qdj B sb s.met _ (3,arg) w1 q7 HO1.out (by omega)).mono ?_
  all_goals rintro e w2 ⟨rfl,hb2⟩
  all_goals have HB2:=Qaa (HB1.out.trans (hb2.mono HB1.out.size))
  all_goals have HO2:=Qaa (Qa8 (P:=fun _ _=>False) HO1.out (Fr.of_below hb2) (fun _ _ h=>h))
  all_goals have HA2:=Qaa (Qaq HA1.out hb2)
  all_goals have r7:w2.cell? ⟨sb,7,none⟩=some (.slice la s.met.length lc):=(hb2.cell (p:=⟨sb,7,none⟩) (Qay q7)).trans q7
  all_goals have r1:w2.cell? ⟨w.heap.size,1,none⟩=some (.string (Qag arg)):=Qab HA2.out 1
  all_goals clear hb2 q7 q0 q1
  all_goals dsimp only
  all_goals cases hcon:Qsl s.met 3
  rotate_left
  ·rw [hcon] at HRest
   go_wp2
   go_ret
   unfold QbV
   rw [HRest.out]
   exact ⟨rfl,HS.out.below HB2.out,Fr.of_below HB2.out⟩
  rw [hcon] at HRest
  by_cases h6:s.met.length=6
  ·rw [if_pos h6] at HRest
   have h6':((s.met.length:Int) == 6)=true:=by rw [h6];rfl
   go_wp2
   go_ret
   unfold QbV
   rw [HRest.out]
   exact ⟨rfl,HS.out.below HB2.out,Fr.of_below HB2.out⟩
  rw [if_neg h6] at HRest
  have h6':((s.met.length:Int) == 6)=false:=by simp;omega
  go_wp2_with fail
  refine (Qe0 (Qag arg) w2 (by rw [QaD];omega)).mono ?_
  rintro e w3 ⟨rfl,hb3⟩
  have HB3:=Qaa (HB2.out.trans (hb3.mono HB2.out.size))
  have HO3:=Qaa (Qa8 (P:=fun _ _=>False) HO2.out (Fr.of_below hb3) (fun _ _ h=>h))
  have ha3:=Qaq HA2.out hb3
  have s0:w3.cell? ⟨w.heap.size,0,none⟩=some (.int .i64 3):=Qab ha3 0
  have s1:w3.cell? ⟨w.heap.size,1,none⟩=some (.string (Qag arg)):=Qab ha3 1
  have sf:=Qam ha3
  have s7:w3.cell? ⟨sb,7,none⟩=some (.slice la s.met.length lc):=(hb3.cell (p:=⟨sb,7,none⟩) (Qay r7)).trans r7
  have HA3:=Qaa ha3
  have hne:¬ sb=w.heap.size:=by omega
  have hne':¬ w.heap.size=sb:=by omega
  clear hb3 ha3 r7 r1
  go_wp2_with fail
  obtain ⟨V,hV⟩:∃ V,V=w3.setCell ⟨w.heap.size,1,none⟩ (.string (Qag arg)):=⟨_,rfl⟩
  have HBV:Hid (Below w.heap.size w V):=by rw [hV];exact HB3.out.setCell (Nat.le_refl _) _
  have hVa:V.heap[w.heap.size]?=some (.cells #[.int .i64 3,.string (Qag arg)] 34):=by rw [hV];exact Qah _ _ _ _ _ _ HA3.out
  have HVO:Hid (V.ownsRow B 34 2 (.slice la s.met.length lc) s.met.length (QbB s.met)):=by
   rw [hV]
   exact Qbt HO3.out (fun e=>by have:=(HSI.out.met.lt _ e).2;omega) _ _
  have v7:V.cell? ⟨sb,7,none⟩=some (.slice la s.met.length lc):=by rw [hV,World.cell?_of_block (a:=⟨sb,7,none⟩) (Below.heap_setCell _ _ _ _ hne)];exact s7
  have v0:V.cell? ⟨w.heap.size,0,none⟩=some (.int .i64 3):=Qab hVa 0
  have v1:V.cell? ⟨w.heap.size,1,none⟩=some (.string (Qag arg)):=Qab hVa 1
  have HSV:=Qaa (HSI.out.below HBV.out)
  have hVl:=QaM hVa
  have hsV:sb < V.heap.size:=by omega
  rw [← hV]
  have HBs:=HSV.out.bs
  have hrow:¬ (Value.slice la s.met.length lc).ownBlock=some sb:=fun e=>by
   obtain ⟨_,cs,hcs⟩:=QbG HSV.out.met sb _ e HSV.out.blk
   injection hcs with e1 e2
   exact absurd e2 (by decide)
  have HROW:=Qaa hrow
  clear hV hVa s7 s0 s1 sf hrow HB3 HO3 HA3
  have hBV:B≤V.heap.size:=by omega
  go_region_law (refine step_append_lies _ rfl (.tmp 52) (.tmp 54) 29 rfl B 34 i0 (.agg #[.int .i64 0,.string ⟨#[]⟩]) 2 24 Tryz.underlying29 hi hz0 hz1 hz2 rfl (by decide) (.slice la s.met.length lc) s.met.length (QbB s.met) (by simp [Act.eval,Act.put]) (HVO.out.alloc _) ⟨V.heap.size,0,none⟩ 1 1 [.int .i64 3,.string (Qag arg)] (by simp [Act.eval,Act.put]) rfl (QjZ _ (3,arg) _) (Qju (3,arg)) (by decide) (by unfold maxLen;omega) (by omega) (by simp;omega) _ rfl ?_;intro g' cap' w5 hown5 hgrow hat hlt5;have HO5:=Qaa hown5;have HG5:=Qaa hgrow;have t7:w5.cell? ⟨sb,7,none⟩=some (.slice la s.met.length lc):=hgrow.cell (a:=⟨sb,7,none⟩) ((World.cell?_of_block (a:=⟨sb,7,none⟩) (w:=V) (Below.heap_alloc _ _ _ hsV)).trans v7) (fun e=>HROW.out e.symm);have hft:∀ j,w5.frozen? ⟨sb,j,none⟩=false:=fun j=>(World.frozen?_of_block (a:=⟨sb,j,none⟩) (w:=V) ((hgrow.block sb (by simp;omega) (fun e=>HROW.out e.symm)).trans (Below.heap_alloc _ _ _ hsV))).trans (HSV.out.frozen j);clear hown5 hgrow;skip)
  all_goals go_wp2
  all_goals go_ret
  all_goals unfold QbV
  all_goals rw [HRest.out]
  all_goals have hfin:=HSV.out.regrow ((((Fr.refl _ V).alloc _).drew).grown HG5.out (fun k o e _=>e)) (.slice (some ⟨g',0,none⟩) (s.met.length+1) cap') (s.met++[(3,arg)]) (by rw [List.length_append,← Qec];exact HO5.out) (by rw [List.length_append];simp;omega) (by simp)
  all_goals exact ⟨rfl,⟨_,_,_,_,hfin.1⟩,(Fr.of_below HBV.out).trans hfin.2⟩
 rw [decide_eq_false k2] at ek2
 rw [decide_eq_false k3] at ek3
 by_cases k4:kind=4
 ·subst k4
  obtain ⟨q,hq0⟩:∃ q:Nat,q=min arg.length 48:=⟨_,rfl⟩
  have hq:min (arg.length:Int) 48=(q:Int):=by omega
  have hq1:(q:Int)≤(arg.length:Int):=by omega
  have hex:(Qag arg).extract 0 q=Qag z:=by
   rw [Qbk,← HZ.out,hq0]
   show Qag (arg.take (min arg.length 48))=Qag (arg.take 48)
   rcases Nat.le_total arg.length 48 with hh | hh
   ·rw [Nat.min_eq_left hh,List.take_of_length_le (Nat.le_refl _),List.take_of_length_le hh]
   ·rw [Nat.min_eq_right hh]
  clear hq0
  go_enter Tryz.func229,Tryz.ntmps229
  go_wp2_with fail
  obtain ⟨W,hW⟩:∃ W,W=w.alloc (.cells #[.int .i64 4,.string (Qag z)] 34):=⟨_,rfl⟩
  have HWB:Hid (Below w.heap.size w W):=by rw [hW];exact (Below.refl _ _).alloc (Nat.le_refl _) _
  have hWa:W.heap[w.heap.size]?=some (.cells #[.int .i64 4,.string (Qag z)] 34):=by rw [hW];exact QaB _ _
  have HWA:=Qaa hWa
  rw [← hW]
  clear hW
  have d7:W.cell? ⟨sb,7,none⟩=some (.slice la s.met.length lc):=(HWB.out.cell (p:=⟨sb,7,none⟩) hsl).trans c7
  have b0:W.cell? ⟨w.heap.size,0,none⟩=some (.int .i64 4):=Qab hWa 0
  have b1:W.cell? ⟨w.heap.size,1,none⟩=some (.string (Qag z)):=Qab hWa 1
  have hWl:=QaM hWa
  have hsW:sb < W.heap.size:=by omega
  have HWO:Hid (W.ownsRow B 34 2 (.slice la s.met.length lc) s.met.length (QbB s.met)):=Qa8 (P:=fun _ _=>False) HSI.out.met (Fr.of_below HWB.out) (fun _ _ h=>h)
  clear hWa
  cases hmem:QoG (4,z) s.met
  rotate_left
  ·rw [hmem] at HRest
   go_region_held3 (fun w'=>w'.cell? ⟨sb,7,none⟩=some (.slice la s.met.length lc)∧w'.cell? ⟨w.heap.size,0,none⟩=some (.int .i64 4)∧w'.cell? ⟨w.heap.size,1,none⟩=some (.string (Qag z))) (first | go_keep | exact ⟨q7,q0,q1⟩) (first | (go_at_call 249;refine (Qbv B s.met _ (4,z) W.drew HWO.out (by omega)).mono ?_;rintro e w1 ⟨rfl,hb1⟩;rw [hmem];have hb2:=QaS hb1;have q7:w1.cell? ⟨sb,7,none⟩=some (.slice la s.met.length lc):=(hb2.cell (p:=⟨sb,7,none⟩) hsW).trans d7;have q0:w1.cell? ⟨w.heap.size,0,none⟩=some (.int .i64 4):=(hb2.cell (p:=⟨w.heap.size,0,none⟩) hWl).trans b0;have q1:w1.cell? ⟨w.heap.size,1,none⟩=some (.string (Qag z)):=(hb2.cell (p:=⟨w.heap.size,1,none⟩) hWl).trans b1;have HB1:=Qaa (HWB.out.trans (hb2.mono HWB.out.size));clear hb1 hb2;skip))
   all_goals go_wp2
   all_goals go_ret
   all_goals unfold QbV
   all_goals rw [HRest.out]
   all_goals exact ⟨rfl,HS.out.below HB1.out,Fr.of_below HB1.out⟩
  rw [hmem] at HRest
  go_region_held3 (fun w'=>w'.cell? ⟨sb,7,none⟩=some (.slice la s.met.length lc)∧w'.cell? ⟨w.heap.size,0,none⟩=some (.int .i64 4)∧w'.cell? ⟨w.heap.size,1,none⟩=some (.string (Qag z))) (first | go_keep | exact ⟨q7,q0,q1⟩) (first | (go_at_call 249;refine (Qbv B s.met _ (4,z) W.drew HWO.out (by omega)).mono ?_;rintro e w1 ⟨rfl,hb1⟩;rw [hmem];have hb2:=QaS hb1;have q7:w1.cell? ⟨sb,7,none⟩=some (.slice la s.met.length lc):=(hb2.cell (p:=⟨sb,7,none⟩) hsW).trans d7;have q0:w1.cell? ⟨w.heap.size,0,none⟩=some (.int .i64 4):=(hb2.cell (p:=⟨w.heap.size,0,none⟩) hWl).trans b0;have q1:w1.cell? ⟨w.heap.size,1,none⟩=some (.string (Qag z)):=(hb2.cell (p:=⟨w.heap.size,1,none⟩) hWl).trans b1;have HB1:=Qaa (HWB.out.trans (hb2.mono HWB.out.size));have HO1:=Qaa (Qa8 (P:=fun _ _=>False) HWO.out (Fr.of_below hb2) (fun _ _ h=>h));have HA1:=Qaa (Qaq HWA.out hb2);clear hb1 hb2;skip))
  all_goals go_wp2_with fail
  all_goals refine (Qdj B sb s.met _ (4,z) w1 q7 HO1.out (by omega)).mono ?_
  all_goals rintro e w2 ⟨rfl,hb2⟩
  all_goals have HB2:=Qaa (HB1.out.trans (hb2.mono HB1.out.size))
  all_goals have HO2:=Qaa (Qa8 (P:=fun _ _=>False) HO1.out (Fr.of_below hb2) (fun _ _ h=>h))
  all_goals have HA2:=Qaa (Qaq HA1.out hb2)
  all_goals have r7:w2.cell? ⟨sb,7,none⟩=some (.slice la s.met.length lc):=(hb2.cell (p:=⟨sb,7,none⟩) (Qay q7)).trans q7
  all_goals have r1:w2.cell? ⟨w.heap.size,1,none⟩=some (.string (Qag z)):=Qab HA2.out 1
  all_goals clear hb2 q7 q0 q1
  all_goals dsimp only
  all_goals cases hcon:Qsl s.met 4
  rotate_left
  ·rw [hcon] at HRest
   go_wp2
   go_ret
   unfold QbV
   rw [HRest.out]
   exact ⟨rfl,HS.out.below HB2.out,Fr.of_below HB2.out⟩
  rw [hcon] at HRest
  by_cases h6:s.met.length=6
  ·rw [if_pos h6] at HRest
   have h6':((s.met.length:Int) == 6)=true:=by rw [h6];rfl
   go_wp2
   go_ret
   unfold QbV
   rw [HRest.out]
   exact ⟨rfl,HS.out.below HB2.out,Fr.of_below HB2.out⟩
  rw [if_neg h6] at HRest
  have h6':((s.met.length:Int) == 6)=false:=by simp;omega
  go_wp2_with fail
  refine (Qe0 (Qag z) w2 (by rw [QaD];omega)).mono ?_
  rintro e w3 ⟨rfl,hb3⟩
  have HB3:=Qaa (HB2.out.trans (hb3.mono HB2.out.size))
  have HO3:=Qaa (Qa8 (P:=fun _ _=>False) HO2.out (Fr.of_below hb3) (fun _ _ h=>h))
  have ha3:=Qaq HA2.out hb3
  have s0:w3.cell? ⟨w.heap.size,0,none⟩=some (.int .i64 4):=Qab ha3 0
  have s1:w3.cell? ⟨w.heap.size,1,none⟩=some (.string (Qag z)):=Qab ha3 1
  have sf:=Qam ha3
  have s7:w3.cell? ⟨sb,7,none⟩=some (.slice la s.met.length lc):=(hb3.cell (p:=⟨sb,7,none⟩) (Qay r7)).trans r7
  have HA3:=Qaa ha3
  have hne:¬ sb=w.heap.size:=by omega
  have hne':¬ w.heap.size=sb:=by omega
  clear hb3 ha3 r7 r1
  go_wp2_with fail
  obtain ⟨V,hV⟩:∃ V,V=w3.setCell ⟨w.heap.size,1,none⟩ (.string (Qag z)):=⟨_,rfl⟩
  have HBV:Hid (Below w.heap.size w V):=by rw [hV];exact HB3.out.setCell (Nat.le_refl _) _
  have hVa:V.heap[w.heap.size]?=some (.cells #[.int .i64 4,.string (Qag z)] 34):=by rw [hV];exact Qah _ _ _ _ _ _ HA3.out
  have HVO:Hid (V.ownsRow B 34 2 (.slice la s.met.length lc) s.met.length (QbB s.met)):=by
   rw [hV]
   exact Qbt HO3.out (fun e=>by have:=(HSI.out.met.lt _ e).2;omega) _ _
  have v7:V.cell? ⟨sb,7,none⟩=some (.slice la s.met.length lc):=by rw [hV,World.cell?_of_block (a:=⟨sb,7,none⟩) (Below.heap_setCell _ _ _ _ hne)];exact s7
  have v0:V.cell? ⟨w.heap.size,0,none⟩=some (.int .i64 4):=Qab hVa 0
  have v1:V.cell? ⟨w.heap.size,1,none⟩=some (.string (Qag z)):=Qab hVa 1
  have HSV:=Qaa (HSI.out.below HBV.out)
  have hVl:=QaM hVa
  have hsV:sb < V.heap.size:=by omega
  rw [← hV]
  have HBs:=HSV.out.bs
  have hrow:¬ (Value.slice la s.met.length lc).ownBlock=some sb:=fun e=>by
   obtain ⟨_,cs,hcs⟩:=QbG HSV.out.met sb _ e HSV.out.blk
   injection hcs with e1 e2
   exact absurd e2 (by decide)
  have HROW:=Qaa hrow
  clear hV hVa s7 s0 s1 sf hrow HB3 HO3 HA3
  have hBV:B≤V.heap.size:=by omega
  go_region_law (refine step_append_lies _ rfl (.tmp 52) (.tmp 54) 29 rfl B 34 i0 (.agg #[.int .i64 0,.string ⟨#[]⟩]) 2 24 Tryz.underlying29 hi hz0 hz1 hz2 rfl (by decide) (.slice la s.met.length lc) s.met.length (QbB s.met) (by simp [Act.eval,Act.put]) (HVO.out.alloc _) ⟨V.heap.size,0,none⟩ 1 1 [.int .i64 4,.string (Qag z)] (by simp [Act.eval,Act.put]) rfl (QjZ _ (4,z) _) (Qju (4,z)) (by decide) (by unfold maxLen;omega) (by omega) (by simp;omega) _ rfl ?_;intro g' cap' w5 hown5 hgrow hat hlt5;have HO5:=Qaa hown5;have HG5:=Qaa hgrow;have t7:w5.cell? ⟨sb,7,none⟩=some (.slice la s.met.length lc):=hgrow.cell (a:=⟨sb,7,none⟩) ((World.cell?_of_block (a:=⟨sb,7,none⟩) (w:=V) (Below.heap_alloc _ _ _ hsV)).trans v7) (fun e=>HROW.out e.symm);have hft:∀ j,w5.frozen? ⟨sb,j,none⟩=false:=fun j=>(World.frozen?_of_block (a:=⟨sb,j,none⟩) (w:=V) ((hgrow.block sb (by simp;omega) (fun e=>HROW.out e.symm)).trans (Below.heap_alloc _ _ _ hsV))).trans (HSV.out.frozen j);clear hown5 hgrow;skip)
  all_goals go_wp2
  all_goals go_ret
  all_goals unfold QbV
  all_goals rw [HRest.out]
  all_goals have hfin:=HSV.out.regrow ((((Fr.refl _ V).alloc _).drew).grown HG5.out (fun k o e _=>e)) (.slice (some ⟨g',0,none⟩) (s.met.length+1) cap') (s.met++[(4,z)]) (by rw [List.length_append,← Qec];exact HO5.out) (by rw [List.length_append];simp;omega) (by simp)
  all_goals exact ⟨rfl,⟨_,_,_,_,hfin.1⟩,(Fr.of_below HBV.out).trans hfin.2⟩
 rw [decide_eq_false k4] at ek4
 have hza:arg=z:=by have:=HZ.out;unfold cutArg at this;rwa [if_neg k4] at this
 subst hza
 go_enter Tryz.func229,Tryz.ntmps229
 go_wp2_with fail
 obtain ⟨W,hW⟩:∃ W,W=w.alloc (.cells #[.int .i64 kind,.string (Qag arg)] 34):=⟨_,rfl⟩
 have HWB:Hid (Below w.heap.size w W):=by rw [hW];exact (Below.refl _ _).alloc (Nat.le_refl _) _
 have hWa:W.heap[w.heap.size]?=some (.cells #[.int .i64 kind,.string (Qag arg)] 34):=by rw [hW];exact QaB _ _
 have HWA:=Qaa hWa
 rw [← hW]
 clear hW
 have d7:W.cell? ⟨sb,7,none⟩=some (.slice la s.met.length lc):=(HWB.out.cell (p:=⟨sb,7,none⟩) hsl).trans c7
 have b0:W.cell? ⟨w.heap.size,0,none⟩=some (.int .i64 kind):=Qab hWa 0
 have b1:W.cell? ⟨w.heap.size,1,none⟩=some (.string (Qag arg)):=Qab hWa 1
 have hWl:=QaM hWa
 have hsW:sb < W.heap.size:=by omega
 have HWO:Hid (W.ownsRow B 34 2 (.slice la s.met.length lc) s.met.length (QbB s.met)):=Qa8 (P:=fun _ _=>False) HSI.out.met (Fr.of_below HWB.out) (fun _ _ h=>h)
 clear hWa
 cases hmem:QoG (kind,arg) s.met
 rotate_left
 ·rw [hmem] at HRest
  go_region_held3 (fun w'=>w'.cell? ⟨sb,7,none⟩=some (.slice la s.met.length lc)∧w'.cell? ⟨w.heap.size,0,none⟩=some (.int .i64 kind)∧w'.cell? ⟨w.heap.size,1,none⟩=some (.string (Qag arg))) (first | go_keep | exact ⟨q7,q0,q1⟩) (first | (go_at_call 249;refine (Qbv B s.met _ (kind,arg) W.drew HWO.out (by omega)).mono ?_;rintro e w1 ⟨rfl,hb1⟩;rw [hmem];have hb2:=QaS hb1;have q7:w1.cell? ⟨sb,7,none⟩=some (.slice la s.met.length lc):=(hb2.cell (p:=⟨sb,7,none⟩) hsW).trans d7;have q0:w1.cell? ⟨w.heap.size,0,none⟩=some (.int .i64 kind):=(hb2.cell (p:=⟨w.heap.size,0,none⟩) hWl).trans b0;have q1:w1.cell? ⟨w.heap.size,1,none⟩=some (.string (Qag arg)):=(hb2.cell (p:=⟨w.heap.size,1,none⟩) hWl).trans b1;have HB1:=Qaa (HWB.out.trans (hb2.mono HWB.out.size));clear hb1 hb2;skip))
  all_goals go_wp2
  all_goals go_ret
  all_goals unfold QbV
  all_goals rw [HRest.out]
  all_goals exact ⟨rfl,HS.out.below HB1.out,Fr.of_below HB1.out⟩
 rw [hmem] at HRest
 go_region_held3 (fun w'=>w'.cell? ⟨sb,7,none⟩=some (.slice la s.met.length lc)∧w'.cell? ⟨w.heap.size,0,none⟩=some (.int .i64 kind)∧w'.cell? ⟨w.heap.size,1,none⟩=some (.string (Qag arg))) (first | go_keep | exact ⟨q7,q0,q1⟩) (first | (go_at_call 249;refine (Qbv B s.met _ (kind,arg) W.drew HWO.out (by omega)).mono ?_;rintro e w1 ⟨rfl,hb1⟩;rw [hmem];have hb2:=QaS hb1;have q7:w1.cell? ⟨sb,7,none⟩=some (.slice la s.met.length lc):=(hb2.cell (p:=⟨sb,7,none⟩) hsW).trans d7;have q0:w1.cell? ⟨w.heap.size,0,none⟩=some (.int .i64 kind):=(hb2.cell (p:=⟨w.heap.size,0,none⟩) hWl).trans b0;have q1:w1.cell? ⟨w.heap.size,1,none⟩=some (.string (Qag arg)):=(hb2.cell (p:=⟨w.heap.size,1,none⟩) hWl).trans b1;have HB1:=Qaa (HWB.out.trans (hb2.mono HWB.out.size));have HO1:=Qaa (Qa8 (P:=fun _ _=>False) HWO.out (Fr.of_below hb2) (fun _ _ h=>h));have HA1:=Qaa (Qaq HWA.out hb2);clear hb1 hb2;skip))
 all_goals go_wp2_with fail
 all_goals refine (Qdj B sb s.met _ (kind,arg) w1 q7 HO1.out (by omega)).mono ?_
 all_goals rintro e w2 ⟨rfl,hb2⟩
 all_goals have HB2:=Qaa (HB1.out.trans (hb2.mono HB1.out.size))
 all_goals have HO2:=Qaa (Qa8 (P:=fun _ _=>False) HO1.out (Fr.of_below hb2) (fun _ _ h=>h))
 all_goals have HA2:=Qaa (Qaq HA1.out hb2)
 all_goals have r7:w2.cell? ⟨sb,7,none⟩=some (.slice la s.met.length lc):=(hb2.cell (p:=⟨sb,7,none⟩) (Qay q7)).trans q7
 all_goals have r1:w2.cell? ⟨w.heap.size,1,none⟩=some (.string (Qag arg)):=Qab HA2.out 1
 all_goals clear hb2 q7 q0 q1
 all_goals dsimp only
 all_goals cases hcon:Qsl s.met kind
 rotate_left
 ·rw [hcon] at HRest
  go_wp2
  go_ret
  unfold QbV
  rw [HRest.out]
  exact ⟨rfl,HS.out.below HB2.out,Fr.of_below HB2.out⟩
 rw [hcon] at HRest
 by_cases h6:s.met.length=6
 ·rw [if_pos h6] at HRest
  have h6':((s.met.length:Int) == 6)=true:=by rw [h6];rfl
  go_wp2
  go_ret
  unfold QbV
  rw [HRest.out]
  exact ⟨rfl,HS.out.below HB2.out,Fr.of_below HB2.out⟩
 rw [if_neg h6] at HRest
 have h6':((s.met.length:Int) == 6)=false:=by simp;omega
 go_wp2_with fail
 refine (Qe0 (Qag arg) w2 (by rw [QaD];omega)).mono ?_
 rintro e w3 ⟨rfl,hb3⟩
 have HB3:=Qaa (HB2.out.trans (hb3.mono HB2.out.size))
 have HO3:=Qaa (Qa8 (P:=fun _ _=>False) HO2.out (Fr.of_below hb3) (fun _ _ h=>h))
 have ha3:=Qaq HA2.out hb3
 have s0:w3.cell? ⟨w.heap.size,0,none⟩=some (.int .i64 kind):=Qab ha3 0
 have s1:w3.cell? ⟨w.heap.size,1,none⟩=some (.string (Qag arg)):=Qab ha3 1
 have sf:=Qam ha3
 have s7:w3.cell? ⟨sb,7,none⟩=some (.slice la s.met.length lc):=(hb3.cell (p:=⟨sb,7,none⟩) (Qay r7)).trans r7
 have HA3:=Qaa ha3
 have hne:¬ sb=w.heap.size:=by omega
 have hne':¬ w.heap.size=sb:=by omega
 clear hb3 ha3 r7 r1
 go_wp2_with fail
 obtain ⟨V,hV⟩:∃ V,V=w3.setCell ⟨w.heap.size,1,none⟩ (.string (Qag arg)):=⟨_,rfl⟩
 have HBV:Hid (Below w.heap.size w V):=by rw [hV];exact HB3.out.setCell (Nat.le_refl _) _
 have hVa:V.heap[w.heap.size]?=some (.cells #[.int .i64 kind,.string (Qag arg)] 34):=by rw [hV];exact Qah _ _ _ _ _ _ HA3.out
 have HVO:Hid (V.ownsRow B 34 2 (.slice la s.met.length lc) s.met.length (QbB s.met)):=by
  rw [hV]
  exact Qbt HO3.out (fun e=>by have:=(HSI.out.met.lt _ e).2;omega) _ _
 have v7:V.cell? ⟨sb,7,none⟩=some (.slice la s.met.length lc):=by rw [hV,World.cell?_of_block (a:=⟨sb,7,none⟩) (Below.heap_setCell _ _ _ _ hne)];exact s7
 have v0:V.cell? ⟨w.heap.size,0,none⟩=some (.int .i64 kind):=Qab hVa 0
 have v1:V.cell? ⟨w.heap.size,1,none⟩=some (.string (Qag arg)):=Qab hVa 1
 have HSV:=Qaa (HSI.out.below HBV.out)
 have hVl:=QaM hVa
 have hsV:sb < V.heap.size:=by omega
 rw [← hV]
 have HBs:=HSV.out.bs
 have hrow:¬ (Value.slice la s.met.length lc).ownBlock=some sb:=fun e=>by
  obtain ⟨_,cs,hcs⟩:=QbG HSV.out.met sb _ e HSV.out.blk
  injection hcs with e1 e2
  exact absurd e2 (by decide)
 have HROW:=Qaa hrow
 clear hV hVa s7 s0 s1 sf hrow HB3 HO3 HA3
 have hBV:B≤V.heap.size:=by omega
 go_region_law (refine step_append_lies _ rfl (.tmp 52) (.tmp 54) 29 rfl B 34 i0 (.agg #[.int .i64 0,.string ⟨#[]⟩]) 2 24 Tryz.underlying29 hi hz0 hz1 hz2 rfl (by decide) (.slice la s.met.length lc) s.met.length (QbB s.met) (by simp [Act.eval,Act.put]) (HVO.out.alloc _) ⟨V.heap.size,0,none⟩ 1 1 [.int .i64 kind,.string (Qag arg)] (by simp [Act.eval,Act.put]) rfl (QjZ _ (kind,arg) _) (Qju (kind,arg)) (by decide) (by unfold maxLen;omega) (by omega) (by simp;omega) _ rfl ?_;intro g' cap' w5 hown5 hgrow hat hlt5;have HO5:=Qaa hown5;have HG5:=Qaa hgrow;have t7:w5.cell? ⟨sb,7,none⟩=some (.slice la s.met.length lc):=hgrow.cell (a:=⟨sb,7,none⟩) ((World.cell?_of_block (a:=⟨sb,7,none⟩) (w:=V) (Below.heap_alloc _ _ _ hsV)).trans v7) (fun e=>HROW.out e.symm);have hft:∀ j,w5.frozen? ⟨sb,j,none⟩=false:=fun j=>(World.frozen?_of_block (a:=⟨sb,j,none⟩) (w:=V) ((hgrow.block sb (by simp;omega) (fun e=>HROW.out e.symm)).trans (Below.heap_alloc _ _ _ hsV))).trans (HSV.out.frozen j);clear hown5 hgrow;skip)
 all_goals go_wp2
 all_goals go_ret
 all_goals unfold QbV
 all_goals rw [HRest.out]
 all_goals have hfin:=HSV.out.regrow ((((Fr.refl _ V).alloc _).drew).grown HG5.out (fun k o e _=>e)) (.slice (some ⟨g',0,none⟩) (s.met.length+1) cap') (s.met++[(kind,arg)]) (by rw [List.length_append,← Qec];exact HO5.out) (by rw [List.length_append];simp;omega) (by simp)
 all_goals exact ⟨rfl,⟨_,_,_,_,hfin.1⟩,(Fr.of_below HBV.out).trans hfin.2⟩
end Go.Proofs.YtbiclelojbfnbabGreatDoor
