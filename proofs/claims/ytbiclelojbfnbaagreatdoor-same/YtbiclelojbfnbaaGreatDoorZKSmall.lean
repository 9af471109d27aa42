import Derived.Test.YtbiclelojbfnbaaGreatDoorZCCode
import Derived.Test.YtbiclelojbfnbaaGreatDoorZMExecB
import Derived.Test.YtbiclelojbfnbaaGreatDoorZSAct
namespace Go.Proofs.YtbiclelojbfnbaaGreatDoor
set_option linter.unusedVariables false
set_option linter.unusedSimpArgs false
set_option maxRecDepth 100000
set_option maxHeartbeats 4000000
section
open Go.RowKit
attribute [local go_sem ↓] Go.wp_at_zero Go.wp_at_succ
theorem Qqj.codeV {w:World} {B:Nat} {cv:Value} {code:List Ins} (h:Qqj w B cv code):Qfd w cv code:=by
 obtain ⟨ps,rfl,ho,hk,hn⟩:=h
 by_cases h0:ps=[]
 ·subst h0;exact Or.inl ⟨hn rfl,rfl⟩
 ·rcases ho.2 with ⟨_,h2⟩ | ⟨g,cap,cur,hv,hg,hb,hc,_,hs,ht⟩
  ·exact absurd (List.eq_nil_of_length_eq_zero h2) h0
  ·refine Or.inr ⟨g,cap,cur,by rw [List.length_map];exact hv,hb,fun j hj=>?_⟩
   rw [List.length_map] at hj
   have hcell:∀ k,k < 7→cur[j*7+k]?=(Qg4 ps[j])[k]?:=fun k hk=>by
    rw [← Qh2 ps j hj k hk,← ht,List.getElem?_take_of_lt (by omega)];simp
   have hi:(ps.map Prod.fst)[j]'(by simpa using hj)=ps[j].1:=by simp
   rw [hi]
   exact ⟨ps[j].2.1,ps[j].2.2,hcell 0 (by omega),hcell 1 (by omega),hcell 2 (by omega),hcell 3 (by omega),hcell 4 (by omega),hcell 5 (by omega),hcell 6 (by omega),hk _ (List.getElem_mem hj)⟩
theorem Qrh (g:Nat) (y:List (List UInt8)×List (Qcd 7)) (rv lv:Value) (w:World) (X:Nat→Prop) (h:w.heap[g]?=some (.cells #[rv,lv] 139)) (hr:QjJ X y.1 w rv) (hb:blX X (Qg0 7) y.2 w lv) (ha:∀ c∈y.2,QhX (WfT y.1) (WfC y.1) 7 c) (hl:(QcL y).length≤100000) :
 Calls Tryz.prog 31 #[.pointer (some ⟨g,0,none⟩)] w fun e w'=>∃ cv,e=.returned cv∧Qqj w' w.heap.size cv (Qd5 y.2)∧Below w.heap.size w w':=by
 obtain ⟨a1,n1,c1,rfl⟩:∃ a n c,rv=.slice a n c:=by
  rcases hr with ⟨_,rfl⟩ | ⟨g',c',rfl,_⟩
  ·exact ⟨_,_,_,rfl⟩
  ·exact ⟨_,_,_,rfl⟩
 obtain ⟨a2,n2,c2,rfl⟩:=hb.form
 have H:=Qab h
 have HBB:=Qab hb
 clear h hr hb
 go_enter Tryz.func31,Tryz.ntmps31
 go_wp2_with fail
 refine (Qlk g a1 a2 n1 c1 n2 c2 w H.out).mono ?_
 rintro e w1 ⟨rfl,hB1⟩
 have HB1:=Qab hB1
 have h1s:=hB1.size
 have HBB1:=Qab (HBB.out.keep (QaY 7) (fun k _ hk=>hB1.block k hk))
 clear hB1
 go_wp2_with fail
 refine (Qvk y _ _ X _ ⟨_,_,_,rfl⟩ HBB1.out ha hl).mono ?_
 rintro e w2 ⟨cv,rfl,hc2,hB2⟩
 have HB2:=Qab (HB1.out.trans (hB2.mono h1s))
 obtain ⟨a5,k5,hv5⟩:=hc2.len
 subst hv5
 have HC2:=Qab hc2
 clear hB2 hc2
 go_wp2
 go_ret
 obtain ⟨ps,e1,e2,e3,e4⟩:=HC2.out
 exact ⟨_,rfl,⟨ps,e1,QiT e2 h1s,e3,e4⟩,HB2.out⟩
def varsB (req:List (List UInt8)):Bool:=Lib.containsS (req.map Qad) (Qad QbB)
theorem Qsp (a b:Value) (W:World):(Instr.field 97 (.agg #[a,b]) 0).run Tryz.prog W=.ok a W:=by kernel_rfl
def Qn7 (r:List (Int×List UInt8)×Nat×Option FZ) (w:World) (e:Ending) (w':World):Prop:=
 Below w.heap.size w w'∧((∃ lv,r.2.2=none∧e=.returned (.tuple #[lv,.nilIface])∧ActsV w' w.heap.size lv r.1)∨
  (∃ lv f bb,r.2.2=some f∧e=.returned (.tuple #[lv,.iface 140 (.pointer (some ⟨bb,0,none⟩))])∧ActsV w' w.heap.size lv r.1∧w.heap.size≤bb∧w'.heap[bb]?=some (.cells #[.int .i64 f.1,.int .i64 f.2] 145)))
theorem QkH (X:Nat→Prop) (req:List (List UInt8)) (rv:Value) (w:World) (hr:QjJ X req w rv) (hl:req.length≤1000000) :
 Calls Tryz.prog 79 #[rv,.string (Qad QbB)] w fun e w'=>e=.returned (.bool (varsB req))∧w'=w:=by
 rcases hr with ⟨h0,rfl⟩ | ⟨g,c,rfl,_,ht,hne⟩
 ·subst h0
  exact Tryz.slices_Contains_string_empty none 0 (Qad QbB) w
 ·have:=Tryz.slices_Contains_string g 0 req.length c (req.map Qad) (Qad QbB) w (by simp) (by omega) (fun j hj=>by
   rw [List.length_map] at hj
   rw [Nat.zero_add,ht j hj,List.getD_eq_getElem?_getD,List.getD_eq_getElem?_getD,List.getElem?_map,List.getElem?_eq_getElem hj]
   rfl)
  rw [List.take_of_length_le (by simp)] at this
  exact this
theorem Qtb (g:Nat) (y:List (List UInt8)×List (Qcd 7)) (rv lv hv:Value) (M:Msg) (w:World) (X:Nat→Prop) (h:w.heap[g]?=some (.cells #[rv,lv] 139)) (hr:QjJ X y.1 w rv) (hb:blX X (Qg0 7) y.2 w lv) (ha:∀ c∈y.2,QhX (WfT y.1) (WfC y.1) 7 c) (hl:(QcL y).length≤100000) (hrl:y.1.length≤1000000)
 (hh:Qji w hv M.hdrs) (hbd:∀ v,SBd M (ss0 v)) (h1:1 < w.heap.size) (hm:∃ m,w.cell? ⟨1,0,none⟩=some (.int .i64 m)) (ht:Tab w) :
 Calls Tryz.prog 48 #[.pointer (some ⟨g,0,none⟩),Qf0 M hv] w (Qn7 (execL (varsB y.1) (Qd5 y.2) M) w):=by
 obtain ⟨a1,n1,c1,rfl⟩:∃ a n c,rv=.slice a n c:=by
  rcases hr with ⟨_,rfl⟩ | ⟨g',c',rfl,_⟩
  ·exact ⟨_,_,_,rfl⟩
  ·exact ⟨_,_,_,rfl⟩
 obtain ⟨a2,n2,c2,rfl⟩:=hb.form
 obtain ⟨ah,ch,rfl⟩:=hh.len
 have hcl:(Qd5 y.2).length≤1000000:=by have:=Qo2 ha;omega
 have H:=Qab h
 have HR:=Qab hr
 have HBB:=Qab hb
 have HHD:=Qab hh
 have HT:=Qab ht
 have HM:=Qab hm
 have HBD:=Qab hbd
 have HCL:=Qab hcl
 clear h hr hb hh ht hm hbd hcl
 unfold Qf0
 have hft:=Qsp
 go_enter Tryz.func48,Tryz.ntmps48
 obtain ⟨W0,hW0⟩:∃ W0,W0=w.alloc (.cells #[.string (Qad M.fr),.string (Qad M.to),.int .i64 M.size,.slice ah M.hdrs.length ch] 48):=⟨_,rfl⟩
 have HB0:Hid (Below w.heap.size w W0):=by show Below _ _ _;rw [hW0];exact (Below.refl _ _).alloc (Nat.le_refl _) _
 have HM0:Hid (W0.heap[w.heap.size]?=some (.cells #[.string (Qad M.fr),.string (Qad M.to),.int .i64 M.size,.slice ah M.hdrs.length ch] 48)):=by show _=_;rw [hW0];exact Qay _ _
 have h0s:=HB0.out.size
 have HWW:=Qab hW0
 clear hW0
 go_wp2_with (first | (go_at_call 79;refine (QkH X y.1 _ _ HR1.out hrl).mono ?_;rintro e w2 ⟨rfl,hww⟩;rw [hww];clear hww;skip) | (go_at_call 45;rw [← HWW.out];refine (Qlk g a1 a2 n1 c1 n2 c2 W0 (Qal H.out HB0.out)).mono ?_;rintro e w1 ⟨rfl,hB1⟩;have HB1:=Qab (HB0.out.trans (hB1.mono h0s));have HM1:=Qab (Qal HM0.out hB1);have HR1:=Qab (HR.out.keep (w':=w1) (fun k _ hk=>HB1.out.block k hk));clear hB1;skip))
 have c0:w1.cell? ⟨w.heap.size,0,none⟩=some (.string (Qad M.fr)):=Qaa HM1.out 0
 have c1:w1.cell? ⟨w.heap.size,1,none⟩=some (.string (Qad M.to)):=Qaa HM1.out 1
 have c2:w1.cell? ⟨w.heap.size,2,none⟩=some (.int .i64 M.size):=Qaa HM1.out 2
 have c3:w1.cell? ⟨w.heap.size,3,none⟩=some (.slice ah M.hdrs.length ch):=Qaa HM1.out 3
 have h1l:=QaH HM1.out
 have h1s:=HB1.out.size
 obtain ⟨vb,hvb⟩:∃ vb,varsB y.1=vb:=⟨_,rfl⟩
 rw [hvb]
 have HVB:=Qab hvb
 clear hvb HWW
 go_region_held3 (fun w'=>w'.cell? ⟨w.heap.size,0,none⟩=some (.string (Qad M.fr))∧w'.cell? ⟨w.heap.size,1,none⟩=some (.string (Qad M.to))∧w'.cell? ⟨w.heap.size,2,none⟩=some (.int .i64 M.size)∧w'.cell? ⟨w.heap.size,3,none⟩=some (.slice ah M.hdrs.length ch)) (first | go_keep | exact ⟨Qaa HM3.out 0,Qaa HM3.out 1,Qaa HM3.out 2,Qaa HM3.out 3⟩) (first
  | (go_at_call 31;refine (Qrh g y _ _ _ X (Qal (w:=w) (w':=w1.drew) H.out HB1.out.drew) (HR.out.keep (w':=w1.drew) (fun k _ hk=>HB1.out.block k hk)) (HBB.out.keep (QaY 7) (w':=w1.drew) (fun k _ hk=>HB1.out.block k hk)) ha hl).mono ?_;rintro e w2 ⟨cv,rfl,hc2,hB2⟩;obtain ⟨a5,k5,hv5⟩:=hc2.len;subst hv5;have HC2:=Qab hc2;have HB2:=Qab (HB1.out.drew.trans (hB2.mono h1s));have HM2:=Qab (Qal (w:=w1.drew) HM1.out hB2);have d0:w2.cell? ⟨w.heap.size,0,none⟩=some (.string (Qad M.fr)):=Qaa HM2.out 0;have d1:w2.cell? ⟨w.heap.size,1,none⟩=some (.string (Qad M.to)):=Qaa HM2.out 1;have d2:w2.cell? ⟨w.heap.size,2,none⟩=some (.int .i64 M.size):=Qaa HM2.out 2;have d3:w2.cell? ⟨w.heap.size,3,none⟩=some (.slice ah M.hdrs.length ch):=Qaa HM2.out 3;have h2s:=HB2.out.size;clear hc2 hB2;skip)
  | (go_at_call 80;refine (Qtt vb _ _ (Qd5 y.2) M w2 HC2.out.codeV (HHD.out.fr (P:=fun _ _=>False) (Fr.of_below HB2.out) (fun _ _ h=>h)) (HBD.out _) (by omega) (by obtain ⟨m,hm⟩:=HM.out;exact ⟨m,(HB2.out.cell (p:=⟨1,0,none⟩) h1).trans hm⟩) (HT.out.below HB2.out) HCL.out).mono ?_;rintro e w3 ⟨hB3,hX⟩;have HB3:=Qab (HB2.out.trans (hB3.mono h2s));have HM3:=Qab (Qal HM2.out hB3);clear hB3;have hX':∃ lv' ev',e=.returned (.tuple #[lv',.int .i64 ((execL vb (Qd5 y.2) M).2.1:Int),ev']):=(by rcases hX with ⟨lv,_,he,_⟩ | ⟨lv,f,bb,_,he,_⟩ <;> exact ⟨_,_,he⟩);have HX:=Qab hX;obtain ⟨lv',ev',he⟩:=hX';subst he;clear hX;skip))
 all_goals (
  have HFIN:Hid (Qn7 (execL vb (Qd5 y.2) M) w (.returned (.tuple #[lv',ev'])) w3):=by
   refine ⟨HB3.out,?_⟩
   rcases HX.out with ⟨lv,h1,he,h3⟩ | ⟨lv,f,bb,h1,he,h3,h4,h5⟩
   ·injection he with he
    injection he with he
    simp at he
    obtain ⟨rfl,rfl⟩:=he
    exact Or.inl ⟨_,h1,rfl,h3.lo h2s⟩
   ·injection he with he
    injection he with he
    simp at he
    obtain ⟨rfl,rfl⟩:=he
    exact Or.inr ⟨_,f,bb,h1,rfl,h3.lo h2s,Nat.le_trans h2s h4,h5⟩
  obtain ⟨la3,lc3,hl3⟩:∃ a c,lv'=.slice a (execL vb (Qd5 y.2) M).1.length c:=by
   rcases HX.out with ⟨lv,h1,he,h3⟩ | ⟨lv,f,bb,h1,he,h3,h4,h5⟩
   ·injection he with he
    injection he with he
    simp at he
    obtain ⟨rfl,rfl⟩:=he
    exact QaL h3.1
   ·injection he with he
    injection he with he
    simp at he
    obtain ⟨rfl,rfl⟩:=he
    exact QaL h3.1
  clear HX
  subst hl3
  go_wp2
  refine bodyPost_ret (v:=.tuple #[_,ev']) (by simp [results,Tryz.results48,go_sem];rfl) rfl ?_
  rw [HVB.out]
  exact HFIN.out)
end
section
open Go.RowKit
attribute [local go_sem ↓] Go.wp_at_zero Go.wp_at_succ
def hcells (l:List (List UInt8×List UInt8)):List Value:=l.flatMap fun a=>[.string (Qad a.1),.string (Qad a.2)]
theorem Qgz (l:List (List UInt8×List UInt8)):(hcells l).length=l.length*2:=by
 induction l with
 | nil=>rfl
 | cons p r ih=>simp only [hcells,List.flatMap_cons,List.length_append,List.length_cons,List.length_nil] at ih ⊢;omega
theorem Qmj (l:List (List UInt8×List UInt8)) (j:Nat) (hj:j < l.length):(hcells l)[j*2]?=some (.string (Qad l[j].1))∧(hcells l)[j*2+1]?=some (.string (Qad l[j].2)):=by
 induction l generalizing j with
 | nil=>exact absurd hj (Nat.not_lt_zero _)
 | cons p r ih=>
  cases j with
  | zero=>exact ⟨rfl,rfl⟩
  | succ j=>
   have:=ih j (by simpa using hj)
   have e:hcells (p :: r)=.string (Qad p.1) :: .string (Qad p.2) :: hcells r:=rfl
   have e1:(j+1)*2=j*2+1+1:=by omega
   have e2:(j+1)*2+1=(j*2+1)+1+1:=by omega
   rw [e,e1,List.getElem?_cons_succ,List.getElem?_cons_succ,List.getElem?_cons_succ,List.getElem?_cons_succ]
   exact this
theorem QpH (l:List (List UInt8×List UInt8)):∀ u∈hcells l,u.oneCell'=true:=by
 intro u hu
 unfold hcells at hu
 obtain ⟨a,_,ha⟩:=List.mem_flatMap.1 hu
 simp at ha
 rcases ha with rfl | rfl <;> rfl
theorem Qqp {l:List (List UInt8×List UInt8)} {j:Nat} {u:Value} (h:(hcells l)[j]?=some u):∃ k,∃ hk:k < l.length,(j=k*2∧u=.string (Qad l[k].1))∨(j=k*2+1∧u=.string (Qad l[k].2)):=by
 have hj:j < l.length*2:=by
  rw [← Qgz]
  exact (List.getElem?_eq_some_iff.1 h).1
 have hk:j / 2 < l.length:=by omega
 have:=Qmj l (j / 2) hk
 by_cases e:j % 2=0
 ·have e1:j=j / 2*2:=by omega
  refine ⟨j / 2,hk,Or.inl ⟨e1,?_⟩⟩
  rw [e1,this.1] at h
  exact (Option.some.inj h).symm
 ·have e1:j=j / 2*2+1:=by omega
  refine ⟨j / 2,hk,Or.inr ⟨e1,?_⟩⟩
  rw [e1,this.2] at h
  exact (Option.some.inj h).symm
theorem Tryz.infoHeader:(Tryz.prog.info? 100).map (fun i=>(i.zero,i.size,i.bytes))=some (some (.agg #[.string ⟨#[]⟩,.string ⟨#[]⟩]),2,32):=by kernel_rfl
def Qsc (w:World) (B:Nat) (hv:Value) (hs:List (List UInt8×List UInt8)):Prop:=w.ownsRow B 100 2 hv hs.length (hcells hs)
theorem Qsc.hdrV {w:World} {B:Nat} {hv:Value} {hs:List (List UInt8×List UInt8)} (h:Qsc w B hv hs):Qji w hv hs:=by
 rcases h.2 with ⟨h1,h2⟩ | ⟨g,cap,cur,hv',hg,hb,hc,_,hs',ht⟩
 ·exact Or.inl ⟨h1,List.eq_nil_of_length_eq_zero h2⟩
 ·refine Or.inr ⟨g,cap,cur,hv',hb,fun j hj=>?_⟩
  obtain ⟨a1,a2⟩:=Qmj hs j hj
  rw [← ht,List.getElem?_take_of_lt (by omega)] at a1 a2
  exact ⟨by rw [← a1];simp,by rw [← a2];simp⟩
def Qqz (w:World) (v:Value) (hs:List (List UInt8×List UInt8)):Prop:=
 ∃ a c,v=.slice a hs.length c∧(hs≠[]→∃ b off,a=some ⟨b,off,none⟩∧∀ j (hj:j < hs.length),w.cell? ⟨b,off+j*2,none⟩=some (.string (Qad hs[j].1))∧w.cell? ⟨b,off+j*2+1,none⟩=some (.string (Qad hs[j].2)))
theorem Qqz.len {w:World} {v:Value} {hs:List (List UInt8×List UInt8)} (h:Qqz w v hs):∃ a c,v=.slice a hs.length c:=by
 obtain ⟨a,c,h,_⟩:=h
 exact ⟨a,c,h⟩
theorem Qqz.below {w w':World} {v:Value} {hs:List (List UInt8×List UInt8)} (h:Qqz w v hs) (hb:Below w.heap.size w w'):Qqz w' v hs:=by
 obtain ⟨a,c,h,hc⟩:=h
 refine ⟨a,c,h,fun hne=>?_⟩
 obtain ⟨b,off,rfl,hcc⟩:=hc hne
 refine ⟨b,off,rfl,fun j hj=>?_⟩
 obtain ⟨h1,h2⟩:=hcc j hj
 exact ⟨(hb.cell (Qax h1)).trans h1,(hb.cell (Qax h2)).trans h2⟩
theorem Qji.g {w:World} {v:Value} {hs:List (List UInt8×List UInt8)} (h:Qji w v hs):Qqz w v hs:=by
 obtain ⟨a,c,rfl⟩:=h.len
 refine ⟨a,c,rfl,fun hne=>?_⟩
 obtain ⟨g,c',hv,_⟩:=h.cells 0 (List.length_pos_iff.2 hne)
 injection hv with hv
 refine ⟨g,0,hv,fun j hj=>?_⟩
 obtain ⟨g2,c2,hv2,_,h1,h2⟩:=h.cells j hj
 injection hv2 with hv2
 rw [hv] at hv2
 injection hv2 with hv2
 injection hv2 with hv2
 subst hv2
 rw [Nat.zero_add]
 exact ⟨h1,h2⟩
theorem Qob (M:Msg) (g off c:Nat) (w:World) (hh:∀ j (hj:j < M.hdrs.length),w.cell? ⟨g,off+j*2,none⟩=some (.string (Qad M.hdrs[j].1))∧w.cell? ⟨g,off+j*2+1,none⟩=some (.string (Qad M.hdrs[j].2))) (hne:M.hdrs≠[]) (hl:M.hdrs.length≤100000) :
 Calls Tryz.prog 47 #[Qf0 M (.slice (some ⟨g,off,none⟩) M.hdrs.length c)] w fun e w'=>∃ a k,e=.returned (Qf0 M (.slice a M.hdrs.length k))∧Qsc w' w.heap.size (.slice a M.hdrs.length k) M.hdrs∧Below w.heap.size w w':=by
 obtain ⟨i0,hi,hz0,hz1,hz2⟩:=info_parts Tryz.infoHeader
 have hgl:g < w.heap.size:=Qax (hh 0 (List.length_pos_iff.2 hne)).1
 have HC:Hid (∀ j u,(hcells M.hdrs)[j]?=some u→w.cell? ⟨g,off+j,none⟩=some u):=fun j u hj=>by
  obtain ⟨k,hk,⟨rfl,rfl⟩ | ⟨rfl,rfl⟩⟩:=Qqp hj
  ·exact (hh k hk).1
  ·exact (hh k hk).2
 clear hh
 have HW:Hid (∀ j u,(hcells M.hdrs)[j]?=some u→((w.alloc (.cells #[.string (Qad M.fr),.string (Qad M.to),.int .i64 M.size,.slice (some ⟨g,off,none⟩) M.hdrs.length c] 48)).alloc (.cells #[.string ⟨#[]⟩,.string ⟨#[]⟩,.int .i64 0,.slice none 0 0] 48)).cell? ((⟨g,off,none⟩:Addr).add j)=some u):=fun j u hj=>by
  rw [Addr.add_lit,World.cell?_of_block (a:=⟨g,off+j,none⟩) (w:=w) ((Below.heap_alloc _ _ _ (by simp;omega)).trans (Below.heap_alloc _ _ _ hgl))]
  exact HC.out j u hj
 have HP:Hid (((w.alloc (.cells #[.string (Qad M.fr),.string (Qad M.to),.int .i64 M.size,.slice (some ⟨g,off,none⟩) M.hdrs.length c] 48)).alloc (.cells #[.string ⟨#[]⟩,.string ⟨#[]⟩,.int .i64 0,.slice none 0 0] 48)).heap[w.heap.size]?=some (.cells #[.string (Qad M.fr),.string (Qad M.to),.int .i64 M.size,.slice (some ⟨g,off,none⟩) M.hdrs.length c] 48)):=Qac (Qay _ _)
 have HQ:Hid (((w.alloc (.cells #[.string (Qad M.fr),.string (Qad M.to),.int .i64 M.size,.slice (some ⟨g,off,none⟩) M.hdrs.length c] 48)).alloc (.cells #[.string ⟨#[]⟩,.string ⟨#[]⟩,.int .i64 0,.slice none 0 0] 48)).heap[w.heap.size+1]?=some (.cells #[.string ⟨#[]⟩,.string ⟨#[]⟩,.int .i64 0,.slice none 0 0] 48)):=QaD (by simp)
 unfold Qf0
 go_enter Tryz.func47,Tryz.ntmps47
 go_wp2_with (at_builtin;refine wpList_append_own _ rfl _ _ 46 rfl (w.heap.size+2) 100 i0 _ 2 32 Tryz.underlying46 hi hz0 hz1 hz2 rfl (by decide) _ _ _ rfl (World.ownsRow_nil _ _ _ _) ⟨g,off,none⟩ M.hdrs.length c (hcells M.hdrs) rfl (Qgz _) HW.out (QpH _) (by unfold maxLen;omega) (by omega) (by simp) ?_;intro v5 w5 ho5 hg5 _;obtain ⟨a5,k5,hv5⟩:=QaL ho5;subst hv5;have hp5:=(hg5.block w.heap.size (by simp;omega) (fun e=>nomatch e)).trans HP.out;have hq5:=(hg5.block (w.heap.size+1) (by simp) (fun e=>nomatch e)).trans HQ.out;have HO5:=Qab ho5;have HB5:=Qab (Qe6 (((Below.refl w.heap.size w).alloc (Nat.le_refl _) (.cells #[.string (Qad M.fr),.string (Qad M.to),.int .i64 M.size,.slice (some ⟨g,off,none⟩) M.hdrs.length c] 48)).alloc (by simp) (.cells #[.string ⟨#[]⟩,.string ⟨#[]⟩,.int .i64 0,.slice none 0 0] 48)) hg5 (by simp;omega) (fun k hk=>nomatch hk));have HP5:=Qab hp5;have HQ5:=Qab hq5;have pf:=Qap hp5;have qf:=Qap hq5;have p0:w5.cell? ⟨w.heap.size,0,none⟩=some (.string (Qad M.fr)):=Qaa hp5 0;have p1:w5.cell? ⟨w.heap.size,1,none⟩=some (.string (Qad M.to)):=Qaa hp5 1;have p2:w5.cell? ⟨w.heap.size,2,none⟩=some (.int .i64 M.size):=Qaa hp5 2;have p3:w5.cell? ⟨w.heap.size,3,none⟩=some (.slice (some ⟨g,off,none⟩) M.hdrs.length c):=Qaa hp5 3;have z0:w5.cell? ⟨w.heap.size+1,0,none⟩=some (.string ⟨#[]⟩):=Qaa hq5 0;have z1:w5.cell? ⟨w.heap.size+1,1,none⟩=some (.string ⟨#[]⟩):=Qaa hq5 1;have z2:w5.cell? ⟨w.heap.size+1,2,none⟩=some (.int .i64 0):=Qaa hq5 2;have z3:w5.cell? ⟨w.heap.size+1,3,none⟩=some (.slice none 0 0):=Qaa hq5 3;clear ho5 hg5 hp5 hq5)
 refine bodyPost_ret (v:=.agg #[.string (Qad M.fr),.string (Qad M.to),.int .i64 M.size,.slice a5 M.hdrs.length k5]) (by simp [results,Tryz.results47,go_sem,z0,z1,z2,z3]) rfl ?_
 have ho:w5.ownsRow (w.heap.size+2) 100 2 (.slice a5 M.hdrs.length k5) M.hdrs.length (hcells M.hdrs):=by
  have:=HO5.out
  rw [Nat.zero_add,List.nil_append] at this
  exact this
 have hnb:∀ b,b < w.heap.size+2→(Value.slice a5 M.hdrs.length k5).ownBlock≠some b:=fun b hb e=>by have:=(ho.lt b e).1;omega
 refine ⟨a5,k5,rfl,QiT (Qda (Qda (Qda (Qda (Qda ho (hnb _ (by omega)) _ _) (hnb _ (by omega)) _ _) (hnb _ (by omega)) _ _) (hnb _ (by omega)) _ _) (hnb _ (by omega)) _ _) (by omega),?_⟩
 exact ((((HB5.out.setCell (show w.heap.size≤w.heap.size from Nat.le_refl _) _).setCell (show w.heap.size≤w.heap.size+1 by omega) _).setCell (show w.heap.size≤w.heap.size+1 by omega) _).setCell (show w.heap.size≤w.heap.size+1 by omega) _).setCell (show w.heap.size≤w.heap.size+1 by omega) _
theorem QpA (M:Msg) (a:Option Addr) (c:Nat) (w:World) (h0:M.hdrs=[]) :
 Calls Tryz.prog 47 #[Qf0 M (.slice a 0 c)] w fun e w'=>∃ a k,e=.returned (Qf0 M (.slice a M.hdrs.length k))∧Qsc w' w.heap.size (.slice a M.hdrs.length k) M.hdrs∧Below w.heap.size w w':=by
 have HR:Hid (M.hdrs.length=0):=by show _=_;rw [h0];rfl
 have H0:=Qab h0
 clear h0
 unfold Qf0
 cases a with
 | none=>
  go_enter Tryz.func47,Tryz.ntmps47
  go_wp2
  refine bodyPost_ret (v:=.agg #[.string (Qad M.fr),.string (Qad M.to),.int .i64 M.size,.slice none 0 0]) (by simp [results,Tryz.results47,go_sem]) rfl ?_
  refine ⟨none,0,by rw [HR.out],?_,?_⟩
  ·unfold Qsc;rw [H0.out];exact World.ownsRow_nil _ _ _ _
  ·exact ((Below.refl _ _).alloc (Nat.le_refl _) _).alloc (by simp) _
 | some a=>
  go_enter Tryz.func47,Tryz.ntmps47
  go_wp2
  refine bodyPost_ret (v:=.agg #[.string (Qad M.fr),.string (Qad M.to),.int .i64 M.size,.slice none 0 0]) (by simp [results,Tryz.results47,go_sem]) rfl ?_
  refine ⟨none,0,by rw [HR.out],?_,?_⟩
  ·unfold Qsc;rw [H0.out];exact World.ownsRow_nil _ _ _ _
  ·exact ((Below.refl _ _).alloc (Nat.le_refl _) _).alloc (by simp) _
theorem QpW (M:Msg) (hv:Value) (w:World) (hh:Qqz w hv M.hdrs) (hl:M.hdrs.length≤100000) :
 Calls Tryz.prog 47 #[Qf0 M hv] w fun e w'=>∃ a k,e=.returned (Qf0 M (.slice a M.hdrs.length k))∧Qsc w' w.heap.size (.slice a M.hdrs.length k) M.hdrs∧Below w.heap.size w w':=by
 obtain ⟨a,c,rfl,hc⟩:=hh
 by_cases h0:M.hdrs=[]
 ·have e:M.hdrs.length=0:=by rw [h0];rfl
  rw [e]
  have:=QpA M a c w h0
  rw [e] at this
  exact this
 ·obtain ⟨b,off,rfl,hcc⟩:=hc h0
  exact Qob M b off c w hcc h0 hl
theorem QoU (M:Msg) (a:Option Addr) (k B:Nat) (w:World) (hh:Qsc w B (.slice a M.hdrs.length k) M.hdrs) (hl:M.hdrs.length≤100000) :
 Calls Tryz.prog 49 #[Qf0 M (.slice a M.hdrs.length k)] w fun e w'=>e=.returned (.tuple #[])∧Fr (fun k o=>B≤k∧∃ cs,o=.cells cs 100) w w':=by
 obtain ⟨W0,hW0⟩:∃ W0,W0=w.alloc (.cells #[.string (Qad M.fr),.string (Qad M.to),.int .i64 M.size,.slice a M.hdrs.length k] 48):=⟨_,rfl⟩
 have HB0:Hid (Below w.heap.size w W0):=by show Below _ _ _;rw [hW0];exact (Below.refl _ _).alloc (Nat.le_refl _) _
 have HM0:Hid (W0.heap[w.heap.size]?=some (.cells #[.string (Qad M.fr),.string (Qad M.to),.int .i64 M.size,.slice a M.hdrs.length k] 48)):=by show _=_;rw [hW0];exact Qay _ _
 have HO0:Hid (W0.ownsRow B 100 2 (.slice a M.hdrs.length k) M.hdrs.length (hcells M.hdrs)):=by show World.ownsRow _ _ _ _ _ _ _;rw [hW0];exact World.ownsRow.alloc hh _
 have HWW:=Qab hW0
 generalize hn:M.hdrs.length=n at *
 clear hh hW0
 unfold Qf0
 go_enter Tryz.func49,Tryz.ntmps49
 go_wp2_with fail
 rw [← HWW.out]
 go_loopw [2,6] (fun _ i wr=>∃ (j:Nat) (xs:List Value),j≤n∧i=.int .i64 (j:Int)∧wr.ownsRow B 100 2 (.slice a n k) n xs∧Fr (fun k o=>B≤k∧∃ cs,o=.cells cs 100) W0 wr) (fun _ i _=>n - (intOf i).toNat)
 case atStart=>exact ⟨0,_,Nat.zero_le _,by go_num,HO0.out,Fr.refl _ _⟩
 case round=>
  obtain ⟨j,xs,hj,rfl,hown,hF⟩:=hrel
  have hM:=hF.block _ _ HM0.out (fun h=>by obtain ⟨_,cs,e⟩:=h;injection e with _ e;exact absurd e (by decide))
  have c3:wr.cell? ⟨w.heap.size,3,none⟩=some (.slice a n k):=Qaa hM 3
  by_cases hlt:j < n
  ·obtain ⟨g,c,hv,hbg,hgl,hcells⟩:=QdB hown (by omega)
   injection hv with hv1 hv2 hv3
   subst hv1 hv3
   have hxl:=hown.1
   obtain ⟨u1,hu1⟩:∃ u,wr.cell? ⟨g,j*2,none⟩=some u:=⟨xs[j*2]'(by omega),hcells _ _ (List.getElem?_eq_getElem (by omega))⟩
   obtain ⟨u2,hu2⟩:∃ u,wr.cell? ⟨g,j*2+1,none⟩=some u:=⟨xs[j*2+1]'(by omega),hcells _ _ (List.getElem?_eq_getElem (by omega))⟩
   have hfz:∀ o,wr.frozen? ⟨g,o,none⟩=false:=hown.frozenAt
   have hP:∀ W:World,W.ownsRow B 100 2 (.slice (some ⟨g,0,none⟩) n k) n xs→True:=fun _ _=>trivial
   obtain ⟨s1,g1⟩:=hown.stored (j*2) (.string ⟨#[109,105,110,101]⟩)
   obtain ⟨s2,g2⟩:=s1.stored (j*2+1) (.string ⟨#[109,105,110,101]⟩)
   have hstep:∀ (u v:World) (ys:List Value),u.ownsRow B 100 2 (.slice (some ⟨g,0,none⟩) n k) n ys→u.grownBy v (some g)→Fr (fun k o=>B≤k∧∃ cs,o=.cells cs 100) u v:=fun u v ys ho hg=>(Fr.refl _ u).grown hg (fun k' o e ho'=>QbR ho k' o e ho')
   have HS:=Qab (And.intro s2 ((hF.trans (hstep _ _ _ hown g1)).trans (hstep _ _ _ s1 g2)))
   clear hP hstep s1 s2 g1 g2 hown hF hM hcells hxl
   go_wp2
   go_roundw
   case rel=>exact ⟨j+1,_,by omega,by go_num,HS.out.1,HS.out.2⟩
   case measure=>simp [intOf];omega
  ·have HF:=Qab hF
   have hjn:j=n:=by omega
   subst hjn
   clear hF hM hown
   go_wp2
   go_end0
   exact ⟨rfl,(Fr.of_below HB0.out).trans HF.out⟩
end
section
open Go.RowKit
attribute [local go_sem ↓] Go.wp_at_zero Go.wp_at_succ
def QiP (f:Option FZ):FZ:=f.getD (0,-1)
def Qva (r:List (Int×List UInt8)×Nat×Option FZ) (w:World) (e:Ending) (w':World):Prop:=
 Below w.heap.size w w'∧∃ lv,e=.returned (.tuple #[lv,.int .i64 (QiP r.2.2).1,.int .i64 (QiP r.2.2).2])∧ActsV w' w.heap.size lv r.1
theorem ActsV.fr {P:Nat→Obj→Prop} {w w':World} {B:Nat} {v:Value} {l:List (Int×List UInt8)} (h:ActsV w B v l) (hf:Fr P w w') (hp:∀ k cs,¬ P k (.cells cs 76)):ActsV w' B v l:=⟨Qbf h.1 hf hp,h.2⟩
theorem ActsV.below {w w':World} {B:Nat} {v:Value} {l:List (Int×List UInt8)} (h:ActsV w B v l) (hb:Below w.heap.size w w'):ActsV w' B v l:=h.fr (P:=fun _ _=>False) (Fr.of_below hb) (fun _ _ h=>h)
theorem Qsc.below {w w':World} {B:Nat} {v:Value} {l:List (List UInt8×List UInt8)} (h:Qsc w B v l) (hb:Below w.heap.size w w'):Qsc w' B v l:=Qbf h (P:=fun _ _=>False) (Fr.of_below hb) (fun _ _ h=>h)
theorem Qpc (g:Nat) (y:List (List UInt8)×List (Qcd 7)) (rv lv hv:Value) (M:Msg) (w:World) (X:Nat→Prop) (he:Env w) (h:w.heap[g]?=some (.cells #[rv,lv] 139)) (hr:QjJ X y.1 w rv) (hb:blX X (Qg0 7) y.2 w lv) (ha:∀ c∈y.2,QhX (WfT y.1) (WfC y.1) 7 c) (hl:(QcL y).length≤100000) (hrl:y.1.length≤1000000)
 (hh:Qqz w hv M.hdrs) (hbd:∀ v,SBd M (ss0 v)) :
 Calls Tryz.prog 26 #[.pointer (some ⟨g,0,none⟩),Qf0 M hv] w (Qva (execL (varsB y.1) (Qd5 y.2) M) w):=by
 have hml:=(hbd true).hl
 obtain ⟨ah,ch,rfl⟩:=hh.len
 have H:=Qab h
 have HR:=Qab hr
 have HBB:=Qab hb
 have HHD:=Qab hh
 have HE:=Qab he
 have HBD:=Qab hbd
 have HW:=Qab (And.intro ha (And.intro hl hrl))
 obtain ⟨r,hrr⟩:∃ r,execL (varsB y.1) (Qd5 y.2) M=r:=⟨_,rfl⟩
 rw [hrr]
 have HRR:=Qab hrr
 obtain ⟨m1,hm1⟩:=he.m1
 have hw1:1 < w.heap.size:=Qax hm1
 clear h hr hb hh he hbd ha hl hrl hrr hm1 m1
 have hms:∀ (a:Option Addr) (n c:Nat),Qf0 M (.slice a n c)=.agg #[.string (Qad M.fr),.string (Qad M.to),.int .i64 M.size,.slice a n c]:=fun _ _ _=>rfl
 rw [hms]
 have HMS:=Qab hms
 clear hms
 go_enter Tryz.func26,Tryz.ntmps26
 go_wp2_with fail
 obtain ⟨W0,hW0⟩:∃ W0,W0=w.alloc (.cells #[.string (Qad M.fr),.string (Qad M.to),.int .i64 M.size,.slice ah M.hdrs.length ch] 48):=⟨_,rfl⟩
 rw [← hW0]
 have hB0:Below w.heap.size w W0:=by rw [hW0];exact (Below.refl _ _).alloc (Nat.le_refl _) _
 have h0s:=hB0.size
 clear hW0
 rw [← HMS.out]
 refine (QpW M _ W0 (HHD.out.below hB0) hml).mono ?_
 rintro e w1 ⟨a1,k1,rfl,ho1,hB1'⟩
 have hB1:Below w.heap.size w w1:=hB0.trans (hB1'.mono h0s)
 have HO1:=Qab ho1
 have HB1:=Qab hB1
 have h1s:=hB1.size
 clear ho1 hB1 hB1' hB0
 rw [HMS.out]
 go_wp2_with fail
 obtain ⟨V1,hV1⟩:∃ V1,V1=w1.alloc (.cells #[.string (Qad M.fr),.string (Qad M.to),.int .i64 M.size,.slice a1 M.hdrs.length k1] 48):=⟨_,rfl⟩
 rw [← hV1]
 have hBV:Below w1.heap.size w1 V1:=by rw [hV1];exact (Below.refl _ _).alloc (Nat.le_refl _) _
 have hMV:V1.heap[w1.heap.size]?=some (.cells #[.string (Qad M.fr),.string (Qad M.to),.int .i64 M.size,.slice a1 M.hdrs.length k1] 48):=by rw [hV1];exact Qay _ _
 have hB1V:=HB1.out.trans (hBV.mono h1s)
 have HOV:=Qab (HO1.out.below hBV)
 have HEV:=Qab (HE.out.below hB1V)
 have HBV:=Qab hB1V
 have HMV:=Qab hMV
 have hVs:=hB1V.size
 have HRUN:Hid (Calls Tryz.prog 48 #[.pointer (some ⟨g,0,none⟩),Qf0 M (.slice a1 M.hdrs.length k1)] V1 (Qn7 r V1)):=by
  show Calls _ _ _ _ _
  rw [← HRR.out]
  exact Qtb g y rv lv _ M V1 X (Qal H.out hB1V) (HR.out.keep (fun k _ hk=>hB1V.block k hk)) (HBB.out.keep (QaY 7) (fun k _ hk=>hB1V.block k hk)) HW.out.1 HW.out.2.1 HW.out.2.2 HOV.out.hdrV HBD.out (by omega) HEV.out.m1 HEV.out.tab
 clear hBV hMV hV1 hB1V
 rw [← HMS.out]
 refine HRUN.out.mono ?_
 rintro e w2 ⟨hB2,hX⟩
 have HB2:=Qab (HBV.out.trans (hB2.mono hVs))
 have HE2:=Qab (HEV.out.below hB2)
 have HO2:=Qab (HOV.out.below hB2)
 have HM2:=Qab (Qal HMV.out hB2)
 have m0:w2.cell? ⟨w1.heap.size,0,none⟩=some (.string (Qad M.fr)):=Qaa HM2.out 0
 have m1:w2.cell? ⟨w1.heap.size,1,none⟩=some (.string (Qad M.to)):=Qaa HM2.out 1
 have m2:w2.cell? ⟨w1.heap.size,2,none⟩=some (.int .i64 M.size):=Qaa HM2.out 2
 have m3:w2.cell? ⟨w1.heap.size,3,none⟩=some (.slice a1 M.hdrs.length k1):=Qaa HM2.out 3
 have h2s:=HB2.out.size
 clear hB2 HRUN
 rcases hX with ⟨lv',h1,rfl,hA⟩ | ⟨lv',f,bb,h1,rfl,hA,hbb,hF⟩
 ·have hT:QiP r.2.2=(0,-1):=by rw [h1];rfl
  have HTZ:=Qab hT
  have HA:=Qab hA
  obtain ⟨la,lc,hlv⟩:=QaL hA.1
  subst hlv
  clear hA hT
  rw [HMS.out]
  go_wp2_with fail
  rw [← HMS.out]
  refine (QoU M a1 k1 w.heap.size w2 (QiT HO2.out h0s) hml).mono ?_
  rintro e w3 ⟨rfl,hf3⟩
  have HB3:=Qab (HB2.out.trans (hf3.below (fun k o h=>h.1) h2s))
  have HA3:=Qab (HA.out.fr hf3 (fun k cs h=>by obtain ⟨_,cs',e⟩:=h;injection e with _ e;exact absurd e (by decide)))
  have h3s:=HB3.out.size
  clear hf3
  rw [HMS.out]
  go_wp2_with fail
  refine (Qpn w3).mono ?_
  rintro e w4 ⟨rfl,hB4⟩
  have HB4:=Qab (HB3.out.trans (hB4.mono h3s))
  have HA4:=Qab (HA3.out.below hB4)
  clear hB4
  go_wp2
  refine bodyPost_ret (v:=.tuple #[.slice la r.1.length lc,.int .i64 0,.int .i64 (-1)]) (by simp [results,Tryz.results26,go_sem]) rfl ?_
  exact ⟨HB4.out,_,by rw [HTZ.out],HA4.out.lo hVs⟩
 ·have hT:QiP r.2.2=f:=by rw [h1];rfl
  have HTZ:=Qab hT
  have HA:=Qab hA
  have HFB:=Qab hF
  obtain ⟨la,lc,hlv⟩:=QaL hA.1
  subst hlv
  clear hA hT hF
  rw [HMS.out]
  go_wp2_with fail
  rw [← HMS.out]
  refine (QoU M a1 k1 w.heap.size w2 (QiT HO2.out h0s) hml).mono ?_
  rintro e w3 ⟨rfl,hf3⟩
  have HB3:=Qab (HB2.out.trans (hf3.below (fun k o h=>h.1) h2s))
  have HA3:=Qab (HA.out.fr hf3 (fun k cs h=>by obtain ⟨_,cs',e⟩:=h;injection e with _ e;exact absurd e (by decide)))
  have HF3:=Qab (hf3.block _ _ HFB.out (fun h=>by obtain ⟨_,cs',e⟩:=h;injection e with _ e;exact absurd e (by decide)))
  have h3s:=HB3.out.size
  clear hf3
  rw [HMS.out]
  go_wp2_with fail
  refine (QjP bb f.1 f.2 w3 ((HE.out.below HB3.out).et) (Qaa HF3.out 0) (Qaa HF3.out 1)).mono ?_
  rintro e w4 ⟨rfl,hB4⟩
  have HB4:=Qab (HB3.out.trans (hB4.mono h3s))
  have HA4:=Qab (HA3.out.below hB4)
  clear hB4
  go_wp2
  refine bodyPost_ret (v:=.tuple #[.slice la r.1.length lc,.int .i64 f.1,.int .i64 f.2]) (by simp [results,Tryz.results26,go_sem]) rfl ?_
  exact ⟨HB4.out,_,by rw [HTZ.out],HA4.out.lo hVs⟩
end
section
open Go.RowKit
attribute [local go_sem ↓] Go.wp_at_zero Go.wp_at_succ
def Qna (l:List (List UInt8×List UInt8)):Nat:=(l.map fun h=>h.1.length+h.2.length).sum
def QtR (M:Msg):Nat:=M.fr.length+M.to.length+M.hdrs.length+Qna M.hdrs
theorem Qsm (l:List (List UInt8×List UInt8)) (k:Nat) (h:k < l.length):Qna (l.take (k+1))=Qna (l.take k)+(l[k].1.length+l[k].2.length):=by
 unfold Qna
 rw [List.take_add_one,List.getElem?_eq_getElem h,List.map_append,List.sum_append]
 rfl
theorem QrT (l:List (List UInt8×List UInt8)) (k:Nat):Qna (l.take k)≤Qna l:=by
 have:Qna l=Qna (l.take k)+Qna (l.drop k):=by
  unfold Qna
  rw [← List.sum_append,← List.map_append,List.take_append_drop]
 omega
theorem QsH {l:List (List UInt8×List UInt8)} {h:List UInt8×List UInt8} (hm:h∈l):h.1.length+h.2.length≤Qna l:=by
 induction l with
 | nil=>cases hm
 | cons x r ih=>
  have e:Qna (x :: r)=x.1.length+x.2.length+Qna r:=by simp [Qna]
  rcases List.mem_cons.1 hm with rfl | hm
  ·omega
  ·have:=ih hm;omega
structure Qvv (M:Msg):Prop where
 fr:M.fr.length≤140737488355328
 tt:M.to.length≤140737488355328
 hl:M.hdrs.length≤140737488355328
 hd:∀ h∈M.hdrs,h.1.length≤140737488355328∧h.2.length≤140737488355328
theorem QmB {M:Msg} (h:QtR M≤16384) (v:Bool):SBd M (ss0 v):=by
 unfold QtR at h
 refine ⟨by omega,by omega,by omega,fun x hx=>?_,fun t ht=>(by cases ht),Nat.zero_le _,fun x t ht=>(by cases ht),Nat.zero_le _⟩
 have:=QsH hx
 omega
theorem QpJ (M:Msg) (hv:Value) (w:World) (hh:Qqz w hv M.hdrs) (hb:Qvv M) :
 Calls Tryz.prog 25 #[Qf0 M hv] w fun e w'=>e=.returned (.bool (decide (QtR M≤16384)))∧Below w.heap.size w w':=by
 have HH:=Qab hh
 obtain ⟨a,c,rfl⟩:=hh.len
 have hb1:=hb.fr
 have hb2:=hb.tt
 have hb3:=hb.hl
 have HB:=Qab hb.hd
 have hs1:=Qat M.fr
 have hs2:=Qat M.to
 clear hh hb
 unfold Qf0
 obtain ⟨W0,hW0⟩:∃ W0,W0=w.alloc (.cells #[.string (Qad M.fr),.string (Qad M.to),.int .i64 M.size,.slice a M.hdrs.length c] 48):=⟨_,rfl⟩
 have HB0:Hid (Below w.heap.size w W0):=by show Below _ _ _;rw [hW0];exact (Below.refl _ _).alloc (Nat.le_refl _) _
 have HM0:Hid (W0.heap[w.heap.size]?=some (.cells #[.string (Qad M.fr),.string (Qad M.to),.int .i64 M.size,.slice a M.hdrs.length c] 48)):=by show _=_;rw [hW0];exact Qay _ _
 have HWW:=Qab hW0
 clear hW0
 obtain ⟨T,hT⟩:∃ T,M.fr.length+M.to.length+M.hdrs.length=T:=⟨_,rfl⟩
 have hTb:T≤422212465065984:=by omega
 have HTT:Hid (QtR M=T+Qna M.hdrs):=by show _=_;rw [← hT];rfl
 have HTe:=Qab hT
 clear hT
 go_enter Tryz.func25,Tryz.ntmps25
 go_wp2_with fail
 rw [← HWW.out]
 go_loopw [3,4] (fun v i wr=>∃ (k t:Nat),k≤M.hdrs.length∧i=.int .i64 (k:Int)∧v=.int .i64 (t:Int)∧t=T+Qna (M.hdrs.take k)∧t≤703687441776640∧Below w.heap.size w wr∧wr.heap[w.heap.size]?=some (.cells #[.string (Qad M.fr),.string (Qad M.to),.int .i64 M.size,.slice a M.hdrs.length c] 48)) (fun _ i _=>M.hdrs.length - (intOf i).toNat)
 case atStart=>exact ⟨0,T,Nat.zero_le _,by go_num,(by congr 1;have:=HTe.out;omega),rfl,by omega,HB0.out,HM0.out⟩
 case round=>
  obtain ⟨k,t,hk,rfl,rfl,ht,htb,hB,hM⟩:=hrel
  have HBB:=Qab hB
  have HMM:=Qab hM
  have hwl:=QaH hM
  have c3:wr.cell? ⟨w.heap.size,3,none⟩=some (.slice a M.hdrs.length c):=Qaa hM 3
  have HT:=Qab ht
  clear hB hM ht
  by_cases hlt:k < M.hdrs.length
  ·have hlt':(k:Int) < (M.hdrs.length:Int):=by omega
   by_cases hle:t≤16384
   ·have hle':(t:Int)≤16384:=by omega
    obtain ⟨a',c',hv,hcs⟩:=HH.out
    injection hv with hv1 hv2 hv3
    subst hv1
    obtain ⟨g,off,hga,hcc⟩:=hcs (List.ne_nil_of_length_pos (by omega))
    subst hga
    obtain ⟨hc1,hc2⟩:=hcc k hlt
    have hgl:g < w.heap.size:=Qax hc1
    have d1:wr.cell? ⟨g,off+k*2,none⟩=some (.string (Qad M.hdrs[k].1)):=by rw [HBB.out.cell (p:=⟨g,off+k*2,none⟩) hgl];exact hc1
    have d2:wr.cell? ⟨g,off+k*2+1,none⟩=some (.string (Qad M.hdrs[k].2)):=by rw [HBB.out.cell (p:=⟨g,off+k*2+1,none⟩) hgl];exact hc2
    have hbk:=HB.out _ (List.getElem_mem hlt)
    have HS:=Qab (Qsm M.hdrs k hlt)
    obtain ⟨x,hx⟩:∃ x,M.hdrs[k]=x:=⟨_,rfl⟩
    rw [hx] at d1 d2 hbk HS
    have hs3:=Qat x.1
    have hs4:=Qat x.2
    obtain ⟨hk1,hk2⟩:=hbk
    clear hc1 hc2 hx hv3 hcs hcc
    go_wp2_with fail
    go_quiet (fail)
    all_goals go_wp2
    go_roundw
    case rel=>exact ⟨k+1,t+x.1.length+x.2.length,by omega,by go_num,by go_num,by rw [HS.out,HT.out];omega,by omega,Qb2 HBB.out,HMM.out⟩
    case measure=>simp [intOf];omega
   ·have hle':¬ (t:Int)≤16384:=by omega
    have hlex:16384 < t:=by omega
    have HS:=Qab (QrT M.hdrs k)
    go_wp2
    go_ret
    refine ⟨QaW ?_,HBB.out⟩
    have h1:=HTT.out
    have h2:=HT.out
    have h3:=HS.out
    exact (decide_eq_false (by omega)).symm
  ·have hlt':¬ (k:Int) < (M.hdrs.length:Int):=by omega
   have hkk:k=M.hdrs.length:=by omega
   subst hkk
   have HT':Hid (t=QtR M):=by
    show _=_
    have h2:=HT.out
    rw [List.take_length] at h2
    rw [HTT.out,h2]
   clear HT
   go_wp2
   go_ret
   refine ⟨QaW ?_,HBB.out⟩
   rw [← HT'.out]
   by_cases hle:t≤16384
   ·simp [hle];try omega
   ·simp [hle];try omega
end
end Go.Proofs.YtbiclelojbfnbaaGreatDoor
