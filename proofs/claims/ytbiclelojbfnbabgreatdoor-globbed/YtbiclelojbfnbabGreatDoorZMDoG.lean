import Derived.Test.YtbiclelojbfnbabGreatDoorZMActW
import Derived.Test.YtbiclelojbfnbabGreatDoorZWTab
namespace Go.Proofs.YtbiclelojbfnbabGreatDoor
set_option linter.unusedVariables false
set_option linter.unusedSimpArgs false
set_option maxRecDepth 100000
set_option maxHeartbeats 4000000
section
open Go.RowKit
attribute [local go_sem ↓] Go.wp_at_zero Go.wp_at_succ
theorem Qtn (i:Ins) (av bv:Value) (B xb sb:Nat) (M:Msg) (m:MS) (count:Nat) (w:World) (h:MAt w B xb sb M m count) (ho:Qb2 w i av bv) (ht:Tab w) :
 Calls Tryz.prog 135 #[.pointer (some ⟨xb,0,none⟩),Qdk i av bv] w (QaI (Qki i m) B xb sb M count w):=by
 obtain ⟨aa,ac,hav⟩:=ho.a.len
 obtain ⟨ba,bc,hbv⟩:=ho.b.len
 subst hav hbv
 have HM:=Qaa h
 have HO:=Qaa ho
 have hxl:xb < w.heap.size:=Qay h.now
 have hnow:=(h.box (.cells #[.int .i64 i.op,.int .i64 i.n,.int .i64 i.tag,.bool i.oct,.slice aa i.a.length ac,.slice ba i.b.length bc,.int .i64 i.at_] 147)).now
 have HMD:=Qaa (h.below (Qal (.cells #[.int .i64 i.op,.int .i64 i.n,.int .i64 i.tag,.bool i.oct,.slice aa i.a.length ac,.slice ba i.b.length bc,.int .i64 i.at_] 147)))
 have HOD:=Qaa (ho.below (Qal (.cells #[.int .i64 i.op,.int .i64 i.n,.int .i64 i.tag,.bool i.oct,.slice aa i.a.length ac,.slice ba i.b.length bc,.int .i64 i.at_] 147)))
 clear h ho
 unfold Qdk
 have hTD:Tab (w.alloc (.cells #[.int .i64 i.op,.int .i64 i.n,.int .i64 i.tag,.bool i.oct,.slice aa i.a.length ac,.slice ba i.b.length bc,.int .i64 i.at_] 147)).drew:=ht.below (Qal _)
 have HTD:=Qaa hTD
 clear ht hTD
 by_cases hc:0≤i.tag∧i.tag≤3∧i.a≠[]∧i.b≠[]
 rotate_left
 ·have HR:Hid (Qki i m=.error (12,(m.now:Int))):=by show _=_;unfold Qki QcN;rw [if_neg hc]
  have hpk:(decide (0≤i.tag) && decide (i.tag≤3) && decide (0 < i.a.length) && decide (0 < i.b.length))=false:=by
   rw [Bool.eq_false_iff]
   intro h
   simp only [Bool.and_eq_true,decide_eq_true_eq] at h
   exact hc ⟨h.1.1.1,h.1.1.2,List.length_pos_iff.1 h.1.2,List.length_pos_iff.1 h.2⟩
  clear hc
  by_cases h1:0≤i.tag
  ·have d1:=decide_eq_true h1
   by_cases h2:i.tag≤3
   ·have d2:=decide_eq_true h2
    by_cases h3:0 < i.a.length
    ·have d3:=decide_eq_true h3
     have h3':(0:Int) < (i.a.length:Int):=by omega
     have d4:decide (0 < i.b.length)=false:=by rw [d1,d2,d3] at hpk;simpa using hpk
     have h4:¬ (0:Int) < (i.b.length:Int):=by have:=of_decide_eq_false d4;omega
     clear hpk
     go_enter Tryz.func135,Tryz.ntmps135
     go_wp2_with (go_at_call 139;refine (Qcm _ _ _ hnow).mono ?_;rintro e w' ⟨⟨bb,hz,rfl,hcc⟩,hb⟩)
     exact ⟨rfl,by rw [HR.out];exact QaI.from (QaI.err rfl (Fr.of_below hb) ⟨bb,hz,rfl,hcc⟩) (QcT _ _)⟩
    ·have d3:=decide_eq_false h3
     have h3':¬ (0:Int) < (i.a.length:Int):=by omega
     clear hpk
     go_enter Tryz.func135,Tryz.ntmps135
     go_wp2_with (go_at_call 139;refine (Qcm _ _ _ hnow).mono ?_;rintro e w' ⟨⟨bb,hz,rfl,hcc⟩,hb⟩)
     exact ⟨rfl,by rw [HR.out];exact QaI.from (QaI.err rfl (Fr.of_below hb) ⟨bb,hz,rfl,hcc⟩) (QcT _ _)⟩
   ·have d2:=decide_eq_false h2
    clear hpk
    go_enter Tryz.func135,Tryz.ntmps135
    go_wp2_with (go_at_call 139;refine (Qcm _ _ _ hnow).mono ?_;rintro e w' ⟨⟨bb,hz,rfl,hcc⟩,hb⟩)
    exact ⟨rfl,by rw [HR.out];exact QaI.from (QaI.err rfl (Fr.of_below hb) ⟨bb,hz,rfl,hcc⟩) (QcT _ _)⟩
  ·have d1:=decide_eq_false h1
   clear hpk
   go_enter Tryz.func135,Tryz.ntmps135
   go_wp2_with (go_at_call 139;refine (Qcm _ _ _ hnow).mono ?_;rintro e w' ⟨⟨bb,hz,rfl,hcc⟩,hb⟩)
   exact ⟨rfl,by rw [HR.out];exact QaI.from (QaI.err rfl (Fr.of_below hb) ⟨bb,hz,rfl,hcc⟩) (QcT _ _)⟩
 obtain ⟨h1,h2,ha,hb⟩:=hc
 obtain ⟨x,r,hax⟩:∃ x r,i.a=x :: r:=by cases hh:i.a with | nil=>exact absurd hh ha | cons x r=>exact ⟨x,r,rfl⟩
 obtain ⟨y,q,hby⟩:∃ y q,i.b=y :: q:=by cases hh:i.b with | nil=>exact absurd hh hb | cons x r=>exact ⟨x,r,rfl⟩
 have HR:Hid (Qki i m=.ok (stL m (Qup m.st x i.tag y))):=by show _=_;unfold Qki;rw [if_pos ⟨h1,h2,ha,hb⟩,hax,hby];rfl
 have hyl2:=HO.out.bl y (by rw [hby];simp)
 have HAC:=Qaa (Qum B sb M m.st x i.tag y (w.alloc (.cells #[.int .i64 i.op,.int .i64 i.n,.int .i64 i.tag,.bool i.oct,.slice aa i.a.length ac,.slice ba i.b.length bc,.int .i64 i.at_] 147)).drew HMD.out.sat HTD.out (by omega))
 obtain ⟨g,hga,hgl,hgc⟩:=HO.out.a.get' 0 (by rw [hax];simp)
 obtain ⟨k,hkb,hkl,hkc⟩:=HO.out.b.get' 0 (by rw [hby];simp)
 have hgc':w.cell? ⟨g,0,none⟩=some (.string (Qag x)):=by rw [hgc];congr 3;simp [hax]
 have hkc':w.cell? ⟨k,0,none⟩=some (.string (Qag y)):=by rw [hkc];congr 3;simp [hby]
 have hpN:0 < i.a.length:=by rw [hax];simp
 have hqN:0 < i.b.length:=by rw [hby];simp
 have hp':(0:Int) < (i.a.length:Int):=by omega
 have hq':(0:Int) < (i.b.length:Int):=by omega
 have d1:=decide_eq_true h1
 have d2:=decide_eq_true h2
 have d3:=decide_eq_true hpN
 have d4:=decide_eq_true hqN
 have HGB:Hid (∀ W,Fr (PMc B xb) (w.alloc (.cells #[.int .i64 i.op,.int .i64 i.n,.int .i64 i.tag,.bool i.oct,.slice aa i.a.length ac,.slice ba i.b.length bc,.int .i64 i.at_] 147)).drew W→W.cell? ⟨g,0,none⟩=some (.string (Qag x))∧W.cell? ⟨k,0,none⟩=some (.string (Qag y))):=fun W hf=>by
  have e1:=HOD.out.a.pm hf
  have e2:=HOD.out.b.pm hf
  obtain ⟨g',hg',_,hc'⟩:=e1.get' 0 (by rw [hax];simp)
  obtain ⟨k',hk',_,hd'⟩:=e2.get' 0 (by rw [hby];simp)
  rw [hga] at hg'
  rw [hkb] at hk'
  injection hg' with hg'
  injection hg' with hg'
  injection hk' with hk'
  injection hk' with hk'
  subst hg' hk'
  refine ⟨?_,?_⟩
  ·rw [hc'];congr 3;simp [hax]
  ·rw [hd'];congr 3;simp [hby]
 have hgne:¬ g=w.heap.size:=by omega
 have hkne:¬ k=w.heap.size:=by omega
 clear hgc hkc
 subst hga hkb
 clear hax hby ha hb
 go_enter Tryz.func135,Tryz.ntmps135
 go_wp2_with (go_at_call 139;refine (QbF _ _).mono ?_;rintro e w' ⟨rfl,hww⟩;rw [hww];clear hww)
 refine wp_region_held (S:=fun w'=>w'.cell? ⟨xb,0,none⟩=some (.pointer (some ⟨sb,0,none⟩))∧w'.cell? ⟨w.heap.size,2,none⟩=some (.int .i64 i.tag)∧w'.cell? ⟨w.heap.size,4,none⟩=some (.slice (some ⟨g,0,none⟩) i.a.length ac)∧w'.cell? ⟨w.heap.size,5,none⟩=some (.slice (some ⟨k,0,none⟩) i.b.length bc)∧w'.cell? ⟨g,0,none⟩=some (.string (Qag x))∧w'.cell? ⟨k,0,none⟩=some (.string (Qag y))) (by kernel_rfl) ?_
 have hS:(w.alloc (.cells #[.int .i64 i.op,.int .i64 i.n,.int .i64 i.tag,.bool i.oct,.slice (some ⟨g,0,none⟩) i.a.length ac,.slice (some ⟨k,0,none⟩) i.b.length bc,.int .i64 i.at_] 147)).drew.cell? ⟨xb,0,none⟩=some (.pointer (some ⟨sb,0,none⟩))∧(w.alloc (.cells #[.int .i64 i.op,.int .i64 i.n,.int .i64 i.tag,.bool i.oct,.slice (some ⟨g,0,none⟩) i.a.length ac,.slice (some ⟨k,0,none⟩) i.b.length bc,.int .i64 i.at_] 147)).drew.cell? ⟨w.heap.size,2,none⟩=some (.int .i64 i.tag)∧(w.alloc (.cells #[.int .i64 i.op,.int .i64 i.n,.int .i64 i.tag,.bool i.oct,.slice (some ⟨g,0,none⟩) i.a.length ac,.slice (some ⟨k,0,none⟩) i.b.length bc,.int .i64 i.at_] 147)).drew.cell? ⟨w.heap.size,4,none⟩=some (.slice (some ⟨g,0,none⟩) i.a.length ac)∧(w.alloc (.cells #[.int .i64 i.op,.int .i64 i.n,.int .i64 i.tag,.bool i.oct,.slice (some ⟨g,0,none⟩) i.a.length ac,.slice (some ⟨k,0,none⟩) i.b.length bc,.int .i64 i.at_] 147)).drew.cell? ⟨w.heap.size,5,none⟩=some (.slice (some ⟨k,0,none⟩) i.b.length bc)∧(w.alloc (.cells #[.int .i64 i.op,.int .i64 i.n,.int .i64 i.tag,.bool i.oct,.slice (some ⟨g,0,none⟩) i.a.length ac,.slice (some ⟨k,0,none⟩) i.b.length bc,.int .i64 i.at_] 147)).drew.cell? ⟨g,0,none⟩=some (.string (Qag x))∧(w.alloc (.cells #[.int .i64 i.op,.int .i64 i.n,.int .i64 i.tag,.bool i.oct,.slice (some ⟨g,0,none⟩) i.a.length ac,.slice (some ⟨k,0,none⟩) i.b.length bc,.int .i64 i.at_] 147)).drew.cell? ⟨k,0,none⟩=some (.string (Qag y)):=⟨(Qav HMD.out (Fr.refl _ _)).1,(Qav HMD.out (Fr.refl _ _)).2 2,(Qav HMD.out (Fr.refl _ _)).2 4,(Qav HMD.out (Fr.refl _ _)).2 5,HGB.out _ (Fr.refl _ _)⟩
 refine QaA 0 26 (.pointer (some ⟨xb,0,none⟩)) rfl hS (fun w' ⟨s1,s2,s3,s4,s5,s6⟩=>by go_simp) ?_
 simp only [pt,List.set_cons_zero,List.set_cons_succ]
 refine QaA 1 27 (.pointer (some ⟨xb,0,none⟩)) rfl hS (fun w' ⟨s1,s2,s3,s4,s5,s6⟩=>by go_simp) ?_
 simp only [pt,List.set_cons_zero,List.set_cons_succ]
 refine QaA 2 28 (.pointer (some ⟨xb,0,none⟩)) rfl hS (fun w' ⟨s1,s2,s3,s4,s5,s6⟩=>by go_simp) ?_
 simp only [pt,List.set_cons_zero,List.set_cons_succ]
 refine QaA 3 29 (.pointer (some ⟨sb,0,none⟩)) rfl hS (fun w' ⟨s1,s2,s3,s4,s5,s6⟩=>by go_simp) ?_
 simp only [pt,List.set_cons_zero,List.set_cons_succ]
 refine QaA 4 30 (.pointer (some ⟨w.heap.size,4,none⟩)) rfl hS (fun w' ⟨s1,s2,s3,s4,s5,s6⟩=>by go_simp) ?_
 simp only [pt,List.set_cons_zero,List.set_cons_succ]
 refine QaA 5 31 (.slice (some ⟨g,0,none⟩) i.a.length ac) rfl hS (fun w' ⟨s1,s2,s3,s4,s5,s6⟩=>by go_simp) ?_
 simp only [pt,List.set_cons_zero,List.set_cons_succ]
 refine QaA 6 32 (.pointer (some ⟨g,0,none⟩)) rfl hS (fun w' ⟨s1,s2,s3,s4,s5,s6⟩=>by go_simp) ?_
 simp only [pt,List.set_cons_zero,List.set_cons_succ]
 refine QaA 7 33 (.string (Qag x)) rfl hS (fun w' ⟨s1,s2,s3,s4,s5,s6⟩=>by go_simp) ?_
 simp only [pt,List.set_cons_zero,List.set_cons_succ]
 refine QaA 8 34 (.pointer (some ⟨w.heap.size,2,none⟩)) rfl hS (fun w' ⟨s1,s2,s3,s4,s5,s6⟩=>by go_simp) ?_
 simp only [pt,List.set_cons_zero,List.set_cons_succ]
 refine QaA 9 35 (.int .i64 i.tag) rfl hS (fun w' ⟨s1,s2,s3,s4,s5,s6⟩=>by go_simp) ?_
 simp only [pt,List.set_cons_zero,List.set_cons_succ]
 refine QaA 10 36 (.pointer (some ⟨w.heap.size,5,none⟩)) rfl hS (fun w' ⟨s1,s2,s3,s4,s5,s6⟩=>by go_simp) ?_
 simp only [pt,List.set_cons_zero,List.set_cons_succ]
 refine QaA 11 37 (.slice (some ⟨k,0,none⟩) i.b.length bc) rfl hS (fun w' ⟨s1,s2,s3,s4,s5,s6⟩=>by go_simp) ?_
 simp only [pt,List.set_cons_zero,List.set_cons_succ]
 refine QaA 12 38 (.pointer (some ⟨k,0,none⟩)) rfl hS (fun w' ⟨s1,s2,s3,s4,s5,s6⟩=>by go_simp) ?_
 simp only [pt,List.set_cons_zero,List.set_cons_succ]
 refine QaA 13 39 (.string (Qag y)) rfl hS (fun w' ⟨s1,s2,s3,s4,s5,s6⟩=>by go_simp) ?_
 simp only [pt,List.set_cons_zero,List.set_cons_succ]
 clear hS
 refine wpAnyH_all (rs:=[14]) (by kernel_rfl) (by decide) (fun j hj=>?_)
 simp only [List.mem_singleton] at hj
 subst hj
 refine QaG rfl (by rfl) ?_
 go_simp
 refine HAC.out.mono ?_
 rintro e w2 ⟨hf,rfl,hs⟩
 have HM2:=Qaa (HMD.out.st' hs hf)
 have HF2:=Qaa (hf.mono (fun _ _=>PMc.st (xb:=xb)))
 have HGB2:=Qaa (HGB.out w2 HF2.out)
 have HK2:=Qaa (Qav HM2.out HF2.out)
 clear hs hf
 refine ⟨⟨(HK2.out).1,(HK2.out).2 2,(HK2.out).2 4,(HK2.out).2 5,HGB2.out⟩,wpAnyH_done (by kernel_rfl) ?_ _⟩
 try simp only [Act.put,List.setIfInBounds_toArray,List.set_cons_zero,List.set_cons_succ]
 go_wp2
 go_end0
 exact QaI.from (QaI.ok HR.out HF2.out HM2.out) (Fr.of_below (Qal _))
end
section
open Go.RowKit
attribute [local go_sem ↓] Go.wp_at_zero Go.wp_at_succ
theorem Qqt (b:Bool) (w:World):Calls Tryz.prog 127 #[.bool b] w fun e w'=>e=.returned (.func (.func 181) #[] #[.pointer (some ⟨w.heap.size,0,none⟩)])∧w'=w.alloc (.cells #[.bool b] 4):=by
 have hmf:∀ (fn:Fn) (first cap:Array Value) (w:World),(Instr.makeFunc fn first cap).run Tryz.prog w=.ok (.func fn first cap) w:=fun _ _ _ _=>rfl
 go_enter Tryz.func127,Tryz.ntmps127
 go_wp2
 go_ret
 exact ⟨rfl,rfl⟩
theorem QrD (F:Nat) (w:World):Calls Tryz.prog 128 #[.func (.func F) #[] #[]] w fun e w'=>e=.returned (.func (.func 182) #[] #[.pointer (some ⟨w.heap.size,0,none⟩)])∧w'=w.alloc (.cells #[.func (.func F) #[] #[]] 233):=by
 have hmf:∀ (fn:Fn) (first cap:Array Value) (w:World),(Instr.makeFunc fn first cap).run Tryz.prog w=.ok (.func fn first cap) w:=fun _ _ _ _=>rfl
 go_enter Tryz.func128,Tryz.ntmps128
 go_wp2
 go_ret
 exact ⟨rfl,rfl⟩
def fnV (F:Nat):Value:=.func (.func F) #[] #[]
def clV (F p:Nat):Value:=.func (.func F) #[] #[.pointer (some ⟨p,0,none⟩)]
def Qtm (n:Nat):Array Value:=
 #[.nilFunc,fnV 124,fnV 125,fnV 126,clV 181 n,clV 181 (n+1),clV 182 (n+2),clV 182 (n+3),clV 182 (n+4),
  fnV 132,fnV 133,fnV 134,fnV 135,fnV 136,fnV 138]
structure Qev (w:World) (n:Nat):Prop where
 p0:w.heap[n]?=some (.cells #[.bool true] 4)
 p1:w.heap[n+1]?=some (.cells #[.bool false] 4)
 p2:w.heap[n+2]?=some (.cells #[fnV 129] 233)
 p3:w.heap[n+3]?=some (.cells #[fnV 130] 233)
 p4:w.heap[n+4]?=some (.cells #[fnV 131] 233)
 tb:w.heap[n+5]?=some (.cells (Qtm n) 230)
theorem Qev.fr {w w':World} {B xb:Nat} (h:Qev w (xb+1)) (hf:Fr (PMc B xb) w w'):Qev w' (xb+1):=by
 have hb:∀ (k:Nat) (b:Bool),k < xb+7→¬ PMc B xb k (.cells #[.bool b] 4):=fun k b hk hh=>by
  have:=hh.2
  unfold kO stO at this
  simp at this
  omega
 exact ⟨hf.block _ _ h.p0 (hb _ _ (by omega)),hf.block _ _ h.p1 (hb _ _ (by omega)),hf.block _ _ h.p2 (PMc.not (by decide) (by decide) (by decide) (by decide)),hf.block _ _ h.p3 (PMc.not (by decide) (by decide) (by decide) (by decide)),hf.block _ _ h.p4 (PMc.not (by decide) (by decide) (by decide) (by decide)),hf.block _ _ h.tb (PMc.not (by decide) (by decide) (by decide) (by decide))⟩
theorem Qev.below {w w':World} {n:Nat} (h:Qev w n) (hb:Below w.heap.size w w'):Qev w' n:=
 ⟨Qaq h.p0 hb,Qaq h.p1 hb,Qaq h.p2 hb,Qaq h.p3 hb,Qaq h.p4 hb,Qaq h.tb hb⟩
theorem QqV (w:World):Calls Tryz.prog 66 #[] w fun e w'=>e=.returned (.slice (some ⟨w.heap.size+5,0,none⟩) 15 15)∧Qev w' w.heap.size∧Below w.heap.size w w'∧w'.heap.size=w.heap.size+6:=by
 go_enter Tryz.func66,Tryz.ntmps66
 go_wp2_with (first | (go_at_call 127;refine (Qqt _ _).mono ?_;rintro e w' ⟨rfl,rfl⟩) | (go_at_call 128;refine (QrD _ _).mono ?_;rintro e w' ⟨rfl,rfl⟩))
 go_ret
 refine ⟨by simp,?_,?_,by simp⟩
 ·exact ⟨Qad (Qad (Qad (Qad (Qad (QaB _ _))))),Qad (Qad (Qad (Qad (Qaw (by simp))))),Qad (Qad (Qad (Qaw (by simp)))),Qad (Qad (Qaw (by simp))),Qad (Qaw (by simp)),Qaw (by simp)⟩
 ·exact (((((((Below.refl _ _).alloc (Nat.le_refl _) _).alloc (by simp) _).alloc (by simp;omega) _).alloc (by simp;omega) _).alloc (by simp;omega) _).alloc (by simp;omega) _)
def Qhe (M:Msg) (hv:Value):Value:=.agg #[.string (Qag M.fr),.string (Qag M.to),.int .i64 M.size,hv]
theorem Qtc (v:Bool) (M:Msg) (hv:Value) (w:World) (hh:Qik w hv M.hdrs) (hb:SBd M (ss0 v)) (h1:1 < w.heap.size) (hm:∃ m,w.cell? ⟨1,0,none⟩=some (.int .i64 m)) :
 Calls Tryz.prog 65 #[.bool v,Qhe M hv] w fun e w'=>∃ sb,e=.returned (.pointer (some ⟨sb,0,none⟩))∧SAt w' w.heap.size sb M (ss0 v)∧Below w.heap.size w w':=by
 obtain ⟨ha,hc,rfl⟩:=hh.len
 have HH:=Qaa hh
 have hmm:∀ (w:World),(Instr.makeMap 223 none).run Tryz.prog w=.ok (.map (some w.heap.size)) (w.alloc (Obj.map #[] 0)):=fun _=>rfl
 clear hh
 unfold Qhe
 go_enter Tryz.func65,Tryz.ntmps65
 go_wp2
 go_ret
 have hB:Below w.heap.size w (((w.alloc (.cells #[.string (Qag M.fr),.string (Qag M.to),.int .i64 M.size,.slice ha M.hdrs.length hc] 28)).alloc (Obj.map #[] 0)).alloc (.cells (QjH M (.slice ha M.hdrs.length hc) v (w.heap.size+1) (.slice none 0 0) (.slice none 0 0) false) 227)):=(((Below.refl _ _).alloc (Nat.le_refl _) _).alloc (by simp) _).alloc (by simp;omega) _
 obtain ⟨m,hm⟩:=hm
 refine ⟨w.heap.size+1+1,rfl,⟨.slice ha M.hdrs.length hc,w.heap.size+1,.slice none 0 0,.slice none 0 0,by omega,by omega,h1,⟨m,?_⟩,?_,?_,⟨#[],0,?_,QrE.empty⟩,Or.inl ⟨rfl,rfl⟩,World.ownsRow_nil _ _ _ _,fun _=>rfl,hb⟩,hB⟩
 ·exact (hB.cell (p:=⟨1,0,none⟩) h1).trans hm
 ·exact Qaw (by simp)
 ·exact HH.out.fr (P:=fun _ _=>False) (Fr.of_below hB) (fun _ _ h=>h)
 ·exact Qad (Qaw (by simp))
end
section
open Go.RowKit
attribute [local go_sem ↓] Go.wp_at_zero Go.wp_at_succ
theorem QtY (W:World):(binOp .neq 230 .nilFunc .nilFunc).run Tryz.prog W=.ok (.bool false) W:=by kernel_rfl
theorem Qs0 (W:World) (f:Fn) (a b:Array Value):(binOp .neq 230 (.func f a b) .nilFunc).run Tryz.prog W=.ok (.bool true) W:=by kernel_rfl
theorem Qjz (k:Nat) (f:FuncId) (R:Except FZ MS) (n tag:Int) (oct:Bool) (a b:List (List UInt8)) (at_:Int) (aa ba:Option Addr) (ac bc:Nat) (B xb sb:Nat) (M:Msg) (m:MS) (count:Nat) (w:World) (hcf:∀ args W,(callFunc f args).run Tryz.prog W=.ok (.enter f args) W) (hk1:1≤k) (hk2:k≤14) (h:MAt w B xb sb M m count) (hw:Qev w (xb+1)) (hfx:(Qtm (xb+1))[k]?=some (.func (.func f) #[] #[]))
 (hcon:Calls Tryz.prog f #[.pointer (some ⟨xb,0,none⟩),.agg #[.int .i64 (k:Int),.int .i64 n,.int .i64 tag,.bool oct,.slice aa a.length ac,.slice ba b.length bc,.int .i64 at_]] (w.alloc (.cells #[.int .i64 (k:Int),.int .i64 n,.int .i64 tag,.bool oct,.slice aa a.length ac,.slice ba b.length bc,.int .i64 at_] 147)).drew (QaI R B xb sb M count (w.alloc (.cells #[.int .i64 (k:Int),.int .i64 n,.int .i64 tag,.bool oct,.slice aa a.length ac,.slice ba b.length bc,.int .i64 at_] 147)).drew)) :
 Calls Tryz.prog 67 #[.pointer (some ⟨xb,0,none⟩),.slice (some ⟨xb+6,0,none⟩) 15 15,.agg #[.int .i64 (k:Int),.int .i64 n,.int .i64 tag,.bool oct,.slice aa a.length ac,.slice ba b.length bc,.int .i64 at_]] w (QaI R B xb sb M count w):=by
 have HMD:=Qaa (h.below (Qal (.cells #[.int .i64 (k:Int),.int .i64 n,.int .i64 tag,.bool oct,.slice aa a.length ac,.slice ba b.length bc,.int .i64 at_] 147)))
 have HWD:=Qaa (hw.below (Qal (.cells #[.int .i64 (k:Int),.int .i64 n,.int .i64 tag,.bool oct,.slice aa a.length ac,.slice ba b.length bc,.int .i64 at_] 147)))
 have hn:=Qs0
 have c6:w.cell? ⟨xb+6,k,none⟩=some (.func (.func f) #[] #[]):=(Qab hw.tb k).trans hfx
 have hx6:¬ xb+6=w.heap.size:=by have:=QaM hw.tb;omega
 have hx6l:xb+6 < w.heap.size:=QaM hw.tb
 have HCON:=Qaa hcon
 have HTB:Hid (∀ W,Fr (PMc B xb) (w.alloc (.cells #[.int .i64 (k:Int),.int .i64 n,.int .i64 tag,.bool oct,.slice aa a.length ac,.slice ba b.length bc,.int .i64 at_] 147)).drew W→W.cell? ⟨xb+6,k,none⟩=some (.func (.func f) #[] #[])):=fun W hf=>(Qab (HWD.out.fr hf).tb k).trans hfx
 have hk0:(0:Int)≤(k:Int):=by omega
 have hk15:(k:Int) < 15:=by omega
 have d1:decide ((0:Int)≤(k:Int))=true:=decide_eq_true hk0
 have d2:decide ((k:Int) < 15)=true:=decide_eq_true hk15
 clear h hw hcon hfx
 go_enter Tryz.func67,Tryz.ntmps67
 go_wp2_with (go_at_call 139;refine (QbF _ _).mono ?_;rintro e w' ⟨rfl,hww⟩;rw [hww];clear hww)
 refine wp_region_held (S:=fun w'=>w'.cell? ⟨xb+6,k,none⟩=some (.func (.func f) #[] #[])∧w'.cell? ⟨w.heap.size,0,none⟩=some (.int .i64 (k:Int))∧w'.cell? ⟨w.heap.size,1,none⟩=some (.int .i64 n)∧w'.cell? ⟨w.heap.size,2,none⟩=some (.int .i64 tag)∧w'.cell? ⟨w.heap.size,3,none⟩=some (.bool oct)∧w'.cell? ⟨w.heap.size,4,none⟩=some (.slice aa a.length ac)∧w'.cell? ⟨w.heap.size,5,none⟩=some (.slice ba b.length bc)∧w'.cell? ⟨w.heap.size,6,none⟩=some (.int .i64 at_)) (by kernel_rfl) ?_
 have hS:(fun w':World=>w'.cell? ⟨xb+6,k,none⟩=some (.func (.func f) #[] #[])∧w'.cell? ⟨w.heap.size,0,none⟩=some (.int .i64 (k:Int))∧w'.cell? ⟨w.heap.size,1,none⟩=some (.int .i64 n)∧w'.cell? ⟨w.heap.size,2,none⟩=some (.int .i64 tag)∧w'.cell? ⟨w.heap.size,3,none⟩=some (.bool oct)∧w'.cell? ⟨w.heap.size,4,none⟩=some (.slice aa a.length ac)∧w'.cell? ⟨w.heap.size,5,none⟩=some (.slice ba b.length bc)∧w'.cell? ⟨w.heap.size,6,none⟩=some (.int .i64 at_)) (w.alloc (.cells #[.int .i64 (k:Int),.int .i64 n,.int .i64 tag,.bool oct,.slice aa a.length ac,.slice ba b.length bc,.int .i64 at_] 147)).drew:=⟨HTB.out _ (Fr.refl _ _),(Qav HMD.out (Fr.refl _ _)).2 0,(Qav HMD.out (Fr.refl _ _)).2 1,(Qav HMD.out (Fr.refl _ _)).2 2,(Qav HMD.out (Fr.refl _ _)).2 3,(Qav HMD.out (Fr.refl _ _)).2 4,(Qav HMD.out (Fr.refl _ _)).2 5,(Qav HMD.out (Fr.refl _ _)).2 6⟩
 refine QaA 0 26 (.slice (some ⟨xb+6,0,none⟩) 15 15) rfl hS (fun w' ⟨s1,s2,s3,s4,s5,s6,s7,s8⟩=>by go_simp) ?_
 simp only [pt,List.set_cons_zero,List.set_cons_succ]
 refine QaA 1 27 (.pointer (some ⟨w.heap.size,0,none⟩)) rfl hS (fun w' ⟨s1,s2,s3,s4,s5,s6,s7,s8⟩=>by go_simp) ?_
 simp only [pt,List.set_cons_zero,List.set_cons_succ]
 refine QaA 2 28 (.int .i64 (k:Int)) rfl hS (fun w' ⟨s1,s2,s3,s4,s5,s6,s7,s8⟩=>by go_simp) ?_
 simp only [pt,List.set_cons_zero,List.set_cons_succ]
 refine QaA 3 29 (.pointer (some ⟨xb+6,k,none⟩)) rfl hS (fun w' ⟨s1,s2,s3,s4,s5,s6,s7,s8⟩=>by go_simp) ?_
 simp only [pt,List.set_cons_zero,List.set_cons_succ]
 refine QaA 4 30 (.func (.func f) #[] #[]) rfl hS (fun w' ⟨s1,s2,s3,s4,s5,s6,s7,s8⟩=>by go_simp) ?_
 simp only [pt,List.set_cons_zero,List.set_cons_succ]
 refine QaA 5 31 (.pointer (some ⟨xb,0,none⟩)) rfl hS (fun w' ⟨s1,s2,s3,s4,s5,s6,s7,s8⟩=>by go_simp) ?_
 simp only [pt,List.set_cons_zero,List.set_cons_succ]
 refine QaA 6 32 (.agg #[.int .i64 (k:Int),.int .i64 n,.int .i64 tag,.bool oct,.slice aa a.length ac,.slice ba b.length bc,.int .i64 at_]) rfl hS (fun w' ⟨s1,s2,s3,s4,s5,s6,s7,s8⟩=>by go_simp) ?_
 simp only [pt,List.set_cons_zero,List.set_cons_succ]
 clear hS
 refine wpAnyH_all (rs:=[7]) (by kernel_rfl) (by decide) (fun j hj=>?_)
 simp only [List.mem_singleton] at hj
 subst hj
 refine QaG rfl (by rfl) ?_
 go_simp
 refine HCON.out.mono ?_
 intro e w2 h2
 rcases h2.cases with ⟨hf,⟨m',hr,rfl,hm⟩ | ⟨f,hr,bb,hz,rfl,hcc⟩⟩
 rotate_left
 ·exact ⟨rfl,QaI.from h2 (Fr.of_below (Qal _))⟩
 have H2:=Qaa h2
 have HTB2:=Qaa (HTB.out w2 hf)
 have HK2:=Qaa (Qav hm hf)
 clear hm hf h2
 refine ⟨⟨HTB2.out,(HK2.out).2 0,(HK2.out).2 1,(HK2.out).2 2,(HK2.out).2 3,(HK2.out).2 4,(HK2.out).2 5,(HK2.out).2 6⟩,wpAnyH_done (by kernel_rfl) ?_ _⟩
 try simp only [Act.put,List.setIfInBounds_toArray,List.set_cons_zero,List.set_cons_succ]
 go_wp2
 go_end0
 exact QaI.from H2.out (Fr.of_below (Qal _))
theorem Qp6 (k:Nat) (f:FuncId) (q:Nat) (R:Except FZ MS) (n tag:Int) (oct:Bool) (a b:List (List UInt8)) (at_:Int) (aa ba:Option Addr) (ac bc:Nat) (B xb sb:Nat) (M:Msg) (m:MS) (count:Nat) (w:World) (hcf:∀ args W,(callFunc f args).run Tryz.prog W=.ok (.enter f args) W) (hk1:1≤k) (hk2:k≤14) (h:MAt w B xb sb M m count) (hw:Qev w (xb+1)) (hfx:(Qtm (xb+1))[k]?=some (.func (.func f) #[] #[.pointer (some ⟨q,0,none⟩)]))
 (hcon:Calls Tryz.prog f #[.pointer (some ⟨xb,0,none⟩),.agg #[.int .i64 (k:Int),.int .i64 n,.int .i64 tag,.bool oct,.slice aa a.length ac,.slice ba b.length bc,.int .i64 at_],.pointer (some ⟨q,0,none⟩)] (w.alloc (.cells #[.int .i64 (k:Int),.int .i64 n,.int .i64 tag,.bool oct,.slice aa a.length ac,.slice ba b.length bc,.int .i64 at_] 147)).drew (QaI R B xb sb M count (w.alloc (.cells #[.int .i64 (k:Int),.int .i64 n,.int .i64 tag,.bool oct,.slice aa a.length ac,.slice ba b.length bc,.int .i64 at_] 147)).drew)) :
 Calls Tryz.prog 67 #[.pointer (some ⟨xb,0,none⟩),.slice (some ⟨xb+6,0,none⟩) 15 15,.agg #[.int .i64 (k:Int),.int .i64 n,.int .i64 tag,.bool oct,.slice aa a.length ac,.slice ba b.length bc,.int .i64 at_]] w (QaI R B xb sb M count w):=by
 have HMD:=Qaa (h.below (Qal (.cells #[.int .i64 (k:Int),.int .i64 n,.int .i64 tag,.bool oct,.slice aa a.length ac,.slice ba b.length bc,.int .i64 at_] 147)))
 have HWD:=Qaa (hw.below (Qal (.cells #[.int .i64 (k:Int),.int .i64 n,.int .i64 tag,.bool oct,.slice aa a.length ac,.slice ba b.length bc,.int .i64 at_] 147)))
 have hn:=Qs0
 have c6:w.cell? ⟨xb+6,k,none⟩=some (.func (.func f) #[] #[.pointer (some ⟨q,0,none⟩)]):=(Qab hw.tb k).trans hfx
 have hx6:¬ xb+6=w.heap.size:=by have:=QaM hw.tb;omega
 have hx6l:xb+6 < w.heap.size:=QaM hw.tb
 have HCON:=Qaa hcon
 have HTB:Hid (∀ W,Fr (PMc B xb) (w.alloc (.cells #[.int .i64 (k:Int),.int .i64 n,.int .i64 tag,.bool oct,.slice aa a.length ac,.slice ba b.length bc,.int .i64 at_] 147)).drew W→W.cell? ⟨xb+6,k,none⟩=some (.func (.func f) #[] #[.pointer (some ⟨q,0,none⟩)])):=fun W hf=>(Qab (HWD.out.fr hf).tb k).trans hfx
 have hk0:(0:Int)≤(k:Int):=by omega
 have hk15:(k:Int) < 15:=by omega
 have d1:decide ((0:Int)≤(k:Int))=true:=decide_eq_true hk0
 have d2:decide ((k:Int) < 15)=true:=decide_eq_true hk15
 clear h hw hcon hfx
 go_enter Tryz.func67,Tryz.ntmps67
 go_wp2_with (go_at_call 139;refine (QbF _ _).mono ?_;rintro e w' ⟨rfl,hww⟩;rw [hww];clear hww)
 refine wp_region_held (S:=fun w'=>w'.cell? ⟨xb+6,k,none⟩=some (.func (.func f) #[] #[.pointer (some ⟨q,0,none⟩)])∧w'.cell? ⟨w.heap.size,0,none⟩=some (.int .i64 (k:Int))∧w'.cell? ⟨w.heap.size,1,none⟩=some (.int .i64 n)∧w'.cell? ⟨w.heap.size,2,none⟩=some (.int .i64 tag)∧w'.cell? ⟨w.heap.size,3,none⟩=some (.bool oct)∧w'.cell? ⟨w.heap.size,4,none⟩=some (.slice aa a.length ac)∧w'.cell? ⟨w.heap.size,5,none⟩=some (.slice ba b.length bc)∧w'.cell? ⟨w.heap.size,6,none⟩=some (.int .i64 at_)) (by kernel_rfl) ?_
 have hS:(fun w':World=>w'.cell? ⟨xb+6,k,none⟩=some (.func (.func f) #[] #[.pointer (some ⟨q,0,none⟩)])∧w'.cell? ⟨w.heap.size,0,none⟩=some (.int .i64 (k:Int))∧w'.cell? ⟨w.heap.size,1,none⟩=some (.int .i64 n)∧w'.cell? ⟨w.heap.size,2,none⟩=some (.int .i64 tag)∧w'.cell? ⟨w.heap.size,3,none⟩=some (.bool oct)∧w'.cell? ⟨w.heap.size,4,none⟩=some (.slice aa a.length ac)∧w'.cell? ⟨w.heap.size,5,none⟩=some (.slice ba b.length bc)∧w'.cell? ⟨w.heap.size,6,none⟩=some (.int .i64 at_)) (w.alloc (.cells #[.int .i64 (k:Int),.int .i64 n,.int .i64 tag,.bool oct,.slice aa a.length ac,.slice ba b.length bc,.int .i64 at_] 147)).drew:=⟨HTB.out _ (Fr.refl _ _),(Qav HMD.out (Fr.refl _ _)).2 0,(Qav HMD.out (Fr.refl _ _)).2 1,(Qav HMD.out (Fr.refl _ _)).2 2,(Qav HMD.out (Fr.refl _ _)).2 3,(Qav HMD.out (Fr.refl _ _)).2 4,(Qav HMD.out (Fr.refl _ _)).2 5,(Qav HMD.out (Fr.refl _ _)).2 6⟩
 refine QaA 0 26 (.slice (some ⟨xb+6,0,none⟩) 15 15) rfl hS (fun w' ⟨s1,s2,s3,s4,s5,s6,s7,s8⟩=>by go_simp) ?_
 simp only [pt,List.set_cons_zero,List.set_cons_succ]
 refine QaA 1 27 (.pointer (some ⟨w.heap.size,0,none⟩)) rfl hS (fun w' ⟨s1,s2,s3,s4,s5,s6,s7,s8⟩=>by go_simp) ?_
 simp only [pt,List.set_cons_zero,List.set_cons_succ]
 refine QaA 2 28 (.int .i64 (k:Int)) rfl hS (fun w' ⟨s1,s2,s3,s4,s5,s6,s7,s8⟩=>by go_simp) ?_
 simp only [pt,List.set_cons_zero,List.set_cons_succ]
 refine QaA 3 29 (.pointer (some ⟨xb+6,k,none⟩)) rfl hS (fun w' ⟨s1,s2,s3,s4,s5,s6,s7,s8⟩=>by go_simp) ?_
 simp only [pt,List.set_cons_zero,List.set_cons_succ]
 refine QaA 4 30 (.func (.func f) #[] #[.pointer (some ⟨q,0,none⟩)]) rfl hS (fun w' ⟨s1,s2,s3,s4,s5,s6,s7,s8⟩=>by go_simp) ?_
 simp only [pt,List.set_cons_zero,List.set_cons_succ]
 refine QaA 5 31 (.pointer (some ⟨xb,0,none⟩)) rfl hS (fun w' ⟨s1,s2,s3,s4,s5,s6,s7,s8⟩=>by go_simp) ?_
 simp only [pt,List.set_cons_zero,List.set_cons_succ]
 refine QaA 6 32 (.agg #[.int .i64 (k:Int),.int .i64 n,.int .i64 tag,.bool oct,.slice aa a.length ac,.slice ba b.length bc,.int .i64 at_]) rfl hS (fun w' ⟨s1,s2,s3,s4,s5,s6,s7,s8⟩=>by go_simp) ?_
 simp only [pt,List.set_cons_zero,List.set_cons_succ]
 clear hS
 refine wpAnyH_all (rs:=[7]) (by kernel_rfl) (by decide) (fun j hj=>?_)
 simp only [List.mem_singleton] at hj
 subst hj
 refine QaG rfl (by rfl) ?_
 go_simp
 refine HCON.out.mono ?_
 intro e w2 h2
 rcases h2.cases with ⟨hf,⟨m',hr,rfl,hm⟩ | ⟨f,hr,bb,hz,rfl,hcc⟩⟩
 rotate_left
 ·exact ⟨rfl,QaI.from h2 (Fr.of_below (Qal _))⟩
 have H2:=Qaa h2
 have HTB2:=Qaa (HTB.out w2 hf)
 have HK2:=Qaa (Qav hm hf)
 clear hm hf h2
 refine ⟨⟨HTB2.out,(HK2.out).2 0,(HK2.out).2 1,(HK2.out).2 2,(HK2.out).2 3,(HK2.out).2 4,(HK2.out).2 5,(HK2.out).2 6⟩,wpAnyH_done (by kernel_rfl) ?_ _⟩
 try simp only [Act.put,List.setIfInBounds_toArray,List.set_cons_zero,List.set_cons_succ]
 go_wp2
 go_end0
 exact QaI.from H2.out (Fr.of_below (Qal _))
end
end Go.Proofs.YtbiclelojbfnbabGreatDoor
