import Derived.Test.YtbiclelojbfnbaaGreatDoorZBeginT
import Derived.Test.YtbiclelojbfnbaaGreatDoorZCLand
import Derived.Test.YtbiclelojbfnbaaGreatDoorZChoice
import Derived.Test.YtbiclelojbfnbaaGreatDoorShelf
namespace Go.Proofs.YtbiclelojbfnbaaGreatDoor
set_option linter.unusedVariables false
set_option linter.unusedSimpArgs false
set_option maxRecDepth 100000
set_option maxHeartbeats 4000000
section
open Go.RowKit
attribute [local go_sem ↓] Go.wp_at_zero Go.wp_at_succ
theorem QkN (h:Bool) (w:World):Calls Tryz.prog 334 #[.bool h] w fun e w'=>e=.returned (Qdt (QcW h) (.slice none 0 0) (.slice none 0 0))∧Below w.heap.size w w':=by
 have hB0:∀ o,Below w.heap.size w (w.alloc o):=fun o=>(Below.refl _ _).alloc (Nat.le_refl _) o
 have HB0:=Qab hB0
 clear hB0
 cases h
 ·go_enter Tryz.func334,Tryz.ntmps334
  go_wp2
  refine bodyPost_ret (v:=Qdt (QcW false) (.slice none 0 0) (.slice none 0 0)) (by simp [results,Tryz.results334,go_sem,Qdt,QcW]) rfl ?_
  exact ⟨rfl,HB0.out _⟩
 ·go_enter Tryz.func334,Tryz.ntmps334
  go_wp2
  refine bodyPost_ret (v:=Qdt (QcW true) (.slice none 0 0) (.slice none 0 0)) (by simp [results,Tryz.results334,go_sem,Qdt,QcW]) rfl ?_
  exact ⟨rfl,HB0.out _⟩
theorem Qcv (B cb:Nat) (cs:List Ins) (i:Ins) (av bv:Value) (W:World) (h:CC W B cb cs) (hok:Qcg W i av bv) (hlen:cs.length+1≤1000000) :
 Calls Tryz.prog 201 #[.pointer (some ⟨cb,0,none⟩),.slice (some ⟨W.heap.size,0,none⟩) 1 1] (W.alloc (.cells #[.int .i64 i.op,.int .i64 i.n,.int .i64 i.tag,.bool i.oct,av,bv,.int .i64 i.at_] 62)) fun e w'=>e=.returned (.int .i64 (cs.length:Int))∧CC w' B cb (cs++[i])∧Fr (PCo B) W w':=by
 have hB:∀ o,Below W.heap.size W (W.alloc o):=fun o=>(Below.refl _ _).alloc (Nat.le_refl _) o
 refine (QoS B cb W.heap.size 1 cs [(i,av,bv)] _ (h.alloc _) (Qay _ _) (fun p hp=>?_) (by simp) hlen).mono ?_
 ·rw [List.mem_singleton.1 hp]
  exact hok.below (hB _)
 ·rintro e w' ⟨rfl,h1,h2⟩
  refine ⟨?_,h1,((Fr.refl _ W).alloc _).trans h2⟩
  show Ending.returned (.int .i64 ((cs.length+1 - 1:Nat):Int))=_
  rw [Nat.add_sub_cancel]
theorem QtH (B cb:Nat) (cs:List Ins) (i j:Ins) (av bv au bu:Value) (W:World) (h:CC W B cb cs) (hok:Qcg W i av bv) (hok':Qcg W j au bu) (hlen:cs.length+2≤1000000) :
 Calls Tryz.prog 201 #[.pointer (some ⟨cb,0,none⟩),.slice (some ⟨W.heap.size,0,none⟩) 2 2] (W.alloc (.cells #[.int .i64 i.op,.int .i64 i.n,.int .i64 i.tag,.bool i.oct,av,bv,.int .i64 i.at_,.int .i64 j.op,.int .i64 j.n,.int .i64 j.tag,.bool j.oct,au,bu,.int .i64 j.at_] 62)) fun e w'=>e=.returned (.int .i64 ((cs.length+1:Nat):Int))∧CC w' B cb (cs++[i,j])∧Fr (PCo B) W w':=by
 have hB:∀ o,Below W.heap.size W (W.alloc o):=fun o=>(Below.refl _ _).alloc (Nat.le_refl _) o
 refine (QoS B cb W.heap.size 2 cs [(i,av,bv),(j,au,bu)] _ (h.alloc _) (Qay _ _) (fun p hp=>?_) (by simp) hlen).mono ?_
 ·simp at hp
  rcases hp with rfl | rfl
  ·exact hok.below (hB _)
  ·exact hok'.below (hB _)
 ·rintro e w' ⟨rfl,h1,h2⟩
  exact ⟨rfl,h1,((Fr.refl _ W).alloc _).trans h2⟩
theorem Qdi (W:World) (i:Ins) (ha:i.a=[]) (hb:i.b=[]) (h1:-9223372036854775808≤i.n) (h2:i.n≤9223372036854775807):Qcg W i (.slice none 0 0) (.slice none 0 0):=
 ⟨Or.inl ⟨rfl,ha⟩,Or.inl ⟨rfl,hb⟩,by rw [ha];simp,by rw [hb];simp,by rw [ha];simp,by rw [hb];simp,h1,h2⟩
theorem Ql2 (B cb:Nat) (j:Nat) (cs:List Ins) (W:World) (h:CC W B cb cs) (hj:j < cs.length) (hlen:cs.length≤1000000) :
 Calls Tryz.prog 280 #[.pointer (some ⟨cb,0,none⟩),.slice (some ⟨W.heap.size,0,none⟩) 1 1] (W.alloc (.cells #[.int .i64 (j:Int)] 3)) fun e w'=>e=.returned (.tuple #[])∧CC w' B cb (landL [j] cs)∧Fr (PCo B) W w':=by
 refine (Qid B cb W.heap.size 1 [j] #[.int .i64 (j:Int)] cs _ (h.alloc _) (fun k hk=>by rw [List.mem_singleton.1 hk];exact hj) (Qay _ _) (fun k hk=>?_) hlen (by simp)).mono ?_
 ·have:k=0:=by simp at hk;exact hk
  subst this;rfl
 ·rintro e w' ⟨rfl,h1,h2⟩
  exact ⟨rfl,h1,((Fr.refl _ W).alloc _).trans h2⟩
end
section
open Go.RowKit
attribute [local go_sem ↓] Go.wp_at_zero Go.wp_at_succ
theorem Qff (X:Nat→Prop) (xs:List (List UInt8)) (v:Value) (w:World) (h:slX X xs w v) (hl:xs.length≤1000000) :
 Calls Tryz.prog 337 #[v] w fun e w'=>∃ a k,e=.returned (.slice a xs.length k)∧SlT w' (.slice a xs.length k) xs∧Below w.heap.size w w':=by
 obtain ⟨g,c,rfl,_,ht,hne⟩:=h
 refine (Tryz.slices_Clone_string g 0 xs.length c (xs.map Qad) w (by simp) (by omega) (fun j hj=>?_)).mono ?_
 ·rw [List.length_map] at hj
  rw [Nat.zero_add,ht j hj,List.getD_eq_getElem?_getD,List.getD_eq_getElem?_getD,List.getElem?_map,List.getElem?_eq_getElem hj]
  rfl
 ·rintro e w' ⟨v',rfl,ho,hn,hb⟩
  have e1:((xs.map Qad).take xs.length).map Value.string=QaN xs:=by
   rw [List.take_of_length_le (by simp),List.map_map];rfl
  rw [e1] at ho
  obtain ⟨a,k,hv⟩:=QaL ho
  subst hv
  exact ⟨a,k,rfl,SlT.of_owns ho rfl,hb⟩
end
section
open Go.RowKit
def setIns (w:World) (b:Nat) (i:Ins) (av bv:Value):World:=
 ((((((w.setCell ⟨b,0,none⟩ (.int .i64 i.op)).setCell ⟨b,1,none⟩ (.int .i64 i.n)).setCell ⟨b,2,none⟩ (.int .i64 i.tag)).setCell ⟨b,3,none⟩ (.bool i.oct)).setCell ⟨b,4,none⟩ av).setCell ⟨b,5,none⟩ bv).setCell ⟨b,6,none⟩ (.int .i64 i.at_)
theorem QnY (w:World) (b:Nat) (i:Ins) (av bv c0 c1 c2 c3 c4 c5 c6:Value) (h:w.heap[b]?=some (.cells #[c0,c1,c2,c3,c4,c5,c6] 62)):(setIns w b i av bv).heap[b]?=some (.cells (QkV i av bv) 62)∧Fr (fun k o=>k=b∧coO o=true) w (setIns w b i av bv):=by
 have hstep:∀ (W:World) (cs:Array Value) (k:Nat) (v:Value),W.heap[b]?=some (.cells cs 62)→(W.setCell ⟨b,k,none⟩ v).heap[b]?=some (.cells (cs.setIfInBounds k v) 62)∧Fr (fun k o=>k=b∧coO o=true) W (W.setCell ⟨b,k,none⟩ v):=fun W cs k v h=>⟨Qah W b k v cs _ h,(Fr.refl _ W).set h ⟨rfl,rfl⟩ k v⟩
 unfold setIns
 obtain ⟨g0,f0⟩:=hstep w _ 0 (.int .i64 i.op) h
 replace g0:(w.setCell ⟨b,0,none⟩ (.int .i64 i.op)).heap[b]?=some (.cells #[.int .i64 i.op,c1,c2,c3,c4,c5,c6] 62):=g0
 generalize w.setCell ⟨b,0,none⟩ (.int .i64 i.op)=w0 at *
 obtain ⟨g1,f1⟩:=hstep w0 _ 1 (.int .i64 i.n) g0
 replace g1:(w0.setCell ⟨b,1,none⟩ (.int .i64 i.n)).heap[b]?=some (.cells #[.int .i64 i.op,.int .i64 i.n,c2,c3,c4,c5,c6] 62):=g1
 generalize w0.setCell ⟨b,1,none⟩ (.int .i64 i.n)=w1 at *
 obtain ⟨g2,f2⟩:=hstep w1 _ 2 (.int .i64 i.tag) g1
 replace g2:(w1.setCell ⟨b,2,none⟩ (.int .i64 i.tag)).heap[b]?=some (.cells #[.int .i64 i.op,.int .i64 i.n,.int .i64 i.tag,c3,c4,c5,c6] 62):=g2
 generalize w1.setCell ⟨b,2,none⟩ (.int .i64 i.tag)=w2 at *
 obtain ⟨g3,f3⟩:=hstep w2 _ 3 (.bool i.oct) g2
 replace g3:(w2.setCell ⟨b,3,none⟩ (.bool i.oct)).heap[b]?=some (.cells #[.int .i64 i.op,.int .i64 i.n,.int .i64 i.tag,.bool i.oct,c4,c5,c6] 62):=g3
 generalize w2.setCell ⟨b,3,none⟩ (.bool i.oct)=w3 at *
 obtain ⟨g4,f4⟩:=hstep w3 _ 4 (av) g3
 replace g4:(w3.setCell ⟨b,4,none⟩ (av)).heap[b]?=some (.cells #[.int .i64 i.op,.int .i64 i.n,.int .i64 i.tag,.bool i.oct,av,c5,c6] 62):=g4
 generalize w3.setCell ⟨b,4,none⟩ (av)=w4 at *
 obtain ⟨g5,f5⟩:=hstep w4 _ 5 (bv) g4
 replace g5:(w4.setCell ⟨b,5,none⟩ (bv)).heap[b]?=some (.cells #[.int .i64 i.op,.int .i64 i.n,.int .i64 i.tag,.bool i.oct,av,bv,c6] 62):=g5
 generalize w4.setCell ⟨b,5,none⟩ (bv)=w5 at *
 obtain ⟨g6,f6⟩:=hstep w5 _ 6 (.int .i64 i.at_) g5
 replace g6:(w5.setCell ⟨b,6,none⟩ (.int .i64 i.at_)).heap[b]?=some (.cells #[.int .i64 i.op,.int .i64 i.n,.int .i64 i.tag,.bool i.oct,av,bv,.int .i64 i.at_] 62):=g6
 generalize w5.setCell ⟨b,6,none⟩ (.int .i64 i.at_)=w6 at *
 exact ⟨g6,f0.trans (f1.trans (f2.trans (f3.trans (f4.trans (f5.trans f6)))))⟩
theorem QeS (op:Int) (X:Nat→Prop) (hw:List UInt8) (x:QcT) (fv kv:Value) (w:World) (hf:slX X x.fr w fv) (hk:slX X x.keys w kv) (hlf:x.fr.length≤1000000) (hlk:x.keys.length≤1000000) :
 Calls Tryz.prog 336 #[.int .i64 op,.agg #[.string (Qad hw),.int .i64 x.pos,.int .i64 x.tag,.bool x.octet,fv,kv]] w fun e w'=>∃ a1 k1 a2 k2,e=.returned (Qdt (QcF op x) (.slice a1 x.fr.length k1) (.slice a2 x.keys.length k2))∧SlT w' (.slice a1 x.fr.length k1) x.fr∧SlT w' (.slice a2 x.keys.length k2) x.keys∧Below w.heap.size w w':=by
 have HF:=Qab hf
 have HK:=Qab hk
 obtain ⟨gf,cf,rfl,hx1⟩:=hf
 obtain ⟨gk,ck,rfl,hx2⟩:=hk
 clear hx1 hx2
 go_enter Tryz.func336,Tryz.ntmps336
 go_wp2_with fail
 obtain ⟨W,hW⟩:∃ W,W=(w.alloc (.cells #[.string (Qad hw),.int .i64 x.pos,.int .i64 x.tag,.bool x.octet,.slice (some ⟨gf,0,none⟩) x.fr.length cf,.slice (some ⟨gk,0,none⟩) x.keys.length ck] 277)).alloc (.cells #[.int .i64 0,.int .i64 0,.int .i64 0,.bool false,.slice none 0 0,.slice none 0 0,.int .i64 0] 62):=⟨_,rfl⟩
 rw [← hW]
 have hWB:Below w.heap.size w W:=by rw [hW];exact ((Below.refl _ _).alloc (Nat.le_refl _) _).alloc (by simp) _
 have hWb:W.heap[w.heap.size]?=some (.cells #[.string (Qad hw),.int .i64 x.pos,.int .i64 x.tag,.bool x.octet,.slice (some ⟨gf,0,none⟩) x.fr.length cf,.slice (some ⟨gk,0,none⟩) x.keys.length ck] 277):=by rw [hW];exact Qac (Qay _ _)
 have hWr:W.heap[w.heap.size+1]?=some (.cells #[.int .i64 0,.int .i64 0,.int .i64 0,.bool false,.slice none 0 0,.slice none 0 0,.int .i64 0] 62):=by rw [hW];exact QaD (by simp)
 clear hW
 have c2:W.cell? ⟨w.heap.size,2,none⟩=some (.int .i64 x.tag):=Qaa hWb 2
 have c3:W.cell? ⟨w.heap.size,3,none⟩=some (.bool x.octet):=Qaa hWb 3
 have c4:W.cell? ⟨w.heap.size,4,none⟩=some (.slice (some ⟨gf,0,none⟩) x.fr.length cf):=Qaa hWb 4
 have c5:W.cell? ⟨w.heap.size,5,none⟩=some (.slice (some ⟨gk,0,none⟩) x.keys.length ck):=Qaa hWb 5
 have HFW:=Qab (HF.out.keep (w':=W) (fun k _ hk=>hWB.block k hk))
 have HKW:=Qab (HK.out.keep (w':=W) (fun k _ hk=>hWB.block k hk))
 have HWB:=Qab hWB
 have HWb:=Qab hWb
 have HWr:=Qab hWr
 have hWs:=hWB.size
 have hWl:=QaH hWr
 clear hWB hWb hWr
 go_region_held3 (fun w'=>w'.cell? ⟨w.heap.size,2,none⟩=some (.int .i64 x.tag)∧w'.cell? ⟨w.heap.size,3,none⟩=some (.bool x.octet)∧w'.cell? ⟨w.heap.size,4,none⟩=some (.slice (some ⟨gf,0,none⟩) x.fr.length cf)∧w'.cell? ⟨w.heap.size,5,none⟩=some (.slice (some ⟨gk,0,none⟩) x.keys.length ck)) (first | go_keep | exact ⟨Qaa HW2.out 2,Qaa HW2.out 3,Qaa HW2.out 4,Qaa HW2.out 5⟩) (first
  | (have gg:=HB1;go_at_call 337;refine (Qff X x.keys _ _ HKW1.out hlk).mono ?_;rintro e w2 ⟨a2,k2,rfl,hs2,hB2⟩;have HB2:=Qab (HB1.out.trans (hB2.mono h1s));have HW2:=Qab (Qal HW1.out hB2);have HR2:=Qab (Qal HR1.out hB2);have HS2:=Qab hs2;have HS12:=Qab (HS1.out.below hB2);have e2:w2.cell? ⟨w.heap.size,2,none⟩=some (.int .i64 x.tag):=Qaa HW2.out 2;have e3:w2.cell? ⟨w.heap.size,3,none⟩=some (.bool x.octet):=Qaa HW2.out 3;have e4:w2.cell? ⟨w.heap.size,4,none⟩=some (.slice (some ⟨gf,0,none⟩) x.fr.length cf):=Qaa HW2.out 4;have e5:w2.cell? ⟨w.heap.size,5,none⟩=some (.slice (some ⟨gk,0,none⟩) x.keys.length ck):=Qaa HW2.out 5;have z0:w2.cell? ⟨w.heap.size+1,0,none⟩=some (.int .i64 0):=Qaa HR2.out 0;have z1:w2.cell? ⟨w.heap.size+1,1,none⟩=some (.int .i64 0):=Qaa HR2.out 1;have z2:w2.cell? ⟨w.heap.size+1,2,none⟩=some (.int .i64 0):=Qaa HR2.out 2;have z3:w2.cell? ⟨w.heap.size+1,3,none⟩=some (.bool false):=Qaa HR2.out 3;have z4:w2.cell? ⟨w.heap.size+1,4,none⟩=some (.slice none 0 0):=Qaa HR2.out 4;have z5:w2.cell? ⟨w.heap.size+1,5,none⟩=some (.slice none 0 0):=Qaa HR2.out 5;have z6:w2.cell? ⟨w.heap.size+1,6,none⟩=some (.int .i64 0):=Qaa HR2.out 6;have ef:=Qap HR2.out;clear hB2 hs2;skip)
  | (go_at_call 337;refine (Qff X x.fr _ _ (HFW.out.keep (w':=W.drew) (fun _ _ _=>rfl)) hlf).mono ?_;rintro e w1 ⟨a1,k1,rfl,hs1,hB1⟩;have HB1:=Qab (HWB.out.drew.trans (hB1.mono hWs));have HW1:=Qab (Qal (w:=W.drew) HWb.out hB1);have HR1:=Qab (Qal (w:=W.drew) HWr.out hB1);have HS1:=Qab hs1;have d2:w1.cell? ⟨w.heap.size,2,none⟩=some (.int .i64 x.tag):=Qaa HW1.out 2;have d3:w1.cell? ⟨w.heap.size,3,none⟩=some (.bool x.octet):=Qaa HW1.out 3;have d4:w1.cell? ⟨w.heap.size,4,none⟩=some (.slice (some ⟨gf,0,none⟩) x.fr.length cf):=Qaa HW1.out 4;have d5:w1.cell? ⟨w.heap.size,5,none⟩=some (.slice (some ⟨gk,0,none⟩) x.keys.length ck):=Qaa HW1.out 5;have h1s:=HB1.out.size;have HKW1:=Qab (HKW.out.keep (w':=w1) (fun k _ hk=>hB1.block k hk));clear hB1 hs1;skip))
 all_goals (
  clear ef z0 z1 z2 z3 z4 z5 z6
  change Exit.then _ _ Exit.normal _ (setIns w2 (w.heap.size+1) (QcF op x) (.slice a1 x.fr.length k1) (.slice a2 x.keys.length k2))
  obtain ⟨hUb,hUf⟩:=QnY w2 (w.heap.size+1) (QcF op x) (.slice a1 x.fr.length k1) (.slice a2 x.keys.length k2) _ _ _ _ _ _ _ HR2.out
  generalize setIns w2 (w.heap.size+1) (QcF op x) (.slice a1 x.fr.length k1) (.slice a2 x.keys.length k2)=U at *
  have HUB:Hid (Below w.heap.size w U):=HB2.out.trans (hUf.below (fun k o e=>by rw [e.1];omega) HB2.out.size)
  have HU1:=Qab (SlT.fr HS12.out hUf (fun k cs e=>Bool.noConfusion e.2))
  have HU2:=Qab (SlT.fr HS2.out hUf (fun k cs e=>Bool.noConfusion e.2))
  have y0:U.cell? ⟨w.heap.size+1,0,none⟩=some (.int .i64 op):=Qaa hUb 0
  have y1:U.cell? ⟨w.heap.size+1,1,none⟩=some (.int .i64 0):=Qaa hUb 1
  have y2:U.cell? ⟨w.heap.size+1,2,none⟩=some (.int .i64 x.tag):=Qaa hUb 2
  have y3:U.cell? ⟨w.heap.size+1,3,none⟩=some (.bool x.octet):=Qaa hUb 3
  have y4:U.cell? ⟨w.heap.size+1,4,none⟩=some (.slice a1 x.fr.length k1):=Qaa hUb 4
  have y5:U.cell? ⟨w.heap.size+1,5,none⟩=some (.slice a2 x.keys.length k2):=Qaa hUb 5
  have y6:U.cell? ⟨w.heap.size+1,6,none⟩=some (.int .i64 0):=Qaa hUb 6
  clear hUb hUf
  go_wp2
  refine bodyPost_ret (v:=Qdt (QcF op x) (.slice a1 x.fr.length k1) (.slice a2 x.keys.length k2)) (by simp [results,Tryz.results336,go_sem,Qdt,QcF,y0,y1,y2,y3,y4,y5,y6]) rfl ?_
  exact ⟨a1,k1,a2,k2,rfl,HU1.out,HU2.out,HUB.out⟩)
end
section
open Go.RowKit
attribute [local go_sem ↓] Go.wp_at_zero Go.wp_at_succ
theorem Qoc (hw:List UInt8) (p:Nat) (arg:List UInt8) (w:World) :
 Calls Tryz.prog 202 #[.agg #[.string (Qad hw),.int .i64 p,.int .i64 1,.string (Qad arg)]] w fun e w'=>e=.returned (Qdt (Qjb 1 p []) (.slice none 0 0) (.slice none 0 0))∧Below w.heap.size w w':=by
 go_enter Tryz.func202,Tryz.ntmps202
 go_wp2
 refine bodyPost_ret (v:=Qdt (Qjb 1 p []) (.slice none 0 0) (.slice none 0 0)) (by simp [results,Tryz.results202,go_sem,Qdt,Qjb]) rfl ?_
 exact ⟨rfl,(((Below.refl _ _).alloc (Nat.le_refl _) _).alloc (by simp) _).alloc (by simp;omega) _⟩
theorem QmQ (hw:List UInt8) (p:Nat) (k:Nat) (arg:List UInt8) (w:World) (hk:k≠1) :
 Calls Tryz.prog 202 #[.agg #[.string (Qad hw),.int .i64 p,.int .i64 k,.string (Qad arg)]] w fun e w'=>∃ g,e=.returned (Qdt (Qjb k p [arg]) (.slice (some ⟨g,0,none⟩) 1 1) (.slice none 0 0))∧SlT w' (.slice (some ⟨g,0,none⟩) 1 1) [arg]∧Below w.heap.size w w':=by
 have hk':((k:Int) != 1)=true:=by simp;omega
 go_enter Tryz.func202,Tryz.ntmps202
 go_wp2
 refine bodyPost_ret (v:=Qdt (Qjb k p [arg]) (.slice (some ⟨w.heap.size+1+1+1,0,none⟩) 1 1) (.slice none 0 0)) (by simp [results,Tryz.results202,go_sem,Qdt,Qjb]) rfl ?_
 refine ⟨w.heap.size+1+1+1,rfl,Or.inr ⟨w.heap.size+1+1+1,1,rfl,#[.string (Qad arg)],QaD (by simp),fun j hj=>?_⟩,((((Below.refl _ _).alloc (Nat.le_refl _) _).alloc (by simp) _).alloc (by simp;omega) _).alloc (by simp;omega) _⟩
 have:j=0:=by simp at hj;exact hj
 subst this;rfl
end
end Go.Proofs.YtbiclelojbfnbaaGreatDoor
