import Derived.Deep.DrawnRows
import Derived.Lib.AppendIntMem
import Derived.Test.YtbiclelojbfnbaaGreatDoorZAList
import Derived.Test.YtbiclelojbfnbaaGreatDoorZCapital
import Derived.Test.YtbiclelojbfnbaaGreatDoorZMapLit
import Derived.Test.YtbiclelojbfnbaaGreatDoorZNext
import Derived.Test.YtbiclelojbfnbaaGreatDoorZPParse
import Derived.Test.YtbiclelojbfnbaaGreatDoorZPlainBack4
import Derived.Test.YtbiclelojbfnbaaGreatDoorZPlainLen
import Derived.Test.YtbiclelojbfnbaaGreatDoorShelf
namespace Go.Proofs.YtbiclelojbfnbaaGreatDoor
set_option linter.unusedVariables false
set_option linter.unusedSimpArgs false
set_option maxRecDepth 100000
set_option maxHeartbeats 4000000
section
open Go.RowKit
attribute [local go_sem ↓] Go.wp_at_zero Go.wp_at_succ
def Tab (w:World):Prop:=Lib.TabIs Tryz.prog w "internal/strconv.uint64pow10" .u64 Lib.pow10Tab
theorem Tab.below {w w':World} (h:Tab w) (hb:Below w.heap.size w w'):Tab w':=Lib.tabBelow_of_tabIs h w' hb
theorem Qpp (n:Nat) (hn:n≤2147483647) (w:World) (ht:Tab w) :
 Calls Tryz.prog 292 #[.int .i64 n] w fun e w'=>e=.returned (.string (Qad (itoaL n)))∧Below w.heap.size w w':=by
 refine (Tryz.strconv_Itoa n (by omega) (by omega) w ht).mono ?_
 rintro e w' ⟨rfl,k,os,rfl⟩
 exact ⟨by rw [Lib.itoa_nonneg];rfl,Lib.below_grow _ _ (Nat.le_refl _) _ _⟩
theorem Qlk (g:Nat) (a1 a2:Option Addr) (n1 c1 n2 c2:Nat) (w:World) (h:w.heap[g]?=some (.cells #[.slice a1 n1 c1,.slice a2 n2 c2] 139)) :
 Calls Tryz.prog 45 #[.pointer (some ⟨g,0,none⟩)] w fun e w'=>e=.returned (.agg #[.slice a1 n1 c1,.slice a2 n2 c2])∧Below w.heap.size w w':=by
 have d0:∀ o,(w.alloc o).cell? ⟨g,0,none⟩=some (.slice a1 n1 c1):=fun o=>Qaa (Qac h) 0
 have d1:∀ o,(w.alloc o).cell? ⟨g,1,none⟩=some (.slice a2 n2 c2):=fun o=>Qaa (Qac h) 1
 clear h
 go_enter Tryz.func45,Tryz.ntmps45
 go_wp2
 refine bodyPost_ret (v:=.agg #[.slice a1 n1 c1,.slice a2 n2 c2]) (by simp [results,Tryz.results45,go_sem]) rfl ?_
 exact ⟨rfl,((Below.refl _ _).alloc (Nat.le_refl _) _)⟩
end
section
open Go.RowKit
attribute [local go_sem ↓] Go.wp_at_zero Go.wp_at_succ
structure Env (w:World):Prop where
 m1:∃ m,w.cell? ⟨1,0,none⟩=some (.int .i64 m)
 et:Qjd w
 tab:Tab w
theorem Env.below {w w':World} (h:Env w) (hb:Below w.heap.size w w'):Env w':=by
 obtain ⟨m,hm⟩:=h.m1
 exact ⟨⟨m,by rw [hb.cell (p:=⟨1,0,none⟩) (Qax hm)];exact hm⟩,h.et.below hb,h.tab.below hb⟩
def exT1:List UInt8:=[105,102,32,104,101,97,100,101,114,32,34,83,117,98,106,101,99,116,34,32,34,120,34,32,123,32,100,105,115,99,97,114,100,59,32,125,32,101,108,115,101,32,123,32,107,101,101,112,59,32,125]
def Qu0:List UInt8:=[107,101,101,112,59,32,105,102,32,123,32,125]
def QvI {α:Type} (r:Except Flt α):Bool:=match r with | .ok _=>true | .error _=>false
def Qvw {α:Type} (r:Except Flt α) (n p:Nat):Bool:=match r with | .ok _=>false | .error f=>f.err == n && f.pos == p
theorem Qvc:QvI (parseL exT1)=true:=by kernel_rfl
theorem Qry:Qvw (parseL Qu0) 4 9=true:=by kernel_rfl
theorem ex1:∃ y,parseL exT1=.ok y:=by
 cases h:parseL exT1 with
 | ok y=>exact ⟨y,rfl⟩
 | error f=>have:=Qvc;rw [h] at this;cases this
theorem ex2:parseL Qu0=.error ⟨4,9⟩:=by
 cases h:parseL Qu0 with
 | ok y=>have:=Qry;rw [h] at this;cases this
 | error f=>
  have:=Qry
  rw [h] at this
  have h2:(f.err == 4 && f.pos == 9)=true:=this
  simp at h2
  cases f
  simp at h2
  rw [h2.1,h2.2]
theorem Qp1 (w:World) (he:Env w):Calls Tryz.prog 20 #[] w fun e w'=>e=.returned (.bool true)∧Below w.heap.size w w':=by
 have HE:=Qab he
 clear he
 go_enter Tryz.func20,Tryz.ntmps20
 go_wp2_with fail
 refine (Qfo ⟨exT1.toArray⟩ w HE.out.m1 HE.out.et).mono ?_
 rintro e w1 ⟨hB,⟨hbig,_⟩ | ⟨_,y,g,rv,lv,hy,rfl,hz,_⟩ | ⟨_,f,hf,_⟩⟩
 ·exact absurd hbig (by decide)
 ·have HB:=Qab hB
  have hs:=hB.size
  clear hB hy
  go_wp2_with fail
  refine (Qfo ⟨Qu0.toArray⟩ w1 (HE.out.below HB.out).m1 (HE.out.below HB.out).et).mono ?_
  rintro e w2 ⟨hB2,⟨hbig,_⟩ | ⟨_,y2,g2,rv2,lv2,hy2,_⟩ | ⟨_,f,hf,rfl⟩⟩
  ·exact absurd hbig (by decide)
  ·have h2:parseL Qu0=.ok y2:=hy2
   rw [ex2] at h2
   cases h2
  ·have h2:parseL Qu0=.error f:=hf
   rw [ex2] at h2
   cases h2
   have HB2:=Qab (HB.out.trans (hB2.mono hs))
   clear hB2 hf
   go_wp2
   go_ret
   exact ⟨rfl,HB2.out⟩
 ·obtain ⟨y,hy⟩:=ex1
  have h2:parseL exT1=.error f:=hf
  rw [hy] at h2
  cases h2
theorem QpB {t:ByteArray} {y:List (List UInt8)×List (Qcd 7)} (h:parseL t.data.toList=.ok y) (ht:t.size≤600):(QcL y).length≤4294967200:=by
 have:=Qis h
 have e:t.data.toList.length=t.size:=by simp
 rw [e] at this
 omega
end
section
open Go.RowKit
attribute [local go_sem ↓] Go.wp_at_zero Go.wp_at_succ
theorem Qfm (s:ByteArray) (w:World) (h:s.size≤1000000):Calls Tryz.prog 361 #[.string s] w fun e w'=>e=.returned (.string s)∧Below w.heap.size w w':=by
 go_enter Tryz.func361,Tryz.ntmps361
 go_wp2_with fail
 refine (Tryz.stringslite_Clone s w (by omega)).mono ?_
 rintro e w1 ⟨rfl,hb1⟩
 have HB1:=Qab hb1
 clear hb1
 go_wp2
 go_ret
 exact ⟨rfl,HB1.out⟩
def QsJ (met:List (Int×List UInt8)) (kind:Int):Bool:=!met.isEmpty && (decide (kind=4) || decide ((met.headD (0,[])).1=4))
theorem QeU (a b:Int):(a == b)=decide (a=b):=rfl
theorem QdA (base sb:Nat) (met:List (Int×List UInt8)) (mv:Value) (a:Int×List UInt8) (w:World) (hc:w.cell? ⟨sb,7,none⟩=some mv) (ho:w.ownsRow base 76 2 mv met.length (QbN met)) (hl:met.length≤1000000) :
 Calls Tryz.prog 360 #[.pointer (some ⟨sb,7,none⟩),.agg #[.int .i64 a.1,.string (Qad a.2)]] w fun e w'=>e=.returned (.bool (QsJ met a.1))∧Below w.heap.size w w':=by
 obtain ⟨la,lc,hll⟩:=QaL ho
 subst hll
 have hsl:=Qax hc
 have hsl':sb < w.heap.size:=hsl
 by_cases h0:met.length=0
 ·have hm:met=[]:=List.eq_nil_of_length_eq_zero h0
  subst hm
  go_enter Tryz.func360,Tryz.ntmps360
  go_wp2
  go_ret
  exact ⟨rfl,(Below.refl _ _).alloc (Nat.le_refl _) _⟩
 obtain ⟨x,r,rfl⟩:∃ x r,met=x :: r:=by cases met with | nil=>exact absurd rfl h0 | cons x r=>exact ⟨x,r,rfl⟩
 have hpos:(0:Int) < ((x :: r).length:Int):=by simp
 obtain ⟨g,c,hla,hbg,hgl,hcells⟩:=QdB ho (by simp)
 injection hla with hla1 hla2 hla3
 subst hla1
 have c1:w.cell? ⟨g,0,none⟩=some (.int .i64 x.1):=hcells 0 _ rfl
 have HR:Hid (QsJ (x :: r) a.1=(decide (a.1=4) || decide (x.1=4))):=rfl
 have e1:=QeU a.1 4
 have e2:=QeU x.1 4
 obtain ⟨n,hn⟩:∃ n,(x :: r).length=n:=⟨_,rfl⟩
 rw [hn] at hc hpos hl
 generalize decide (a.1=4)=b1 at *
 generalize decide (x.1=4)=b2 at *
 clear hcells ho hla3 hn h0
 cases b1 <;> cases b2 <;>
 (go_enter Tryz.func360,Tryz.ntmps360
  go_wp2
  go_ret
  exact ⟨QaW (by rw [HR.out];rfl),(Below.refl _ _).alloc (Nat.le_refl _) _⟩)
theorem SBd.met' {M:Msg} {s:SS} (b:SBd M s) (l:List (Int×List UInt8)) (h:l.length≤6):SBd M (QuY s l):=⟨b.fr,b.to,b.hl,b.hd,b.told,b.tl,b.vals,h⟩
theorem SI.regrow {w w5:World} {B sb:Nat} {M:Msg} {s:SS} {hv:Value} {mb:Nat} {tv mv:Value} (h:SI w B sb M s hv mb tv mv) (hf:Fr (fun k _=>mv.ownBlock=some k) w w5) (v':Value) (met':List (Int×List UInt8)) (ho:w5.ownsRow B 76 2 v' met'.length (QbN met')) (hm:met'.length≤6) (hnn:met'≠[]):SI (w5.setCell ⟨sb,7,none⟩ v') B sb M (QuY s met') hv mb tv v'∧Fr (PSt B) w (w5.setCell ⟨sb,7,none⟩ v'):=by
 have hne:∀ (k:Nat) (o:Obj),w.heap[k]?=some o→(∀ cs,o≠.cells cs 76)→w5.heap[k]?=some o:=fun k o hk ho=>by
  refine hf.block k o hk (fun e=>?_)
  obtain ⟨_,cs,hcs⟩:=QbR h.met k o e hk
  exact ho cs hcs
 have hb5:=hne sb _ h.blk (fun cs e=>by injection e with e1 e2;exact absurd e2 (by decide))
 have hf5:Fr (fun k _=>k=sb) w5 (w5.setCell ⟨sb,7,none⟩ v'):=(Fr.refl _ w5).set hb5 rfl 7 v'
 have hnb:∀ (k:Nat) (o:Obj),w5.heap[k]?=some o→(∀ cs,o≠.cells cs 323)→(w5.setCell ⟨sb,7,none⟩ v').heap[k]?=some o:=fun k o hk ho=>hf5.block k o hk (fun e=>by subst e;rw [hb5] at hk;cases hk;exact ho _ rfl)
 obtain ⟨es,c,hm1,hu⟩:=h.mp
 obtain ⟨m,h7⟩:=h.m1
 have hl1:∃ o,w.heap[1]?=some o:=⟨_,Array.getElem?_eq_getElem (Qax h7)⟩
 obtain ⟨o1,hl1⟩:=hl1
 refine ⟨⟨h.bs,h.bm,h.b1,⟨m,?_⟩,?_,?_,⟨es,c,hnb _ _ (hne _ _ hm1 (fun cs e=>by cases e)) (fun cs e=>by cases e),hu⟩,?_,?_,fun e=>absurd e hnn,h.bd.met' met' hm⟩,?_⟩
 ·have n1:(1:Nat)≠sb:=by have:=h.b1;have:=h.bs;omega
  have n2:w5.heap[1]?=some o1:=hf.block 1 o1 hl1 (fun e=>by
   obtain ⟨hb,_⟩:=QbR h.met 1 o1 e hl1
   have:=h.b1;omega)
  rw [World.cell?_of_block (a:=⟨1,0,none⟩) (w:=w) ((Below.heap_setCell _ _ _ _ n1).trans (n2.trans hl1.symm))]
  exact h7
 ·exact Qah _ _ _ _ _ _ hb5
 ·rcases h.hd with h' | ⟨g,c,cs,hv',hb,hc⟩
  ·exact Or.inl h'
  ·exact Or.inr ⟨g,c,cs,hv',hnb _ _ (hne _ _ hb (fun cs e=>by injection e with e1 e2;exact absurd e2 (by decide))) (fun cs e=>by injection e with e1 e2;exact absurd e2 (by decide)),hc⟩
 ·rcases h.told with h' | ⟨g,c,hv',cs,hb,hc⟩
  ·exact Or.inl h'
  ·exact Or.inr ⟨g,c,hv',cs,hnb _ _ (hne _ _ hb (fun cs e=>by injection e with e1 e2;exact absurd e2 (by decide))) (fun cs e=>by injection e with e1 e2;exact absurd e2 (by decide)),hc⟩
 ·obtain ⟨h1,h2⟩:=ho
  refine ⟨h1,?_⟩
  rcases h2 with h2 | ⟨g,cap,cur,hv',hg,hh,r⟩
  ·exact Or.inl h2
  ·exact Or.inr ⟨g,cap,cur,hv',hg,hnb _ _ hh (fun cs e=>by injection e with e1 e2;exact absurd e2 (by decide)),r⟩
 ·refine (Fr.mono ⟨hf.os,hf.tape,hf.output,hf.size,fun k o hk hn=>?_⟩ (fun k o h=>h)).set hb5 ⟨h.bs,rfl⟩ 7 v'
  exact hf.block k o hk (fun e=>hn (by
   obtain ⟨hb,cs,hcs⟩:=QbR h.met k o e hk
   subst hcs
   exact ⟨hb,rfl⟩))
theorem QbE {w:World} {base:Nat} {e:TypeId} {size:Nat} {v:Value} {n:Nat} {xs:List Value} (h:w.ownsRow base e size v n xs) {b:Nat} (hne:v.ownBlock≠some b) (j:Nat) (x:Value):(w.setCell ⟨b,j,none⟩ x).ownsRow base e size v n xs:=by
 obtain ⟨h1,h2⟩:=h
 refine ⟨h1,?_⟩
 rcases h2 with h2 | ⟨g,cap,cur,hv,hg,hh,r⟩
 ·exact Or.inl h2
 ·refine Or.inr ⟨g,cap,cur,hv,hg,?_,r⟩
  rw [Below.heap_setCell _ _ _ _ (show g≠b from fun e=>hne (by rw [hv,e];rfl))]
  exact hh
def Qb6 (s:SS) (kind:Int) (arg:List UInt8) (B sb:Nat) (M:Msg) (w:World) (e:Ending) (w':World):Prop:=
 e=.returned (.int .i64 (addL s.met kind arg).1)∧SAt w' B sb M (QuY s (addL s.met kind arg).2)∧Fr (PSt B) w w'
theorem Qrv {met:List (Int×List UInt8)} {kind:Int} {arg:List UInt8} (h2:¬ (kind=2∧Qdh arg=false)) (h3:¬ (kind=3∧Qcq arg=false)):addL met kind arg =
 (if QqB (kind,cutArg kind arg) met=true then (0,met) else if QsJ met kind=true then (10,met) else if met.length=6 then (11,met) else (0,met++[(kind,cutArg kind arg)])):=by
 unfold addL
 rw [if_neg h2,if_neg h3]
 by_cases hm:(kind,cutArg kind arg)∈met
 ·rw [if_pos hm,if_pos ((Qo8 _ _).2 hm)]
 rw [if_neg hm,if_neg (fun h=>hm ((Qo8 _ _).1 h))]
 have hc:QsJ met kind=true↔(met≠[]∧(kind=4∨(met.headD (0,[])).1=4)):=by
  unfold QsJ
  cases met <;> simp
 by_cases hcc:met≠[]∧(kind=4∨(met.headD (0,[])).1=4)
 ·rw [if_pos hcc,if_pos (hc.2 hcc)]
 ·rw [if_neg hcc,if_neg (fun h=>hcc (hc.1 h))]
theorem QkI (w:World) (x:Int×List UInt8) (t:TypeId):∀ j u,[Value.int .i64 x.1,.string (Qad x.2)][j]?=some u→(w.alloc (.cells #[.int .i64 x.1,.string (Qad x.2)] t)).cell? ((⟨w.heap.size,0,none⟩:Addr).add j)=some u:=by
 intro j u hj
 match j,hj with
 | 0,hj=>simp at hj;subst hj;simp [Addr.add]
 | 1,hj=>simp at hj;subst hj;simp [Addr.add]
theorem Qkw (x:Int×List UInt8):∀ u∈[Value.int .i64 x.1,Value.string (Qad x.2)],u.oneCell'=true:=by
 intro u hu
 simp at hu
 rcases hu with rfl | rfl <;> rfl
theorem Quj (B sb:Nat) (M:Msg) (s:SS) (kind:Int) (arg:List UInt8) (w:World) (h:SAt w B sb M s) (hl:arg.length≤1000000) :
 Calls Tryz.prog 332 #[.pointer (some ⟨sb,7,none⟩),.agg #[.int .i64 kind,.string (Qad arg)]] w (Qb6 s kind arg B sb M w):=by
 have HS:=Qab h
 obtain ⟨hv,mb,tv,mv,hSI⟩:=h
 have HSI:=Qab hSI
 have hsl:=hSI.lt
 have c7:w.cell? ⟨sb,7,none⟩=some mv:=hSI.cell 7
 obtain ⟨la,lc,hll⟩:=QaL hSI.met
 subst hll
 have hm6:=hSI.bd.met
 have hz:=Qat arg
 have ek2:=QeU kind 2
 have ek3:=QeU kind 3
 have ek4:=QeU kind 4
 obtain ⟨i0,hi,hz0,hz1,hz2⟩:=info_parts Tryz.infoAction
 clear hSI
 by_cases h2:kind=2∧Qdh arg=false
 ·obtain ⟨rfl,hb⟩:=h2
  have hr:addL s.met 2 arg=(8,s.met):=by unfold addL;rw [if_pos ⟨rfl,hb⟩]
  have HR:=Qab hr
  clear hr
  go_enter Tryz.func332,Tryz.ntmps332
  go_wp2_with (go_at_call 289;refine (QmU _ _ (by rw [Qat];omega)).mono ?_;rintro e w' ⟨rfl,rfl⟩;rw [show Qdh (Qad arg).data.toList=false from hb])
  go_ret
  unfold Qb6
  rw [HR.out]
  exact ⟨rfl,HS.out.below ((Below.refl _ _).alloc (Nat.le_refl _) _),(Fr.refl _ _).alloc _⟩
 by_cases h3:kind=3∧Qcq arg=false
 ·obtain ⟨rfl,hb⟩:=h3
  have hr:addL s.met 3 arg=(9,s.met):=by unfold addL;rw [if_neg h2,if_pos ⟨rfl,hb⟩]
  have HR:=Qab hr
  clear hr
  go_enter Tryz.func332,Tryz.ntmps332
  go_wp2_with (go_at_call 358;refine (Qgn _ _ (by rw [Qat];omega)).mono ?_;rintro e w' ⟨rfl,rfl⟩;rw [show Qcq (Qad arg).data.toList=false from hb])
  go_ret
  unfold Qb6
  rw [HR.out]
  exact ⟨rfl,HS.out.below ((Below.refl _ _).alloc (Nat.le_refl _) _),(Fr.refl _ _).alloc _⟩
 have hrest:=Qrv (met:=s.met) (kind:=kind) (arg:=arg) h2 h3
 obtain ⟨z,hzz⟩:∃ z,cutArg kind arg=z:=⟨_,rfl⟩
 rw [hzz] at hrest
 have HZ:=Qab hzz
 have hzl:z.length≤1000000:=by
  rw [← hzz]
  unfold cutArg
  split
  ·rw [List.length_take];omega
  ·exact hl
 have HRest:=Qab hrest
 clear hrest
 have hbx:kind=2→Qdh arg=true:=fun e=>by cases hb:Qdh arg with | true=>rfl | false=>exact absurd ⟨e,hb⟩ h2
 have had:kind=3→Qcq arg=true:=fun e=>by cases hb:Qcq arg with | true=>rfl | false=>exact absurd ⟨e,hb⟩ h3
 have HBX:=Qab hbx
 have HAD:=Qab had
 clear h2 h3 hbx had hzz
 by_cases k2:kind=2
 ·subst k2
  have hb:Qdh arg=true:=HBX.out rfl
  have hza:arg=z:=HZ.out
  subst hza
  go_enter Tryz.func332,Tryz.ntmps332
  go_wp2_with (go_at_call 289;refine (QmU _ _ (by rw [Qat];omega)).mono ?_;rintro e w' ⟨rfl,hww⟩;rw [hww];rw [show Qdh (Qad arg).data.toList=true from hb])
  obtain ⟨W,hW⟩:∃ W,W=w.alloc (.cells #[.int .i64 2,.string (Qad arg)] 76):=⟨_,rfl⟩
  have HWB:Hid (Below w.heap.size w W):=by rw [hW];exact (Below.refl _ _).alloc (Nat.le_refl _) _
  have hWa:W.heap[w.heap.size]?=some (.cells #[.int .i64 2,.string (Qad arg)] 76):=by rw [hW];exact Qay _ _
  have HWA:=Qab hWa
  rw [← hW]
  clear hW
  have d7:W.cell? ⟨sb,7,none⟩=some (.slice la s.met.length lc):=(HWB.out.cell (p:=⟨sb,7,none⟩) hsl).trans c7
  have b0:W.cell? ⟨w.heap.size,0,none⟩=some (.int .i64 2):=Qaa hWa 0
  have b1:W.cell? ⟨w.heap.size,1,none⟩=some (.string (Qad arg)):=Qaa hWa 1
  have hWl:=QaH hWa
  have hsW:sb < W.heap.size:=by omega
  have HWO:Hid (W.ownsRow B 76 2 (.slice la s.met.length lc) s.met.length (QbN s.met)):=Qbf (P:=fun _ _=>False) HSI.out.met (Fr.of_below HWB.out) (fun _ _ h=>h)
  clear hWa
  cases hmem:QqB (2,arg) s.met
  rotate_left
  ·rw [hmem] at HRest
   go_region_held3 (fun w'=>w'.cell? ⟨sb,7,none⟩=some (.slice la s.met.length lc)∧w'.cell? ⟨w.heap.size,0,none⟩=some (.int .i64 2)∧w'.cell? ⟨w.heap.size,1,none⟩=some (.string (Qad arg))) (first | go_keep | exact ⟨q7,q0,q1⟩) (first | (go_at_call 359;refine (QbH B s.met _ (2,arg) W.drew HWO.out (by omega)).mono ?_;rintro e w1 ⟨rfl,hb1⟩;rw [hmem];have hb2:=Qa4 hb1;have q7:w1.cell? ⟨sb,7,none⟩=some (.slice la s.met.length lc):=(hb2.cell (p:=⟨sb,7,none⟩) hsW).trans d7;have q0:w1.cell? ⟨w.heap.size,0,none⟩=some (.int .i64 2):=(hb2.cell (p:=⟨w.heap.size,0,none⟩) hWl).trans b0;have q1:w1.cell? ⟨w.heap.size,1,none⟩=some (.string (Qad arg)):=(hb2.cell (p:=⟨w.heap.size,1,none⟩) hWl).trans b1;have HB1:=Qab (HWB.out.trans (hb2.mono HWB.out.size));clear hb1 hb2;skip))
   all_goals go_wp2
   all_goals go_ret
   all_goals unfold Qb6
   all_goals rw [HRest.out]
   all_goals exact ⟨rfl,HS.out.below HB1.out,Fr.of_below HB1.out⟩
  rw [hmem] at HRest
  go_region_held3 (fun w'=>w'.cell? ⟨sb,7,none⟩=some (.slice la s.met.length lc)∧w'.cell? ⟨w.heap.size,0,none⟩=some (.int .i64 2)∧w'.cell? ⟨w.heap.size,1,none⟩=some (.string (Qad arg))) (first | go_keep | exact ⟨q7,q0,q1⟩) (first | (go_at_call 359;refine (QbH B s.met _ (2,arg) W.drew HWO.out (by omega)).mono ?_;rintro e w1 ⟨rfl,hb1⟩;rw [hmem];have hb2:=Qa4 hb1;have q7:w1.cell? ⟨sb,7,none⟩=some (.slice la s.met.length lc):=(hb2.cell (p:=⟨sb,7,none⟩) hsW).trans d7;have q0:w1.cell? ⟨w.heap.size,0,none⟩=some (.int .i64 2):=(hb2.cell (p:=⟨w.heap.size,0,none⟩) hWl).trans b0;have q1:w1.cell? ⟨w.heap.size,1,none⟩=some (.string (Qad arg)):=(hb2.cell (p:=⟨w.heap.size,1,none⟩) hWl).trans b1;have HB1:=Qab (HWB.out.trans (hb2.mono HWB.out.size));have HO1:=Qab (Qbf (P:=fun _ _=>False) HWO.out (Fr.of_below hb2) (fun _ _ h=>h));have HA1:=Qab (Qal HWA.out hb2);clear hb1 hb2;skip))
  all_goals go_wp2_with fail
  all_goals refine (QdA B sb s.met _ (2,arg) w1 q7 HO1.out (by omega)).mono ?_
  all_goals rintro e w2 ⟨rfl,hb2⟩
  all_goals have HB2:=Qab (HB1.out.trans (hb2.mono HB1.out.size))
  all_goals have HO2:=Qab (Qbf (P:=fun _ _=>False) HO1.out (Fr.of_below hb2) (fun _ _ h=>h))
  all_goals have HA2:=Qab (Qal HA1.out hb2)
  all_goals have r7:w2.cell? ⟨sb,7,none⟩=some (.slice la s.met.length lc):=(hb2.cell (p:=⟨sb,7,none⟩) (Qax q7)).trans q7
  all_goals have r1:w2.cell? ⟨w.heap.size,1,none⟩=some (.string (Qad arg)):=Qaa HA2.out 1
  all_goals clear hb2 q7 q0 q1
  all_goals dsimp only
  all_goals cases hcon:QsJ s.met 2
  rotate_left
  ·rw [hcon] at HRest
   go_wp2
   go_ret
   unfold Qb6
   rw [HRest.out]
   exact ⟨rfl,HS.out.below HB2.out,Fr.of_below HB2.out⟩
  rw [hcon] at HRest
  by_cases h6:s.met.length=6
  ·rw [if_pos h6] at HRest
   have h6':((s.met.length:Int) == 6)=true:=by rw [h6];rfl
   go_wp2
   go_ret
   unfold Qb6
   rw [HRest.out]
   exact ⟨rfl,HS.out.below HB2.out,Fr.of_below HB2.out⟩
  rw [if_neg h6] at HRest
  have h6':((s.met.length:Int) == 6)=false:=by simp;omega
  go_wp2_with fail
  refine (Qfm (Qad arg) w2 (by rw [Qat];omega)).mono ?_
  rintro e w3 ⟨rfl,hb3⟩
  have HB3:=Qab (HB2.out.trans (hb3.mono HB2.out.size))
  have HO3:=Qab (Qbf (P:=fun _ _=>False) HO2.out (Fr.of_below hb3) (fun _ _ h=>h))
  have ha3:=Qal HA2.out hb3
  have s0:w3.cell? ⟨w.heap.size,0,none⟩=some (.int .i64 2):=Qaa ha3 0
  have s1:w3.cell? ⟨w.heap.size,1,none⟩=some (.string (Qad arg)):=Qaa ha3 1
  have sf:=Qap ha3
  have s7:w3.cell? ⟨sb,7,none⟩=some (.slice la s.met.length lc):=(hb3.cell (p:=⟨sb,7,none⟩) (Qax r7)).trans r7
  have HA3:=Qab ha3
  have hne:¬ sb=w.heap.size:=by omega
  have hne':¬ w.heap.size=sb:=by omega
  clear hb3 ha3 r7 r1
  go_wp2_with fail
  obtain ⟨V,hV⟩:∃ V,V=w3.setCell ⟨w.heap.size,1,none⟩ (.string (Qad arg)):=⟨_,rfl⟩
  have HBV:Hid (Below w.heap.size w V):=by rw [hV];exact HB3.out.setCell (Nat.le_refl _) _
  have hVa:V.heap[w.heap.size]?=some (.cells #[.int .i64 2,.string (Qad arg)] 76):=by rw [hV];exact Qah _ _ _ _ _ _ HA3.out
  have HVO:Hid (V.ownsRow B 76 2 (.slice la s.met.length lc) s.met.length (QbN s.met)):=by
   rw [hV]
   exact QbE HO3.out (fun e=>by have:=(HSI.out.met.lt _ e).2;omega) _ _
  have v7:V.cell? ⟨sb,7,none⟩=some (.slice la s.met.length lc):=by rw [hV,World.cell?_of_block (a:=⟨sb,7,none⟩) (Below.heap_setCell _ _ _ _ hne)];exact s7
  have v0:V.cell? ⟨w.heap.size,0,none⟩=some (.int .i64 2):=Qaa hVa 0
  have v1:V.cell? ⟨w.heap.size,1,none⟩=some (.string (Qad arg)):=Qaa hVa 1
  have HSV:=Qab (HSI.out.below HBV.out)
  have hVl:=QaH hVa
  have hsV:sb < V.heap.size:=by omega
  rw [← hV]
  have HBs:=HSV.out.bs
  have hrow:¬ (Value.slice la s.met.length lc).ownBlock=some sb:=fun e=>by
   obtain ⟨_,cs,hcs⟩:=QbR HSV.out.met sb _ e HSV.out.blk
   injection hcs with e1 e2
   exact absurd e2 (by decide)
  have HROW:=Qab hrow
  clear hV hVa s7 s0 s1 sf hrow HB3 HO3 HA3
  have hBV:B≤V.heap.size:=by omega
  go_region_law (refine step_append_lies _ rfl (.tmp 52) (.tmp 54) 33 rfl B 76 i0 (.agg #[.int .i64 0,.string ⟨#[]⟩]) 2 24 Tryz.underlying33 hi hz0 hz1 hz2 rfl (by decide) (.slice la s.met.length lc) s.met.length (QbN s.met) (by simp [Act.eval,Act.put]) (HVO.out.alloc _) ⟨V.heap.size,0,none⟩ 1 1 [.int .i64 2,.string (Qad arg)] (by simp [Act.eval,Act.put]) rfl (QkI _ (2,arg) _) (Qkw (2,arg)) (by decide) (by unfold maxLen;omega) (by omega) (by simp;omega) _ rfl ?_;intro g' cap' w5 hown5 hgrow hat hlt5;have HO5:=Qab hown5;have HG5:=Qab hgrow;have t7:w5.cell? ⟨sb,7,none⟩=some (.slice la s.met.length lc):=hgrow.cell (a:=⟨sb,7,none⟩) ((World.cell?_of_block (a:=⟨sb,7,none⟩) (w:=V) (Below.heap_alloc _ _ _ hsV)).trans v7) (fun e=>HROW.out e.symm);have hft:∀ j,w5.frozen? ⟨sb,j,none⟩=false:=fun j=>(World.frozen?_of_block (a:=⟨sb,j,none⟩) (w:=V) ((hgrow.block sb (by simp;omega) (fun e=>HROW.out e.symm)).trans (Below.heap_alloc _ _ _ hsV))).trans (HSV.out.frozen j);clear hown5 hgrow;skip)
  all_goals go_wp2
  all_goals go_ret
  all_goals unfold Qb6
  all_goals rw [HRest.out]
  all_goals have hfin:=HSV.out.regrow ((((Fr.refl _ V).alloc _).drew).grown HG5.out (fun k o e _=>e)) (.slice (some ⟨g',0,none⟩) (s.met.length+1) cap') (s.met++[(2,arg)]) (by rw [List.length_append,← QeF];exact HO5.out) (by rw [List.length_append];simp;omega) (by simp)
  all_goals exact ⟨rfl,⟨_,_,_,_,hfin.1⟩,(Fr.of_below HBV.out).trans hfin.2⟩
 by_cases k3:kind=3
 ·subst k3
  have hb:Qcq arg=true:=HAD.out rfl
  have hza:arg=z:=HZ.out
  subst hza
  go_enter Tryz.func332,Tryz.ntmps332
  go_wp2_with (go_at_call 358;refine (Qgn _ _ (by rw [Qat];omega)).mono ?_;rintro e w' ⟨rfl,hww⟩;rw [hww];rw [show Qcq (Qad arg).data.toList=true from hb])
  obtain ⟨W,hW⟩:∃ W,W=w.alloc (.cells #[.int .i64 3,.string (Qad arg)] 76):=⟨_,rfl⟩
  have HWB:Hid (Below w.heap.size w W):=by rw [hW];exact (Below.refl _ _).alloc (Nat.le_refl _) _
  have hWa:W.heap[w.heap.size]?=some (.cells #[.int .i64 3,.string (Qad arg)] 76):=by rw [hW];exact Qay _ _
  have HWA:=Qab hWa
  rw [← hW]
  clear hW
  have d7:W.cell? ⟨sb,7,none⟩=some (.slice la s.met.length lc):=(HWB.out.cell (p:=⟨sb,7,none⟩) hsl).trans c7
  have b0:W.cell? ⟨w.heap.size,0,none⟩=some (.int .i64 3):=Qaa hWa 0
  have b1:W.cell? ⟨w.heap.size,1,none⟩=some (.string (Qad arg)):=Qaa hWa 1
  have hWl:=QaH hWa
  have hsW:sb < W.heap.size:=by omega
  have HWO:Hid (W.ownsRow B 76 2 (.slice la s.met.length lc) s.met.length (QbN s.met)):=Qbf (P:=fun _ _=>False) HSI.out.met (Fr.of_below HWB.out) (fun _ _ h=>h)
  clear hWa
  cases hmem:QqB (3,arg) s.met
  rotate_left
  ·rw [hmem] at HRest
   go_region_held3 (fun w'=>w'.cell? ⟨sb,7,none⟩=some (.slice la s.met.length lc)∧w'.cell? ⟨w.heap.size,0,none⟩=some (.int .i64 3)∧w'.cell? ⟨w.heap.size,1,none⟩=some (.string (Qad arg))) (first | go_keep | exact ⟨q7,q0,q1⟩) (first | (go_at_call 359;refine (QbH B s.met _ (3,arg) W.drew HWO.out (by omega)).mono ?_;rintro e w1 ⟨rfl,hb1⟩;rw [hmem];have hb2:=Qa4 hb1;have q7:w1.cell? ⟨sb,7,none⟩=some (.slice la s.met.length lc):=(hb2.cell (p:=⟨sb,7,none⟩) hsW).trans d7;have q0:w1.cell? ⟨w.heap.size,0,none⟩=some (.int .i64 3):=(hb2.cell (p:=⟨w.heap.size,0,none⟩) hWl).trans b0;have q1:w1.cell? ⟨w.heap.size,1,none⟩=some (.string (Qad arg)):=(hb2.cell (p:=⟨w.heap.size,1,none⟩) hWl).trans b1;have HB1:=Qab (HWB.out.trans (hb2.mono HWB.out.size));clear hb1 hb2;skip))
   all_goals go_wp2
   all_goals go_ret
   all_goals unfold Qb6
   all_goals rw [HRest.out]
   all_goals exact ⟨rfl,HS.out.below HB1.out,Fr.of_below HB1.out⟩
  rw [hmem] at HRest
  go_region_held3 (fun w'=>w'.cell? ⟨sb,7,none⟩=some (.slice la s.met.length lc)∧w'.cell? ⟨w.heap.size,0,none⟩=some (.int .i64 3)∧w'.cell? ⟨w.heap.size,1,none⟩=some (.string (Qad arg))) (first | go_keep | exact ⟨q7,q0,q1⟩) (first | (go_at_call 359;refine (QbH B s.met _ (3,arg) W.drew HWO.out (by omega)).mono ?_;rintro e w1 ⟨rfl,hb1⟩;rw [hmem];have hb2:=Qa4 hb1;have q7:w1.cell? ⟨sb,7,none⟩=some (.slice la s.met.length lc):=(hb2.cell (p:=⟨sb,7,none⟩) hsW).trans d7;have q0:w1.cell? ⟨w.heap.size,0,none⟩=some (.int .i64 3):=(hb2.cell (p:=⟨w.heap.size,0,none⟩) hWl).trans b0;have q1:w1.cell? ⟨w.heap.size,1,none⟩=some (.string (Qad arg)):=(hb2.cell (p:=⟨w.heap.size,1,none⟩) hWl).trans b1;have HB1:=Qab (HWB.out.trans (hb2.mono HWB.out.size));have HO1:=Qab (Qbf (P:=fun _ _=>False) HWO.out (Fr.of_below hb2) (fun _ _ h=>h));have HA1:=Qab (Qal HWA.out hb2);clear hb1 hb2;skip))
  all_goals go_wp2_with fail
  all_goals refine (QdA B sb s.met _ (3,arg) w1 q7 HO1.out (by omega)).mono ?_
  all_goals rintro e w2 ⟨rfl,hb2⟩
  all_goals have HB2:=Qab (HB1.out.trans (hb2.mono HB1.out.size))
  all_goals have HO2:=Qab (Qbf (P:=fun _ _=>False) HO1.out (Fr.of_below hb2) (fun _ _ h=>h))
  all_goals have HA2:=Qab (Qal HA1.out hb2)
  all_goals have r7:w2.cell? ⟨sb,7,none⟩=some (.slice la s.met.length lc):=(hb2.cell (p:=⟨sb,7,none⟩) (Qax q7)).trans q7
  all_goals have r1:w2.cell? ⟨w.heap.size,1,none⟩=some (.string (Qad arg)):=Qaa HA2.out 1
  all_goals clear hb2 q7 q0 q1
  all_goals dsimp only
  all_goals cases hcon:QsJ s.met 3
  rotate_left
  ·rw [hcon] at HRest
   go_wp2
   go_ret
   unfold Qb6
   rw [HRest.out]
   exact ⟨rfl,HS.out.below HB2.out,Fr.of_below HB2.out⟩
  rw [hcon] at HRest
  by_cases h6:s.met.length=6
  ·rw [if_pos h6] at HRest
   have h6':((s.met.length:Int) == 6)=true:=by rw [h6];rfl
   go_wp2
   go_ret
   unfold Qb6
   rw [HRest.out]
   exact ⟨rfl,HS.out.below HB2.out,Fr.of_below HB2.out⟩
  rw [if_neg h6] at HRest
  have h6':((s.met.length:Int) == 6)=false:=by simp;omega
  go_wp2_with fail
  refine (Qfm (Qad arg) w2 (by rw [Qat];omega)).mono ?_
  rintro e w3 ⟨rfl,hb3⟩
  have HB3:=Qab (HB2.out.trans (hb3.mono HB2.out.size))
  have HO3:=Qab (Qbf (P:=fun _ _=>False) HO2.out (Fr.of_below hb3) (fun _ _ h=>h))
  have ha3:=Qal HA2.out hb3
  have s0:w3.cell? ⟨w.heap.size,0,none⟩=some (.int .i64 3):=Qaa ha3 0
  have s1:w3.cell? ⟨w.heap.size,1,none⟩=some (.string (Qad arg)):=Qaa ha3 1
  have sf:=Qap ha3
  have s7:w3.cell? ⟨sb,7,none⟩=some (.slice la s.met.length lc):=(hb3.cell (p:=⟨sb,7,none⟩) (Qax r7)).trans r7
  have HA3:=Qab ha3
  have hne:¬ sb=w.heap.size:=by omega
  have hne':¬ w.heap.size=sb:=by omega
  clear hb3 ha3 r7 r1
  go_wp2_with fail
  obtain ⟨V,hV⟩:∃ V,V=w3.setCell ⟨w.heap.size,1,none⟩ (.string (Qad arg)):=⟨_,rfl⟩
  have HBV:Hid (Below w.heap.size w V):=by rw [hV];exact HB3.out.setCell (Nat.le_refl _) _
  have hVa:V.heap[w.heap.size]?=some (.cells #[.int .i64 3,.string (Qad arg)] 76):=by rw [hV];exact Qah _ _ _ _ _ _ HA3.out
  have HVO:Hid (V.ownsRow B 76 2 (.slice la s.met.length lc) s.met.length (QbN s.met)):=by
   rw [hV]
   exact QbE HO3.out (fun e=>by have:=(HSI.out.met.lt _ e).2;omega) _ _
  have v7:V.cell? ⟨sb,7,none⟩=some (.slice la s.met.length lc):=by rw [hV,World.cell?_of_block (a:=⟨sb,7,none⟩) (Below.heap_setCell _ _ _ _ hne)];exact s7
  have v0:V.cell? ⟨w.heap.size,0,none⟩=some (.int .i64 3):=Qaa hVa 0
  have v1:V.cell? ⟨w.heap.size,1,none⟩=some (.string (Qad arg)):=Qaa hVa 1
  have HSV:=Qab (HSI.out.below HBV.out)
  have hVl:=QaH hVa
  have hsV:sb < V.heap.size:=by omega
  rw [← hV]
  have HBs:=HSV.out.bs
  have hrow:¬ (Value.slice la s.met.length lc).ownBlock=some sb:=fun e=>by
   obtain ⟨_,cs,hcs⟩:=QbR HSV.out.met sb _ e HSV.out.blk
   injection hcs with e1 e2
   exact absurd e2 (by decide)
  have HROW:=Qab hrow
  clear hV hVa s7 s0 s1 sf hrow HB3 HO3 HA3
  have hBV:B≤V.heap.size:=by omega
  go_region_law (refine step_append_lies _ rfl (.tmp 52) (.tmp 54) 33 rfl B 76 i0 (.agg #[.int .i64 0,.string ⟨#[]⟩]) 2 24 Tryz.underlying33 hi hz0 hz1 hz2 rfl (by decide) (.slice la s.met.length lc) s.met.length (QbN s.met) (by simp [Act.eval,Act.put]) (HVO.out.alloc _) ⟨V.heap.size,0,none⟩ 1 1 [.int .i64 3,.string (Qad arg)] (by simp [Act.eval,Act.put]) rfl (QkI _ (3,arg) _) (Qkw (3,arg)) (by decide) (by unfold maxLen;omega) (by omega) (by simp;omega) _ rfl ?_;intro g' cap' w5 hown5 hgrow hat hlt5;have HO5:=Qab hown5;have HG5:=Qab hgrow;have t7:w5.cell? ⟨sb,7,none⟩=some (.slice la s.met.length lc):=hgrow.cell (a:=⟨sb,7,none⟩) ((World.cell?_of_block (a:=⟨sb,7,none⟩) (w:=V) (Below.heap_alloc _ _ _ hsV)).trans v7) (fun e=>HROW.out e.symm);have hft:∀ j,w5.frozen? ⟨sb,j,none⟩=false:=fun j=>(World.frozen?_of_block (a:=⟨sb,j,none⟩) (w:=V) ((hgrow.block sb (by simp;omega) (fun e=>HROW.out e.symm)).trans (Below.heap_alloc _ _ _ hsV))).trans (HSV.out.frozen j);clear hown5 hgrow;skip)
  all_goals go_wp2
  all_goals go_ret
  all_goals unfold Qb6
  all_goals rw [HRest.out]
  all_goals have hfin:=HSV.out.regrow ((((Fr.refl _ V).alloc _).drew).grown HG5.out (fun k o e _=>e)) (.slice (some ⟨g',0,none⟩) (s.met.length+1) cap') (s.met++[(3,arg)]) (by rw [List.length_append,← QeF];exact HO5.out) (by rw [List.length_append];simp;omega) (by simp)
  all_goals exact ⟨rfl,⟨_,_,_,_,hfin.1⟩,(Fr.of_below HBV.out).trans hfin.2⟩
 rw [decide_eq_false k2] at ek2
 rw [decide_eq_false k3] at ek3
 by_cases k4:kind=4
 ·subst k4
  obtain ⟨q,hq0⟩:∃ q:Nat,q=min arg.length 48:=⟨_,rfl⟩
  have hq:min (arg.length:Int) 48=(q:Int):=by omega
  have hq1:(q:Int)≤(arg.length:Int):=by omega
  have hex:(Qad arg).extract 0 q=Qad z:=by
   rw [QbZ,← HZ.out,hq0]
   show Qad (arg.take (min arg.length 48))=Qad (arg.take 48)
   rcases Nat.le_total arg.length 48 with hh | hh
   ·rw [Nat.min_eq_left hh,List.take_of_length_le (Nat.le_refl _),List.take_of_length_le hh]
   ·rw [Nat.min_eq_right hh]
  clear hq0
  go_enter Tryz.func332,Tryz.ntmps332
  go_wp2_with fail
  obtain ⟨W,hW⟩:∃ W,W=w.alloc (.cells #[.int .i64 4,.string (Qad z)] 76):=⟨_,rfl⟩
  have HWB:Hid (Below w.heap.size w W):=by rw [hW];exact (Below.refl _ _).alloc (Nat.le_refl _) _
  have hWa:W.heap[w.heap.size]?=some (.cells #[.int .i64 4,.string (Qad z)] 76):=by rw [hW];exact Qay _ _
  have HWA:=Qab hWa
  rw [← hW]
  clear hW
  have d7:W.cell? ⟨sb,7,none⟩=some (.slice la s.met.length lc):=(HWB.out.cell (p:=⟨sb,7,none⟩) hsl).trans c7
  have b0:W.cell? ⟨w.heap.size,0,none⟩=some (.int .i64 4):=Qaa hWa 0
  have b1:W.cell? ⟨w.heap.size,1,none⟩=some (.string (Qad z)):=Qaa hWa 1
  have hWl:=QaH hWa
  have hsW:sb < W.heap.size:=by omega
  have HWO:Hid (W.ownsRow B 76 2 (.slice la s.met.length lc) s.met.length (QbN s.met)):=Qbf (P:=fun _ _=>False) HSI.out.met (Fr.of_below HWB.out) (fun _ _ h=>h)
  clear hWa
  cases hmem:QqB (4,z) s.met
  rotate_left
  ·rw [hmem] at HRest
   go_region_held3 (fun w'=>w'.cell? ⟨sb,7,none⟩=some (.slice la s.met.length lc)∧w'.cell? ⟨w.heap.size,0,none⟩=some (.int .i64 4)∧w'.cell? ⟨w.heap.size,1,none⟩=some (.string (Qad z))) (first | go_keep | exact ⟨q7,q0,q1⟩) (first | (go_at_call 359;refine (QbH B s.met _ (4,z) W.drew HWO.out (by omega)).mono ?_;rintro e w1 ⟨rfl,hb1⟩;rw [hmem];have hb2:=Qa4 hb1;have q7:w1.cell? ⟨sb,7,none⟩=some (.slice la s.met.length lc):=(hb2.cell (p:=⟨sb,7,none⟩) hsW).trans d7;have q0:w1.cell? ⟨w.heap.size,0,none⟩=some (.int .i64 4):=(hb2.cell (p:=⟨w.heap.size,0,none⟩) hWl).trans b0;have q1:w1.cell? ⟨w.heap.size,1,none⟩=some (.string (Qad z)):=(hb2.cell (p:=⟨w.heap.size,1,none⟩) hWl).trans b1;have HB1:=Qab (HWB.out.trans (hb2.mono HWB.out.size));clear hb1 hb2;skip))
   all_goals go_wp2
   all_goals go_ret
   all_goals unfold Qb6
   all_goals rw [HRest.out]
   all_goals exact ⟨rfl,HS.out.below HB1.out,Fr.of_below HB1.out⟩
  rw [hmem] at HRest
  go_region_held3 (fun w'=>w'.cell? ⟨sb,7,none⟩=some (.slice la s.met.length lc)∧w'.cell? ⟨w.heap.size,0,none⟩=some (.int .i64 4)∧w'.cell? ⟨w.heap.size,1,none⟩=some (.string (Qad z))) (first | go_keep | exact ⟨q7,q0,q1⟩) (first | (go_at_call 359;refine (QbH B s.met _ (4,z) W.drew HWO.out (by omega)).mono ?_;rintro e w1 ⟨rfl,hb1⟩;rw [hmem];have hb2:=Qa4 hb1;have q7:w1.cell? ⟨sb,7,none⟩=some (.slice la s.met.length lc):=(hb2.cell (p:=⟨sb,7,none⟩) hsW).trans d7;have q0:w1.cell? ⟨w.heap.size,0,none⟩=some (.int .i64 4):=(hb2.cell (p:=⟨w.heap.size,0,none⟩) hWl).trans b0;have q1:w1.cell? ⟨w.heap.size,1,none⟩=some (.string (Qad z)):=(hb2.cell (p:=⟨w.heap.size,1,none⟩) hWl).trans b1;have HB1:=Qab (HWB.out.trans (hb2.mono HWB.out.size));have HO1:=Qab (Qbf (P:=fun _ _=>False) HWO.out (Fr.of_below hb2) (fun _ _ h=>h));have HA1:=Qab (Qal HWA.out hb2);clear hb1 hb2;skip))
  all_goals go_wp2_with fail
  all_goals refine (QdA B sb s.met _ (4,z) w1 q7 HO1.out (by omega)).mono ?_
  all_goals rintro e w2 ⟨rfl,hb2⟩
  all_goals have HB2:=Qab (HB1.out.trans (hb2.mono HB1.out.size))
  all_goals have HO2:=Qab (Qbf (P:=fun _ _=>False) HO1.out (Fr.of_below hb2) (fun _ _ h=>h))
  all_goals have HA2:=Qab (Qal HA1.out hb2)
  all_goals have r7:w2.cell? ⟨sb,7,none⟩=some (.slice la s.met.length lc):=(hb2.cell (p:=⟨sb,7,none⟩) (Qax q7)).trans q7
  all_goals have r1:w2.cell? ⟨w.heap.size,1,none⟩=some (.string (Qad z)):=Qaa HA2.out 1
  all_goals clear hb2 q7 q0 q1
  all_goals dsimp only
  all_goals cases hcon:QsJ s.met 4
  rotate_left
  ·rw [hcon] at HRest
   go_wp2
   go_ret
   unfold Qb6
   rw [HRest.out]
   exact ⟨rfl,HS.out.below HB2.out,Fr.of_below HB2.out⟩
  rw [hcon] at HRest
  by_cases h6:s.met.length=6
  ·rw [if_pos h6] at HRest
   have h6':((s.met.length:Int) == 6)=true:=by rw [h6];rfl
   go_wp2
   go_ret
   unfold Qb6
   rw [HRest.out]
   exact ⟨rfl,HS.out.below HB2.out,Fr.of_below HB2.out⟩
  rw [if_neg h6] at HRest
  have h6':((s.met.length:Int) == 6)=false:=by simp;omega
  go_wp2_with fail
  refine (Qfm (Qad z) w2 (by rw [Qat];omega)).mono ?_
  rintro e w3 ⟨rfl,hb3⟩
  have HB3:=Qab (HB2.out.trans (hb3.mono HB2.out.size))
  have HO3:=Qab (Qbf (P:=fun _ _=>False) HO2.out (Fr.of_below hb3) (fun _ _ h=>h))
  have ha3:=Qal HA2.out hb3
  have s0:w3.cell? ⟨w.heap.size,0,none⟩=some (.int .i64 4):=Qaa ha3 0
  have s1:w3.cell? ⟨w.heap.size,1,none⟩=some (.string (Qad z)):=Qaa ha3 1
  have sf:=Qap ha3
  have s7:w3.cell? ⟨sb,7,none⟩=some (.slice la s.met.length lc):=(hb3.cell (p:=⟨sb,7,none⟩) (Qax r7)).trans r7
  have HA3:=Qab ha3
  have hne:¬ sb=w.heap.size:=by omega
  have hne':¬ w.heap.size=sb:=by omega
  clear hb3 ha3 r7 r1
  go_wp2_with fail
  obtain ⟨V,hV⟩:∃ V,V=w3.setCell ⟨w.heap.size,1,none⟩ (.string (Qad z)):=⟨_,rfl⟩
  have HBV:Hid (Below w.heap.size w V):=by rw [hV];exact HB3.out.setCell (Nat.le_refl _) _
  have hVa:V.heap[w.heap.size]?=some (.cells #[.int .i64 4,.string (Qad z)] 76):=by rw [hV];exact Qah _ _ _ _ _ _ HA3.out
  have HVO:Hid (V.ownsRow B 76 2 (.slice la s.met.length lc) s.met.length (QbN s.met)):=by
   rw [hV]
   exact QbE HO3.out (fun e=>by have:=(HSI.out.met.lt _ e).2;omega) _ _
  have v7:V.cell? ⟨sb,7,none⟩=some (.slice la s.met.length lc):=by rw [hV,World.cell?_of_block (a:=⟨sb,7,none⟩) (Below.heap_setCell _ _ _ _ hne)];exact s7
  have v0:V.cell? ⟨w.heap.size,0,none⟩=some (.int .i64 4):=Qaa hVa 0
  have v1:V.cell? ⟨w.heap.size,1,none⟩=some (.string (Qad z)):=Qaa hVa 1
  have HSV:=Qab (HSI.out.below HBV.out)
  have hVl:=QaH hVa
  have hsV:sb < V.heap.size:=by omega
  rw [← hV]
  have HBs:=HSV.out.bs
  have hrow:¬ (Value.slice la s.met.length lc).ownBlock=some sb:=fun e=>by
   obtain ⟨_,cs,hcs⟩:=QbR HSV.out.met sb _ e HSV.out.blk
   injection hcs with e1 e2
   exact absurd e2 (by decide)
  have HROW:=Qab hrow
  clear hV hVa s7 s0 s1 sf hrow HB3 HO3 HA3
  have hBV:B≤V.heap.size:=by omega
  go_region_law (refine step_append_lies _ rfl (.tmp 52) (.tmp 54) 33 rfl B 76 i0 (.agg #[.int .i64 0,.string ⟨#[]⟩]) 2 24 Tryz.underlying33 hi hz0 hz1 hz2 rfl (by decide) (.slice la s.met.length lc) s.met.length (QbN s.met) (by simp [Act.eval,Act.put]) (HVO.out.alloc _) ⟨V.heap.size,0,none⟩ 1 1 [.int .i64 4,.string (Qad z)] (by simp [Act.eval,Act.put]) rfl (QkI _ (4,z) _) (Qkw (4,z)) (by decide) (by unfold maxLen;omega) (by omega) (by simp;omega) _ rfl ?_;intro g' cap' w5 hown5 hgrow hat hlt5;have HO5:=Qab hown5;have HG5:=Qab hgrow;have t7:w5.cell? ⟨sb,7,none⟩=some (.slice la s.met.length lc):=hgrow.cell (a:=⟨sb,7,none⟩) ((World.cell?_of_block (a:=⟨sb,7,none⟩) (w:=V) (Below.heap_alloc _ _ _ hsV)).trans v7) (fun e=>HROW.out e.symm);have hft:∀ j,w5.frozen? ⟨sb,j,none⟩=false:=fun j=>(World.frozen?_of_block (a:=⟨sb,j,none⟩) (w:=V) ((hgrow.block sb (by simp;omega) (fun e=>HROW.out e.symm)).trans (Below.heap_alloc _ _ _ hsV))).trans (HSV.out.frozen j);clear hown5 hgrow;skip)
  all_goals go_wp2
  all_goals go_ret
  all_goals unfold Qb6
  all_goals rw [HRest.out]
  all_goals have hfin:=HSV.out.regrow ((((Fr.refl _ V).alloc _).drew).grown HG5.out (fun k o e _=>e)) (.slice (some ⟨g',0,none⟩) (s.met.length+1) cap') (s.met++[(4,z)]) (by rw [List.length_append,← QeF];exact HO5.out) (by rw [List.length_append];simp;omega) (by simp)
  all_goals exact ⟨rfl,⟨_,_,_,_,hfin.1⟩,(Fr.of_below HBV.out).trans hfin.2⟩
 rw [decide_eq_false k4] at ek4
 have hza:arg=z:=by have:=HZ.out;unfold cutArg at this;rwa [if_neg k4] at this
 subst hza
 go_enter Tryz.func332,Tryz.ntmps332
 go_wp2_with fail
 obtain ⟨W,hW⟩:∃ W,W=w.alloc (.cells #[.int .i64 kind,.string (Qad arg)] 76):=⟨_,rfl⟩
 have HWB:Hid (Below w.heap.size w W):=by rw [hW];exact (Below.refl _ _).alloc (Nat.le_refl _) _
 have hWa:W.heap[w.heap.size]?=some (.cells #[.int .i64 kind,.string (Qad arg)] 76):=by rw [hW];exact Qay _ _
 have HWA:=Qab hWa
 rw [← hW]
 clear hW
 have d7:W.cell? ⟨sb,7,none⟩=some (.slice la s.met.length lc):=(HWB.out.cell (p:=⟨sb,7,none⟩) hsl).trans c7
 have b0:W.cell? ⟨w.heap.size,0,none⟩=some (.int .i64 kind):=Qaa hWa 0
 have b1:W.cell? ⟨w.heap.size,1,none⟩=some (.string (Qad arg)):=Qaa hWa 1
 have hWl:=QaH hWa
 have hsW:sb < W.heap.size:=by omega
 have HWO:Hid (W.ownsRow B 76 2 (.slice la s.met.length lc) s.met.length (QbN s.met)):=Qbf (P:=fun _ _=>False) HSI.out.met (Fr.of_below HWB.out) (fun _ _ h=>h)
 clear hWa
 cases hmem:QqB (kind,arg) s.met
 rotate_left
 ·rw [hmem] at HRest
  go_region_held3 (fun w'=>w'.cell? ⟨sb,7,none⟩=some (.slice la s.met.length lc)∧w'.cell? ⟨w.heap.size,0,none⟩=some (.int .i64 kind)∧w'.cell? ⟨w.heap.size,1,none⟩=some (.string (Qad arg))) (first | go_keep | exact ⟨q7,q0,q1⟩) (first | (go_at_call 359;refine (QbH B s.met _ (kind,arg) W.drew HWO.out (by omega)).mono ?_;rintro e w1 ⟨rfl,hb1⟩;rw [hmem];have hb2:=Qa4 hb1;have q7:w1.cell? ⟨sb,7,none⟩=some (.slice la s.met.length lc):=(hb2.cell (p:=⟨sb,7,none⟩) hsW).trans d7;have q0:w1.cell? ⟨w.heap.size,0,none⟩=some (.int .i64 kind):=(hb2.cell (p:=⟨w.heap.size,0,none⟩) hWl).trans b0;have q1:w1.cell? ⟨w.heap.size,1,none⟩=some (.string (Qad arg)):=(hb2.cell (p:=⟨w.heap.size,1,none⟩) hWl).trans b1;have HB1:=Qab (HWB.out.trans (hb2.mono HWB.out.size));clear hb1 hb2;skip))
  all_goals go_wp2
  all_goals go_ret
  all_goals unfold Qb6
  all_goals rw [HRest.out]
  all_goals exact ⟨rfl,HS.out.below HB1.out,Fr.of_below HB1.out⟩
 rw [hmem] at HRest
 go_region_held3 (fun w'=>w'.cell? ⟨sb,7,none⟩=some (.slice la s.met.length lc)∧w'.cell? ⟨w.heap.size,0,none⟩=some (.int .i64 kind)∧w'.cell? ⟨w.heap.size,1,none⟩=some (.string (Qad arg))) (first | go_keep | exact ⟨q7,q0,q1⟩) (first | (go_at_call 359;refine (QbH B s.met _ (kind,arg) W.drew HWO.out (by omega)).mono ?_;rintro e w1 ⟨rfl,hb1⟩;rw [hmem];have hb2:=Qa4 hb1;have q7:w1.cell? ⟨sb,7,none⟩=some (.slice la s.met.length lc):=(hb2.cell (p:=⟨sb,7,none⟩) hsW).trans d7;have q0:w1.cell? ⟨w.heap.size,0,none⟩=some (.int .i64 kind):=(hb2.cell (p:=⟨w.heap.size,0,none⟩) hWl).trans b0;have q1:w1.cell? ⟨w.heap.size,1,none⟩=some (.string (Qad arg)):=(hb2.cell (p:=⟨w.heap.size,1,none⟩) hWl).trans b1;have HB1:=Qab (HWB.out.trans (hb2.mono HWB.out.size));have HO1:=Qab (Qbf (P:=fun _ _=>False) HWO.out (Fr.of_below hb2) (fun _ _ h=>h));have HA1:=Qab (Qal HWA.out hb2);clear hb1 hb2;skip))
 all_goals go_wp2_with fail
 all_goals refine (QdA B sb s.met _ (kind,arg) w1 q7 HO1.out (by omega)).mono ?_
 all_goals rintro e w2 ⟨rfl,hb2⟩
 all_goals have HB2:=Qab (HB1.out.trans (hb2.mono HB1.out.size))
 all_goals have HO2:=Qab (Qbf (P:=fun _ _=>False) HO1.out (Fr.of_below hb2) (fun _ _ h=>h))
 all_goals have HA2:=Qab (Qal HA1.out hb2)
 all_goals have r7:w2.cell? ⟨sb,7,none⟩=some (.slice la s.met.length lc):=(hb2.cell (p:=⟨sb,7,none⟩) (Qax q7)).trans q7
 all_goals have r1:w2.cell? ⟨w.heap.size,1,none⟩=some (.string (Qad arg)):=Qaa HA2.out 1
 all_goals clear hb2 q7 q0 q1
 all_goals dsimp only
 all_goals cases hcon:QsJ s.met kind
 rotate_left
 ·rw [hcon] at HRest
  go_wp2
  go_ret
  unfold Qb6
  rw [HRest.out]
  exact ⟨rfl,HS.out.below HB2.out,Fr.of_below HB2.out⟩
 rw [hcon] at HRest
 by_cases h6:s.met.length=6
 ·rw [if_pos h6] at HRest
  have h6':((s.met.length:Int) == 6)=true:=by rw [h6];rfl
  go_wp2
  go_ret
  unfold Qb6
  rw [HRest.out]
  exact ⟨rfl,HS.out.below HB2.out,Fr.of_below HB2.out⟩
 rw [if_neg h6] at HRest
 have h6':((s.met.length:Int) == 6)=false:=by simp;omega
 go_wp2_with fail
 refine (Qfm (Qad arg) w2 (by rw [Qat];omega)).mono ?_
 rintro e w3 ⟨rfl,hb3⟩
 have HB3:=Qab (HB2.out.trans (hb3.mono HB2.out.size))
 have HO3:=Qab (Qbf (P:=fun _ _=>False) HO2.out (Fr.of_below hb3) (fun _ _ h=>h))
 have ha3:=Qal HA2.out hb3
 have s0:w3.cell? ⟨w.heap.size,0,none⟩=some (.int .i64 kind):=Qaa ha3 0
 have s1:w3.cell? ⟨w.heap.size,1,none⟩=some (.string (Qad arg)):=Qaa ha3 1
 have sf:=Qap ha3
 have s7:w3.cell? ⟨sb,7,none⟩=some (.slice la s.met.length lc):=(hb3.cell (p:=⟨sb,7,none⟩) (Qax r7)).trans r7
 have HA3:=Qab ha3
 have hne:¬ sb=w.heap.size:=by omega
 have hne':¬ w.heap.size=sb:=by omega
 clear hb3 ha3 r7 r1
 go_wp2_with fail
 obtain ⟨V,hV⟩:∃ V,V=w3.setCell ⟨w.heap.size,1,none⟩ (.string (Qad arg)):=⟨_,rfl⟩
 have HBV:Hid (Below w.heap.size w V):=by rw [hV];exact HB3.out.setCell (Nat.le_refl _) _
 have hVa:V.heap[w.heap.size]?=some (.cells #[.int .i64 kind,.string (Qad arg)] 76):=by rw [hV];exact Qah _ _ _ _ _ _ HA3.out
 have HVO:Hid (V.ownsRow B 76 2 (.slice la s.met.length lc) s.met.length (QbN s.met)):=by
  rw [hV]
  exact QbE HO3.out (fun e=>by have:=(HSI.out.met.lt _ e).2;omega) _ _
 have v7:V.cell? ⟨sb,7,none⟩=some (.slice la s.met.length lc):=by rw [hV,World.cell?_of_block (a:=⟨sb,7,none⟩) (Below.heap_setCell _ _ _ _ hne)];exact s7
 have v0:V.cell? ⟨w.heap.size,0,none⟩=some (.int .i64 kind):=Qaa hVa 0
 have v1:V.cell? ⟨w.heap.size,1,none⟩=some (.string (Qad arg)):=Qaa hVa 1
 have HSV:=Qab (HSI.out.below HBV.out)
 have hVl:=QaH hVa
 have hsV:sb < V.heap.size:=by omega
 rw [← hV]
 have HBs:=HSV.out.bs
 have hrow:¬ (Value.slice la s.met.length lc).ownBlock=some sb:=fun e=>by
  obtain ⟨_,cs,hcs⟩:=QbR HSV.out.met sb _ e HSV.out.blk
  injection hcs with e1 e2
  exact absurd e2 (by decide)
 have HROW:=Qab hrow
 clear hV hVa s7 s0 s1 sf hrow HB3 HO3 HA3
 have hBV:B≤V.heap.size:=by omega
 go_region_law (refine step_append_lies _ rfl (.tmp 52) (.tmp 54) 33 rfl B 76 i0 (.agg #[.int .i64 0,.string ⟨#[]⟩]) 2 24 Tryz.underlying33 hi hz0 hz1 hz2 rfl (by decide) (.slice la s.met.length lc) s.met.length (QbN s.met) (by simp [Act.eval,Act.put]) (HVO.out.alloc _) ⟨V.heap.size,0,none⟩ 1 1 [.int .i64 kind,.string (Qad arg)] (by simp [Act.eval,Act.put]) rfl (QkI _ (kind,arg) _) (Qkw (kind,arg)) (by decide) (by unfold maxLen;omega) (by omega) (by simp;omega) _ rfl ?_;intro g' cap' w5 hown5 hgrow hat hlt5;have HO5:=Qab hown5;have HG5:=Qab hgrow;have t7:w5.cell? ⟨sb,7,none⟩=some (.slice la s.met.length lc):=hgrow.cell (a:=⟨sb,7,none⟩) ((World.cell?_of_block (a:=⟨sb,7,none⟩) (w:=V) (Below.heap_alloc _ _ _ hsV)).trans v7) (fun e=>HROW.out e.symm);have hft:∀ j,w5.frozen? ⟨sb,j,none⟩=false:=fun j=>(World.frozen?_of_block (a:=⟨sb,j,none⟩) (w:=V) ((hgrow.block sb (by simp;omega) (fun e=>HROW.out e.symm)).trans (Below.heap_alloc _ _ _ hsV))).trans (HSV.out.frozen j);clear hown5 hgrow;skip)
 all_goals go_wp2
 all_goals go_ret
 all_goals unfold Qb6
 all_goals rw [HRest.out]
 all_goals have hfin:=HSV.out.regrow ((((Fr.refl _ V).alloc _).drew).grown HG5.out (fun k o e _=>e)) (.slice (some ⟨g',0,none⟩) (s.met.length+1) cap') (s.met++[(kind,arg)]) (by rw [List.length_append,← QeF];exact HO5.out) (by rw [List.length_append];simp;omega) (by simp)
 all_goals exact ⟨rfl,⟨_,_,_,_,hfin.1⟩,(Fr.of_below HBV.out).trans hfin.2⟩
end
section
open Go.RowKit
attribute [local go_sem ↓] Go.wp_at_zero Go.wp_at_succ
def Qd9 (f:FZ) (w:World) (e:Ending) (w':World):Prop:=
 ∃ b,w.heap.size≤b∧e=.panicked [{ v:=.iface 140 (.pointer (some ⟨b,0,none⟩)),recovered:=false }]∧
  w'.heap[b]?=some (.cells #[.int .i64 f.1,.int .i64 f.2] 145)
def Qm9 (r:Except FZ SS) (B sb:Nat) (M:Msg) (w:World) (e:Ending) (w':World):Prop:=
 Fr (PSt B) w w'∧
 match r with
 | .ok s=>e=.returned (.tuple #[])∧SAt w' B sb M s
 | .error f=>Qd9 f w e w'
def Qu3 (s:SS) (kind:Int) (arg:List UInt8) (at_:Int):Except FZ SS:=
 if (addL s.met kind (expL s arg)).1=0 then .ok (QuY s (addL s.met kind (expL s arg)).2) else .error ((addL s.met kind (expL s arg)).1,at_)
theorem QtN (B sb:Nat) (M:Msg) (s:SS) (kind at_:Int) (arg:List UInt8) (w:World) (h:SAt w B sb M s) (hl:arg.length≤1000000) :
 Calls Tryz.prog 276 #[.pointer (some ⟨sb,0,none⟩),.int .i64 kind,.string (Qad arg),.int .i64 at_] w (Qm9 (Qu3 s kind arg at_) B sb M w):=by
 have HS:=Qab h
 have hel:=Qku s arg 1000000 hl (by decide)
 have HR:Hid (Qu3 s kind arg at_=if (addL s.met kind (expL s arg)).1=0 then .ok (QuY s (addL s.met kind (expL s arg)).2) else .error ((addL s.met kind (expL s arg)).1,at_)):=rfl
 have HT:=Qab (Qk7 B sb M s arg)
 have HA:=Qab (Quj B sb M s kind (expL s arg))
 unfold Qb6 at HA
 generalize expL s arg=x at *
 obtain ⟨q,hq⟩:∃ q,addL s.met kind x=q:=⟨_,rfl⟩
 rw [hq] at HA HR
 obtain ⟨n,l⟩:=q
 clear hq h
 dsimp only at HA HR
 by_cases hn:n=0
 ·subst hn
  rw [if_pos rfl] at HR
  go_enter Tryz.func276,Tryz.ntmps276
  go_wp2_with fail
  go_region_with (first | (go_at_call 329;refine (HT.out w.drew (HS.out.below (Qaz (Below.refl _ _))) hl).mono ?_;rintro e w1 ⟨rfl,hb1⟩;have HB1:=Qab (Qa4 hb1);clear hb1;skip) | (go_at_call 332;refine (HA.out w1 (HS.out.below HB1.out) hel).mono ?_;rintro e w2 ⟨rfl,hs2,hf2⟩;have H2:=Qab hs2;have HF2:=Qab ((Fr.of_below HB1.out).trans hf2);clear hs2 hf2;skip))
  all_goals go_wp2
  all_goals go_end0
  all_goals rw [HR.out]
  all_goals exact ⟨HF2.out,rfl,H2.out⟩
 ·rw [if_neg hn] at HR
  have hn':(n != 0)=true:=by simp [hn]
  go_enter Tryz.func276,Tryz.ntmps276
  go_wp2_with fail
  go_region_with (first | (go_at_call 329;refine (HT.out w.drew (HS.out.below (Qaz (Below.refl _ _))) hl).mono ?_;rintro e w1 ⟨rfl,hb1⟩;have HB1:=Qab (Qa4 hb1);clear hb1;skip) | (go_at_call 332;refine (HA.out w1 (HS.out.below HB1.out) hel).mono ?_;rintro e w2 ⟨rfl,hs2,hf2⟩;have H2:=Qab hs2;have HF2:=Qab ((Fr.of_below HB1.out).trans hf2);clear hs2 hf2;skip))
  all_goals go_wp2_with (go_at_call 118;refine (QaB _ _ _).mono ?_;rintro e w3 ⟨rfl,rfl⟩)
  all_goals refine ⟨rfl,?_⟩
  all_goals rw [HR.out]
  all_goals exact ⟨HF2.out.alloc _,w2.heap.size,HF2.out.size,rfl,Qay _ _⟩
theorem QqZ (B sb:Nat) (M:Msg) (s:SS) (w:World) (h:SAt w B sb M s) :
 Calls Tryz.prog 197 #[.pointer (some ⟨sb,0,none⟩)] w (Qm9 (.ok (QsV s)) B sb M w):=by
 obtain ⟨hv,mb,tv,mv,hSI⟩:=h
 have c8:w.cell? ⟨sb,8,none⟩=some (.bool s.disc):=hSI.cell 8
 have f8:=hSI.frozen 8
 have HSI:=Qab hSI
 clear hSI
 go_enter Tryz.func197,Tryz.ntmps197
 go_wp2
 go_end0
 have hf:Fr (fun k _=>k=sb) w (w.setCell ⟨sb,8,none⟩ (.bool true)):=(Fr.refl _ w).set HSI.out.blk rfl 8 _
 have hne:∀ (k:Nat) (o:Obj),w.heap[k]?=some o→(∀ cs,o≠.cells cs 323)→(w.setCell ⟨sb,8,none⟩ (.bool true)).heap[k]?=some o:=fun k o hk ho=>hf.block k o hk (fun e=>by
  subst e;rw [HSI.out.blk] at hk;cases hk;exact ho _ rfl)
 have h:=HSI.out
 obtain ⟨es,c,hm,hu⟩:=h.mp
 obtain ⟨m,h7⟩:=h.m1
 refine ⟨(Fr.refl _ w).set h.blk h.ps 8 _,rfl,hv,mb,tv,mv,h.bs,h.bm,h.b1,⟨m,?_⟩,?_,?_,⟨es,c,hne _ _ hm (fun cs e=>by cases e),hu⟩,?_,?_,h.mn,⟨h.bd.fr,h.bd.to,h.bd.hl,h.bd.hd,h.bd.told,h.bd.tl,h.bd.vals,h.bd.met⟩⟩
 ·have:(1:Nat)≠sb:=by have:=h.b1;have:=h.bs;omega
  rw [World.cell?_of_block (a:=⟨1,0,none⟩) (Below.heap_setCell _ _ _ _ this)];exact h7
 ·exact Qah _ _ _ _ _ _ h.blk
 ·rcases h.hd with h' | ⟨g,c,cs,hv',hb,hc⟩
  ·exact Or.inl h'
  ·exact Or.inr ⟨g,c,cs,hv',hne _ _ hb (fun cs e=>by injection e with e1 e2;exact absurd e2 (by decide)),hc⟩
 ·rcases h.told with h' | ⟨g,c,hv',cs,hb,hc⟩
  ·exact Or.inl h'
  ·exact Or.inr ⟨g,c,hv',cs,hne _ _ hb (fun cs e=>by injection e with e1 e2;exact absurd e2 (by decide)),hc⟩
 ·obtain ⟨h1,h2⟩:=h.met
  refine ⟨h1,?_⟩
  rcases h2 with h2 | ⟨g,cap,cur,hv',hg,hh,r⟩
  ·exact Or.inl h2
  ·exact Or.inr ⟨g,cap,cur,hv',hg,hne _ _ hh (fun cs e=>by injection e with e1 e2;exact absurd e2 (by decide)),r⟩
theorem Qt8 (B sb:Nat) (M:Msg) (s:SS) (tag n:Int) (w:World) (h:SAt w B sb M s) :
 Calls Tryz.prog 275 #[.pointer (some ⟨sb,0,none⟩),.int .i64 tag,.int .i64 n] w fun e w'=>e=.returned (.bool (sizeB M tag n))∧w'=w:=by
 obtain ⟨hv,mb,tv,mv,hSI⟩:=h
 have c2:w.cell? ⟨sb,2,none⟩=some (.int .i64 M.size):=hSI.cell 2
 have et:=QeU tag 2
 have HR:Hid (sizeB M tag n=if tag=2 then decide (M.size < n) else decide (n < M.size)):=rfl
 clear hSI
 by_cases h2:tag=2
 ·rw [decide_eq_true h2] at et
  rw [if_pos h2] at HR
  clear h2
  go_enter Tryz.func275,Tryz.ntmps275
  go_wp2
  all_goals go_ret
  all_goals exact ⟨QaW (by rw [HR.out]),rfl⟩
 ·rw [decide_eq_false h2] at et
  rw [if_neg h2] at HR
  clear h2
  go_enter Tryz.func275,Tryz.ntmps275
  go_wp2
  all_goals go_ret
  all_goals exact ⟨QaW (by rw [HR.out]),rfl⟩
end
end Go.Proofs.YtbiclelojbfnbaaGreatDoor
