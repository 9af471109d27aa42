import Derived.Test.YtbiclelojbfnbaaGreatDoorZMapLit
import Derived.Test.YtbiclelojbfnbaaGreatDoorZWChoice
namespace Go.Proofs.YtbiclelojbfnbaaGreatDoor
set_option linter.unusedVariables false
set_option linter.unusedSimpArgs false
set_option maxRecDepth 100000
set_option maxHeartbeats 4000000
section
open Go.RowKit
attribute [local go_sem ↓] Go.wp_at_zero Go.wp_at_succ
theorem Qim (hw i:List UInt8) (p:Nat) (w:World) (hl:hw.length≤100) :
 Calls Tryz.prog 114 #[.iface 336 (.agg #[.string (Qad hw),.int .i64 p]),.string (Qad i)] w fun e w'=>e=.returned (.string (Qad (hw++[59])))∧Below w.heap.size w w':=by
 have n0:=Tryz.noIf
 have n1:=Tryz.noSet
 have n2:=Tryz.noAct
 have mN:=Tryz.nameDiscard
 have hsA:∀ x:List UInt8,(Qad x).size=x.length:=Qat
 have hap1:Qad hw++(⟨#[59]⟩:ByteArray)=Qad (hw++[59]):=Qa3 hw [59]
 have q1:¬ 9223372036854775807 < hw.length+1:=by omega
 go_enter Tryz.func114,Tryz.ntmps114
 go_wp2
 go_ret
 exact ⟨rfl,(Below.refl _ _).alloc (Nat.le_refl _) _⟩
theorem Qmp (hw i:List UInt8) (p:Nat) (w:World) (hl:hw.length≤100) :
 Calls Tryz.prog 114 #[.iface 337 (.agg #[.string (Qad hw),.int .i64 p]),.string (Qad i)] w fun e w'=>e=.returned (.string (Qad (hw++[59])))∧Below w.heap.size w w':=by
 have n0:=Tryz.noIf
 have n1:=Tryz.noSet
 have n2:=Tryz.noAct
 have mN:=Tryz.nameStop
 have hsA:∀ x:List UInt8,(Qad x).size=x.length:=Qat
 have hap1:Qad hw++(⟨#[59]⟩:ByteArray)=Qad (hw++[59]):=Qa3 hw [59]
 have q1:¬ 9223372036854775807 < hw.length+1:=by omega
 go_enter Tryz.func114,Tryz.ntmps114
 go_wp2
 go_ret
 exact ⟨rfl,(Below.refl _ _).alloc (Nat.le_refl _) _⟩
theorem Qmd (hw i x:List UInt8) (p:Nat) (w:World) (hl:hw.length≤100) :
 Calls Tryz.prog 114 #[.iface 318 (.agg #[.string (Qad hw),.int .i64 p,.int .i64 1,.string (Qad x)]),.string (Qad i)] w fun e w'=>e=.returned (.string (Qad (hw++[59])))∧Below w.heap.size w w':=by
 have n0:=Tryz.noIf
 have n1:=Tryz.noSet
 have yy:=Tryz.yesAct
 have mN:=Tryz.nameAct
 have hsA:∀ x:List UInt8,(Qad x).size=x.length:=Qat
 have hap1:Qad hw++(⟨#[59]⟩:ByteArray)=Qad (hw++[59]):=Qa3 hw [59]
 have q1:¬ 9223372036854775807 < hw.length+1:=by omega
 go_enter Tryz.func114,Tryz.ntmps114
 go_wp2
 go_ret
 exact ⟨rfl,((Below.refl _ _).alloc (Nat.le_refl _) _).alloc (by simp) _⟩
theorem QfS (hw i x:List UInt8) (p kd:Nat) (w:World) (hk:2≤kd) (hk4:kd≤4) (hl:(phraseL [hw,quotedL x]).length≤4294967200) :
 Calls Tryz.prog 114 #[.iface 318 (.agg #[.string (Qad hw),.int .i64 p,.int .i64 kd,.string (Qad x)]),.string (Qad i)] w fun e w'=>e=.returned (.string (Qad (phraseL [hw,quotedL x]++[59])))∧Below w.heap.size w w':=by
 have n0:=Tryz.noIf
 have n1:=Tryz.noSet
 have yy:=Tryz.yesAct
 have hkn:((kd:Int) != 1)=true:=by simp;omega
 have HL:Hid ((phraseL [hw,quotedL x]).length≤4294967280):=Nat.le_trans hl (by omega)
 have hxl:(Qad x).size≤4294967280:=by
  rw [Qat]
  have h1:=QbA (ps:=[hw,quotedL x]) (p:=quotedL x) (by simp)
  have h2:=(QfM (xs:=[x]) (x:=x) (by simp)).1
  have h3:Qak [x]=quotedL x:=rfl
  rw [h3] at h2
  omega
 obtain ⟨ph,hph⟩:∃ ph,phraseL [hw,quotedL x]=ph:=⟨_,rfl⟩
 rw [hph] at hl ⊢
 have HPH:=Qab hph
 have hsA:∀ x:List UInt8,(Qad x).size=x.length:=Qat
 have hap1:Qad ph++(⟨#[59]⟩:ByteArray)=Qad (ph++[59]):=Qa3 ph [59]
 have q1:¬ 9223372036854775807 < ph.length+1:=by omega
 have HXL:=Qab hxl
 clear hph hl hxl
 go_enter Tryz.func114,Tryz.ntmps114
 go_wp2_with fail
 refine Qb5 (P:=fun W=>Code.wp _ _ _ _ W) (w:=w) (B:=w.heap.size) (o:=.cells #[.string (Qad hw),.int .i64 p,.int .i64 kd,.string (Qad x)] 318) ((Below.refl _ _).alloc (Nat.le_refl _) _) (Qay _ _) ?_
 intro W hWB hWb
 have c0:W.cell? ⟨w.heap.size,0,none⟩=some (.string (Qad hw)):=Qaa hWb 0
 have c3:W.cell? ⟨w.heap.size,3,none⟩=some (.string (Qad x)):=Qaa hWb 3
 have HWB:=Qab hWB
 have HWb:=Qab hWb
 have hWs:=hWB.size
 have hWl:=QaH hWb
 clear hWB hWb
 go_region_held3 (fun w'=>w'.cell? ⟨w.heap.size,0,none⟩=some (.string (Qad hw))∧w'.cell? ⟨w.heap.size,3,none⟩=some (.string (Qad x))) (first | go_keep | exact ⟨Qaa (Qac HW1.out) 0,Qaa (Qac HW1.out) 3⟩) (first
  | (go_at_call 181;refine (QbU [hw,quotedL x] _ 2 2 _ (Qa8 w1 [hw,quotedL x] _ _ rfl) rfl (by simp) HL.out).mono ?_;rintro e w3 ⟨rfl,rfl⟩;rw [HPH.out];skip)
  | (go_at_call 112;refine (QdF (Qad x) W.drew HXL.out).mono ?_;rintro e w1 ⟨rfl,hB1⟩;rw [show (Qad x).data.toList=x from rfl];have HB1:=Qab (HWB.out.drew.trans (hB1.mono hWs));have HW1:=Qab (Qal (w:=W.drew) HWb.out hB1);have d0:w1.cell? ⟨w.heap.size,0,none⟩=some (.string (Qad hw)):=Qaa HW1.out 0;have d3:w1.cell? ⟨w.heap.size,3,none⟩=some (.string (Qad x)):=Qaa HW1.out 3;have h1s:=HB1.out.size;clear hB1;skip))
 all_goals go_wp2
 all_goals go_ret
 all_goals exact ⟨rfl,Qba HB1.out (Nat.le_refl _) _⟩
theorem Qoz (hw i var x:List UInt8) (p tag:Nat) (w:World) (ht:tag≤3) (hl:(phraseL [hw,tagTextL tag [Qbn,Qbm,Qa1],quotedL var,quotedL x]).length≤4294967200) :
 Calls Tryz.prog 114 #[.iface 313 (.agg #[.string (Qad hw),.int .i64 p,.int .i64 tag,.string (Qad var),.string (Qad x)]),.string (Qad i)] w fun e w'=>e=.returned (.string (Qad (phraseL [hw,tagTextL tag [Qbn,Qbm,Qa1],quotedL var,quotedL x]++[59])))∧Below w.heap.size w w':=by
 have n0:=Tryz.noIf
 have yy:=Tryz.yesSet
 have hq:∀ z,quotedL z∈[hw,tagTextL tag [Qbn,Qbm,Qa1],quotedL var,quotedL x]→(Qad z).size≤4294967280:=fun z hz=>by
  rw [Qat]
  have h1:=QbA hz
  have h2:=(QfM (xs:=[z]) (x:=z) (by simp)).1
  have h3:Qak [z]=quotedL z:=rfl
  rw [h3] at h2
  omega
 have HXV:=Qab (hq var (by simp))
 have HXL:=Qab (hq x (by simp))
 have HL:Hid ((phraseL [hw,tagTextL tag [Qbn,Qbm,Qa1],quotedL var,quotedL x]).length≤4294967280):=Nat.le_trans hl (by omega)
 obtain ⟨tt,htt⟩:∃ tt,tagTextL tag [Qbn,Qbm,Qa1]=tt:=⟨_,rfl⟩
 rw [htt] at hl HL ⊢
 obtain ⟨ph,hph⟩:∃ ph,phraseL [hw,tt,quotedL var,quotedL x]=ph:=⟨_,rfl⟩
 rw [hph] at hl ⊢
 have HPH:=Qab hph
 have HTT:=Qab htt
 have hsA:∀ x:List UInt8,(Qad x).size=x.length:=Qat
 have hap1:Qad ph++(⟨#[59]⟩:ByteArray)=Qad (ph++[59]):=Qa3 ph [59]
 have q1:¬ 9223372036854775807 < ph.length+1:=by omega
 clear hph hl htt hq
 go_enter Tryz.func114,Tryz.ntmps114
 go_wp2_with fail
 refine Qb5 (P:=fun W=>Code.wp _ _ _ _ W) (w:=w) (B:=w.heap.size) (o:=.cells #[.string (Qad hw),.int .i64 p,.int .i64 tag,.string (Qad var),.string (Qad x)] 313) ((Below.refl _ _).alloc (Nat.le_refl _) _) (Qay _ _) ?_
 intro W hWB hWb
 have c0:W.cell? ⟨w.heap.size,0,none⟩=some (.string (Qad hw)):=Qaa hWb 0
 have c2:W.cell? ⟨w.heap.size,2,none⟩=some (.int .i64 tag):=Qaa hWb 2
 have c3:W.cell? ⟨w.heap.size,3,none⟩=some (.string (Qad var)):=Qaa hWb 3
 have c4:W.cell? ⟨w.heap.size,4,none⟩=some (.string (Qad x)):=Qaa hWb 4
 have HWB:=Qab hWB
 have HWb:=Qab hWb
 have hWs:=hWB.size
 have hWl:=QaH hWb
 clear hWB hWb
 go_region_held3 (fun w'=>w'.cell? ⟨w.heap.size,0,none⟩=some (.string (Qad hw))∧w'.cell? ⟨w.heap.size,2,none⟩=some (.int .i64 tag)∧w'.cell? ⟨w.heap.size,3,none⟩=some (.string (Qad var))∧w'.cell? ⟨w.heap.size,4,none⟩=some (.string (Qad x))) (first | go_keep | exact ⟨Qaa (Qac HW2.out) 0,Qaa (Qac HW2.out) 2,Qaa (Qac HW2.out) 3,Qaa (Qac HW2.out) 4⟩ | exact ⟨Qaa (Qac HWb.out) 0,Qaa (Qac HWb.out) 2,Qaa (Qac HWb.out) 3,Qaa (Qac HWb.out) 4⟩) (first
  | (go_at_call 181;refine (QbU [hw,tt,quotedL var,quotedL x] _ 4 4 _ (Qa8 w2 [hw,tt,quotedL var,quotedL x] _ _ rfl) rfl (by simp) HL.out).mono ?_;rintro e w3 ⟨rfl,rfl⟩;rw [HPH.out];skip)
  | (go_at_call 183;refine (Qhu _).mono ?_;rintro e w' ⟨rfl,rfl⟩;skip)
  | (go_at_call 182;refine (Qex tag _ 3 3 [Qbn,Qbm,Qa1] _ ((QbK (w:=W) (g:=W.heap.size) [Qbn,Qbm,Qa1] 9 rfl).drew) rfl (by decide) ht).mono ?_;rintro e w' ⟨rfl,rfl⟩;rw [HTT.out];skip)
  | (have gg:=HB1;go_at_call 112;refine (QdF (Qad x) w1 HXL.out).mono ?_;rintro e w2 ⟨rfl,hB2⟩;rw [show (Qad x).data.toList=x from rfl];have HB2:=Qab (HB1.out.trans (hB2.mono h1s));have HW2:=Qab (Qal HW1.out hB2);have f0:w2.cell? ⟨w.heap.size,0,none⟩=some (.string (Qad hw)):=Qaa HW2.out 0;have f2:w2.cell? ⟨w.heap.size,2,none⟩=some (.int .i64 tag):=Qaa HW2.out 2;have f3:w2.cell? ⟨w.heap.size,3,none⟩=some (.string (Qad var)):=Qaa HW2.out 3;have f4:w2.cell? ⟨w.heap.size,4,none⟩=some (.string (Qad x)):=Qaa HW2.out 4;clear hB2;skip)
  | (go_at_call 112;refine (QdF (Qad var) (W.alloc (.cells (QaN [Qbn,Qbm,Qa1]).toArray 9)).drew HXV.out).mono ?_;rintro e w1 ⟨rfl,hB1⟩;rw [show (Qad var).data.toList=var from rfl];have HB1:=Qab (((Qba HWB.out (Nat.le_refl _) (.cells (QaN [Qbn,Qbm,Qa1]).toArray 9)).drew).trans (hB1.mono (by simp;omega)));have HW1:=Qab (Qal (w:=(W.alloc (.cells (QaN [Qbn,Qbm,Qa1]).toArray 9)).drew) (Qac HWb.out) hB1);have d0:w1.cell? ⟨w.heap.size,0,none⟩=some (.string (Qad hw)):=Qaa HW1.out 0;have d2:w1.cell? ⟨w.heap.size,2,none⟩=some (.int .i64 tag):=Qaa HW1.out 2;have d3:w1.cell? ⟨w.heap.size,3,none⟩=some (.string (Qad var)):=Qaa HW1.out 3;have d4:w1.cell? ⟨w.heap.size,4,none⟩=some (.string (Qad x)):=Qaa HW1.out 4;have h1s:=HB1.out.size;clear hB1;skip))
 all_goals go_wp2
 all_goals go_ret
 all_goals exact ⟨rfl,Qba HB2.out (Nat.le_refl _) _⟩
theorem Qpw (hw i t:List UInt8) (p:Nat) (g n c:Nat) (els:Bool) (ea:Option Addr) (en ec:Nat) (w:World)
 (hc:∀ W,Below w.heap.size w W→Calls Tryz.prog 180 #[.agg #[.string (Qad hw),.int .i64 p,.slice (some ⟨g,0,none⟩) n c,.bool els,.slice ea en ec],.string (Qad i)] W fun e w'=>e=.returned (.string (Qad t))∧Below W.heap.size W w') :
 Calls Tryz.prog 114 #[.iface 310 (.agg #[.string (Qad hw),.int .i64 p,.slice (some ⟨g,0,none⟩) n c,.bool els,.slice ea en ec]),.string (Qad i)] w fun e w'=>e=.returned (.string (Qad t))∧Below w.heap.size w w':=by
 have yy:=Tryz.yesIf
 have HC:=Qab hc
 have hB0:∀ o,Below w.heap.size w (w.alloc o):=fun o=>(Below.refl _ _).alloc (Nat.le_refl _) o
 have HB0:=Qab hB0
 clear hc hB0
 go_enter Tryz.func114,Tryz.ntmps114
 go_wp2_with fail
 refine (HC.out _ (HB0.out _)).mono ?_
 rintro e w1 ⟨rfl,hB1⟩
 have HB1:=Qab ((HB0.out _).trans (hB1.mono (by simp)))
 clear hB1
 go_wp2
 go_ret
 exact ⟨rfl,HB1.out⟩
end
section
open Go.RowKit
attribute [local go_sem ↓] Go.wp_at_zero Go.wp_at_succ
def CmdIH (req:List (List UInt8)) (n:Nat):Prop:=
 ∀ (X:Nat→Prop) (x:Qcd n) (i:List UInt8) (w:World) (v:Value),Qg0 n X x w v→QhX (WfT req) (WfC req) n x→Tab w→(Qaw n x i).length≤4294967200→
  Calls Tryz.prog 114 #[v,.string (Qad i)] w fun e w'=>e=.returned (.string (Qad (Qaw n x i)))∧Below w.heap.size w w'
theorem Qi6 {req:List (List UInt8)} {n:Nat} (ih:CmdIH req n) (X:Nat→Prop) (cs:List (Qcd n)) (i:List UInt8) (w:World) (v:Value) (h:blX X (Qg0 n) cs w v) (ha:∀ c∈cs,QhX (WfT req) (WfC req) n c) (ht:Tab w) (hl:(linesL (Qaw n) cs i).length≤4294967200):Qkf w v i (linesL (Qaw n) cs i):=fun W hW=>by
 rw [QoW] at hl ⊢
 rcases h with ⟨rfl,rfl⟩ | ⟨hne,g,c,rfl,hg,hx⟩
 ·exact Qrn i W
 ·have hlen:(cs.map fun c=>Qaw n c i).length=cs.length:=by simp
  rw [← hlen]
  refine Qqe i g c _ W (by simpa using hne) (by omega) (fun j hj=>?_)
  rw [hlen] at hj
  obtain ⟨u,hcu,hvu⟩:=hx j hj
  obtain ⟨ty,y,rfl⟩:=(QaY n).form _ _ _ _ hvu
  refine ⟨ty,y,by rw [hW.cell (p:=⟨g,j,none⟩) (Qax hcu)];exact hcu,?_⟩
  have hmem:cs[j]∈cs:=List.getElem_mem hj
  have hd:(cs.map fun c=>Qaw n c i).getD j []=Qaw n cs[j] i:=by
   rw [List.getD_eq_getElem?_getD,List.getElem?_map,List.getElem?_eq_getElem hj];rfl
  rw [hd]
  intro W2 hW2
  have hWW:=hW.trans (hW2.mono hW.size)
  exact ih X cs[j] i W2 _ ((QaY n).keep _ _ _ _ _ hvu (fun k _ hk=>hWW.block k hk)) (ha _ hmem) (ht.below hWW) (Nat.le_trans (QgJ i (cs.map fun c=>Qaw n c i) _ (List.mem_map_of_mem (f:=fun c=>Qaw n c i) hmem)) hl)
theorem QiI (req:List (List UInt8)):∀ n,CmdIH req n
 | 0=>fun X x i w v h ha _ _=>ha.elim
 | n+1=>fun X x i w v h ha ht hlen=>by
  have ih:=QiI req n
  obtain ⟨hw,harms,hels⟩:=ha
  have h:Qhe X (TestV n) (Qg0 n) x w v:=h
  have hlen:(cmdNode x.1 i (x.2.1.map fun a=>(Qaj n a.1,linesL (Qaw n) a.2 (i++[32,32]))) (linesL (Qaw n) x.2.2 (i++[32,32]))).length≤4294967200:=hlen
  show Calls Tryz.prog 114 #[v,.string (Qad i)] w fun e w'=>e=.returned (.string (Qad (cmdNode x.1 i (x.2.1.map fun a=>(Qaj n a.1,linesL (Qaw n) a.2 (i++[32,32]))) (linesL (Qaw n) x.2.2 (i++[32,32])))))∧Below w.heap.size w w'
  generalize hal:(x.2.1.map fun a=>(Qaj n a.1,linesL (Qaw n) a.2 (i++[32,32])))=al at hlen
  generalize heb:linesL (Qaw n) x.2.2 (i++[32,32])=eb at hlen
  unfold Qhe at h
  split at h
  ·rename_i e
   subst h
   have et:cmdNode x.1 i al eb=Qfa++[59]:=by unfold cmdNode;rw [e];rfl
   rw [et]
   exact Qmd Qfa i [] _ w (by decide)
  ·rename_i e
   subst h
   have et:cmdNode x.1 i al eb=QbV++[59]:=by unfold cmdNode;rw [e];rfl
   rw [et]
   exact Qim QbV i _ w (by decide)
  ·rename_i e
   subst h
   have et:cmdNode x.1 i al eb=Qe3++[59]:=by unfold cmdNode;rw [e];rfl
   rw [et]
   exact Qmp Qe3 i _ w (by decide)
  ·rename_i e
   subst h
   have et:cmdNode x.1 i al eb=phraseL [QaK,quotedL x.1.arg]++[59]:=by unfold cmdNode;rw [e];rfl
   rw [et] at hlen ⊢
   rw [List.length_append] at hlen
   exact QfS QaK i _ _ 2 w (by omega) (by omega) (by omega)
  ·rename_i e
   subst h
   have et:cmdNode x.1 i al eb=phraseL [Qbk,quotedL x.1.arg]++[59]:=by unfold cmdNode;rw [e];rfl
   rw [et] at hlen ⊢
   rw [List.length_append] at hlen
   exact QfS Qbk i _ _ 3 w (by omega) (by omega) (by omega)
  ·rename_i e
   subst h
   have et:cmdNode x.1 i al eb=phraseL [Qbb,quotedL x.1.arg]++[59]:=by unfold cmdNode;rw [e];rfl
   rw [et] at hlen ⊢
   rw [List.length_append] at hlen
   exact QfS Qbb i _ _ 4 w (by omega) (by omega) (by omega)
  ·rename_i e
   subst h
   have et:cmdNode x.1 i al eb=phraseL [Qgh,tagTextL x.1.tag [Qbn,Qbm,Qa1],quotedL x.1.var,quotedL x.1.arg]++[59]:=by unfold cmdNode;rw [e];rfl
   rw [et] at hlen ⊢
   rw [List.length_append] at hlen
   exact Qoz Qgh i _ _ _ _ w hw.tag (by omega)
  ·rename_i h0 h1 h2 h3 h4 h5 h6
   obtain ⟨av,ev,rfl,hav,hne,hev⟩:=h
   have e:x.1.kind=7:=by
    have a0:x.1.kind≠0:=h0
    have a1:x.1.kind≠1:=h1
    have a2:x.1.kind≠2:=h2
    have a3:x.1.kind≠3:=h3
    have a4:x.1.kind≠4:=h4
    have a5:x.1.kind≠5:=h5
    have a6:x.1.kind≠6:=h6
    have:=hw.kind
    omega
   have et:cmdNode x.1 i al eb=QaX i kIf al++(if x.1.els then Qdw++eb++i else [])++[125]:=by unfold cmdNode;rw [e];rfl
   rw [et] at hlen ⊢
   obtain ⟨g,c,rfl,hg,hx⟩:=hav
   obtain ⟨ea,en,ec,rfl⟩:=hev.form
   have hall:al.length=x.2.1.length:=by rw [← hal];simp
   have hl1:(QaX i kIf al).length≤4294967200:=by rw [List.length_append,List.length_append] at hlen;omega
   rw [← hall]
   refine Qpw kIf i _ _ g _ c _ ea en ec w (fun W hW=>?_)
   refine Qjv i _ g c x.1.els ea en ec al eb W (by rw [← hal];simpa using hne) (fun j hj=>?_) (fun he=>?_) (by omega)
   ·have hj':j < x.2.1.length:=by rw [← hall];exact hj
    obtain ⟨u,bv,hu,hb,hp,hq⟩:=hx j hj'
    obtain ⟨ty,y,rfl⟩:=(Qbl n).form _ _ _ _ hp
    obtain ⟨a,m,c',rfl⟩:=hq.form
    have hmem:x.2.1[j]∈x.2.1:=List.getElem_mem hj'
    have hget:al[j]=(Qaj n x.2.1[j].1,linesL (Qaw n) x.2.1[j].2 (i++[32,32])):=by
     simp only [← hal,List.getElem_map]
    have hmm:=QfJ i al kIf al[j] (List.getElem_mem hj)
    rw [hget] at hmm ⊢
    obtain ⟨m1,m2⟩:=hmm
    have hT:=harms _ hmem
    refine ⟨ty,y,a,m,c',by rw [hW.cell (p:=⟨g,2*j,none⟩) (Qax hu)];exact hu,by rw [hW.cell (p:=⟨g,2*j+1,none⟩) (Qax hb)];exact hb,fun W2 hW2=>?_,?_⟩
    ·have hWW:=hW.trans (hW2.mono hW.size)
     exact Qhv n X _ W2 _ ((Qbl n).keep _ _ _ _ _ hp (fun k _ hk=>hWW.block k hk)) hT.1 (ht.below hWW) (by dsimp only at m1;omega)
    ·exact (Qi6 ih X _ _ w _ hq hT.2 ht (by dsimp only at m2;omega)).below hW
   ·have hl2:eb.length≤4294967200:=by
     rw [he] at hlen
     simp only [if_true,List.length_append] at hlen
     omega
    rw [← heb] at hl2 ⊢
    exact (Qi6 ih X _ _ w _ hev hels ht hl2).below hW
theorem Qm6 (y:List (List UInt8)×List (Qcd 7)) (rv lv:Value) (w:World) (X:Nat→Prop) (hr:QjJ X y.1 w rv) (hb:blX X (Qg0 7) y.2 w lv) (ht:Tab w) (ha:∀ c∈y.2,QhX (WfT y.1) (WfC y.1) 7 c) (hl:(QcL y).length≤4294967200) :
 Calls Tryz.prog 46 #[.agg #[rv,lv]] w fun e w'=>e=.returned (.string (Qad (QcL y)))∧Below w.heap.size w w':=by
 have hln:=Qi6 (QiI y.1 7) X y.2 [] w lv hb ha ht (by unfold QcL at hl;rw [List.length_append] at hl;omega)
 have HX:Hid (QcL y=requireTxt y.1++linesL (Qaw 7) y.2 []):=rfl
 have hl':(requireTxt y.1).length+(linesL (Qaw 7) y.2 []).length≤4294967200:=by unfold QcL at hl;rw [List.length_append] at hl;exact hl
 obtain ⟨la,ln,lc,rfl⟩:=hb.form
 generalize linesL (Qaw 7) y.2 []=L at HX hln hl'
 have HLN:=Qab hln
 clear hln hb ha
 have hB0:∀ o,Below w.heap.size w (w.alloc o):=fun o=>(Below.refl _ _).alloc (Nat.le_refl _) o
 have HB0:=Qab hB0
 have hsA:∀ x:List UInt8,(Qad x).size=x.length:=Qat
 clear hB0
 rcases hr with ⟨h0,rfl⟩ | ⟨gr,cr,rfl,hgr,htr,hnr⟩
 ·have hR:requireTxt y.1=[]:=by unfold requireTxt;rw [if_pos h0]
  rw [hR,List.nil_append] at HX
  have HX':Hid (QcL y=L):=HX.out
  clear HX hl
  have q1:¬ 9223372036854775807 < L.length:=by omega
  have hap1:(⟨#[]⟩:ByteArray)++Qad L=Qad L:=Qa3 [] L
  go_enter Tryz.func46,Tryz.ntmps46
  go_wp2_with fail
  refine (HLN.out _ (HB0.out _)).mono ?_
  rintro e w1 ⟨rfl,hB1⟩
  have HB1:=Qab ((HB0.out _).trans (hB1.mono (by simp)))
  clear hB1
  go_wp2
  go_ret
  exact ⟨by rw [HX'.out];rfl,HB1.out⟩
 ·have hR:requireTxt y.1=kRequire++[32]++Qak y.1++[59,10]:=by unfold requireTxt;rw [if_neg hnr]
  have hrl:(requireTxt y.1).length=10+(Qak y.1).length:=by
   rw [hR];simp only [List.length_append,List.length_cons,List.length_nil,show kRequire.length=7 from rfl];omega
  have hql:(Qak y.1).length≤4294967280:=by omega
  have hpos:(0:Int) < (y.1.length:Int):=by have:=List.length_pos_iff.2 hnr;omega
  have HTR:Hid (∀ o,TxtAt (w.alloc o) gr y.1):=fun o=>htr.alloc o
  generalize hQ:Qak y.1=Q at hR hrl hql
  obtain ⟨A,hA⟩:∃ A,kRequire++[32]++Q=A:=⟨_,rfl⟩
  rw [hA] at hR
  have hAl:A.length=8+Q.length:=by rw [← hA];simp only [List.length_append,List.length_cons,List.length_nil,show kRequire.length=7 from rfl]
  generalize requireTxt y.1=R at HX hR hrl hl'
  obtain ⟨Z,hZ⟩:∃ Z,R++L=Z:=⟨_,rfl⟩
  have HX':Hid (QcL y=Z):=by rw [← hZ];exact HX.out
  have hap1:(⟨#[114,101,113,117,105,114,101,32]⟩:ByteArray)++Qad Q=Qad A:=by rw [← hA];exact Qa3 (kRequire++[32]) Q
  have hap2:Qad A++(⟨#[59,10]⟩:ByteArray)=Qad R:=by rw [hR];exact Qa3 A [59,10]
  have hap3:Qad R++Qad L=Qad Z:=by rw [← hZ];exact Qa3 R L
  have q1:¬ 9223372036854775807 < 8+Q.length:=by omega
  have q2:¬ 9223372036854775807 < A.length+2:=by omega
  have q3:¬ 9223372036854775807 < R.length+L.length:=by omega
  have HQ:=Qab hQ
  have HQL:Hid ((Qak y.1).length≤4294967280):=by show (Qak y.1).length≤_;rw [hQ];exact hql
  clear HX hl hQ hA hR hrl hAl hZ hl' htr hql
  generalize hyn:y.1.length=yn at hpos
  have HYN:=Qab hyn
  clear hyn
  go_enter Tryz.func46,Tryz.ntmps46
  go_wp2_with fail
  refine (Qck y.1 gr yn cr _ (HTR.out _) HYN.out.symm hnr HQL.out).mono ?_
  rintro e w1 ⟨rfl,hB1⟩
  rw [HQ.out]
  have HB1:=Qab ((HB0.out _).trans (hB1.mono (by simp)))
  have hblk:=Qal (Qay w (.cells #[.slice (some ⟨gr,0,none⟩) yn cr,.slice la ln lc] 97)) hB1
  have c1:w1.cell? ⟨w.heap.size,1,none⟩=some (.slice la ln lc):=Qaa hblk 1
  have h1s:=HB1.out.size
  clear hB1 hblk
  go_wp2_with fail
  refine (HLN.out _ HB1.out).mono ?_
  rintro e w2 ⟨rfl,hB2⟩
  have HB2:=Qab (HB1.out.trans (hB2.mono h1s))
  clear hB2
  go_wp2
  go_ret
  exact ⟨by rw [HX'.out];rfl,HB2.out⟩
theorem Qjp (g:Nat) (y:List (List UInt8)×List (Qcd 7)) (rv lv:Value) (w:World) (X:Nat→Prop) (h:w.heap[g]?=some (.cells #[rv,lv] 139)) (hr:QjJ X y.1 w rv) (hb:blX X (Qg0 7) y.2 w lv) (ht:Tab w) (ha:∀ c∈y.2,QhX (WfT y.1) (WfC y.1) 7 c) (hl:(QcL y).length≤4294967200) :
 Calls Tryz.prog 22 #[.pointer (some ⟨g,0,none⟩)] w fun e w'=>e=.returned (.string (Qad (QcL y)))∧Below w.heap.size w w':=by
 obtain ⟨a1,n1,c1,rfl⟩:∃ a n c,rv=.slice a n c:=by
  rcases hr with ⟨_,rfl⟩ | ⟨g',c',rfl,_⟩
  ·exact ⟨_,_,_,rfl⟩
  ·exact ⟨_,_,_,rfl⟩
 obtain ⟨a2,n2,c2,rfl⟩:=hb.form
 have H:=Qab h
 have HR:=Qab hr
 have HBB:=Qab hb
 have HT:=Qab ht
 clear h hr hb ht
 go_enter Tryz.func22,Tryz.ntmps22
 go_wp2_with fail
 refine (Qlk g a1 a2 n1 c1 n2 c2 w H.out).mono ?_
 rintro e w1 ⟨rfl,hB1⟩
 have HB1:=Qab hB1
 have h1s:=hB1.size
 have HR1:=Qab (HR.out.keep (fun k _ hk=>hB1.block k hk))
 have HBB1:=Qab (HBB.out.keep (QaY 7) (fun k _ hk=>hB1.block k hk))
 have HT1:=Qab (HT.out.below hB1)
 clear hB1
 go_wp2_with fail
 refine (Qm6 y _ _ _ X HR1.out HBB1.out HT1.out ha hl).mono ?_
 rintro e w2 ⟨rfl,hB2⟩
 have HB2:=Qab (HB1.out.trans (hB2.mono h1s))
 clear hB2
 go_wp2
 go_ret
 exact ⟨rfl,HB2.out⟩
end
end Go.Proofs.YtbiclelojbfnbaaGreatDoor
