import Derived.Test.YtbiclelojbfnbabGreatDoorZCBlock
import Derived.Test.YtbiclelojbfnbabGreatDoorCChoice
import Derived.Test.YtbiclelojbfnbabGreatDoorZReaderT
import Derived.Test.YtbiclelojbfnbabGreatDoorZWTab
namespace Go.Proofs.YtbiclelojbfnbabGreatDoor
set_option linter.unusedVariables false
set_option linter.unusedSimpArgs false
set_option maxRecDepth 100000
set_option maxHeartbeats 4000000
section
open Go.RowKit
attribute [local go_sem ↓] Go.wp_at_zero Go.wp_at_succ
theorem Qox (hw:List UInt8) (p:Nat) (arg:List UInt8) (B cb:Nat) (cs:List Ins) (w:World) (h:CC w B cb cs) (hl:cs.length+1≤1000000) :
 Calls Tryz.prog 192 #[.pointer (some ⟨cb,0,none⟩),.iface 262 (.agg #[.string (Qag hw),.int .i64 p,.int .i64 1,.string (Qag arg)])] w (Qde B cb (cs++[Qim 1 p []]) w):=by
 have yy:=Tryz.yesAct
 have H:=Qaa h
 have HL:=Qaa hl
 have HC0:Hid (∀ o,CC (w.alloc o) B cb cs):=fun o=>h.alloc o
 have hB0:∀ o,Below w.heap.size w (w.alloc o):=fun o=>(Below.refl _ _).alloc (Nat.le_refl _) o
 have HB0:=Qaa hB0
 clear h hl hB0
 go_enter Tryz.func192,Tryz.ntmps192
 go_wp2_with (first | (go_at_call 232;refine (Qnj hw p arg _).mono ?_;rintro e w1 ⟨rfl,hb1⟩;have HB1:=Qaa ((HB0.out _).trans (hb1.mono (by simp)));have HC1:=Qaa (H.out.below HB1.out);clear hb1;unfold Qdk;skip) | (go_at_call 231;refine (Qcd B cb cs (Qim 1 p []) _ _ w1 HC1.out (Qc8 _ _ rfl rfl (by show (-9223372036854775808:Int)≤0;decide) (by show (0:Int)≤9223372036854775807;decide)) HL.out).mono ?_;rintro e w2 ⟨rfl,hc2,hf2⟩;have HC2:=Qaa hc2;have HF2:=Qaa ((Fr.of_below HB1.out).trans hf2);clear hc2 hf2;skip))
 go_end0
 exact ⟨rfl,HC2.out,HF2.out⟩
theorem QhY (hw:List UInt8) (p k:Nat) (arg:List UInt8) (B cb:Nat) (cs:List Ins) (w:World) (h:CC w B cb cs) (hl:cs.length+1≤1000000) (hk:k≠1) (ha:arg.length≤100000) :
 Calls Tryz.prog 192 #[.pointer (some ⟨cb,0,none⟩),.iface 262 (.agg #[.string (Qag hw),.int .i64 p,.int .i64 k,.string (Qag arg)])] w (Qde B cb (cs++[Qim k p [arg]]) w):=by
 have yy:=Tryz.yesAct
 have H:=Qaa h
 have HL:=Qaa hl
 have HC0:Hid (∀ o,CC (w.alloc o) B cb cs):=fun o=>h.alloc o
 have hB0:∀ o,Below w.heap.size w (w.alloc o):=fun o=>(Below.refl _ _).alloc (Nat.le_refl _) o
 have HB0:=Qaa hB0
 clear h hl hB0
 go_enter Tryz.func192,Tryz.ntmps192
 go_wp2_with (first | (go_at_call 232;refine (QkE hw p k arg _ hk).mono ?_;rintro e w1 ⟨g,rfl,hs1,hb1⟩;have HB1:=Qaa ((HB0.out _).trans (hb1.mono (by simp)));have HC1:=Qaa (H.out.below HB1.out);have HS1:=Qaa hs1;clear hb1 hs1;unfold Qdk;skip) | (go_at_call 231;refine (Qcd B cb cs (Qim k p [arg]) _ _ w1 HC1.out ⟨HS1.out,Or.inl ⟨rfl,rfl⟩,(fun z hz=>(by rw [List.mem_singleton.1 hz];exact ha)),(fun z hz=>nomatch hz),(by show 1≤1000000;decide),Nat.zero_le _,(by show (-9223372036854775808:Int)≤0;decide),(by show (0:Int)≤9223372036854775807;decide)⟩ HL.out).mono ?_;rintro e w2 ⟨rfl,hc2,hf2⟩;have HC2:=Qaa hc2;have HF2:=Qaa ((Fr.of_below HB1.out).trans hf2);clear hc2 hf2;skip))
 go_end0
 exact ⟨rfl,HC2.out,HF2.out⟩
end
section
open Go.RowKit
attribute [local go_sem ↓] Go.wp_at_zero Go.wp_at_succ
theorem QjA (hw:List UInt8) (p:Nat) (B cb:Nat) (cs:List Ins) (w:World) (h:CC w B cb cs) (hl:cs.length+1≤1000000) :
 Calls Tryz.prog 192 #[.pointer (some ⟨cb,0,none⟩),.iface 264 (.agg #[.string (Qag hw),.int .i64 p])] w (Qde B cb (cs++[⟨13,0,0,false,[],[],p⟩]) w):=by
 have n0:=Tryz.noAct
 have n1:=Tryz.noSet
 have yy:=Tryz.yesDiscard
 have H:=Qaa h
 have HL:=Qaa hl
 have HC0:Hid (∀ o,CC (w.alloc o) B cb cs):=fun o=>h.alloc o
 have hB0:∀ o,Below w.heap.size w (w.alloc o):=fun o=>(Below.refl _ _).alloc (Nat.le_refl _) o
 have HB0:=Qaa hB0
 clear h hl hB0
 go_enter Tryz.func192,Tryz.ntmps192
 go_wp2_with (first | (go_at_call 231;refine (QjX _ B cb cs ⟨13,0,0,false,[],[],p⟩ _ _ _ (by simp) (HC0.out _) (Qc8 _ _ rfl rfl (by show (-9223372036854775808:Int)≤0;decide) (by show (0:Int)≤9223372036854775807;decide)) HL.out).mono ?_;rintro e w2 ⟨rfl,hc2,hf2⟩;have HC2:=Qaa hc2;have HF2:=Qaa ((Fr.of_below (HB0.out _)).trans hf2);clear hc2 hf2;skip))
 go_end0
 exact ⟨rfl,HC2.out,HF2.out⟩
end
section
open Go.RowKit
attribute [local go_sem ↓] Go.wp_at_zero Go.wp_at_succ
theorem QpG (hw:List UInt8) (p:Nat) (B cb:Nat) (cs:List Ins) (w:World) (h:CC w B cb cs) (hl:cs.length+1≤1000000) :
 Calls Tryz.prog 192 #[.pointer (some ⟨cb,0,none⟩),.iface 265 (.agg #[.string (Qag hw),.int .i64 p])] w (Qde B cb (cs++[⟨14,0,0,false,[],[],p⟩]) w):=by
 have n0:=Tryz.noAct
 have n1:=Tryz.noSet
 have n2:=Tryz.noDiscard
 have yy:=Tryz.yesStop
 have H:=Qaa h
 have HL:=Qaa hl
 have HC0:Hid (∀ o,CC (w.alloc o) B cb cs):=fun o=>h.alloc o
 have hB0:∀ o,Below w.heap.size w (w.alloc o):=fun o=>(Below.refl _ _).alloc (Nat.le_refl _) o
 have HB0:=Qaa hB0
 clear h hl hB0
 go_enter Tryz.func192,Tryz.ntmps192
 go_wp2_with (first | (go_at_call 231;refine (QjX _ B cb cs ⟨14,0,0,false,[],[],p⟩ _ _ _ (by simp) (HC0.out _) (Qc8 _ _ rfl rfl (by show (-9223372036854775808:Int)≤0;decide) (by show (0:Int)≤9223372036854775807;decide)) HL.out).mono ?_;rintro e w2 ⟨rfl,hc2,hf2⟩;have HC2:=Qaa hc2;have HF2:=Qaa ((Fr.of_below (HB0.out _)).trans hf2);clear hc2 hf2;skip))
 go_end0
 exact ⟨rfl,HC2.out,HF2.out⟩
end
section
open Go.RowKit
attribute [local go_sem ↓] Go.wp_at_zero Go.wp_at_succ
theorem Qrw (x:List UInt8):∀ j,j < [x].length→(#[Value.string (Qag x)]:Array Value)[j]?=some (.string (Qag ([x].getD j []))):=fun j hj=>by
 have:j=0:=by simp at hj;exact hj
 subst this;rfl
theorem Qqi (hw:List UInt8) (p tag:Nat) (var arg:List UInt8) (B cb:Nat) (cs:List Ins) (w:World) (h:CC w B cb cs) (hl:cs.length+1≤1000000) (hv:var.length≤100000) (ha:arg.length≤100000) :
 Calls Tryz.prog 192 #[.pointer (some ⟨cb,0,none⟩),.iface 269 (.agg #[.string (Qag hw),.int .i64 p,.int .i64 tag,.string (Qag var),.string (Qag arg)])] w (Qde B cb (cs++[⟨12,0,tag,false,[var],[arg],p⟩]) w):=by
 have n0:=Tryz.noAct
 have yy:=Tryz.yesSet
 have H:=Qaa h
 have HL:=Qaa hl
 have HC0:Hid (∀ o,CC (w.alloc o) B cb cs):=fun o=>h.alloc o
 have hB0:∀ o,Below w.heap.size w (w.alloc o):=fun o=>(Below.refl _ _).alloc (Nat.le_refl _) o
 have HB0:=Qaa hB0
 clear h hl hB0
 have HS1:Hid (∀ o1 o3,SlT (((w.alloc o1).alloc (.cells #[.string (Qag var)] 9)).alloc o3) (.slice (some ⟨w.heap.size+1,0,none⟩) 1 1) [var]):=fun o1 o3=>Or.inr ⟨_,1,rfl,#[.string (Qag var)],Qad (Qaw (by simp)),Qrw var⟩
 have HS2:Hid (∀ o1 o2,SlT (((w.alloc o1).alloc o2).alloc (.cells #[.string (Qag arg)] 9)) (.slice (some ⟨w.heap.size+1+1,0,none⟩) 1 1) [arg]):=fun o1 o2=>Or.inr ⟨_,1,rfl,#[.string (Qag arg)],Qaw (by simp),Qrw arg⟩
 have HB3:Hid (∀ o1 o2 o3,Below w.heap.size w (((w.alloc o1).alloc o2).alloc o3)):=fun o1 o2 o3=>(((Below.refl _ _).alloc (Nat.le_refl _) _).alloc (by simp) _).alloc (by simp;omega) _
 go_enter Tryz.func192,Tryz.ntmps192
 go_wp2_with (first | (go_at_call 231;refine (QjX _ B cb cs ⟨12,0,tag,false,[var],[arg],p⟩ _ _ _ (by simp) (H.out.below (HB3.out _ _ _)) ⟨HS1.out _ _,HS2.out _ _,(fun z hz=>(by rw [List.mem_singleton.1 hz];exact hv)),(fun z hz=>(by rw [List.mem_singleton.1 hz];exact ha)),(by show 1≤1000000;decide),(by show 1≤1000000;decide),(by show (-9223372036854775808:Int)≤0;decide),(by show (0:Int)≤9223372036854775807;decide)⟩ HL.out).mono ?_;rintro e w2 ⟨rfl,hc2,hf2⟩;have HC2:=Qaa hc2;have HF2:=Qaa ((Fr.of_below (HB3.out _ _ _)).trans hf2);clear hc2 hf2;skip))
 go_end0
 exact ⟨rfl,HC2.out,HF2.out⟩
end
section
open Go.RowKit
attribute [local go_sem ↓] Go.wp_at_zero Go.wp_at_succ
def CmdIHc (req:List (List UInt8)) (B cb n:Nat):Prop:=
 ∀ (x:QcX n) (i:List UInt8) (w:World) (v:Value),Qio n (fun k=>k < B) x w v→Qmf (WfT req) (WfC req) n x→(QbH n x i).length≤100000→SubC 192 B cb w v (Qin n x)
theorem Qfv {req:List (List UInt8)} {B cb n:Nat} (ih:CmdIHc req B cb n) (cs:List (QcX n)) (i:List UInt8) (w:World) (v:Value) (h:blX (fun k=>k < B) (Qio n) cs w v) (ha:∀ c∈cs,Qmf (WfT req) (WfC req) n c) (hl:(QbI (QbH n) cs i).length≤100000):SubC 141 B cb w v (blockC (Qin n) cs):=by
 rw [QsG] at hl
 rcases h with ⟨rfl,rfl⟩ | ⟨hne,g,c,rfl,hg,hx⟩
 ·exact QmD B cb w
 ·have hcl:cs.length≤1000000:=by
   have:=QlW i (cs.map fun c=>QbH n c i)
   rw [List.length_map] at this
   omega
  refine Ql4 (Qin n) cs B cb g c w hg hcl (QmR n) (fun j hj=>?_)
  obtain ⟨u,hcu,hvu⟩:=hx j hj
  obtain ⟨ty,y,rfl⟩:=(Qa3 n).form _ _ _ _ hvu
  have hmem:cs[j]∈cs:=List.getElem_mem hj
  exact ⟨ty,y,hcu,ih cs[j] i w _ hvu (ha _ hmem) (Nat.le_trans (QiP i (cs.map fun c=>QbH n c i) _ (List.mem_map_of_mem (f:=fun c=>QbH n c i) hmem)) hl)⟩
theorem QdX {ps:List (List UInt8)} {x:List UInt8} (h:Qat x∈ps) (hl:(Qa1 ps++[59]).length≤100000):x.length≤100000:=by
 have h1:=Qcz h
 have h2:=Qgj x
 rw [List.length_append] at hl
 omega
theorem Qlk (req:List (List UInt8)) (B cb:Nat):∀ n,CmdIHc req B cb n
 | 0=>fun x i w v h ha _=>ha.elim
 | n+1=>fun x i w v hv0 ha hlen W cs hW hCC hl=>by
  have ih:=Qlk req B cb n
  obtain ⟨hw,harms,hels⟩:=ha
  have h:QhA (fun k=>k < B) (TestV n) (Qio n) x W v:=(Qa3 (n+1)).keep _ _ _ _ _ hv0 (fun k hk _=>hW.block k hk)
  have hBW:B≤W.heap.size:=Nat.le_of_lt (Nat.lt_of_le_of_lt hCC.lt.1 hCC.lt.2)
  have hlen:(QcI x.1 i (x.2.1.map fun a=>(Qa6 n a.1,QbI (QbH n) a.2 (i++[32,32]))) (QbI (QbH n) x.2.2 (i++[32,32]))).length≤100000:=hlen
  have hl:(Qba (Qb5 n) (Qin n) x.1 x.2.1 x.2.2 cs).length≤1000000:=hl
  show Calls Tryz.prog 192 #[.pointer (some ⟨cb,0,none⟩),v] W (Qde B cb (Qba (Qb5 n) (Qin n) x.1 x.2.1 x.2.2 cs) W)
  generalize hal:(x.2.1.map fun a=>(Qa6 n a.1,QbI (QbH n) a.2 (i++[32,32])))=al at hlen
  generalize heb:QbI (QbH n) x.2.2 (i++[32,32])=eb at hlen
  unfold QhA Qt3 at h
  split at h
  ·rename_i e
   subst h
   have et:Qba (Qb5 n) (Qin n) x.1 x.2.1 x.2.2 cs=cs++[Qim 1 x.1.pos []]:=by unfold Qba;rw [e];rfl
   rw [et] at hl ⊢
   exact Qox QfD _ [] B cb cs W hCC (by simpa using hl)
  ·rename_i e
   subst h
   have et:Qba (Qb5 n) (Qin n) x.1 x.2.1 x.2.2 cs=cs++[⟨13,0,0,false,[],[],x.1.pos⟩]:=by unfold Qba;rw [e];rfl
   rw [et] at hl ⊢
   exact QjA Qb1 _ B cb cs W hCC (by simpa using hl)
  ·rename_i e
   subst h
   have et:Qba (Qb5 n) (Qin n) x.1 x.2.1 x.2.2 cs=cs++[⟨14,0,0,false,[],[],x.1.pos⟩]:=by unfold Qba;rw [e];rfl
   rw [et] at hl ⊢
   exact QpG Qfl _ B cb cs W hCC (by simpa using hl)
  ·rename_i e
   subst h
   have et:Qba (Qb5 n) (Qin n) x.1 x.2.1 x.2.2 cs=cs++[Qim 2 x.1.pos [x.1.arg]]:=by unfold Qba;rw [e];rfl
   have ett:QcI x.1 i al eb=Qa1 [QaK,Qat x.1.arg]++[59]:=by unfold QcI;rw [e];rfl
   rw [et] at hl ⊢
   rw [ett] at hlen
   exact QhY QaK _ 2 _ B cb cs W hCC (by simpa using hl) (by decide) (QdX (by simp) hlen)
  ·rename_i e
   subst h
   have et:Qba (Qb5 n) (Qin n) x.1 x.2.1 x.2.2 cs=cs++[Qim 3 x.1.pos [x.1.arg]]:=by unfold Qba;rw [e];rfl
   have ett:QcI x.1 i al eb=Qa1 [Qbl,Qat x.1.arg]++[59]:=by unfold QcI;rw [e];rfl
   rw [et] at hl ⊢
   rw [ett] at hlen
   exact QhY Qbl _ 3 _ B cb cs W hCC (by simpa using hl) (by decide) (QdX (by simp) hlen)
  ·rename_i e
   subst h
   have et:Qba (Qb5 n) (Qin n) x.1 x.2.1 x.2.2 cs=cs++[Qim 4 x.1.pos [x.1.arg]]:=by unfold Qba;rw [e];rfl
   have ett:QcI x.1 i al eb=Qa1 [QaZ,Qat x.1.arg]++[59]:=by unfold QcI;rw [e];rfl
   rw [et] at hl ⊢
   rw [ett] at hlen
   exact QhY QaZ _ 4 _ B cb cs W hCC (by simpa using hl) (by decide) (QdX (by simp) hlen)
  ·rename_i e
   subst h
   have et:Qba (Qb5 n) (Qin n) x.1 x.2.1 x.2.2 cs=cs++[⟨12,0,x.1.tag,false,[x.1.var],[x.1.arg],x.1.pos⟩]:=by unfold Qba;rw [e];rfl
   have ett:QcI x.1 i al eb=Qa1 [Qg1,Qbn x.1.tag [Qdi,Qdg,Qcn],Qat x.1.var,Qat x.1.arg]++[59]:=by unfold QcI;rw [e];rfl
   rw [et] at hl ⊢
   rw [ett] at hlen
   exact Qqi Qg1 _ x.1.tag _ _ B cb cs W hCC (by simpa using hl) (QdX (by simp) hlen) (QdX (by simp) hlen)
  ·rename_i h0 h1 h2 h3 h4 h5 h6
   obtain ⟨av,ev,rfl,hav,hne,hev⟩:=h
   have e:x.1.kind=7:=by
    have a0:x.1.kind≠0:=h0
    have a1:x.1.kind≠1:=h1
    have a2:x.1.kind≠2:=h2
    have a3:x.1.kind≠3:=h3
    have a4:x.1.kind≠4:=h4
    have a5:x.1.kind≠5:=h5
    have a6:x.1.kind≠6:=h6
    have:=hw.kind
    omega
   have et:Qba (Qb5 n) (Qin n) x.1 x.2.1 x.2.2 cs=QdP (Qb5 n) (Qin n) x.2.1 x.2.2 cs:=by unfold Qba;rw [e];rfl
   have ett:QcI x.1 i al eb=QbW i kIf al++(if x.1.els then Qoq++eb++i else [])++[125]:=by unfold QcI;rw [e];rfl
   rw [et] at hl ⊢
   rw [ett] at hlen
   obtain ⟨g,c,rfl,hg,hx⟩:=hav
   obtain ⟨ea,en,ec,rfl⟩:=hev.form
   have hall:al.length=x.2.1.length:=by rw [← hal];simp
   have hl1:(QbW i kIf al).length≤100000:=by rw [List.length_append,List.length_append] at hlen;omega
   have hal1:x.2.1.length≤1000000:=by
    have:=QiM i al kIf
    omega
   have hl2:(QbI (QbH n) x.2.2 (i++[32,32])).length≤100000:=by
    cases hx:x.1.els with
    | true=>
     rw [hx] at hlen
     simp only [if_true,List.length_append] at hlen
     rw [heb];omega
    | false=>
     have:x.2.2=[]:=List.eq_nil_of_length_eq_zero (hw.else0 hx)
     rw [this];exact Nat.zero_le _
   refine Qr6 kIf _ _ ea _ c en ec _ _ B cb cs W hCC hBW (fun W2 hW2 hC2=>?_)
   refine Qlr (Qb5 n) (Qin n) x.2.1 x.2.2 B cb g c kIf _ _ ea en ec cs W2 hC2 hne hg hal1 (Qhd n) (QmR n) hl (fun j hj=>?_) ((Qfv ih _ _ W _ hev hels hl2).below hW2)
   obtain ⟨u,bv,hu,hb,hp,hq⟩:=hx j hj
   obtain ⟨ty,y,rfl⟩:=(Qbq n).form _ _ _ _ hp
   obtain ⟨a,m,c',rfl⟩:=hq.form
   have hmem:x.2.1[j]∈x.2.1:=List.getElem_mem hj
   have hja:j < al.length:=by omega
   have hget:al[j]=(Qa6 n x.2.1[j].1,QbI (QbH n) x.2.1[j].2 (i++[32,32])):=by
    simp only [← hal,List.getElem_map]
   have hmm:=Qhj i al kIf al[j] (List.getElem_mem hja)
   rw [hget] at hmm
   obtain ⟨m1,m2⟩:=hmm
   have hT:=harms _ hmem
   exact ⟨ty,y,a,m,c',by rw [hW2.cell (p:=⟨g,2*j,none⟩) hg];exact hu,by rw [hW2.cell (p:=⟨g,2*j+1,none⟩) hg];exact hb,(QiU B cb n _ W _ hp hT.1 (Nat.le_trans m1 hl1)).below hW2,(Qfv ih _ _ W _ hq hT.2 (Nat.le_trans m2 hl1)).below hW2⟩
def Qpz (w:World) (B:Nat) (cv:Value) (code:List Ins):Prop:=
 ∃ ps:List IV,ps.map Prod.fst=code∧w.ownsRow B 147 7 cv ps.length (Qcq ps)∧(∀ p∈ps,Qb2 w p.1 p.2.1 p.2.2)∧(ps=[]→cv=.slice none 0 0)
theorem Qpz.len {w:World} {B:Nat} {cv:Value} {code:List Ins} (h:Qpz w B cv code):∃ a c,cv=.slice a code.length c:=by
 obtain ⟨ps,e,ho,_⟩:=h
 obtain ⟨a,c,h⟩:=QaN ho
 exact ⟨a,c,by rw [h,← e,List.length_map]⟩
theorem Quo (y:List (List UInt8)×List (QcX 7)) (rv lv:Value) (X:Nat→Prop) (w:World) (ha:∃ a n c,rv=.slice a n c) (hb:blX X (Qio 7) y.2 w lv) (hwf:∀ c∈y.2,Qmf (WfT y.1) (WfC y.1) 7 c) (hl:(Qh4 y).length≤100000) :
 Calls Tryz.prog 69 #[.agg #[rv,lv]] w fun e w'=>∃ cv,e=.returned cv∧Qpz w' w.heap.size cv (Qdm y.2)∧Below w.heap.size w w':=by
 obtain ⟨ra,rn,rc,rfl⟩:=ha
 have hbw:=hb.weak (Qa3 7) (Y:=fun k=>k < w.heap.size) (fun k _ hk=>hk)
 have hlines:(QbI (QbH 7) y.2 []).length≤100000:=by unfold Qh4 at hl;rw [List.length_append] at hl;omega
 have hcl:(Qdm y.2).length≤1000000:=by have:=QnY hwf;omega
 have HSUB:Hid (∀ cb,SubC 141 w.heap.size cb w lv (blockC (Qin 7) y.2)):=fun cb=>Qfv (Qlk y.1 w.heap.size cb 7) y.2 [] w lv hbw hwf hlines
 have HCL:=Qaa hcl
 obtain ⟨la,ln,lc,rfl⟩:=hb.form
 have HB0:Hid (∀ o1 o2,Below w.heap.size w ((w.alloc o1).alloc o2)):=fun o1 o2=>((Below.refl _ _).alloc (Nat.le_refl _) _).alloc (by simp) _
 have HC0:Hid (∀ o1,CC ((w.alloc o1).alloc (.cells #[.slice none 0 0] 238)) w.heap.size (w.heap.size+1) []):=fun o1=>⟨.slice none 0 0,[],rfl,by omega,Qaw (by simp),World.ownsRow_nil _ _ _ _,(fun p hp=>nomatch hp),fun _=>rfl⟩
 clear hb hbw hwf hl hlines hcl
 go_enter Tryz.func69,Tryz.ntmps69
 go_wp2_with (first | (go_at_call 141;refine (HSUB.out _ _ [] (HB0.out _ _) (HC0.out _) HCL.out).mono ?_;rintro e w1 ⟨rfl,hc1,hf1⟩;obtain ⟨cv,ps,hps,hCI⟩:=hc1;have c0:w1.cell? ⟨w.heap.size+1,0,none⟩=some cv:=Qab hCI.blk 0;obtain ⟨ka,kc,hkk⟩:=QaN hCI.row;subst hkk;have HCI:=Qaa hCI;have HPS:=Qaa hps;have HB1:=Qaa ((HB0.out _ _).trans (hf1.co (HC0.out _)));clear hps hCI hf1;skip))
 go_ret
 exact ⟨_,rfl,⟨ps,HPS.out,HCI.out.row,HCI.out.ok,HCI.out.nil⟩,HB1.out⟩
end
end Go.Proofs.YtbiclelojbfnbabGreatDoor
