import Derived.Test.YtbiclelojbfnbaaGreatDoorZCChoice
import Derived.Test.YtbiclelojbfnbaaGreatDoorCCmdD
import Derived.Test.YtbiclelojbfnbaaGreatDoorCCmdS
import Derived.Test.YtbiclelojbfnbaaGreatDoorZCTestAll
import Derived.Test.YtbiclelojbfnbaaGreatDoorZMapLit
import Derived.Test.YtbiclelojbfnbaaGreatDoorZSAct
namespace Go.Proofs.YtbiclelojbfnbaaGreatDoor
set_option linter.unusedVariables false
set_option linter.unusedSimpArgs false
set_option maxRecDepth 100000
set_option maxHeartbeats 4000000
section
open Go.RowKit
attribute [local go_sem ↓] Go.wp_at_zero Go.wp_at_succ
theorem QqH (hw:List UInt8) (p:Nat) (arg:List UInt8) (B cb:Nat) (cs:List Ins) (w:World) (h:CC w B cb cs) (hl:cs.length+1≤1000000) :
 Calls Tryz.prog 123 #[.pointer (some ⟨cb,0,none⟩),.iface 318 (.agg #[.string (Qad hw),.int .i64 p,.int .i64 1,.string (Qad arg)])] w (Qdq B cb (cs++[Qjb 1 p []]) w):=by
 have yy:=Tryz.yesAct
 have H:=Qab h
 have HL:=Qab hl
 have HC0:Hid (∀ o,CC (w.alloc o) B cb cs):=fun o=>h.alloc o
 have hB0:∀ o,Below w.heap.size w (w.alloc o):=fun o=>(Below.refl _ _).alloc (Nat.le_refl _) o
 have HB0:=Qab hB0
 clear h hl hB0
 go_enter Tryz.func123,Tryz.ntmps123
 go_wp2_with (first | (go_at_call 202;refine (Qoc hw p arg _).mono ?_;rintro e w1 ⟨rfl,hb1⟩;have HB1:=Qab ((HB0.out _).trans (hb1.mono (by simp)));have HC1:=Qab (H.out.below HB1.out);clear hb1;unfold Qdt;skip) | (go_at_call 201;refine (Qcv B cb cs (Qjb 1 p []) _ _ w1 HC1.out (Qdi _ _ rfl rfl (by show (-9223372036854775808:Int)≤0;decide) (by show (0:Int)≤9223372036854775807;decide)) HL.out).mono ?_;rintro e w2 ⟨rfl,hc2,hf2⟩;have HC2:=Qab hc2;have HF2:=Qab ((Fr.of_below HB1.out).trans hf2);clear hc2 hf2;skip))
 go_end0
 exact ⟨rfl,HC2.out,HF2.out⟩
theorem Qi0 (hw:List UInt8) (p k:Nat) (arg:List UInt8) (B cb:Nat) (cs:List Ins) (w:World) (h:CC w B cb cs) (hl:cs.length+1≤1000000) (hk:k≠1) (ha:arg.length≤100000) :
 Calls Tryz.prog 123 #[.pointer (some ⟨cb,0,none⟩),.iface 318 (.agg #[.string (Qad hw),.int .i64 p,.int .i64 k,.string (Qad arg)])] w (Qdq B cb (cs++[Qjb k p [arg]]) w):=by
 have yy:=Tryz.yesAct
 have H:=Qab h
 have HL:=Qab hl
 have HC0:Hid (∀ o,CC (w.alloc o) B cb cs):=fun o=>h.alloc o
 have hB0:∀ o,Below w.heap.size w (w.alloc o):=fun o=>(Below.refl _ _).alloc (Nat.le_refl _) o
 have HB0:=Qab hB0
 clear h hl hB0
 go_enter Tryz.func123,Tryz.ntmps123
 go_wp2_with (first | (go_at_call 202;refine (QmQ hw p k arg _ hk).mono ?_;rintro e w1 ⟨g,rfl,hs1,hb1⟩;have HB1:=Qab ((HB0.out _).trans (hb1.mono (by simp)));have HC1:=Qab (H.out.below HB1.out);have HS1:=Qab hs1;clear hb1 hs1;unfold Qdt;skip) | (go_at_call 201;refine (Qcv B cb cs (Qjb k p [arg]) _ _ w1 HC1.out ⟨HS1.out,Or.inl ⟨rfl,rfl⟩,(fun z hz=>(by rw [List.mem_singleton.1 hz];exact ha)),(fun z hz=>nomatch hz),(by show 1≤1000000;decide),Nat.zero_le _,(by show (-9223372036854775808:Int)≤0;decide),(by show (0:Int)≤9223372036854775807;decide)⟩ HL.out).mono ?_;rintro e w2 ⟨rfl,hc2,hf2⟩;have HC2:=Qab hc2;have HF2:=Qab ((Fr.of_below HB1.out).trans hf2);clear hc2 hf2;skip))
 go_end0
 exact ⟨rfl,HC2.out,HF2.out⟩
end
section
open Go.RowKit
attribute [local go_sem ↓] Go.wp_at_zero Go.wp_at_succ
theorem Qq6 (x:List UInt8):∀ j,j < [x].length→(#[Value.string (Qad x)]:Array Value)[j]?=some (.string (Qad ([x].getD j []))):=fun j hj=>by
 have:j=0:=by simp at hj;exact hj
 subst this;rfl
theorem Qrf (hw:List UInt8) (p tag:Nat) (var arg:List UInt8) (B cb:Nat) (cs:List Ins) (w:World) (h:CC w B cb cs) (hl:cs.length+1≤1000000) (hv:var.length≤100000) (ha:arg.length≤100000) :
 Calls Tryz.prog 123 #[.pointer (some ⟨cb,0,none⟩),.iface 313 (.agg #[.string (Qad hw),.int .i64 p,.int .i64 tag,.string (Qad var),.string (Qad arg)])] w (Qdq B cb (cs++[⟨12,0,tag,false,[var],[arg],p⟩]) w):=by
 have n0:=Tryz.noAct
 have yy:=Tryz.yesSet
 have H:=Qab h
 have HL:=Qab hl
 have HC0:Hid (∀ o,CC (w.alloc o) B cb cs):=fun o=>h.alloc o
 have hB0:∀ o,Below w.heap.size w (w.alloc o):=fun o=>(Below.refl _ _).alloc (Nat.le_refl _) o
 have HB0:=Qab hB0
 clear h hl hB0
 have HS1:Hid (∀ o1 o3,SlT (((w.alloc o1).alloc (.cells #[.string (Qad var)] 9)).alloc o3) (.slice (some ⟨w.heap.size+1,0,none⟩) 1 1) [var]):=fun o1 o3=>Or.inr ⟨_,1,rfl,#[.string (Qad var)],Qac (QaD (by simp)),Qq6 var⟩
 have HS2:Hid (∀ o1 o2,SlT (((w.alloc o1).alloc o2).alloc (.cells #[.string (Qad arg)] 9)) (.slice (some ⟨w.heap.size+1+1,0,none⟩) 1 1) [arg]):=fun o1 o2=>Or.inr ⟨_,1,rfl,#[.string (Qad arg)],QaD (by simp),Qq6 arg⟩
 have HB3:Hid (∀ o1 o2 o3,Below w.heap.size w (((w.alloc o1).alloc o2).alloc o3)):=fun o1 o2 o3=>(((Below.refl _ _).alloc (Nat.le_refl _) _).alloc (by simp) _).alloc (by simp;omega) _
 go_enter Tryz.func123,Tryz.ntmps123
 go_wp2_with (first | (go_at_call 201;refine (Qld _ B cb cs ⟨12,0,tag,false,[var],[arg],p⟩ _ _ _ (by simp) (H.out.below (HB3.out _ _ _)) ⟨HS1.out _ _,HS2.out _ _,(fun z hz=>(by rw [List.mem_singleton.1 hz];exact hv)),(fun z hz=>(by rw [List.mem_singleton.1 hz];exact ha)),(by show 1≤1000000;decide),(by show 1≤1000000;decide),(by show (-9223372036854775808:Int)≤0;decide),(by show (0:Int)≤9223372036854775807;decide)⟩ HL.out).mono ?_;rintro e w2 ⟨rfl,hc2,hf2⟩;have HC2:=Qab hc2;have HF2:=Qab ((Fr.of_below (HB3.out _ _ _)).trans hf2);clear hc2 hf2;skip))
 go_end0
 exact ⟨rfl,HC2.out,HF2.out⟩
end
section
open Go.RowKit
attribute [local go_sem ↓] Go.wp_at_zero Go.wp_at_succ
theorem Qtk (hw:List UInt8) (p:Nat) (a ea:Option Addr) (n c en ec:Nat) (els:Bool) (ds:List Ins) (B cb:Nat) (cs:List Ins) (w:World) (h:CC w B cb cs) (hl:B≤w.heap.size) (ho:∀ W,Below B w W→CC W B cb cs→Calls Tryz.prog 203 #[.pointer (some ⟨cb,0,none⟩),.agg #[.string (Qad hw),.int .i64 p,.slice a n c,.bool els,.slice ea en ec]] W (Qdq B cb ds W)) :
 Calls Tryz.prog 123 #[.pointer (some ⟨cb,0,none⟩),.iface 310 (.agg #[.string (Qad hw),.int .i64 p,.slice a n c,.bool els,.slice ea en ec])] w (Qdq B cb ds w):=by
 have HO:=Qab ho
 have HBB:Hid (∀ o,Below B w (w.alloc o)):=fun o=>(Below.refl _ _).alloc hl o
 clear ho
 have n0:=Tryz.noAct
 have n1:=Tryz.noSet
 have n2:=Tryz.noDiscard
 have n3:=Tryz.noStop
 have yy:=Tryz.yesIf
 have H:=Qab h
 have HL:=Qab hl
 have HC0:Hid (∀ o,CC (w.alloc o) B cb cs):=fun o=>h.alloc o
 have hB0:∀ o,Below w.heap.size w (w.alloc o):=fun o=>(Below.refl _ _).alloc (Nat.le_refl _) o
 have HB0:=Qab hB0
 clear h hl hB0
 go_enter Tryz.func123,Tryz.ntmps123
 go_wp2_with (first | (go_at_call 203;refine (HO.out _ (HBB.out _) (HC0.out _)).mono ?_;rintro e w1 ⟨rfl,hc1,hf1⟩;have HC2:=Qab hc1;have HF2:=Qab ((Fr.of_below (HB0.out _)).trans hf1);clear hc1 hf1;skip))
 go_end0
 exact ⟨rfl,HC2.out,HF2.out⟩
end
section
open Go.RowKit
attribute [local go_sem ↓] Go.wp_at_zero Go.wp_at_succ
def CmdIHc (req:List (List UInt8)) (B cb n:Nat):Prop:=
 ∀ (x:Qcd n) (i:List UInt8) (w:World) (v:Value),Qg0 n (fun k=>k < B) x w v→QhX (WfT req) (WfC req) n x→(Qaw n x i).length≤100000→SubC 123 B cb w v (Qjc n x)
theorem QfK {req:List (List UInt8)} {B cb n:Nat} (ih:CmdIHc req B cb n) (cs:List (Qcd n)) (i:List UInt8) (w:World) (v:Value) (h:blX (fun k=>k < B) (Qg0 n) cs w v) (ha:∀ c∈cs,QhX (WfT req) (WfC req) n c) (hl:(linesL (Qaw n) cs i).length≤100000):SubC 81 B cb w v (blockC (Qjc n) cs):=by
 rw [QoW] at hl
 rcases h with ⟨rfl,rfl⟩ | ⟨hne,g,c,rfl,hg,hx⟩
 ·exact QnM B cb w
 ·have hcl:cs.length≤1000000:=by
   have:=Qh1 i (cs.map fun c=>Qaw n c i)
   rw [List.length_map] at this
   omega
  refine QlD (Qjc n) cs B cb g c w hg hcl (Qnk n) (fun j hj=>?_)
  obtain ⟨u,hcu,hvu⟩:=hx j hj
  obtain ⟨ty,y,rfl⟩:=(QaY n).form _ _ _ _ hvu
  have hmem:cs[j]∈cs:=List.getElem_mem hj
  exact ⟨ty,y,hcu,ih cs[j] i w _ hvu (ha _ hmem) (Nat.le_trans (QgJ i (cs.map fun c=>Qaw n c i) _ (List.mem_map_of_mem (f:=fun c=>Qaw n c i) hmem)) hl)⟩
theorem Qeb {ps:List (List UInt8)} {x:List UInt8} (h:quotedL x∈ps) (hl:(phraseL ps++[59]).length≤100000):x.length≤100000:=by
 have h1:=QbA h
 have h2:=QgM x
 rw [List.length_append] at hl
 omega
theorem Ql8 (req:List (List UInt8)) (B cb:Nat):∀ n,CmdIHc req B cb n
 | 0=>fun x i w v h ha _=>ha.elim
 | n+1=>fun x i w v hv0 ha hlen W cs hW hCC hl=>by
  have ih:=Ql8 req B cb n
  obtain ⟨hw,harms,hels⟩:=ha
  have h:Qhe (fun k=>k < B) (TestV n) (Qg0 n) x W v:=(QaY (n+1)).keep _ _ _ _ _ hv0 (fun k hk _=>hW.block k hk)
  have hBW:B≤W.heap.size:=Nat.le_of_lt (Nat.lt_of_le_of_lt hCC.lt.1 hCC.lt.2)
  have hlen:(cmdNode x.1 i (x.2.1.map fun a=>(Qaj n a.1,linesL (Qaw n) a.2 (i++[32,32]))) (linesL (Qaw n) x.2.2 (i++[32,32]))).length≤100000:=hlen
  have hl:(Qbp (Qcf n) (Qjc n) x.1 x.2.1 x.2.2 cs).length≤1000000:=hl
  show Calls Tryz.prog 123 #[.pointer (some ⟨cb,0,none⟩),v] W (Qdq B cb (Qbp (Qcf n) (Qjc n) x.1 x.2.1 x.2.2 cs) W)
  generalize hal:(x.2.1.map fun a=>(Qaj n a.1,linesL (Qaw n) a.2 (i++[32,32])))=al at hlen
  generalize heb:linesL (Qaw n) x.2.2 (i++[32,32])=eb at hlen
  unfold Qhe QuZ at h
  split at h
  ·rename_i e
   subst h
   have et:Qbp (Qcf n) (Qjc n) x.1 x.2.1 x.2.2 cs=cs++[Qjb 1 x.1.pos []]:=by unfold Qbp;rw [e];rfl
   rw [et] at hl ⊢
   exact QqH Qfa _ [] B cb cs W hCC (by simpa using hl)
  ·rename_i e
   subst h
   have et:Qbp (Qcf n) (Qjc n) x.1 x.2.1 x.2.2 cs=cs++[⟨13,0,0,false,[],[],x.1.pos⟩]:=by unfold Qbp;rw [e];rfl
   rw [et] at hl ⊢
   exact QkS QbV _ B cb cs W hCC (by simpa using hl)
  ·rename_i e
   subst h
   have et:Qbp (Qcf n) (Qjc n) x.1 x.2.1 x.2.2 cs=cs++[⟨14,0,0,false,[],[],x.1.pos⟩]:=by unfold Qbp;rw [e];rfl
   rw [et] at hl ⊢
   exact QqP Qe3 _ B cb cs W hCC (by simpa using hl)
  ·rename_i e
   subst h
   have et:Qbp (Qcf n) (Qjc n) x.1 x.2.1 x.2.2 cs=cs++[Qjb 2 x.1.pos [x.1.arg]]:=by unfold Qbp;rw [e];rfl
   have ett:cmdNode x.1 i al eb=phraseL [QaK,quotedL x.1.arg]++[59]:=by unfold cmdNode;rw [e];rfl
   rw [et] at hl ⊢
   rw [ett] at hlen
   exact Qi0 QaK _ 2 _ B cb cs W hCC (by simpa using hl) (by decide) (Qeb (by simp) hlen)
  ·rename_i e
   subst h
   have et:Qbp (Qcf n) (Qjc n) x.1 x.2.1 x.2.2 cs=cs++[Qjb 3 x.1.pos [x.1.arg]]:=by unfold Qbp;rw [e];rfl
   have ett:cmdNode x.1 i al eb=phraseL [Qbk,quotedL x.1.arg]++[59]:=by unfold cmdNode;rw [e];rfl
   rw [et] at hl ⊢
   rw [ett] at hlen
   exact Qi0 Qbk _ 3 _ B cb cs W hCC (by simpa using hl) (by decide) (Qeb (by simp) hlen)
  ·rename_i e
   subst h
   have et:Qbp (Qcf n) (Qjc n) x.1 x.2.1 x.2.2 cs=cs++[Qjb 4 x.1.pos [x.1.arg]]:=by unfold Qbp;rw [e];rfl
   have ett:cmdNode x.1 i al eb=phraseL [Qbb,quotedL x.1.arg]++[59]:=by unfold cmdNode;rw [e];rfl
   rw [et] at hl ⊢
   rw [ett] at hlen
   exact Qi0 Qbb _ 4 _ B cb cs W hCC (by simpa using hl) (by decide) (Qeb (by simp) hlen)
  ·rename_i e
   subst h
   have et:Qbp (Qcf n) (Qjc n) x.1 x.2.1 x.2.2 cs=cs++[⟨12,0,x.1.tag,false,[x.1.var],[x.1.arg],x.1.pos⟩]:=by unfold Qbp;rw [e];rfl
   have ett:cmdNode x.1 i al eb=phraseL [Qgh,tagTextL x.1.tag [Qbn,Qbm,Qa1],quotedL x.1.var,quotedL x.1.arg]++[59]:=by unfold cmdNode;rw [e];rfl
   rw [et] at hl ⊢
   rw [ett] at hlen
   exact Qrf Qgh _ x.1.tag _ _ B cb cs W hCC (by simpa using hl) (Qeb (by simp) hlen) (Qeb (by simp) hlen)
  ·rename_i h0 h1 h2 h3 h4 h5 h6
   obtain ⟨av,ev,rfl,hav,hne,hev⟩:=h
   have e:x.1.kind=7:=by
    have a0:x.1.kind≠0:=h0
    have a1:x.1.kind≠1:=h1
    have a2:x.1.kind≠2:=h2
    have a3:x.1.kind≠3:=h3
    have a4:x.1.kind≠4:=h4
    have a5:x.1.kind≠5:=h5
    have a6:x.1.kind≠6:=h6
    have:=hw.kind
    omega
   have et:Qbp (Qcf n) (Qjc n) x.1 x.2.1 x.2.2 cs=Qd4 (Qcf n) (Qjc n) x.2.1 x.2.2 cs:=by unfold Qbp;rw [e];rfl
   have ett:cmdNode x.1 i al eb=QaX i kIf al++(if x.1.els then Qdw++eb++i else [])++[125]:=by unfold cmdNode;rw [e];rfl
   rw [et] at hl ⊢
   rw [ett] at hlen
   obtain ⟨g,c,rfl,hg,hx⟩:=hav
   obtain ⟨ea,en,ec,rfl⟩:=hev.form
   have hall:al.length=x.2.1.length:=by rw [← hal];simp
   have hl1:(QaX i kIf al).length≤100000:=by rw [List.length_append,List.length_append] at hlen;omega
   have hal1:x.2.1.length≤1000000:=by
    have:=QgR i al kIf
    omega
   have hl2:(linesL (Qaw n) x.2.2 (i++[32,32])).length≤100000:=by
    cases hx:x.1.els with
    | true=>
     rw [hx] at hlen
     simp only [if_true,List.length_append] at hlen
     rw [heb];omega
    | false=>
     have:x.2.2=[]:=List.eq_nil_of_length_eq_zero (hw.else0 hx)
     rw [this];exact Nat.zero_le _
   refine Qtk kIf _ _ ea _ c en ec _ _ B cb cs W hCC hBW (fun W2 hW2 hC2=>?_)
   refine Qmc (Qcf n) (Qjc n) x.2.1 x.2.2 B cb g c kIf _ _ ea en ec cs W2 hC2 hne hg hal1 (QhZ n) (Qnk n) hl (fun j hj=>?_) ((QfK ih _ _ W _ hev hels hl2).below hW2)
   obtain ⟨u,bv,hu,hb,hp,hq⟩:=hx j hj
   obtain ⟨ty,y,rfl⟩:=(Qbl n).form _ _ _ _ hp
   obtain ⟨a,m,c',rfl⟩:=hq.form
   have hmem:x.2.1[j]∈x.2.1:=List.getElem_mem hj
   have hja:j < al.length:=by omega
   have hget:al[j]=(Qaj n x.2.1[j].1,linesL (Qaw n) x.2.1[j].2 (i++[32,32])):=by
    simp only [← hal,List.getElem_map]
   have hmm:=QfJ i al kIf al[j] (List.getElem_mem hja)
   rw [hget] at hmm
   obtain ⟨m1,m2⟩:=hmm
   have hT:=harms _ hmem
   exact ⟨ty,y,a,m,c',by rw [hW2.cell (p:=⟨g,2*j,none⟩) hg];exact hu,by rw [hW2.cell (p:=⟨g,2*j+1,none⟩) hg];exact hb,(Qka B cb n _ W _ hp hT.1 (Nat.le_trans m1 hl1)).below hW2,(QfK ih _ _ W _ hq hT.2 (Nat.le_trans m2 hl1)).below hW2⟩
def Qqj (w:World) (B:Nat) (cv:Value) (code:List Ins):Prop:=
 ∃ ps:List IV,ps.map Prod.fst=code∧w.ownsRow B 62 7 cv ps.length (QcH ps)∧(∀ p∈ps,Qcg w p.1 p.2.1 p.2.2)∧(ps=[]→cv=.slice none 0 0)
theorem Qqj.len {w:World} {B:Nat} {cv:Value} {code:List Ins} (h:Qqj w B cv code):∃ a c,cv=.slice a code.length c:=by
 obtain ⟨ps,e,ho,_⟩:=h
 obtain ⟨a,c,h⟩:=QaL ho
 exact ⟨a,c,by rw [h,← e,List.length_map]⟩
theorem Qvk (y:List (List UInt8)×List (Qcd 7)) (rv lv:Value) (X:Nat→Prop) (w:World) (ha:∃ a n c,rv=.slice a n c) (hb:blX X (Qg0 7) y.2 w lv) (hwf:∀ c∈y.2,QhX (WfT y.1) (WfC y.1) 7 c) (hl:(QcL y).length≤100000) :
 Calls Tryz.prog 51 #[.agg #[rv,lv]] w fun e w'=>∃ cv,e=.returned cv∧Qqj w' w.heap.size cv (Qd5 y.2)∧Below w.heap.size w w':=by
 obtain ⟨ra,rn,rc,rfl⟩:=ha
 have hbw:=hb.weak (QaY 7) (Y:=fun k=>k < w.heap.size) (fun k _ hk=>hk)
 have hlines:(linesL (Qaw 7) y.2 []).length≤100000:=by unfold QcL at hl;rw [List.length_append] at hl;omega
 have hcl:(Qd5 y.2).length≤1000000:=by have:=Qo2 hwf;omega
 have HSUB:Hid (∀ cb,SubC 81 w.heap.size cb w lv (blockC (Qjc 7) y.2)):=fun cb=>QfK (Ql8 y.1 w.heap.size cb 7) y.2 [] w lv hbw hwf hlines
 have HCL:=Qab hcl
 obtain ⟨la,ln,lc,rfl⟩:=hb.form
 have HB0:Hid (∀ o1 o2,Below w.heap.size w ((w.alloc o1).alloc o2)):=fun o1 o2=>((Below.refl _ _).alloc (Nat.le_refl _) _).alloc (by simp) _
 have HC0:Hid (∀ o1,CC ((w.alloc o1).alloc (.cells #[.slice none 0 0] 151)) w.heap.size (w.heap.size+1) []):=fun o1=>⟨.slice none 0 0,[],rfl,by omega,QaD (by simp),World.ownsRow_nil _ _ _ _,(fun p hp=>nomatch hp),fun _=>rfl⟩
 clear hb hbw hwf hl hlines hcl
 go_enter Tryz.func51,Tryz.ntmps51
 go_wp2_with (first | (go_at_call 81;refine (HSUB.out _ _ [] (HB0.out _ _) (HC0.out _) HCL.out).mono ?_;rintro e w1 ⟨rfl,hc1,hf1⟩;obtain ⟨cv,ps,hps,hCI⟩:=hc1;have c0:w1.cell? ⟨w.heap.size+1,0,none⟩=some cv:=Qaa hCI.blk 0;obtain ⟨ka,kc,hkk⟩:=QaL hCI.row;subst hkk;have HCI:=Qab hCI;have HPS:=Qab hps;have HB1:=Qab ((HB0.out _ _).trans (hf1.co (HC0.out _)));clear hps hCI hf1;skip))
 go_ret
 exact ⟨_,rfl,⟨ps,HPS.out,HCI.out.row,HCI.out.ok,HCI.out.nil⟩,HB1.out⟩
end
end Go.Proofs.YtbiclelojbfnbaaGreatDoor
