import Derived.Test.YtbiclelojbfnbaaGreatDoorZCChoice
import Derived.Test.YtbiclelojbfnbaaGreatDoorZCCmdI
import Derived.Test.YtbiclelojbfnbaaGreatDoorZWText
namespace Go.Proofs.YtbiclelojbfnbaaGreatDoor
set_option linter.unusedVariables false
set_option linter.unusedSimpArgs false
set_option maxRecDepth 100000
set_option maxHeartbeats 4000000
section
open Go.RowKit
attribute [local go_sem ↓] Go.wp_at_zero Go.wp_at_succ
theorem cmdCo_keep (hw:List UInt8) (p:Nat) (arg:List UInt8) (B cb:Nat) (cs:List Ins) (w:World) (h:CC w B cb cs) (hl:cs.length+1≤1000000) :
  Calls Tryz.prog 123 #[.pointer (some ⟨cb,0,none⟩),.iface 318 (.agg #[.string (strA hw),.int .i64 p,.int .i64 1,.string (strA arg)])] w (CPost B cb (cs++[actI 1 p []]) w):=by
 have yy:=Tryz.yesAct
 have H:=hide h
 have HL:=hide hl
 have HC0:Hid (∀ o,CC (w.alloc o) B cb cs):=fun o=>h.alloc o
 have hB0:∀ o,Below w.heap.size w (w.alloc o):=fun o=>(Below.refl _ _).alloc (Nat.le_refl _) o
 have HB0:=hide hB0
 clear h hl hB0
 go_enter Tryz.func123,Tryz.ntmps123
 go_wp2_with (first | (go_at_call 202;refine (action_keep hw p arg _).mono ?_;rintro e w1 ⟨rfl,hb1⟩;have HB1:=hide ((HB0.out _).trans (hb1.mono (by simp)));have HC1:=hide (H.out.below HB1.out);clear hb1;unfold insV;skip) | (go_at_call 201;refine (addC_one B cb cs (actI 1 p []) _ _ w1 HC1.out (insOk_nil _ _ rfl rfl (by show (-9223372036854775808:Int)≤0;decide) (by show (0:Int)≤9223372036854775807;decide)) HL.out).mono ?_;rintro e w2 ⟨rfl,hc2,hf2⟩;have HC2:=hide hc2;have HF2:=hide ((Fr.of_below HB1.out).trans hf2);clear hc2 hf2;skip))
 go_end0
 exact ⟨rfl,HC2.out,HF2.out⟩
theorem cmdCo_act (hw:List UInt8) (p k:Nat) (arg:List UInt8) (B cb:Nat) (cs:List Ins) (w:World) (h:CC w B cb cs) (hl:cs.length+1≤1000000) (hk:k≠1) (ha:arg.length≤100000) :
  Calls Tryz.prog 123 #[.pointer (some ⟨cb,0,none⟩),.iface 318 (.agg #[.string (strA hw),.int .i64 p,.int .i64 k,.string (strA arg)])] w (CPost B cb (cs++[actI k p [arg]]) w):=by
 have yy:=Tryz.yesAct
 have H:=hide h
 have HL:=hide hl
 have HC0:Hid (∀ o,CC (w.alloc o) B cb cs):=fun o=>h.alloc o
 have hB0:∀ o,Below w.heap.size w (w.alloc o):=fun o=>(Below.refl _ _).alloc (Nat.le_refl _) o
 have HB0:=hide hB0
 clear h hl hB0
 go_enter Tryz.func123,Tryz.ntmps123
 go_wp2_with (first | (go_at_call 202;refine (action_other hw p k arg _ hk).mono ?_;rintro e w1 ⟨g,rfl,hs1,hb1⟩;have HB1:=hide ((HB0.out _).trans (hb1.mono (by simp)));have HC1:=hide (H.out.below HB1.out);have HS1:=hide hs1;clear hb1 hs1;unfold insV;skip) | (go_at_call 201;refine (addC_one B cb cs (actI k p [arg]) _ _ w1 HC1.out ⟨HS1.out,Or.inl ⟨rfl,rfl⟩,(fun z hz=>(by rw [List.mem_singleton.1 hz];exact ha)),(fun z hz=>nomatch hz),(by show 1≤1000000;decide),Nat.zero_le _,(by show (-9223372036854775808:Int)≤0;decide),(by show (0:Int)≤9223372036854775807;decide)⟩ HL.out).mono ?_;rintro e w2 ⟨rfl,hc2,hf2⟩;have HC2:=hide hc2;have HF2:=hide ((Fr.of_below HB1.out).trans hf2);clear hc2 hf2;skip))
 go_end0
 exact ⟨rfl,HC2.out,HF2.out⟩
end
section
open Go.RowKit
attribute [local go_sem ↓] Go.wp_at_zero Go.wp_at_succ
theorem cmdCo_discard (hw:List UInt8) (p:Nat) (B cb:Nat) (cs:List Ins) (w:World) (h:CC w B cb cs) (hl:cs.length+1≤1000000) :
  Calls Tryz.prog 123 #[.pointer (some ⟨cb,0,none⟩),.iface 336 (.agg #[.string (strA hw),.int .i64 p])] w (CPost B cb (cs++[⟨13,0,0,false,[],[],p⟩]) w):=by
 have n0:=Tryz.noAct
 have n1:=Tryz.noSet
 have yy:=Tryz.yesDiscard
 have H:=hide h
 have HL:=hide hl
 have HC0:Hid (∀ o,CC (w.alloc o) B cb cs):=fun o=>h.alloc o
 have hB0:∀ o,Below w.heap.size w (w.alloc o):=fun o=>(Below.refl _ _).alloc (Nat.le_refl _) o
 have HB0:=hide hB0
 clear h hl hB0
 go_enter Tryz.func123,Tryz.ntmps123
 go_wp2_with (first | (go_at_call 201;refine (addC_at _ B cb cs ⟨13,0,0,false,[],[],p⟩ _ _ _ (by simp) (HC0.out _) (insOk_nil _ _ rfl rfl (by show (-9223372036854775808:Int)≤0;decide) (by show (0:Int)≤9223372036854775807;decide)) HL.out).mono ?_;rintro e w2 ⟨rfl,hc2,hf2⟩;have HC2:=hide hc2;have HF2:=hide ((Fr.of_below (HB0.out _)).trans hf2);clear hc2 hf2;skip))
 go_end0
 exact ⟨rfl,HC2.out,HF2.out⟩
end
section
open Go.RowKit
attribute [local go_sem ↓] Go.wp_at_zero Go.wp_at_succ
theorem cmdCo_stop (hw:List UInt8) (p:Nat) (B cb:Nat) (cs:List Ins) (w:World) (h:CC w B cb cs) (hl:cs.length+1≤1000000) :
  Calls Tryz.prog 123 #[.pointer (some ⟨cb,0,none⟩),.iface 337 (.agg #[.string (strA hw),.int .i64 p])] w (CPost B cb (cs++[⟨14,0,0,false,[],[],p⟩]) w):=by
 have n0:=Tryz.noAct
 have n1:=Tryz.noSet
 have n2:=Tryz.noDiscard
 have yy:=Tryz.yesStop
 have H:=hide h
 have HL:=hide hl
 have HC0:Hid (∀ o,CC (w.alloc o) B cb cs):=fun o=>h.alloc o
 have hB0:∀ o,Below w.heap.size w (w.alloc o):=fun o=>(Below.refl _ _).alloc (Nat.le_refl _) o
 have HB0:=hide hB0
 clear h hl hB0
 go_enter Tryz.func123,Tryz.ntmps123
 go_wp2_with (first | (go_at_call 201;refine (addC_at _ B cb cs ⟨14,0,0,false,[],[],p⟩ _ _ _ (by simp) (HC0.out _) (insOk_nil _ _ rfl rfl (by show (-9223372036854775808:Int)≤0;decide) (by show (0:Int)≤9223372036854775807;decide)) HL.out).mono ?_;rintro e w2 ⟨rfl,hc2,hf2⟩;have HC2:=hide hc2;have HF2:=hide ((Fr.of_below (HB0.out _)).trans hf2);clear hc2 hf2;skip))
 go_end0
 exact ⟨rfl,HC2.out,HF2.out⟩
end
section
open Go.RowKit
attribute [local go_sem ↓] Go.wp_at_zero Go.wp_at_succ
theorem one_txt (x:List UInt8):∀ j,j < [x].length→(#[Value.string (strA x)]:Array Value)[j]?=some (.string (strA ([x].getD j []))):=fun j hj=>by
 have:j=0:=by simp at hj;exact hj
 subst this;rfl
theorem cmdCo_set (hw:List UInt8) (p tag:Nat) (var arg:List UInt8) (B cb:Nat) (cs:List Ins) (w:World) (h:CC w B cb cs) (hl:cs.length+1≤1000000) (hv:var.length≤100000) (ha:arg.length≤100000) :
  Calls Tryz.prog 123 #[.pointer (some ⟨cb,0,none⟩),.iface 313 (.agg #[.string (strA hw),.int .i64 p,.int .i64 tag,.string (strA var),.string (strA arg)])] w (CPost B cb (cs++[⟨12,0,tag,false,[var],[arg],p⟩]) w):=by
 have n0:=Tryz.noAct
 have yy:=Tryz.yesSet
 have H:=hide h
 have HL:=hide hl
 have HC0:Hid (∀ o,CC (w.alloc o) B cb cs):=fun o=>h.alloc o
 have hB0:∀ o,Below w.heap.size w (w.alloc o):=fun o=>(Below.refl _ _).alloc (Nat.le_refl _) o
 have HB0:=hide hB0
 clear h hl hB0
 have HS1:Hid (∀ o1 o3,SlT (((w.alloc o1).alloc (.cells #[.string (strA var)] 9)).alloc o3) (.slice (some ⟨w.heap.size+1,0,none⟩) 1 1) [var]):=fun o1 o3=>Or.inr ⟨_,1,rfl,#[.string (strA var)],blk_alloc (blk_newAt (by simp)),one_txt var⟩
 have HS2:Hid (∀ o1 o2,SlT (((w.alloc o1).alloc o2).alloc (.cells #[.string (strA arg)] 9)) (.slice (some ⟨w.heap.size+1+1,0,none⟩) 1 1) [arg]):=fun o1 o2=>Or.inr ⟨_,1,rfl,#[.string (strA arg)],blk_newAt (by simp),one_txt arg⟩
 have HB3:Hid (∀ o1 o2 o3,Below w.heap.size w (((w.alloc o1).alloc o2).alloc o3)):=fun o1 o2 o3=>(((Below.refl _ _).alloc (Nat.le_refl _) _).alloc (by simp) _).alloc (by simp;omega) _
 go_enter Tryz.func123,Tryz.ntmps123
 go_wp2_with (first | (go_at_call 201;refine (addC_at _ B cb cs ⟨12,0,tag,false,[var],[arg],p⟩ _ _ _ (by simp) (H.out.below (HB3.out _ _ _)) ⟨HS1.out _ _,HS2.out _ _,(fun z hz=>(by rw [List.mem_singleton.1 hz];exact hv)),(fun z hz=>(by rw [List.mem_singleton.1 hz];exact ha)),(by show 1≤1000000;decide),(by show 1≤1000000;decide),(by show (-9223372036854775808:Int)≤0;decide),(by show (0:Int)≤9223372036854775807;decide)⟩ HL.out).mono ?_;rintro e w2 ⟨rfl,hc2,hf2⟩;have HC2:=hide hc2;have HF2:=hide ((Fr.of_below (HB3.out _ _ _)).trans hf2);clear hc2 hf2;skip))
 go_end0
 exact ⟨rfl,HC2.out,HF2.out⟩
end
section
open Go.RowKit
attribute [local go_sem ↓] Go.wp_at_zero Go.wp_at_succ
def CmdIHc (req:List (List UInt8)) (B cb n:Nat):Prop:=
 ∀ (x:CmdT n) (i:List UInt8) (w:World) (v:Value),CmdV n (fun k=>k < B) x w v→allC (WfT req) (WfC req) n x→(cmdTxt n x i).length≤100000→SubC 123 B cb w v (cmdC n x)
theorem blockCo_any {req:List (List UInt8)} {B cb n:Nat} (ih:CmdIHc req B cb n) (cs:List (CmdT n)) (i:List UInt8) (w:World) (v:Value) (h:blX (fun k=>k < B) (CmdV n) cs w v) (ha:∀ c∈cs,allC (WfT req) (WfC req) n c) (hl:(linesL (cmdTxt n) cs i).length≤100000):SubC 81 B cb w v (blockC (cmdC n) cs):=by
 rw [linesL_T] at hl
 rcases h with ⟨rfl,rfl⟩ | ⟨hne,g,c,rfl,hg,hx⟩
 ·exact blockCo_nil B cb w
 ·have hcl:cs.length≤1000000:=by
   have:=linesT_ge i (cs.map fun c=>cmdTxt n c i)
   rw [List.length_map] at this
   omega
  refine blockCo_some (cmdC n) cs B cb g c w hg hcl (cmdC_ge n) (fun j hj=>?_)
  obtain ⟨u,hcu,hvu⟩:=hx j hj
  obtain ⟨ty,y,rfl⟩:=(cmdV_tree n).form _ _ _ _ hvu
  have hmem:cs[j]∈cs:=List.getElem_mem hj
  exact ⟨ty,y,hcu,ih cs[j] i w _ hvu (ha _ hmem) (Nat.le_trans (linesT_mem i (cs.map fun c=>cmdTxt n c i) _ (List.mem_map_of_mem (f:=fun c=>cmdTxt n c i) hmem)) hl)⟩
theorem quoted_arg {ps:List (List UInt8)} {x:List UInt8} (h:quotedL x∈ps) (hl:(phraseL ps++[59]).length≤100000):x.length≤100000:=by
 have h1:=phraseL_mem h
 have h2:=quotedC_ge x
 rw [List.length_append] at hl
 omega
theorem cmdCo_any (req:List (List UInt8)) (B cb:Nat):∀ n,CmdIHc req B cb n
 | 0=>fun x i w v h ha _=>ha.elim
 | n+1=>fun x i w v hv0 ha hlen W cs hW hCC hl=>by
  have ih:=cmdCo_any req B cb n
  obtain ⟨hw,harms,hels⟩:=ha
  have h:cnode (fun k=>k < B) (TestV n) (CmdV n) x W v:=(cmdV_tree (n+1)).keep _ _ _ _ _ hv0 (fun k hk _=>hW.block k hk)
  have hBW:B≤W.heap.size:=Nat.le_of_lt (Nat.lt_of_le_of_lt hCC.lt.1 hCC.lt.2)
  have hlen:(cmdNode x.1 i (x.2.1.map fun a=>(testTxt n a.1,linesL (cmdTxt n) a.2 (i++[32,32]))) (linesL (cmdTxt n) x.2.2 (i++[32,32]))).length≤100000:=hlen
  have hl:(cmdNodeC (testC n) (cmdC n) x.1 x.2.1 x.2.2 cs).length≤1000000:=hl
  show Calls Tryz.prog 123 #[.pointer (some ⟨cb,0,none⟩),v] W (CPost B cb (cmdNodeC (testC n) (cmdC n) x.1 x.2.1 x.2.2 cs) W)
  generalize hal:(x.2.1.map fun a=>(testTxt n a.1,linesL (cmdTxt n) a.2 (i++[32,32])))=al at hlen
  generalize heb:linesL (cmdTxt n) x.2.2 (i++[32,32])=eb at hlen
  unfold cnode actV at h
  split at h
  ·rename_i e
   subst h
   have et:cmdNodeC (testC n) (cmdC n) x.1 x.2.1 x.2.2 cs=cs++[actI 1 x.1.pos []]:=by unfold cmdNodeC;rw [e];rfl
   rw [et] at hl ⊢
   exact cmdCo_keep kKeep _ [] B cb cs W hCC (by simpa using hl)
  ·rename_i e
   subst h
   have et:cmdNodeC (testC n) (cmdC n) x.1 x.2.1 x.2.2 cs=cs++[⟨13,0,0,false,[],[],x.1.pos⟩]:=by unfold cmdNodeC;rw [e];rfl
   rw [et] at hl ⊢
   exact cmdCo_discard kDiscard _ B cb cs W hCC (by simpa using hl)
  ·rename_i e
   subst h
   have et:cmdNodeC (testC n) (cmdC n) x.1 x.2.1 x.2.2 cs=cs++[⟨14,0,0,false,[],[],x.1.pos⟩]:=by unfold cmdNodeC;rw [e];rfl
   rw [et] at hl ⊢
   exact cmdCo_stop kStop _ B cb cs W hCC (by simpa using hl)
  ·rename_i e
   subst h
   have et:cmdNodeC (testC n) (cmdC n) x.1 x.2.1 x.2.2 cs=cs++[actI 2 x.1.pos [x.1.arg]]:=by unfold cmdNodeC;rw [e];rfl
   have ett:cmdNode x.1 i al eb=phraseL [kFileinto,quotedL x.1.arg]++[59]:=by unfold cmdNode;rw [e];rfl
   rw [et] at hl ⊢
   rw [ett] at hlen
   exact cmdCo_act kFileinto _ 2 _ B cb cs W hCC (by simpa using hl) (by decide) (quoted_arg (by simp) hlen)
  ·rename_i e
   subst h
   have et:cmdNodeC (testC n) (cmdC n) x.1 x.2.1 x.2.2 cs=cs++[actI 3 x.1.pos [x.1.arg]]:=by unfold cmdNodeC;rw [e];rfl
   have ett:cmdNode x.1 i al eb=phraseL [kRedirect,quotedL x.1.arg]++[59]:=by unfold cmdNode;rw [e];rfl
   rw [et] at hl ⊢
   rw [ett] at hlen
   exact cmdCo_act kRedirect _ 3 _ B cb cs W hCC (by simpa using hl) (by decide) (quoted_arg (by simp) hlen)
  ·rename_i e
   subst h
   have et:cmdNodeC (testC n) (cmdC n) x.1 x.2.1 x.2.2 cs=cs++[actI 4 x.1.pos [x.1.arg]]:=by unfold cmdNodeC;rw [e];rfl
   have ett:cmdNode x.1 i al eb=phraseL [kReject,quotedL x.1.arg]++[59]:=by unfold cmdNode;rw [e];rfl
   rw [et] at hl ⊢
   rw [ett] at hlen
   exact cmdCo_act kReject _ 4 _ B cb cs W hCC (by simpa using hl) (by decide) (quoted_arg (by simp) hlen)
  ·rename_i e
   subst h
   have et:cmdNodeC (testC n) (cmdC n) x.1 x.2.1 x.2.2 cs=cs++[⟨12,0,x.1.tag,false,[x.1.var],[x.1.arg],x.1.pos⟩]:=by unfold cmdNodeC;rw [e];rfl
   have ett:cmdNode x.1 i al eb=phraseL [kSet,tagTextL x.1.tag [tLower,tUpper,tLength],quotedL x.1.var,quotedL x.1.arg]++[59]:=by unfold cmdNode;rw [e];rfl
   rw [et] at hl ⊢
   rw [ett] at hlen
   exact cmdCo_set kSet _ x.1.tag _ _ B cb cs W hCC (by simpa using hl) (quoted_arg (by simp) hlen) (quoted_arg (by simp) hlen)
  ·rename_i h0 h1 h2 h3 h4 h5 h6
   obtain ⟨av,ev,rfl,hav,hne,hev⟩:=h
   have e:x.1.kind=7:=by
    have a0:x.1.kind≠0:=h0
    have a1:x.1.kind≠1:=h1
    have a2:x.1.kind≠2:=h2
    have a3:x.1.kind≠3:=h3
    have a4:x.1.kind≠4:=h4
    have a5:x.1.kind≠5:=h5
    have a6:x.1.kind≠6:=h6
    have:=hw.kind
    omega
   have et:cmdNodeC (testC n) (cmdC n) x.1 x.2.1 x.2.2 cs=choiceC (testC n) (cmdC n) x.2.1 x.2.2 cs:=by unfold cmdNodeC;rw [e];rfl
   have ett:cmdNode x.1 i al eb=armsTxt i kIf al++(if x.1.els then elseB++eb++i else [])++[125]:=by unfold cmdNode;rw [e];rfl
   rw [et] at hl ⊢
   rw [ett] at hlen
   obtain ⟨g,c,rfl,hg,hx⟩:=hav
   obtain ⟨ea,en,ec,rfl⟩:=hev.form
   have hall:al.length=x.2.1.length:=by rw [← hal];simp
   have hl1:(armsTxt i kIf al).length≤100000:=by rw [List.length_append,List.length_append] at hlen;omega
   have hal1:x.2.1.length≤1000000:=by
    have:=armsTxt_ge i al kIf
    omega
   have hl2:(linesL (cmdTxt n) x.2.2 (i++[32,32])).length≤100000:=by
    cases hx:x.1.els with
    | true=>
     rw [hx] at hlen
     simp only [if_true,List.length_append] at hlen
     rw [heb];omega
    | false=>
     have:x.2.2=[]:=List.eq_nil_of_length_eq_zero (hw.else0 hx)
     rw [this];exact Nat.zero_le _
   refine cmdCo_if kIf _ _ ea _ c en ec _ _ B cb cs W hCC hBW (fun W2 hW2 hC2=>?_)
   refine choiceCo_any (testC n) (cmdC n) x.2.1 x.2.2 B cb g c kIf _ _ ea en ec cs W2 hC2 hne hg hal1 (testC_ge n) (cmdC_ge n) hl (fun j hj=>?_) ((blockCo_any ih _ _ W _ hev hels hl2).below hW2)
   obtain ⟨u,bv,hu,hb,hp,hq⟩:=hx j hj
   obtain ⟨ty,y,rfl⟩:=(testV_tree n).form _ _ _ _ hp
   obtain ⟨a,m,c',rfl⟩:=hq.form
   have hmem:x.2.1[j]∈x.2.1:=List.getElem_mem hj
   have hja:j < al.length:=by omega
   have hget:al[j]=(testTxt n x.2.1[j].1,linesL (cmdTxt n) x.2.1[j].2 (i++[32,32])):=by
    simp only [← hal,List.getElem_map]
   have hmm:=armsTxt_mem i al kIf al[j] (List.getElem_mem hja)
   rw [hget] at hmm
   obtain ⟨m1,m2⟩:=hmm
   have hT:=harms _ hmem
   exact ⟨ty,y,a,m,c',by rw [hW2.cell (p:=⟨g,2*j,none⟩) hg];exact hu,by rw [hW2.cell (p:=⟨g,2*j+1,none⟩) hg];exact hb,(testCo_any B cb n _ W _ hp hT.1 (Nat.le_trans m1 hl1)).below hW2,(blockCo_any ih _ _ W _ hq hT.2 (Nat.le_trans m2 hl1)).below hW2⟩
def CodeO (w:World) (B:Nat) (cv:Value) (code:List Ins):Prop:=
 ∃ ps:List IV,ps.map Prod.fst=code∧w.ownsRow B 62 7 cv ps.length (icells ps)∧(∀ p∈ps,InsOk w p.1 p.2.1 p.2.2)∧(ps=[]→cv=.slice none 0 0)
theorem CodeO.fr {P:Nat→Obj→Prop} {w w':World} {B:Nat} {cv:Value} {code:List Ins} (h:CodeO w B cv code) (hf:Fr P w w') (h2:∀ k cs,¬ P k (.cells cs 62)) (h3:∀ k cs,¬ P k (.cells cs 9)):CodeO w' B cv code:=by
 obtain ⟨ps,e,ho,hk,hn⟩:=h
 exact ⟨ps,e,owns_fr ho hf h2,fun p hp=>(hk p hp).fr hf h3,hn⟩
theorem CodeO.below {w w':World} {B:Nat} {cv:Value} {code:List Ins} (h:CodeO w B cv code) (hb:Below w.heap.size w w'):CodeO w' B cv code:=h.fr (P:=fun _ _=>False) (Fr.of_below hb) (fun _ _ h=>h) (fun _ _ h=>h)
theorem CodeO.len {w:World} {B:Nat} {cv:Value} {code:List Ins} (h:CodeO w B cv code):∃ a c,cv=.slice a code.length c:=by
 obtain ⟨ps,e,ho,_⟩:=h
 obtain ⟨a,c,h⟩:=owns_len ho
 exact ⟨a,c,by rw [h,← e,List.length_map]⟩
theorem of_any (y:List (List UInt8)×List (CmdT 7)) (rv lv:Value) (X:Nat→Prop) (w:World) (ha:∃ a n c,rv=.slice a n c) (hb:blX X (CmdV 7) y.2 w lv) (hwf:∀ c∈y.2,allC (WfT y.1) (WfC y.1) 7 c) (hl:(textL y).length≤100000) :
  Calls Tryz.prog 51 #[.agg #[rv,lv]] w fun e w'=>∃ cv,e=.returned cv∧CodeO w' w.heap.size cv (codeL y.2)∧Below w.heap.size w w':=by
 obtain ⟨ra,rn,rc,rfl⟩:=ha
 have hbw:=hb.weak (cmdV_tree 7) (Y:=fun k=>k < w.heap.size) (fun k _ hk=>hk)
 have hlines:(linesL (cmdTxt 7) y.2 []).length≤100000:=by unfold textL at hl;rw [List.length_append] at hl;omega
 have hcl:(codeL y.2).length≤1000000:=by have:=codeL_le hwf;omega
 have HSUB:Hid (∀ cb,SubC 81 w.heap.size cb w lv (blockC (cmdC 7) y.2)):=fun cb=>blockCo_any (cmdCo_any y.1 w.heap.size cb 7) y.2 [] w lv hbw hwf hlines
 have HCL:=hide hcl
 obtain ⟨la,ln,lc,rfl⟩:=hb.form
 have HB0:Hid (∀ o1 o2,Below w.heap.size w ((w.alloc o1).alloc o2)):=fun o1 o2=>((Below.refl _ _).alloc (Nat.le_refl _) _).alloc (by simp) _
 have HC0:Hid (∀ o1,CC ((w.alloc o1).alloc (.cells #[.slice none 0 0] 151)) w.heap.size (w.heap.size+1) []):=fun o1=>⟨.slice none 0 0,[],rfl,by omega,blk_newAt (by simp),World.ownsRow_nil _ _ _ _,(fun p hp=>nomatch hp),fun _=>rfl⟩
 clear hb hbw hwf hl hlines hcl
 go_enter Tryz.func51,Tryz.ntmps51
 go_wp2_with (first | (go_at_call 81;refine (HSUB.out _ _ [] (HB0.out _ _) (HC0.out _) HCL.out).mono ?_;rintro e w1 ⟨rfl,hc1,hf1⟩;obtain ⟨cv,ps,hps,hCI⟩:=hc1;have c0:w1.cell? ⟨w.heap.size+1,0,none⟩=some cv:=blk_cell hCI.blk 0;obtain ⟨ka,kc,hkk⟩:=owns_len hCI.row;subst hkk;have HCI:=hide hCI;have HPS:=hide hps;have HB1:=hide ((HB0.out _ _).trans (hf1.co (HC0.out _)));clear hps hCI hf1;skip))
 go_ret
 exact ⟨_,rfl,⟨ps,HPS.out,HCI.out.row,HCI.out.ok,HCI.out.nil⟩,HB1.out⟩
end
end Go.Proofs.YtbiclelojbfnbaaGreatDoor
