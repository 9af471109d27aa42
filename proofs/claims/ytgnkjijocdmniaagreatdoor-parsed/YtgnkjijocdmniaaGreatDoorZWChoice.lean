import Derived.Deep.QuietTactic
import Derived.BigQuiet
import Derived.Test.YtgnkjijocdmniaaGreatDoorZWTest2
namespace Go.Proofs.YtgnkjijocdmniaaGreatDoor
set_option linter.unusedVariables false
set_option linter.unusedSimpArgs false
set_option maxRecDepth 100000
set_option maxHeartbeats 4000000
section
open Go.RowKit
theorem groupText_any (hw:List UInt8) (p g n c:Nat) (ts:List (List UInt8)) (w:World) (hn:n=ts.length) (hne:ts≠[]) (hlen:(groupTxt hw ts).length≤4294967280)
 (hc:∀ j,j < ts.length→∃ ty y,w.cell? ⟨g,j,none⟩=some (.iface ty y)∧TxtOk 198 w (.iface ty y) (ts.getD j [])) :
 Calls Tryz.prog 238 #[.agg #[.string (strA hw),.int .i64 p,.slice (some ⟨g,0,none⟩) n c]] w fun e w'=>e=.returned (.string (strA (groupTxt hw ts)))∧Below w.heap.size w w':=by
 subst hn
 obtain ⟨i0,hi,hz0,hz1,hz2⟩:=info_parts Tryz.infoStr
 have hgl:g < w.heap.size:=by
  obtain ⟨ty,y,h,_⟩:=hc 0 (List.length_pos_iff.2 hne)
  exact cell_lt h
 have hG:groupTxt hw ts=hw++[32,40]++Lib.join ts [44,32]++[41]:=by unfold groupTxt;rw [joinL_eq]
 have hjl:hw.length+3+(Lib.join ts [44,32]).length≤4294967280:=by
  rw [hG] at hlen
  simp only [List.length_append,List.length_cons,List.length_nil] at hlen
  omega
 have hxl:ts.length≤4294967280:=by
  have:=join_count ts
  rw [joinL_eq] at this
  omega
 have HC:=hide hc
 have HG:=hide hG
 clear hc hG hlen
 go_enter Tryz.func238,Tryz.ntmps238
 go_wp2_with fail
 go_loopw [3,5,9] (fun v _ i wr=>∃ (k:Nat),k≤ts.length∧i=.int .i64 k∧wr.ownsRow (w.heap.size+1) 9 1 v k (tcells (ts.take k))∧Below (w.heap.size+1) (w.alloc (.cells #[.string (strA hw),.int .i64 p,.slice (some ⟨g,0,none⟩) ts.length c] 221)) wr) (fun _ _ i _=>ts.length - (intOf i).toNat)
 case atStart=>
  exact ⟨0,Nat.zero_le _,by go_num,World.ownsRow_nil _ _ _ _,Below.refl _ _⟩
 case round=>
  obtain ⟨k,hk,rfl,hown,hB⟩:=hrel
  have hBs:=hB.size
  simp at hBs
  have hBw:Below w.heap.size w wr:=((Below.refl _ w).alloc (Nat.le_refl _) _).trans (hB.mono (by omega))
  by_cases hlt:k < ts.length
  ·obtain ⟨ty,y,hcy,hty⟩:=HC.out k hlt
   have hck:wr.cell? ⟨g,k,none⟩=some (.iface ty y):=by
    rw [hBw.cell (p:=⟨g,k,none⟩) hgl]
    exact hcy
   have HS:Hid (ts.take (k+1)=ts.take k++[ts.getD k []]):=by
    show ts.take (k+1)=_
    rw [List.take_add_one,List.getElem?_eq_getElem hlt,List.getD_eq_getElem?_getD,List.getElem?_eq_getElem hlt]
    rfl
   generalize ts.getD k []=x at HS hty
   obtain ⟨A,hA⟩:∃ A,ts.take k=A:=⟨_,rfl⟩
   rw [hA] at hown HS
   have HTY:=hide hty
   have HOW:=hide hown
   have HB:=hide hB
   have HBW:=hide hBw
   clear hown hB hA hty hBw hcy
   go_wp2_with fail
   refine (HTY.out wr HBW.out).mono ?_
   rintro e w1 ⟨rfl,hB1⟩
   have hown1:=ownsRow_below HOW.out hB1
   have hB2:Below (w.heap.size+1) _ w1:=HB.out.trans (hB1.mono (by omega))
   have hB2s:=hB2.size
   simp at hB2s
   have HB1:=hide hB1
   clear hB1
   go_wp2_with (at_builtin;refine wpList_append_own _ rfl _ _ 61 rfl (w.heap.size+1) 9 i0 (.string ⟨#[]⟩) 1 16 Tryz.underlying61 hi hz0 hz1 hz2 rfl (by decide) _ _ _ rfl (hown1.alloc _) ⟨w1.heap.size,0,none⟩ 1 1 [.string (strA x)] rfl rfl ?c1 ?c2 ?c3 ?c4 ?c5 ?_)
   case c1=>
    intro j u hj
    match j,hj with
    | 0,hj=>simp at hj;subst hj;simp [Addr.add]
   case c2=>intro u hu;simp at hu;subst hu;rfl
   case c3=>unfold maxLen;omega
   case c4=>omega
   case c5=>simp;omega
   intro v1 w2 hown2 hgrow _
   have hB3:=Below.grown (hB2.alloc hB2s (Obj.cells #[.string (strA x)] 9)) hgrow (by simp;omega) (fun k' hk'=>(hown1.lt k' hk').1)
   rw [tcells_snoc,← HS.out] at hown2
   have HO2:=hide hown2
   have HB3:=hide hB3
   clear hgrow hown1 hB2 hown2 hB3
   go_wp2
   go_roundw
   case rel=>exact ⟨k+1,by omega,by go_num,HO2.out,HB3.out⟩
   case measure=>simp [intOf];omega
  ·have hk':k=ts.length:=by omega
   subst hk'
   rw [List.take_length] at hown
   have hJ:(Lib.join ((ts.map strA).map (·.data.toList)) [44,32])=Lib.join ts [44,32]:=by
    rw [List.map_map]
    congr 1
    rw [show ((fun x:ByteArray=>x.data.toList) ∘ strA)=id from by funext x;rfl,List.map_id]
   obtain ⟨h3,h4 | ⟨g',cap,cur,hv,hg',hh⟩⟩:=hown
   ·exact absurd (List.eq_nil_of_length_eq_zero h4.2) hne
   ·subst hv
    have hcells:∀ (j:Nat) x,(ts.map strA)[j]?=some x→wr.cell? ⟨g',0+j,none⟩=some (.string x):=fun j x hj=>by
     have:=World.ownsRow.cells (w:=wr) (base:=w.heap.size+1) (e:=9) (size:=1) (v:=.slice (some ⟨g',0,none⟩) ts.length cap) (n:=ts.length) (xs:=tcells ts) ⟨h3,Or.inr ⟨g',cap,cur,rfl,hg',hh⟩⟩ (g:=g') rfl j (.string x) (by
      unfold tcells
      rw [List.getElem?_map] at hj ⊢
      obtain ⟨y,hy,rfl⟩:=Option.map_eq_some_iff.1 hj
      rw [hy]
      rfl)
     rw [addr_add0] at this
     rw [Nat.zero_add]
     exact this
    have hg'l:g' < wr.heap.size:=blk_lt hh.1
    have hcap:ts.length≤cap:=hh.2.1
    have hM:wr.heap[w.heap.size]?=some (.cells #[.string (strA hw),.int .i64 p,.slice (some ⟨g,0,none⟩) ts.length c] 221):=by
     rw [hB.block w.heap.size (by omega)];exact blk_new _ _
    have c0:wr.cell? ⟨w.heap.size,0,none⟩=some (.string (strA hw)):=blk_cell hM 0
    have HM:=hide hM
    have HBW:=hide hBw
    have HJ:=hide hJ
    have HCE:=hide hcells
    have HLM:Hid (ts.length=(ts.map strA).length):=by show ts.length=_;simp
    have hs1:=strA_size hw
    have hs2:(strA hw++(⟨#[32,40]⟩:ByteArray)).size=hw.length+2:=by rw [show (⟨#[32,40]⟩:ByteArray)=strA [32,40] from rfl,strA_app,strA_size];simp
    have HJB:Hid (∀ j,j=Lib.join ts [44,32]→(strA hw++(⟨#[32,40]⟩:ByteArray)++⟨j.toArray⟩).size=hw.length+2+j.length):=fun j _=>by
     rw [show (⟨#[32,40]⟩:ByteArray)=strA [32,40] from rfl,strA_app]
     show (strA (hw++[32,40])++strA j).size=hw.length+2+j.length
     rw [strA_app,strA_size]
     simp only [List.length_append,List.length_cons,List.length_nil]
    clear hh h3 hB hcells hJ hM hBw
    generalize hJJ:Lib.join ts [44,32]=J at *
    have hs3:=HJB.out J rfl
    have hs4:(ByteArray.mk J.toArray).size=J.length:=rfl
    go_wp2_with fail
    go_region_with (first
     | (go_at_call 98;rw [HLM.out];refine (Tryz.strings_Join g' 0 cap (ts.map strA) ⟨#[44,32]⟩ wr.drew HCE.out hg'l (by rw [← HLM.out];omega) (by rw [← HLM.out];exact hcap) (by rw [show (ByteArray.mk #[44,32]).data.toList=[44,32] from rfl,HJ.out];omega)).mono ?_;rintro e w1 ⟨rfl,hB1⟩;rw [show (ByteArray.mk #[44,32]).data.toList=[44,32] from rfl,HJ.out];have HB1:=hide (HBW.out.drew.trans (hB1.mono (by show w.heap.size≤wr.heap.size;omega)));have d0:w1.cell? ⟨w.heap.size,0,none⟩=some (.string (strA hw)):=blk_cell (blk_below (w:=wr.drew) HM.out hB1) 0;clear hB1;skip))
    all_goals go_wp2
    all_goals go_ret
    all_goals refine ⟨?_,HB1.out⟩
    all_goals (rw [HG.out];show Ending.returned (Value.string (strA hw++strA [32,40]++strA J++strA [41]))=_;rw [strA_app,strA_app,strA_app])
end
section
open Go.RowKit
attribute [local go_sem ↓] Go.wp_at_zero Go.wp_at_succ
theorem testText_allof (hw:List UInt8) (p g n c:Nat) (ts:List (List UInt8)) (w:World) (hn:n=ts.length) (hne:ts≠[]) (hlen:(groupTxt hw ts).length≤4294967280)
 (hc:∀ j,j < ts.length→∃ ty y,w.cell? ⟨g,j,none⟩=some (.iface ty y)∧TxtOk 198 w (.iface ty y) (ts.getD j [])) :
 Calls Tryz.prog 198 #[.iface 224 (.agg #[.string (strA hw),.int .i64 p,.slice (some ⟨g,0,none⟩) n c])] w fun e w'=>e=.returned (.string (strA (groupTxt hw ts)))∧Below w.heap.size w w':=by
 subst hn
 have n0:=Tryz.noNot
 have yy:=Tryz.yesAllOf
 have hB0:∀ o,Below w.heap.size w (w.alloc o):=fun o=>(Below.refl _ _).alloc (Nat.le_refl _) o
 have HB0:=hide hB0
 have HL:=hide hlen
 have HC:Hid (∀ o j,j < ts.length→∃ ty y,(w.alloc o).cell? ⟨g,j,none⟩=some (.iface ty y)∧TxtOk 198 (w.alloc o) (.iface ty y) (ts.getD j [])):=fun o j hj=>by
  obtain ⟨ty,y,h1,h2⟩:=hc j hj
  exact ⟨ty,y,by rw [World.cell?_alloc_past _ _ _ (cell_lt h1)];exact h1,h2.below (hB0 o)⟩
 clear hB0 hlen hc
 go_enter Tryz.func198,Tryz.ntmps198
 go_wp2_with fail
 refine (groupText_any hw p g ts.length c ts _ rfl hne HL.out (HC.out _)).mono ?_
 rintro e w1 ⟨rfl,hB1⟩
 have HB1:=hide ((HB0.out _).trans (hB1.mono (by simp)))
 clear hB1
 go_wp2
 go_ret
 exact ⟨rfl,HB1.out⟩
theorem testText_anyof (hw:List UInt8) (p g n c:Nat) (ts:List (List UInt8)) (w:World) (hn:n=ts.length) (hne:ts≠[]) (hlen:(groupTxt hw ts).length≤4294967280)
 (hc:∀ j,j < ts.length→∃ ty y,w.cell? ⟨g,j,none⟩=some (.iface ty y)∧TxtOk 198 w (.iface ty y) (ts.getD j [])) :
 Calls Tryz.prog 198 #[.iface 225 (.agg #[.string (strA hw),.int .i64 p,.slice (some ⟨g,0,none⟩) n c])] w fun e w'=>e=.returned (.string (strA (groupTxt hw ts)))∧Below w.heap.size w w':=by
 subst hn
 have n0:=Tryz.noNot
 have n1:=Tryz.noAllOf
 have yy:=Tryz.yesAnyOf
 have hB0:∀ o,Below w.heap.size w (w.alloc o):=fun o=>(Below.refl _ _).alloc (Nat.le_refl _) o
 have HB0:=hide hB0
 have HL:=hide hlen
 have HC:Hid (∀ o j,j < ts.length→∃ ty y,(w.alloc o).cell? ⟨g,j,none⟩=some (.iface ty y)∧TxtOk 198 (w.alloc o) (.iface ty y) (ts.getD j [])):=fun o j hj=>by
  obtain ⟨ty,y,h1,h2⟩:=hc j hj
  exact ⟨ty,y,by rw [World.cell?_alloc_past _ _ _ (cell_lt h1)];exact h1,h2.below (hB0 o)⟩
 clear hB0 hlen hc
 go_enter Tryz.func198,Tryz.ntmps198
 go_wp2_with fail
 refine (groupText_any hw p g ts.length c ts _ rfl hne HL.out (HC.out _)).mono ?_
 rintro e w1 ⟨rfl,hB1⟩
 have HB1:=hide ((HB0.out _).trans (hB1.mono (by simp)))
 clear hB1
 go_wp2
 go_ret
 exact ⟨rfl,HB1.out⟩
theorem testText_any {req:List (List UInt8)}:∀ (n:Nat) (X:Nat→Prop) (x:TestT n) (w:World) (v:Value),TestV n X x w v→allT (WfT req) n x→Tab w→(testTxt n x).length≤4294967280→
 Calls Tryz.prog 198 #[v] w fun e w'=>e=.returned (.string (strA (testTxt n x)))∧Below w.heap.size w w'
 | 0,X,x,w,v,h,ha,_,_=>ha.elim
 | n+1,X,x,w,v,h,ha,ht,hlen=>by
  obtain ⟨hw,hsub⟩:=ha
  have h:tnode X (TestV n) x w v:=h
  have hlen:(testNode x.1 (x.2.map (testTxt n))).length≤4294967280:=hlen
  have hok:∀ a∈x.2,∀ u,TestV n X a w u→(testTxt n a).length≤4294967280→∃ ty y,u=.iface ty y∧TxtOk 198 w (.iface ty y) (testTxt n a):=fun a ha u hu hl=>by
   obtain ⟨ty,y,rfl⟩:=(testV_tree n).form _ _ _ _ hu
   exact ⟨ty,y,rfl,fun W hW=>testText_any n X a W _ ((testV_tree n).keep _ _ _ _ _ hu (fun k _ hk=>hW.block k hk)) (hsub a ha) (ht.below hW) hl⟩
  show Calls Tryz.prog 198 #[v] w fun e w'=>e=.returned (.string (strA (testNode x.1 (x.2.map (testTxt n)))))∧Below w.heap.size w w'
  have hrow:∀ (hd:List UInt8) (u:Value),trX X (TestV n) x.2 w u→x.2≠[]→(groupTxt hd (x.2.map (testTxt n))).length≤4294967280→∃ g c,u=.slice (some ⟨g,0,none⟩) x.2.length c∧∀ j,j < (x.2.map (testTxt n)).length→∃ ty y,w.cell? ⟨g,j,none⟩=some (.iface ty y)∧TxtOk 198 w (.iface ty y) ((x.2.map (testTxt n)).getD j []):=fun hd u hu hne hl=>by
   obtain ⟨g,c,rfl,hg,hx⟩:=hu
   refine ⟨g,c,rfl,fun j hj=>?_⟩
   rw [List.length_map] at hj
   obtain ⟨uj,hcj,hvj⟩:=hx j hj
   have hmem:x.2[j]∈x.2:=List.getElem_mem hj
   obtain ⟨ty,y,rfl,hty⟩:=hok _ hmem uj hvj (Nat.le_trans (joinL_memlen (hw:=hd) (List.mem_map_of_mem hmem)) hl)
   refine ⟨ty,y,hcj,?_⟩
   rw [List.getD_eq_getElem?_getD,List.getElem?_map,List.getElem?_eq_getElem hj]
   exact hty
  unfold tnode at h
  split at h
  ·rename_i e
   obtain ⟨h2,rfl⟩:=h
   have et:testNode x.1 (x.2.map (testTxt n))=kTrue:=by unfold testNode;rw [e];rfl
   rw [et]
   exact testText_truth kTrue _ true w
  ·rename_i e
   obtain ⟨h2,rfl⟩:=h
   have et:testNode x.1 (x.2.map (testTxt n))=kFalse:=by unfold testNode;rw [e];rfl
   rw [et]
   exact testText_truth kFalse _ false w
  ·rename_i e
   obtain ⟨a,u,h2,rfl,hu⟩:=h
   have et:testNode x.1 (x.2.map (testTxt n))=phraseL [kNot,testTxt n a]:=by unfold testNode;rw [e,h2];rfl
   rw [et] at hlen ⊢
   obtain ⟨ty,y,rfl,hty⟩:=hok a (by rw [h2];simp) u hu (Nat.le_trans (phraseL_mem (ps:=[kNot,testTxt n a]) (by simp)) hlen)
   exact testText_not kNot _ ty y _ w hty hlen
  ·rename_i e
   obtain ⟨u,rfl,hu,hne⟩:=h
   have et:testNode x.1 (x.2.map (testTxt n))=groupTxt kAllof (x.2.map (testTxt n)):=by unfold testNode;rw [e];rfl
   rw [et] at hlen ⊢
   obtain ⟨g,c,rfl,hx⟩:=hrow kAllof u hu hne hlen
   exact testText_allof kAllof _ g _ c _ w (by simp) (by simpa using hne) hlen hx
  ·rename_i e
   obtain ⟨u,rfl,hu,hne⟩:=h
   have et:testNode x.1 (x.2.map (testTxt n))=groupTxt kAnyof (x.2.map (testTxt n)):=by unfold testNode;rw [e];rfl
   rw [et] at hlen ⊢
   obtain ⟨g,c,rfl,hx⟩:=hrow kAnyof u hu hne hlen
   exact testText_anyof kAnyof _ g _ c _ w (by simp) (by simpa using hne) hlen hx
  ·rename_i e
   obtain ⟨h2,u,rfl,hu⟩:=h
   have et:testNode x.1 (x.2.map (testTxt n))=matchTxt kHeader x.1:=by unfold testNode;rw [e];rfl
   rw [et] at hlen ⊢
   exact testText_header X kHeader x.1 u w hu (hw.tag (by omega) (by omega)).1 (hw.tag (by omega) (by omega)).2 hlen
  ·rename_i e
   obtain ⟨h2,u,rfl,hu⟩:=h
   have et:testNode x.1 (x.2.map (testTxt n))=matchTxt kEnvelope x.1:=by unfold testNode;rw [e];rfl
   rw [et] at hlen ⊢
   exact testText_envelope X kEnvelope x.1 u w hu (hw.tag (by omega) (by omega)).1 (hw.tag (by omega) (by omega)).2 hlen
  ·rename_i e
   obtain ⟨h2,u,rfl,hu⟩:=h
   have et:testNode x.1 (x.2.map (testTxt n))=matchTxt kString x.1:=by unfold testNode;rw [e];rfl
   rw [et] at hlen ⊢
   exact testText_string X kString x.1 u w hu (hw.tag (by omega) (by omega)).1 (hw.tag (by omega) (by omega)).2 hlen
  ·rename_i e
   obtain ⟨h2,u,rfl,hu⟩:=h
   have et:testNode x.1 (x.2.map (testTxt n))=phraseL [kExists,quotesL x.1.fr]:=by unfold testNode;rw [e];rfl
   rw [et] at hlen ⊢
   exact testText_exists X kExists _ _ u w hu hlen
  ·rename_i h0 h1 h2 h3 h4 h5 h6 h7 h8
   obtain ⟨_,rfl⟩:=h
   have e:x.1.kind=9:=by
    have a0:x.1.kind≠0:=h0
    have a1:x.1.kind≠1:=h1
    have a2:x.1.kind≠2:=h2
    have a3:x.1.kind≠3:=h3
    have a4:x.1.kind≠4:=h4
    have a5:x.1.kind≠5:=h5
    have a6:x.1.kind≠6:=h6
    have a7:x.1.kind≠7:=h7
    have a8:x.1.kind≠8:=h8
    have:=hw.kind
    omega
   have et:testNode x.1 (x.2.map (testTxt n))=phraseL [kSize,tagTextL x.1.tag [tOver,tUnder],itoaL x.1.num]:=by unfold testNode;rw [e];rfl
   rw [et] at hlen ⊢
   exact testText_size kSize _ _ _ w ht (hw.size e).2 hw.num hlen
end
section
open Go.RowKit
attribute [local go_sem ↓] Go.wp_at_zero Go.wp_at_succ
def CTxtOk (w:World) (v:Value) (i t:List UInt8):Prop:=
 ∀ W,Below w.heap.size w W→Calls Tryz.prog 99 #[v,.string (strA i)] W fun e w'=>e=.returned (.string (strA t))∧Below W.heap.size W w'
theorem linesT_take (i:List UInt8) (ts:List (List UInt8)) (k:Nat):(linesT i (ts.take k)).length≤(linesT i ts).length:=by
 have h:linesT i ts=linesT i (ts.take k)++linesT i (ts.drop k):=by
  unfold linesT;rw [← List.flatMap_append,List.take_append_drop]
 rw [h,List.length_append];omega
theorem linesT_succ (i:List UInt8) (ts:List (List UInt8)) (k:Nat) (h:k < ts.length):linesT i (ts.take (k+1))=linesT i (ts.take k)++(i++ts.getD k []++[10]):=by
 unfold linesT
 rw [List.take_add_one,List.flatMap_append,List.getElem?_eq_getElem h,List.getD_eq_getElem?_getD,List.getElem?_eq_getElem h]
 simp
theorem lines_nil (i:List UInt8) (w:World):Calls Tryz.prog 63 #[.slice none 0 0,.string (strA i)] w fun e w'=>e=.returned (.string (strA []))∧Below w.heap.size w w':=by
 go_enter Tryz.func63,Tryz.ntmps63
 go_wp2_with fail
 refine wp_loop_rounds 1 ?_
 rw [rounds_succ]
 go_wp2
 go_ret
 exact ⟨rfl,Below.refl _ _⟩
theorem lines_some (i:List UInt8) (g c:Nat) (ts:List (List UInt8)) (w:World) (hne:ts≠[]) (hlen:(linesT i ts).length≤4294967280)
 (hc:∀ j,j < ts.length→∃ ty y,w.cell? ⟨g,j,none⟩=some (.iface ty y)∧CTxtOk w (.iface ty y) i (ts.getD j [])) :
 Calls Tryz.prog 63 #[.slice (some ⟨g,0,none⟩) ts.length c,.string (strA i)] w fun e w'=>e=.returned (.string (strA (linesT i ts)))∧Below w.heap.size w w':=by
 have hgl:g < w.heap.size:=by
  obtain ⟨ty,y,h,_⟩:=hc 0 (List.length_pos_iff.2 hne)
  exact cell_lt h
 have hxl:ts.length≤4294967280:=Nat.le_trans (linesT_ge i ts) hlen
 have HC:=hide hc
 have HL:=hide hlen
 clear hc hlen
 go_enter Tryz.func63,Tryz.ntmps63
 go_wp2_with fail
 go_loopw [5,7,10] (fun v _ i' wr=>∃ (k:Nat) (t:List UInt8),k≤ts.length∧i'=.int .i64 k∧v=.string (strA t)∧t=linesT i (ts.take k)∧Below w.heap.size w wr) (fun _ _ i' _=>ts.length - (intOf i').toNat)
 case atStart=>exact ⟨0,[],Nat.zero_le _,by go_num,rfl,rfl,Below.refl _ _⟩
 case round=>
  obtain ⟨k,t,hk,rfl,rfl,hte,hB⟩:=hrel
  have hBs:=hB.size
  by_cases hlt:k < ts.length
  ·obtain ⟨ty,y,hcy,hty⟩:=HC.out k hlt
   have hck:wr.cell? ⟨g,k,none⟩=some (.iface ty y):=by
    rw [hB.cell (p:=⟨g,k,none⟩) hgl]
    exact hcy
   have HS:=hide (linesT_succ i ts k hlt)
   have h1:=linesT_take i ts (k+1)
   rw [HS.out,← hte] at h1
   rw [← hte] at HS
   have h2:=Nat.le_trans h1 HL.out
   clear h1 hte
   generalize ts.getD k []=x at HS hty h2
   have hl:t.length+(i.length+x.length+1)≤4294967280:=by
    simp only [List.length_append,List.length_cons,List.length_nil] at h2
    omega
   clear h2
   have HTY:=hide hty
   have HB:=hide hB
   have hs1:=strA_size t
   have hs2:=strA_size i
   have hs3:=strA_size x
   have hs4:(strA i++strA x).size=i.length+x.length:=by rw [strA_app,strA_size,List.length_append]
   have hs5:(strA i++strA x++(⟨#[10]⟩:ByteArray)).size=i.length+x.length+1:=by
    show (strA i++strA x++strA [10]).size=_
    rw [strA_app,strA_app,strA_size]
    simp only [List.length_append,List.length_cons,List.length_nil]
   have HAP:Hid (strA t++(strA i++strA x++(⟨#[10]⟩:ByteArray))=strA (t++(i++x++[10]))):=by
    show strA t++(strA i++strA x++strA [10])=_
    rw [strA_app,strA_app,strA_app]
   clear hty hB hcy
   go_wp2_with fail
   refine (HTY.out wr HB.out).mono ?_
   rintro e w1 ⟨rfl,hB1⟩
   have HB1:=hide (HB.out.trans (hB1.mono hBs))
   clear hB1
   go_wp2
   go_roundw
   case rel=>exact ⟨k+1,t++(i++x++[10]),by omega,by go_num,by rw [HAP.out],HS.out.symm,HB1.out⟩
   case measure=>simp [intOf];omega
  ·have hk':k=ts.length:=by omega
   subst hk'
   rw [List.take_length] at hte
   subst hte
   have HB:=hide hB
   clear hB
   go_wp2
   go_ret
   exact ⟨rfl,HB.out⟩
end
section
open Go.RowKit
def LTxtOk (w:World) (v:Value) (i t:List UInt8):Prop:=
 ∀ W,Below w.heap.size w W→Calls Tryz.prog 63 #[v,.string (strA i)] W fun e w'=>e=.returned (.string (strA t))∧Below W.heap.size W w'
theorem LTxtOk.below {w w':World} {v:Value} {i t:List UInt8} (h:LTxtOk w v i t) (hb:Below w.heap.size w w'):LTxtOk w' v i t:=
 fun W hW=>h W (hb.trans (hW.mono hb.size))
def armWord (k:Nat) (word:List UInt8):List UInt8:=if k=0 then word else kElsifB
theorem armsTxt_succ (i:List UInt8):∀ (al:List (List UInt8×List UInt8)) (word:List UInt8) (k:Nat) (h:k < al.length),armsTxt i word (al.take (k+1))=armsTxt i word (al.take k)++armTxt (armWord k word) i (al[k]).1 (al[k]).2
 | [],word,k,h=>by cases h
 | a :: r,word,0,h=>by simp [armsTxt,armWord]
 | a :: r,word,k+1,h=>by
  have ih:=armsTxt_succ i r kElsifB k (by simpa using h)
  rw [List.take_succ_cons,List.take_succ_cons]
  show armTxt word i a.1 a.2++armsTxt i kElsifB (r.take (k+1))=(armTxt word i a.1 a.2++armsTxt i kElsifB (r.take k))++_
  rw [ih,List.append_assoc]
  have e:armWord (k+1) word=armWord k kElsifB:=by unfold armWord;simp
  rw [e]
  rfl
theorem armsTxt_app (i:List UInt8):∀ (al bs:List (List UInt8×List UInt8)) (word:List UInt8),(armsTxt i word al).length≤(armsTxt i word (al++bs)).length
 | [],bs,word=>by simp [armsTxt]
 | a :: r,bs,word=>by
  have:=armsTxt_app i r bs kElsifB
  show (armTxt word i a.1 a.2++armsTxt i kElsifB r).length≤(armTxt word i a.1 a.2++armsTxt i kElsifB (r++bs)).length
  rw [List.length_append,List.length_append]
  omega
theorem armsTxt_take (i word:List UInt8) (al:List (List UInt8×List UInt8)) (k:Nat):(armsTxt i word (al.take k)).length≤(armsTxt i word al).length:=by
 have:=armsTxt_app i (al.take k) (al.drop k) word
 rw [List.take_append_drop] at this
 exact this
theorem choiceText_any (i:List UInt8) (p g c:Nat) (els:Bool) (ea:Option Addr) (en ec:Nat) (al:List (List UInt8×List UInt8)) (eb:List UInt8) (w:World) (hne:al≠[])
 (hc:∀ j (hj:j < al.length),∃ ty y a n c',w.cell? ⟨g,2*j,none⟩=some (.iface ty y)∧w.cell? ⟨g,2*j+1,none⟩=some (.slice a n c')∧TxtOk 198 w (.iface ty y) (al[j]).1∧LTxtOk w (.slice a n c') (i++[32,32]) (al[j]).2)
 (he:els=true→LTxtOk w (.slice ea en ec) (i++[32,32]) eb)
 (hlen:(armsTxt i kIf al++(if els then elseB++eb++i else [])++[125]).length≤4294967280) :
 Calls Tryz.prog 149 #[.agg #[.string (strA kIf),.int .i64 p,.slice (some ⟨g,0,none⟩) al.length c,.bool els,.slice ea en ec],.string (strA i)] w fun e w'=>e=.returned (.string (strA (armsTxt i kIf al++(if els then elseB++eb++i else [])++[125])))∧Below w.heap.size w w':=by
 have hgl:g < w.heap.size:=by
  obtain ⟨ty,y,a,n,c',h,_⟩:=hc 0 (List.length_pos_iff.2 hne)
  exact cell_lt h
 have hl1:(armsTxt i kIf al).length≤4294967280:=by rw [List.length_append,List.length_append] at hlen;omega
 have hxl:al.length≤4294967280:=Nat.le_trans (armsTxt_ge i al kIf) hl1
 have HC:=hide hc
 have HE:=hide he
 have HL:=hide hlen
 clear hc he hlen
 go_enter Tryz.func149,Tryz.ntmps149
 go_wp2_with fail
 go_quiet (fail)
 go_wp2_with fail
 refine gen_world (P:=fun W=>Code.wp _ _ _ _ W) (w:=w) (B:=w.heap.size) (o:=.cells #[.string (strA kIf),.int .i64 p,.slice (some ⟨g,0,none⟩) al.length c,.bool els,.slice ea en ec] 261) (by have h:=(Below.refl w.heap.size w).alloc (Nat.le_refl _) (.cells #[.string (strA kIf),.int .i64 p,.slice (some ⟨g,0,none⟩) al.length c,.bool els,.slice ea en ec] 261);exact ⟨h.os,h.tape,h.output,h.size,h.block⟩) (blk_new w _) ?_
 intro W0 hW0B hW0b
 have HW0B:=hide hW0B
 have HW0b:=hide hW0b
 clear hW0B hW0b
 go_loopw [5,6,8,15] (fun v v6 _ i' wr=>∃ (k:Nat) (t:List UInt8),k≤al.length∧i'=.int .i64 k∧v=.string (strA t)∧v6=.string (strA (armWord k kIf))∧t=armsTxt i kIf (al.take k)∧wr.heap[w.heap.size]?=some (.cells #[.string (strA kIf),.int .i64 p,.slice (some ⟨g,0,none⟩) al.length c,.bool els,.slice ea en ec] 261)∧Below w.heap.size w wr) (fun _ _ _ i' _=>al.length - (intOf i').toNat)
 case atStart=>exact ⟨0,[],Nat.zero_le _,by go_num,rfl,rfl,rfl,HW0b.out,HW0B.out⟩
 case round=>
  obtain ⟨k,t,hk,rfl,rfl,rfl,hte,hM,hB⟩:=hrel
  have hBs:=hB.size
  clear HW0B HW0b
  by_cases hlt:k < al.length
  ·obtain ⟨ty,y,a,n,c',hcy,hcb,hty,hln⟩:=HC.out k hlt
   have c0:wr.cell? ⟨g,2*k,none⟩=some (.iface ty y):=by rw [hB.cell (p:=⟨g,2*k,none⟩) hgl];exact hcy
   have c1:wr.cell? ⟨g,2*k+1,none⟩=some (.slice a n c'):=by rw [hB.cell (p:=⟨g,2*k+1,none⟩) hgl];exact hcb
   have c0':wr.cell? ⟨g,k*2,none⟩=some (.iface ty y):=by rw [Nat.mul_comm];exact c0
   have c1':wr.cell? ⟨g,k*2+1,none⟩=some (.slice a n c'):=by rw [Nat.mul_comm];exact c1
   have HS:=hide (armsTxt_succ i al kIf k hlt)
   have h1:=armsTxt_take i kIf al (k+1)
   rw [HS.out,← hte] at h1
   rw [← hte] at HS
   have h2:=Nat.le_trans h1 hl1
   clear h1 hte
   generalize (al[k]).1=x at HS hty h2
   generalize (al[k]).2=b at HS hln h2
   generalize hwd:armWord k kIf=wd at HS h2
   have hwd2:armWord (k+1) kIf=kElsifB:=by unfold armWord;rw [if_neg (by omega)]
   have HWD2:=hide hwd2
   clear hwd2 hwd
   unfold armTxt at HS h2
   simp only [List.length_append] at h2
   obtain ⟨ph,hph⟩:∃ ph,phraseL [wd,x,openB]=ph:=⟨_,rfl⟩
   rw [hph] at HS h2
   have HPL:Hid ((phraseL [wd,x,openB]).length≤4294967280):=by show (phraseL [wd,x,openB]).length≤_;rw [hph];omega
   have HPH:=hide hph
   have HTY:=hide hty
   have HLN:=hide hln
   have HM:=hide hM
   have HB:=hide hB
   have hsA:∀ x:List UInt8,(strA x).size=x.length:=strA_size
   have hap1:strA i++(⟨#[32,32]⟩:ByteArray)=strA (i++[32,32]):=strA_app i [32,32]
   have hap2:=strA_app ph b
   have hap3:strA (ph++b)++strA i=strA (ph++(b++i)):=by rw [strA_app,List.append_assoc]
   have hap4:=strA_app t (ph++(b++i))
   have q1:¬ 9223372036854775807 < i.length+2:=by omega
   have q2:¬ 9223372036854775807 < ph.length+b.length:=by omega
   have q3:¬ 9223372036854775807 < ph.length+b.length+i.length:=by omega
   have q4:¬ 9223372036854775807 < t.length+(ph.length+(b.length+i.length)):=by omega
   clear hty hln hM hB hcy hcb hph
   go_wp2_with fail
   refine gen_world (P:=fun W=>Code.wp _ _ _ _ W) (w:=wr) (B:=wr.heap.size) (o:=.cells #[.iface ty y,.slice a n c'] 298) ((Below.refl _ _).alloc (Nat.le_refl _) _) (blk_new _ _) ?_
   intro W hWB hWb
   have e0:W.cell? ⟨wr.heap.size,0,none⟩=some (.iface ty y):=blk_cell hWb 0
   have e1:W.cell? ⟨wr.heap.size,1,none⟩=some (.slice a n c'):=blk_cell hWb 1
   have HWW:=hide (HB.out.trans (hWB.mono hBs))
   have HMW:=hide (blk_below HM.out hWB)
   have HWB:=hide hWB
   have HWb:=hide hWb
   have hWs:=hWB.size
   have hWl:=blk_lt hWb
   clear hWB hWb
   go_region_held3 (fun w'=>w'.cell? ⟨wr.heap.size,0,none⟩=some (.iface ty y)∧w'.cell? ⟨wr.heap.size,1,none⟩=some (.slice a n c')) (first | go_keep | exact ⟨blk_cell (blk_alloc HW1.out) 0,blk_cell (blk_alloc HW1.out) 1⟩) (first
    | (go_at_call 150;refine (phrase_any [wd,x,openB] _ 3 3 _ (txt_alloc w1 [wd,x,openB] _ _ rfl) rfl (by simp) HPL.out).mono ?_;rintro e w3 ⟨rfl,rfl⟩;rw [HPH.out];skip)
    | (go_at_call 198;refine (HTY.out W.drew HWW.out.drew).mono ?_;rintro e w1 ⟨rfl,hB1⟩;have HB1:=hide (HWW.out.drew.trans (hB1.mono (Nat.le_trans hBs hWs)));have HW1:=hide (blk_below (w:=W.drew) HWb.out hB1);have HM1:=hide (blk_below (w:=W.drew) HMW.out hB1);have d0:w1.cell? ⟨wr.heap.size,0,none⟩=some (.iface ty y):=blk_cell HW1.out 0;have d1:w1.cell? ⟨wr.heap.size,1,none⟩=some (.slice a n c'):=blk_cell HW1.out 1;have h1s:=HB1.out.size;have h1l:=blk_lt HW1.out;clear hB1;skip)
    | (go_at_call 63;refine (HLN.out (w1.alloc (.cells #[.string (strA wd),.string (strA x),.string ⟨#[123,10]⟩] 9)) (below_alloc HB1.out (Nat.le_refl _) _)).mono ?_;rintro e w2 ⟨rfl,hB2⟩;have HB2:=hide ((below_alloc HB1.out (Nat.le_refl _) (.cells #[.string (strA wd),.string (strA x),.string ⟨#[123,10]⟩] 9)).trans (hB2.mono (by simp;omega)));have HM2:=hide (blk_below (blk_alloc HM1.out) hB2);have HWW2:=hide (blk_below (blk_alloc HW1.out) hB2);have f0:w2.cell? ⟨wr.heap.size,0,none⟩=some (.iface ty y):=blk_cell HWW2.out 0;have f1:w2.cell? ⟨wr.heap.size,1,none⟩=some (.slice a n c'):=blk_cell HWW2.out 1;clear hB2;skip))
   all_goals go_wp2
   all_goals go_roundw
   case rel=>exact ⟨k+1,t++(ph++(b++i)),by omega,by go_num,rfl,by rw [HWD2.out];rfl,by rw [HS.out,List.append_assoc ph b i],HM2.out,HB2.out⟩
   case measure=>simp [intOf];omega
  ·have hk':k=al.length:=by omega
   subst hk'
   rw [List.take_length] at hte
   have d3:wr.cell? ⟨w.heap.size,3,none⟩=some (.bool els):=blk_cell hM 3
   have HM:=hide hM
   have HB:=hide hB
   have HTE:=hide hte
   have htl:t.length≤4294967280:=by rw [hte];exact hl1
   have d4:wr.cell? ⟨w.heap.size,4,none⟩=some (.slice ea en ec):=blk_cell hM 4
   have hsA:∀ x:List UInt8,(strA x).size=x.length:=strA_size
   clear hM hB hte
   cases els
   ·have hap5:strA t++(⟨#[125]⟩:ByteArray)=strA (t++[125]):=strA_app t [125]
    have q5:¬ 9223372036854775807 < t.length+1:=by omega
    go_wp2
    go_ret
    refine ⟨?_,HB.out⟩
    rw [HTE.out]
    simp
   ·have HL2:=HL.out
    simp only [if_true,List.length_append,List.length_cons,List.length_nil,show elseB.length=9 from rfl] at HL2
    rw [← HTE.out] at HL2
    have HEE:=hide (HE.out rfl)
    have hap1:strA i++(⟨#[32,32]⟩:ByteArray)=strA (i++[32,32]):=strA_app i [32,32]
    have q1:¬ 9223372036854775807 < i.length+2:=by omega
    clear hl1
    go_wp2_with fail
    refine (HEE.out _ HB.out).mono ?_
    rintro e w1 ⟨rfl,hB1⟩
    have HB1:=hide (HB.out.trans (hB1.mono hBs))
    have hap2:(⟨#[125,32,101,108,115,101,32,123,10]⟩:ByteArray)++strA eb=strA (elseB++eb):=strA_app elseB eb
    have hap3:strA (elseB++eb)++strA i=strA (elseB++(eb++i)):=by rw [strA_app,List.append_assoc]
    have hap4:=strA_app t (elseB++(eb++i))
    have hap5:strA (t++(elseB++(eb++i)))++(⟨#[125]⟩:ByteArray)=strA (t++(elseB++(eb++i))++[125]):=strA_app _ [125]
    have hsE:elseB.length=9:=rfl
    have q2:¬ 9223372036854775807 < 9+eb.length:=by omega
    have q3:¬ 9223372036854775807 < 9+eb.length+i.length:=by omega
    have q4:¬ 9223372036854775807 < t.length+(9+(eb.length+i.length)):=by omega
    have q5:¬ 9223372036854775807 < t.length+(9+(eb.length+i.length))+1:=by omega
    clear hB1 HL2
    go_wp2
    go_ret
    refine ⟨?_,HB1.out⟩
    rw [HTE.out]
    simp
end
end Go.Proofs.YtgnkjijocdmniaaGreatDoor
