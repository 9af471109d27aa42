import Derived.Test.YtgnkjijocdmniaaGreatDoorZPTest
namespace Go.Proofs.YtgnkjijocdmniaaGreatDoor
set_option linter.unusedVariables false
set_option linter.unusedSimpArgs false
set_option maxRecDepth 100000
set_option maxHeartbeats 4000000
open Go.RowKit
attribute [local go_sem ↓] Go.wp_at_zero Go.wp_at_succ
def jto (p:List UInt8) (ts:List (List UInt8)) (k:Nat):List UInt8:=p++joinL [44,32] (ts.take k)
theorem jto_succ (p:List UInt8) (ts:List (List UInt8)) (k:Nat) (h:k < ts.length):jto p ts (k+1)=(if 0 < k then jto p ts k++[44,32] else jto p ts k)++ts.getD k []:=by
 unfold jto
 rw [List.take_succ_eq_append_getElem h,List.getD_eq_getElem?_getD,List.getElem?_eq_getElem h]
 by_cases h0:0 < k
 ·rw [if_pos h0,join_snoc _ _ (by intro e;have:=congrArg List.length e;rw [List.length_take,List.length_nil] at this;omega)]
  simp
 ·have:k=0:=by omega
  subst this
  simp [joinL]
theorem jto_mono (p:List UInt8) (ts:List (List UInt8)) (k:Nat) (h:k < ts.length):(jto p ts k).length+(ts.getD k []).length≤(jto p ts (k+1)).length:=by
 rw [jto_succ p ts k h]
 split <;> simp <;> omega
theorem jto_le (p:List UInt8) (ts:List (List UInt8)):∀ d k,k+d=ts.length→(jto p ts k).length≤(jto p ts ts.length).length
 | 0,k,h=>by rw [show k=ts.length by omega];exact Nat.le_refl _
 | d+1,k,h=>Nat.le_trans (by have:=jto_mono p ts k (by omega);omega) (jto_le p ts d (k+1) (by omega))
theorem jto_end (hw:List UInt8) (ts:List (List UInt8)):jto (hw++[32,40]) ts ts.length++[41]=groupTxt hw ts:=by
 unfold jto groupTxt
 rw [List.take_of_length_le (Nat.le_refl _)]
theorem ptext_allof (nm:List UInt8) (g:Nat) (tv fv kv:Value) (tag num:Nat) (oct:Bool) (w:World) (hc:w.heap[g]?=some (.cells #[.string (strA nm),tv,fv,kv,.int .i64 tag,.bool oct,.int .i64 num] 200)) (hx:nm=kAllof) (g1 c:Nat) (ts:List (List UInt8)) (htv:tv=.slice (some ⟨g1,0,none⟩) ts.length c) (hd:∀ j,j < ts.length→∃ g2,w.cell? ⟨g1,j,none⟩=some (.pointer (some ⟨g2,0,none⟩))∧WrOk w (.pointer (some ⟨g2,0,none⟩)) (ts.getD j [])) (hne:ts≠[]) (hlen:(groupTxt nm ts).length≤4294967280) :
 Calls Tryz.prog 119 #[.pointer (some ⟨g,0,none⟩)] w fun e w'=>e=.returned (.string (strA (groupTxt nm ts)))∧Below w.heap.size w w':=by
 subst htv
 have c0:w.cell? ⟨g,0,none⟩=some (.string (strA nm)):=blk_cell hc 0
 have c1:w.cell? ⟨g,1,none⟩=some (.slice (some ⟨g1,0,none⟩) ts.length c):=blk_cell hc 1
 have c2:w.cell? ⟨g,2,none⟩=some (fv):=blk_cell hc 2
 have c3:w.cell? ⟨g,3,none⟩=some (kv):=blk_cell hc 3
 have c4:w.cell? ⟨g,4,none⟩=some (.int .i64 tag):=blk_cell hc 4
 have c5:w.cell? ⟨g,5,none⟩=some (.bool oct):=blk_cell hc 5
 have c6:w.cell? ⟨g,6,none⟩=some (.int .i64 num):=blk_cell hc 6
 have hgl:=blk_lt hc
 clear hc
 have e0:((strA nm).toList == [116,114,117,101])=false:=by rw [strA_beq,hx];decide
 have e1:((strA nm).toList == [102,97,108,115,101])=false:=by rw [strA_beq,hx];decide
 have e2:((strA nm).toList == [110,111,116])=false:=by rw [strA_beq,hx];decide
 have e3:((strA nm).toList == [97,108,108,111,102])=true:=by rw [strA_beq,hx];decide
 have HE:=hide (jto_end nm ts)
 have hL:(jto (nm++[32,40]) ts ts.length).length≤4294967280:=by have:=congrArg List.length HE.out;simp at this;omega
 have hnl:nm.length=5:=by rw [hx];rfl
 have hg1:g1 < w.heap.size:=by obtain ⟨g2,h,_⟩:=hd 0 (List.length_pos_iff.2 hne);exact cell_lt h
 have hxl:ts.length≤4294967280:=by
  have h1:=join_count ts
  have h2:(groupTxt nm ts).length=nm.length+2+(joinL [44,32] ts).length+1:=by unfold groupTxt;simp;omega
  omega
 have HD:=hide hd
 have hz:=strA_size nm
 clear hx hd hlen
 go_enter Tryz.func119,Tryz.ntmps119
 go_wp2_with fail
 go_loopw [4,5,6] (fun o i _ wr=>∃ k:Nat,k≤ts.length∧i=.int .i64 k∧o=.string (strA (jto (nm++[32,40]) ts k))∧Below w.heap.size w wr) (fun _ i _ _=>ts.length - (intOf i).toNat)
 case atStart=>exact ⟨0,by omega,rfl,by show Value.string (strA nm++strA [32,40])=_;rw [strA_app];unfold jto;simp [joinL],Below.refl _ _⟩
 case round=>
  obtain ⟨k,hk,rfl,rfl,hB⟩:=hrel
  have HB:=hide hB
  have hkl:=jto_le (nm++[32,40]) ts (ts.length - k) k (by omega)
  have b1:wr.cell? ⟨g,1,none⟩=some (.slice (some ⟨g1,0,none⟩) ts.length c):=by rw [hB.cell (p:=⟨g,1,none⟩) hgl];exact c1
  clear hB
  by_cases hlt:k < ts.length
  ·have HS:=hide (jto_succ (nm++[32,40]) ts k hlt)
   have hm:=jto_mono (nm++[32,40]) ts k hlt
   have hm2:=jto_le (nm++[32,40]) ts (ts.length - (k+1)) (k+1) (by omega)
   obtain ⟨g2,hc2,hok⟩:=HD.out k hlt
   have ck:wr.cell? ⟨g1,k,none⟩=some (.pointer (some ⟨g2,0,none⟩)):=by rw [HB.out.cell (p:=⟨g1,k,none⟩) hg1];exact hc2
   have HOK:=hide (hok wr HB.out)
   obtain ⟨x,hx'⟩:∃ x,ts.getD k []=x:=⟨_,rfl⟩
   rw [hx'] at HS hm HOK
   obtain ⟨y,hy⟩:∃ y,jto (nm++[32,40]) ts k=y:=⟨_,rfl⟩
   rw [hy] at HS hm hkl ⊢
   have hz1:=strA_size y
   have hz2:=strA_size x
   clear hc2 hok hx' hy
   by_cases h0:0 < k
   ·have h0b:decide ((0:Int) < (k:Int))=true:=decide_eq_true (by omega)
    rw [if_pos h0] at HS
    go_wp2_with fail
    refine HOK.out.mono ?_
    rintro e w1 ⟨rfl,hB1⟩
    have HB1:=hide (HB.out.trans (hB1.mono (Below.size HB.out)))
    clear hB1
    go_wp2
    exact ⟨⟨k+1,by omega,by go_num,by rw [HS.out];show Value.string (strA y++strA [44,32]++strA x)=_;rw [strA_app,strA_app],HB1.out⟩,by simp [intOf];omega⟩
   ·have h0b:decide ((0:Int) < (k:Int))=false:=decide_eq_false (by omega)
    rw [if_neg h0] at HS
    go_wp2_with fail
    refine HOK.out.mono ?_
    rintro e w1 ⟨rfl,hB1⟩
    have HB1:=hide (HB.out.trans (hB1.mono (Below.size HB.out)))
    clear hB1
    go_wp2
    exact ⟨⟨k+1,by omega,by go_num,by rw [HS.out];show Value.string (strA y++strA x)=_;rw [strA_app],HB1.out⟩,by simp [intOf];omega⟩
  ·have hk':k=ts.length:=by omega
   subst hk'
   have hz1:=strA_size (jto (nm++[32,40]) ts ts.length)
   generalize jto (nm++[32,40]) ts ts.length=y at *
   go_wp2
   go_ret
   exact ⟨by rw [← HE.out];show Ending.returned (.string (strA y++strA [41]))=_;rw [strA_app],HB.out⟩
theorem ptext_anyof (nm:List UInt8) (g:Nat) (tv fv kv:Value) (tag num:Nat) (oct:Bool) (w:World) (hc:w.heap[g]?=some (.cells #[.string (strA nm),tv,fv,kv,.int .i64 tag,.bool oct,.int .i64 num] 200)) (hx:nm=kAnyof) (g1 c:Nat) (ts:List (List UInt8)) (htv:tv=.slice (some ⟨g1,0,none⟩) ts.length c) (hd:∀ j,j < ts.length→∃ g2,w.cell? ⟨g1,j,none⟩=some (.pointer (some ⟨g2,0,none⟩))∧WrOk w (.pointer (some ⟨g2,0,none⟩)) (ts.getD j [])) (hne:ts≠[]) (hlen:(groupTxt nm ts).length≤4294967280) :
 Calls Tryz.prog 119 #[.pointer (some ⟨g,0,none⟩)] w fun e w'=>e=.returned (.string (strA (groupTxt nm ts)))∧Below w.heap.size w w':=by
 subst htv
 have c0:w.cell? ⟨g,0,none⟩=some (.string (strA nm)):=blk_cell hc 0
 have c1:w.cell? ⟨g,1,none⟩=some (.slice (some ⟨g1,0,none⟩) ts.length c):=blk_cell hc 1
 have c2:w.cell? ⟨g,2,none⟩=some (fv):=blk_cell hc 2
 have c3:w.cell? ⟨g,3,none⟩=some (kv):=blk_cell hc 3
 have c4:w.cell? ⟨g,4,none⟩=some (.int .i64 tag):=blk_cell hc 4
 have c5:w.cell? ⟨g,5,none⟩=some (.bool oct):=blk_cell hc 5
 have c6:w.cell? ⟨g,6,none⟩=some (.int .i64 num):=blk_cell hc 6
 have hgl:=blk_lt hc
 clear hc
 have e0:((strA nm).toList == [116,114,117,101])=false:=by rw [strA_beq,hx];decide
 have e1:((strA nm).toList == [102,97,108,115,101])=false:=by rw [strA_beq,hx];decide
 have e2:((strA nm).toList == [110,111,116])=false:=by rw [strA_beq,hx];decide
 have e3:((strA nm).toList == [97,108,108,111,102])=false:=by rw [strA_beq,hx];decide
 have e4:((strA nm).toList == [97,110,121,111,102])=true:=by rw [strA_beq,hx];decide
 have HE:=hide (jto_end nm ts)
 have hL:(jto (nm++[32,40]) ts ts.length).length≤4294967280:=by have:=congrArg List.length HE.out;simp at this;omega
 have hnl:nm.length=5:=by rw [hx];rfl
 have hg1:g1 < w.heap.size:=by obtain ⟨g2,h,_⟩:=hd 0 (List.length_pos_iff.2 hne);exact cell_lt h
 have hxl:ts.length≤4294967280:=by
  have h1:=join_count ts
  have h2:(groupTxt nm ts).length=nm.length+2+(joinL [44,32] ts).length+1:=by unfold groupTxt;simp;omega
  omega
 have HD:=hide hd
 have hz:=strA_size nm
 clear hx hd hlen
 go_enter Tryz.func119,Tryz.ntmps119
 go_wp2_with fail
 go_loopw [4,5,6] (fun o i _ wr=>∃ k:Nat,k≤ts.length∧i=.int .i64 k∧o=.string (strA (jto (nm++[32,40]) ts k))∧Below w.heap.size w wr) (fun _ i _ _=>ts.length - (intOf i).toNat)
 case atStart=>exact ⟨0,by omega,rfl,by show Value.string (strA nm++strA [32,40])=_;rw [strA_app];unfold jto;simp [joinL],Below.refl _ _⟩
 case round=>
  obtain ⟨k,hk,rfl,rfl,hB⟩:=hrel
  have HB:=hide hB
  have hkl:=jto_le (nm++[32,40]) ts (ts.length - k) k (by omega)
  have b1:wr.cell? ⟨g,1,none⟩=some (.slice (some ⟨g1,0,none⟩) ts.length c):=by rw [hB.cell (p:=⟨g,1,none⟩) hgl];exact c1
  clear hB
  by_cases hlt:k < ts.length
  ·have HS:=hide (jto_succ (nm++[32,40]) ts k hlt)
   have hm:=jto_mono (nm++[32,40]) ts k hlt
   have hm2:=jto_le (nm++[32,40]) ts (ts.length - (k+1)) (k+1) (by omega)
   obtain ⟨g2,hc2,hok⟩:=HD.out k hlt
   have ck:wr.cell? ⟨g1,k,none⟩=some (.pointer (some ⟨g2,0,none⟩)):=by rw [HB.out.cell (p:=⟨g1,k,none⟩) hg1];exact hc2
   have HOK:=hide (hok wr HB.out)
   obtain ⟨x,hx'⟩:∃ x,ts.getD k []=x:=⟨_,rfl⟩
   rw [hx'] at HS hm HOK
   obtain ⟨y,hy⟩:∃ y,jto (nm++[32,40]) ts k=y:=⟨_,rfl⟩
   rw [hy] at HS hm hkl ⊢
   have hz1:=strA_size y
   have hz2:=strA_size x
   clear hc2 hok hx' hy
   by_cases h0:0 < k
   ·have h0b:decide ((0:Int) < (k:Int))=true:=decide_eq_true (by omega)
    rw [if_pos h0] at HS
    go_wp2_with fail
    refine HOK.out.mono ?_
    rintro e w1 ⟨rfl,hB1⟩
    have HB1:=hide (HB.out.trans (hB1.mono (Below.size HB.out)))
    clear hB1
    go_wp2
    exact ⟨⟨k+1,by omega,by go_num,by rw [HS.out];show Value.string (strA y++strA [44,32]++strA x)=_;rw [strA_app,strA_app],HB1.out⟩,by simp [intOf];omega⟩
   ·have h0b:decide ((0:Int) < (k:Int))=false:=decide_eq_false (by omega)
    rw [if_neg h0] at HS
    go_wp2_with fail
    refine HOK.out.mono ?_
    rintro e w1 ⟨rfl,hB1⟩
    have HB1:=hide (HB.out.trans (hB1.mono (Below.size HB.out)))
    clear hB1
    go_wp2
    exact ⟨⟨k+1,by omega,by go_num,by rw [HS.out];show Value.string (strA y++strA x)=_;rw [strA_app],HB1.out⟩,by simp [intOf];omega⟩
  ·have hk':k=ts.length:=by omega
   subst hk'
   have hz1:=strA_size (jto (nm++[32,40]) ts ts.length)
   generalize jto (nm++[32,40]) ts ts.length=y at *
   go_wp2
   go_ret
   exact ⟨by rw [← HE.out];show Ending.returned (.string (strA y++strA [41]))=_;rw [strA_app],HB.out⟩
theorem eqA {x y:ByteArray} (h:x.data.toList=y.data.toList):x=y:=by cases x;cases y;simp at h;rw [h]
def mTxt (nm:List UInt8) (oct:Bool) (tag:Nat) (a b:List UInt8):List UInt8:=nm++((if oct then 32 :: (tComparator++32 :: quotedL cOctet) else [])++((if tag=2 then 32 :: tContains else if tag=3 then 32 :: tMatches else [])++32 :: (a++32 :: b)))
theorem ptext_match (nm:List UInt8) (g:Nat) (tv fv kv:Value) (tag num:Nat) (oct:Bool) (w:World) (hc:w.heap[g]?=some (.cells #[.string (strA nm),tv,fv,kv,.int .i64 tag,.bool oct,.int .i64 num] 200)) (hx:nm=kHeader∨nm=kEnvelope∨nm=kString) (xs ys:List (List UInt8)) (g1 c1' g2 c2':Nat) (hfv:fv=.slice (some ⟨g1,0,none⟩) xs.length c1') (hkv:kv=.slice (some ⟨g2,0,none⟩) ys.length c2') (ht1:TxtAt w g1 xs) (ht2:TxtAt w g2 ys) (hne1:xs≠[]) (hne2:ys≠[]) (htag:1≤tag∧tag≤3) (hl1:(quotesL xs).length≤4294967280) (hl2:(quotesL ys).length≤4294967280) :
 Calls Tryz.prog 119 #[.pointer (some ⟨g,0,none⟩)] w fun e w'=>e=.returned (.string (strA (mTxt nm oct tag (quotesL xs) (quotesL ys))))∧Below w.heap.size w w':=by
 subst hfv hkv
 have c0:w.cell? ⟨g,0,none⟩=some (.string (strA nm)):=blk_cell hc 0
 have c1:w.cell? ⟨g,1,none⟩=some (tv):=blk_cell hc 1
 have c2:w.cell? ⟨g,2,none⟩=some (.slice (some ⟨g1,0,none⟩) xs.length c1'):=blk_cell hc 2
 have c3:w.cell? ⟨g,3,none⟩=some (.slice (some ⟨g2,0,none⟩) ys.length c2'):=blk_cell hc 3
 have c4:w.cell? ⟨g,4,none⟩=some (.int .i64 tag):=blk_cell hc 4
 have c5:w.cell? ⟨g,5,none⟩=some (.bool oct):=blk_cell hc 5
 have c6:w.cell? ⟨g,6,none⟩=some (.int .i64 num):=blk_cell hc 6
 have hgl:=blk_lt hc
 clear hc
 have e0:((strA nm).toList == [116,114,117,101])=false:=by rw [strA_beq];rcases hx with hx | hx | hx <;> (rw [hx];decide)
 have e1:((strA nm).toList == [102,97,108,115,101])=false:=by rw [strA_beq];rcases hx with hx | hx | hx <;> (rw [hx];decide)
 have e2:((strA nm).toList == [110,111,116])=false:=by rw [strA_beq];rcases hx with hx | hx | hx <;> (rw [hx];decide)
 have e3:((strA nm).toList == [97,108,108,111,102])=false:=by rw [strA_beq];rcases hx with hx | hx | hx <;> (rw [hx];decide)
 have e4:((strA nm).toList == [97,110,121,111,102])=false:=by rw [strA_beq];rcases hx with hx | hx | hx <;> (rw [hx];decide)
 have e5:((strA nm).toList == [101,120,105,115,116,115])=false:=by rw [strA_beq];rcases hx with hx | hx | hx <;> (rw [hx];decide)
 have e6:((strA nm).toList == [115,105,122,101])=false:=by rw [strA_beq];rcases hx with hx | hx | hx <;> (rw [hx];decide)
 have hnl:nm.length≤8:=by rcases hx with hx | hx | hx <;> (rw [hx];decide)
 have hz:=strA_size nm
 have HQ1:=hide (qlist_any xs g1 xs.length c1' w ht1 rfl hne1 hl1)
 have HQ2:Hid (∀ W,Below w.heap.size w W→Calls Tryz.prog 53 #[.slice (some ⟨g2,0,none⟩) ys.length c2'] W fun e w'=>e=.returned (.string (strA (quotesL ys)))∧Below W.heap.size W w'):=by
  intro W hW
  refine qlist_any ys g2 ys.length c2' W (fun j hj=>?_) rfl hne2 hl2
  have:=ht2 j hj
  rw [hW.cell (p:=⟨g2,j,none⟩) (cell_lt this)]
  exact this
 have hz1:=strA_size (quotesL xs)
 have hz2:=strA_size (quotesL ys)
 clear hx ht1 ht2
 generalize quotesL xs=a at *
 generalize quotesL ys=b at *
 have htg:(tag=1∧((tag:Int) == 2)=false∧((tag:Int) == 3)=false)∨(tag=2∧((tag:Int) == 2)=true∧((tag:Int) == 3)=false)∨(tag=3∧((tag:Int) == 2)=false∧((tag:Int) == 3)=true):=by
  rcases Nat.lt_or_ge tag 2 with h | h
  ·left;exact ⟨by omega,by simp;omega,by simp;omega⟩
  ·right
   rcases Nat.lt_or_ge tag 3 with h' | h'
   ·left;exact ⟨by omega,by simp;omega,by simp;omega⟩
   ·right;exact ⟨by omega,by simp;omega,by simp;omega⟩
 clear htag
 go_enter Tryz.func119,Tryz.ntmps119
 cases oct
 all_goals rcases htg with ⟨rfl,t2,t3⟩ | ⟨rfl,t2,t3⟩ | ⟨rfl,t2,t3⟩
 all_goals go_wp2_with fail
 all_goals
  refine HQ1.out.mono ?_
  rintro e w1 ⟨rfl,hB1⟩
  have HB1:=hide hB1
  have b3:w1.cell? ⟨g,3,none⟩=some (.slice (some ⟨g2,0,none⟩) ys.length c2'):=by rw [hB1.cell (p:=⟨g,3,none⟩) hgl];exact c3
  clear hB1
  go_wp2_with fail
  refine (HQ2.out _ HB1.out).mono ?_
  rintro e w2 ⟨rfl,hB2⟩
  have HB2:=hide (HB1.out.trans (hB2.mono (Below.size HB1.out)))
  clear hB2
  go_wp2
  go_ret
  refine ⟨congrArg (fun x=>Ending.returned (Value.string x)) (eqA ?_),HB2.out⟩
  simp [strA,mTxt,tComparator,tContains,tMatches,quotedL,quoteB,cOctet]
end Go.Proofs.YtgnkjijocdmniaaGreatDoor
