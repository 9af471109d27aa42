import Derived.Deep.RegionHeld3
import Derived.Test.YtgnkjijocdmniaaGreatDoorZPTest
import Derived.Test.YtgnkjijocdmniaaGreatDoorZQMatch
namespace Go.Proofs.YtgnkjijocdmniaaGreatDoor
set_option linter.unusedVariables false
set_option linter.unusedSimpArgs false
set_option maxRecDepth 100000
set_option maxHeartbeats 4000000
open Go.RowKit
def mblk (hw:List UInt8) (x:TLab) (fv kv:Value):Obj:=.cells #[.string (strA hw),.int .i64 x.pos,.int .i64 x.tag,.bool x.octet,fv,kv] 227
theorem matchText_any (X:Nat→Prop) (hw:List UInt8) (x:TLab) (fv kv:Value) (w:World) (hf:slX X x.fr w fv) (hk:slX X x.keys w kv) (h1:1≤x.tag) (h3:x.tag≤3) (hlen:(matchTxt hw x).length≤4294967280) :
 Calls Tryz.prog 239 #[.agg #[.string (strA hw),.int .i64 x.pos,.int .i64 x.tag,.bool x.octet,fv,kv]] w fun e w'=>e=.returned (.string (strA (matchTxt hw x)))∧Below w.heap.size w w':=by
 obtain ⟨gf,cf,rfl,hgf,htf,hnf⟩:=hf
 obtain ⟨gk,ck,rfl,hgk,htk,hnk⟩:=hk
 obtain ⟨C,hC⟩:∃ C,(if x.octet then phraseL [tComparator,quotedL cOctet] else [])=C:=⟨_,rfl⟩
 obtain ⟨T,hT⟩:∃ T,(if x.tag≠1 then tagTextL x.tag [tIs,tContains,tMatches] else [])=T:=⟨_,rfl⟩
 have hM:matchTxt hw x=phraseL [hw,C,T,quotesL x.fr,quotesL x.keys]:=by unfold matchTxt;rw [hC,hT]
 rw [hM] at hlen ⊢
 have hlf:(quotesL x.fr).length≤4294967280:=Nat.le_trans (phraseL_mem (ps:=[hw,C,T,quotesL x.fr,quotesL x.keys]) (by simp)) hlen
 have hlk:(quotesL x.keys).length≤4294967280:=Nat.le_trans (phraseL_mem (ps:=[hw,C,T,quotesL x.fr,quotesL x.keys]) (by simp)) hlen
 have HF:=hide htf
 have HK:=hide htk
 have HLF:=hide hlf
 have HLK:=hide hlk
 have HL:=hide hlen
 have hgl:gf < w.heap.size:=cell_lt (htf 0 (List.length_pos_iff.2 hnf))
 have hblk:∀ b:Bool,b=x.octet→(w.alloc (.cells #[.string (strA hw),.int .i64 x.pos,.int .i64 x.tag,.bool b,.slice (some ⟨gf,0,none⟩) x.fr.length cf,.slice (some ⟨gk,0,none⟩) x.keys.length ck] 227)).heap[w.heap.size]?=some (mblk hw x (.slice (some ⟨gf,0,none⟩) x.fr.length cf) (.slice (some ⟨gk,0,none⟩) x.keys.length ck)):=fun b hb=>by subst hb;exact blk_new _ _
 have HBLK:=hide hblk
 have hB0:∀ o,Below w.heap.size w (w.alloc o):=fun o=>(Below.refl _ _).alloc (Nat.le_refl _) o
 have HB0:=hide hB0
 clear htf htk hlf hlk hlen hM hblk hB0
 go_enter Tryz.func239,Tryz.ntmps239
 cases ho:x.octet
 ·rw [ho,if_neg (by decide)] at hC
  have HC:=hide hC
  clear hC
  by_cases h1':x.tag=1
  ·have ht:((x.tag:Int) != 1)=false:=by simp;omega
   rw [if_neg (by omega)] at hT
   have HT:=hide hT
   clear hT h1'
   have HO:=hide ho
   clear ho
   go_wp2_with fail
   have HCT:Hid ((#[.string (strA hw),.string ⟨#[]⟩,.string ⟨#[]⟩,.string (strA (quotesL x.fr)),.string (strA (quotesL x.keys))]:Array Value)=(tcells [hw,C,T,quotesL x.fr,quotesL x.keys]).toArray):=by
    rw [← HC.out,← HT.out];rfl
   refine gen_world (P:=fun W=>Code.wp _ _ _ _ W) (HB0.out _) (HBLK.out false HO.out.symm) ?_
   intro W hWB hWb
   have c0:W.cell? ⟨w.heap.size,0,none⟩=some (.string (strA hw)):=blk_cell hWb 0
   have c4:W.cell? ⟨w.heap.size,4,none⟩=some (.slice (some ⟨gf,0,none⟩) x.fr.length cf):=blk_cell hWb 4
   have c5:W.cell? ⟨w.heap.size,5,none⟩=some (.slice (some ⟨gk,0,none⟩) x.keys.length ck):=blk_cell hWb 5
   have HFW:=hide (HF.out.below hWB)
   have HKW:=hide (HK.out.below hWB)
   have HWB:=hide hWB
   have HWb:=hide hWb
   have hWs:=hWB.size
   have hWl:=blk_lt hWb
   clear hWB hWb
   go_region_held3 (fun w'=>w'.cell? ⟨w.heap.size,0,none⟩=some (.string (strA hw))∧w'.cell? ⟨w.heap.size,4,none⟩=some (.slice (some ⟨gf,0,none⟩) x.fr.length cf)∧w'.cell? ⟨w.heap.size,5,none⟩=some (.slice (some ⟨gk,0,none⟩) x.keys.length ck)) (first | go_keep | exact ⟨blk_cell (blk_alloc HW2.out) 0,blk_cell (blk_alloc HW2.out) 4,blk_cell (blk_alloc HW2.out) 5⟩) (first
    | (go_at_call 150;refine (phrase_any [hw,C,T,quotesL x.fr,quotesL x.keys] _ 5 5 _ (txt_alloc w2 [hw,C,T,quotesL x.fr,quotesL x.keys] _ _ HCT.out) rfl (by simp) HL.out).mono ?_;rintro e w3 ⟨rfl,rfl⟩;skip)
    | (have gg:=HB1;go_at_call 62;refine (quotes_any x.keys gk x.keys.length ck _ (HKW1.out) rfl hnk HLK.out).mono ?_;rintro e w2 ⟨rfl,hB2⟩;have HB2:=hide (HB1.out.trans (hB2.mono h1s));have HW2:=hide (blk_below HW1.out hB2);have e0:w2.cell? ⟨w.heap.size,0,none⟩=some (.string (strA hw)):=blk_cell HW2.out 0;have e4:w2.cell? ⟨w.heap.size,4,none⟩=some (.slice (some ⟨gf,0,none⟩) x.fr.length cf):=blk_cell HW2.out 4;have e5:w2.cell? ⟨w.heap.size,5,none⟩=some (.slice (some ⟨gk,0,none⟩) x.keys.length ck):=blk_cell HW2.out 5;clear hB2;skip)
    | (go_at_call 62;refine (quotes_any x.fr gf x.fr.length cf _ (HFW.out.drew) rfl hnf HLF.out).mono ?_;rintro e w1 ⟨rfl,hB1⟩;have HB1:=hide (HWB.out.drew.trans (hB1.mono hWs));have HW1:=hide (blk_below (w:=W.drew) HWb.out hB1);have d0:w1.cell? ⟨w.heap.size,0,none⟩=some (.string (strA hw)):=blk_cell HW1.out 0;have d4:w1.cell? ⟨w.heap.size,4,none⟩=some (.slice (some ⟨gf,0,none⟩) x.fr.length cf):=blk_cell HW1.out 4;have d5:w1.cell? ⟨w.heap.size,5,none⟩=some (.slice (some ⟨gk,0,none⟩) x.keys.length ck):=blk_cell HW1.out 5;have h1s:=HB1.out.size;have HKW1:=hide (HK.out.below HB1.out);clear hB1;skip))
   all_goals go_wp2
   all_goals go_ret
   all_goals exact ⟨rfl,below_alloc HB2.out (Nat.le_refl _) _⟩
  ·have ht:((x.tag:Int) != 1)=true:=by simp;omega
   rw [if_pos (by omega)] at hT
   have HT:=hide hT
   clear hT h1'
   have HO:=hide ho
   clear ho
   go_wp2_with fail
   have HCT:Hid ((#[.string (strA hw),.string ⟨#[]⟩,.string (strA (tagTextL x.tag [tIs,tContains,tMatches])),.string (strA (quotesL x.fr)),.string (strA (quotesL x.keys))]:Array Value)=(tcells [hw,C,T,quotesL x.fr,quotesL x.keys]).toArray):=by
    rw [← HC.out,← HT.out];rfl
   refine gen_world (P:=fun W=>Code.wp _ _ _ _ W) (HB0.out _) (HBLK.out false HO.out.symm) ?_
   intro W0 hW0B hW0b
   have b2:W0.cell? ⟨w.heap.size,2,none⟩=some (.int .i64 x.tag):=blk_cell hW0b 2
   have HW0B:=hide hW0B
   have HW0b:=hide hW0b
   have hW0s:=hW0B.size
   clear hW0B hW0b
   go_region_held3 (fun w'=>w'.cell? ⟨w.heap.size,2,none⟩=some (.int .i64 x.tag)) (first | go_keep | exact blk_cell (blk_alloc HW0b.out) 2) (first
    | (go_at_call 223;refine (matchTags_any _).mono ?_;rintro e w' ⟨rfl,rfl⟩;skip)
    | (go_at_call 151;refine (tagText_any x.tag _ 3 3 [tIs,tContains,tMatches] _ ((txt_newAt (w:=W0) (g:=W0.heap.size) [tIs,tContains,tMatches] 9 rfl).drew) rfl (by decide) h3).mono ?_;rintro e w' ⟨rfl,rfl⟩;skip))
   all_goals go_wp2_with fail
   all_goals refine gen_world (P:=fun W=>Code.wp _ _ _ _ W) (w:=w) (B:=w.heap.size) (o:=mblk hw x (.slice (some ⟨gf,0,none⟩) x.fr.length cf) (.slice (some ⟨gk,0,none⟩) x.keys.length ck)) (by first | exact (below_alloc HW0B.out (Nat.le_refl _) _).drew | exact below_alloc HW0B.out.drew (Nat.le_refl _) _) (by exact blk_alloc (w:=W0.drew) HW0b.out) ?_
   intro W hWB hWb
   have c0:W.cell? ⟨w.heap.size,0,none⟩=some (.string (strA hw)):=blk_cell hWb 0
   have c4:W.cell? ⟨w.heap.size,4,none⟩=some (.slice (some ⟨gf,0,none⟩) x.fr.length cf):=blk_cell hWb 4
   have c5:W.cell? ⟨w.heap.size,5,none⟩=some (.slice (some ⟨gk,0,none⟩) x.keys.length ck):=blk_cell hWb 5
   have HFW:=hide (HF.out.below hWB)
   have HKW:=hide (HK.out.below hWB)
   have HWB:=hide hWB
   have HWb:=hide hWb
   have hWs:=hWB.size
   have hWl:=blk_lt hWb
   clear hWB hWb
   go_region_held3 (fun w'=>w'.cell? ⟨w.heap.size,0,none⟩=some (.string (strA hw))∧w'.cell? ⟨w.heap.size,4,none⟩=some (.slice (some ⟨gf,0,none⟩) x.fr.length cf)∧w'.cell? ⟨w.heap.size,5,none⟩=some (.slice (some ⟨gk,0,none⟩) x.keys.length ck)) (first | go_keep | exact ⟨blk_cell (blk_alloc HW2.out) 0,blk_cell (blk_alloc HW2.out) 4,blk_cell (blk_alloc HW2.out) 5⟩) (first
    | (go_at_call 150;refine (phrase_any [hw,C,T,quotesL x.fr,quotesL x.keys] _ 5 5 _ (txt_alloc w2 [hw,C,T,quotesL x.fr,quotesL x.keys] _ _ HCT.out) rfl (by simp) HL.out).mono ?_;rintro e w3 ⟨rfl,rfl⟩;skip)
    | (have gg:=HB1;go_at_call 62;refine (quotes_any x.keys gk x.keys.length ck _ (HKW1.out) rfl hnk HLK.out).mono ?_;rintro e w2 ⟨rfl,hB2⟩;have HB2:=hide (HB1.out.trans (hB2.mono h1s));have HW2:=hide (blk_below HW1.out hB2);have e0:w2.cell? ⟨w.heap.size,0,none⟩=some (.string (strA hw)):=blk_cell HW2.out 0;have e4:w2.cell? ⟨w.heap.size,4,none⟩=some (.slice (some ⟨gf,0,none⟩) x.fr.length cf):=blk_cell HW2.out 4;have e5:w2.cell? ⟨w.heap.size,5,none⟩=some (.slice (some ⟨gk,0,none⟩) x.keys.length ck):=blk_cell HW2.out 5;clear hB2;skip)
    | (go_at_call 62;refine (quotes_any x.fr gf x.fr.length cf _ (HFW.out.drew) rfl hnf HLF.out).mono ?_;rintro e w1 ⟨rfl,hB1⟩;have HB1:=hide (HWB.out.drew.trans (hB1.mono hWs));have HW1:=hide (blk_below (w:=W.drew) HWb.out hB1);have d0:w1.cell? ⟨w.heap.size,0,none⟩=some (.string (strA hw)):=blk_cell HW1.out 0;have d4:w1.cell? ⟨w.heap.size,4,none⟩=some (.slice (some ⟨gf,0,none⟩) x.fr.length cf):=blk_cell HW1.out 4;have d5:w1.cell? ⟨w.heap.size,5,none⟩=some (.slice (some ⟨gk,0,none⟩) x.keys.length ck):=blk_cell HW1.out 5;have h1s:=HB1.out.size;have HKW1:=hide (HK.out.below HB1.out);clear hB1;skip))
   all_goals go_wp2
   all_goals go_ret
   all_goals exact ⟨rfl,below_alloc HB2.out (Nat.le_refl _) _⟩
 ·rw [ho,if_pos rfl] at hC
  have HC:=hide hC
  clear hC
  by_cases h1':x.tag=1
  ·have ht:((x.tag:Int) != 1)=false:=by simp;omega
   rw [if_neg (by omega)] at hT
   have HT:=hide hT
   clear hT h1'
   have HO:=hide ho
   clear ho
   go_wp2_with fail
   refine (quoted_any ⟨#[105,59,111,99,116,101,116]⟩ _ (by decide)).mono ?_
   rintro e wq ⟨rfl,hBq⟩
   have HBQ:=hide ((HB0.out _).trans (hBq.mono (by simp)))
   have HWQ:=hide (blk_below (HBLK.out true HO.out.symm) hBq)
   have hwqs:=HBQ.out.size
   have q2:∀ o,(wq.alloc o).cell? ⟨w.heap.size,2,none⟩=some (.int .i64 x.tag):=fun o=>blk_cell (blk_alloc HWQ.out) 2
   clear hBq
   go_wp2_with fail
   refine (phrase_any [tComparator,quotedL cOctet] _ 2 2 _ (txt_alloc wq [tComparator,quotedL cOctet] _ _ rfl) rfl (by decide) (by decide)).mono ?_
   rintro e wp' ⟨rfl,rfl⟩
   go_wp2_with fail
   have HCT:Hid ((#[.string (strA hw),.string (strA (phraseL [tComparator,quotedL cOctet])),.string ⟨#[]⟩,.string (strA (quotesL x.fr)),.string (strA (quotesL x.keys))]:Array Value)=(tcells [hw,C,T,quotesL x.fr,quotesL x.keys]).toArray):=by
    rw [← HC.out,← HT.out];rfl
   refine gen_world (P:=fun W=>Code.wp _ _ _ _ W) (below_alloc HBQ.out (Nat.le_refl _) _) (blk_alloc HWQ.out) ?_
   intro W hWB hWb
   have c0:W.cell? ⟨w.heap.size,0,none⟩=some (.string (strA hw)):=blk_cell hWb 0
   have c4:W.cell? ⟨w.heap.size,4,none⟩=some (.slice (some ⟨gf,0,none⟩) x.fr.length cf):=blk_cell hWb 4
   have c5:W.cell? ⟨w.heap.size,5,none⟩=some (.slice (some ⟨gk,0,none⟩) x.keys.length ck):=blk_cell hWb 5
   have HFW:=hide (HF.out.below hWB)
   have HKW:=hide (HK.out.below hWB)
   have HWB:=hide hWB
   have HWb:=hide hWb
   have hWs:=hWB.size
   have hWl:=blk_lt hWb
   clear hWB hWb
   go_region_held3 (fun w'=>w'.cell? ⟨w.heap.size,0,none⟩=some (.string (strA hw))∧w'.cell? ⟨w.heap.size,4,none⟩=some (.slice (some ⟨gf,0,none⟩) x.fr.length cf)∧w'.cell? ⟨w.heap.size,5,none⟩=some (.slice (some ⟨gk,0,none⟩) x.keys.length ck)) (first | go_keep | exact ⟨blk_cell (blk_alloc HW2.out) 0,blk_cell (blk_alloc HW2.out) 4,blk_cell (blk_alloc HW2.out) 5⟩) (first
    | (go_at_call 150;refine (phrase_any [hw,C,T,quotesL x.fr,quotesL x.keys] _ 5 5 _ (txt_alloc w2 [hw,C,T,quotesL x.fr,quotesL x.keys] _ _ HCT.out) rfl (by simp) HL.out).mono ?_;rintro e w3 ⟨rfl,rfl⟩;skip)
    | (have gg:=HB1;go_at_call 62;refine (quotes_any x.keys gk x.keys.length ck _ (HKW1.out) rfl hnk HLK.out).mono ?_;rintro e w2 ⟨rfl,hB2⟩;have HB2:=hide (HB1.out.trans (hB2.mono h1s));have HW2:=hide (blk_below HW1.out hB2);have e0:w2.cell? ⟨w.heap.size,0,none⟩=some (.string (strA hw)):=blk_cell HW2.out 0;have e4:w2.cell? ⟨w.heap.size,4,none⟩=some (.slice (some ⟨gf,0,none⟩) x.fr.length cf):=blk_cell HW2.out 4;have e5:w2.cell? ⟨w.heap.size,5,none⟩=some (.slice (some ⟨gk,0,none⟩) x.keys.length ck):=blk_cell HW2.out 5;clear hB2;skip)
    | (go_at_call 62;refine (quotes_any x.fr gf x.fr.length cf _ (HFW.out.drew) rfl hnf HLF.out).mono ?_;rintro e w1 ⟨rfl,hB1⟩;have HB1:=hide (HWB.out.drew.trans (hB1.mono hWs));have HW1:=hide (blk_below (w:=W.drew) HWb.out hB1);have d0:w1.cell? ⟨w.heap.size,0,none⟩=some (.string (strA hw)):=blk_cell HW1.out 0;have d4:w1.cell? ⟨w.heap.size,4,none⟩=some (.slice (some ⟨gf,0,none⟩) x.fr.length cf):=blk_cell HW1.out 4;have d5:w1.cell? ⟨w.heap.size,5,none⟩=some (.slice (some ⟨gk,0,none⟩) x.keys.length ck):=blk_cell HW1.out 5;have h1s:=HB1.out.size;have HKW1:=hide (HK.out.below HB1.out);clear hB1;skip))
   all_goals go_wp2
   all_goals go_ret
   all_goals exact ⟨rfl,below_alloc HB2.out (Nat.le_refl _) _⟩
  ·have ht:((x.tag:Int) != 1)=true:=by simp;omega
   rw [if_pos (by omega)] at hT
   have HT:=hide hT
   clear hT h1'
   have HO:=hide ho
   clear ho
   go_wp2_with fail
   refine (quoted_any ⟨#[105,59,111,99,116,101,116]⟩ _ (by decide)).mono ?_
   rintro e wq ⟨rfl,hBq⟩
   have HBQ:=hide ((HB0.out _).trans (hBq.mono (by simp)))
   have HWQ:=hide (blk_below (HBLK.out true HO.out.symm) hBq)
   have hwqs:=HBQ.out.size
   have q2:∀ o,(wq.alloc o).cell? ⟨w.heap.size,2,none⟩=some (.int .i64 x.tag):=fun o=>blk_cell (blk_alloc HWQ.out) 2
   clear hBq
   go_wp2_with fail
   refine (phrase_any [tComparator,quotedL cOctet] _ 2 2 _ (txt_alloc wq [tComparator,quotedL cOctet] _ _ rfl) rfl (by decide) (by decide)).mono ?_
   rintro e wp' ⟨rfl,rfl⟩
   go_wp2_with fail
   have HCT:Hid ((#[.string (strA hw),.string (strA (phraseL [tComparator,quotedL cOctet])),.string (strA (tagTextL x.tag [tIs,tContains,tMatches])),.string (strA (quotesL x.fr)),.string (strA (quotesL x.keys))]:Array Value)=(tcells [hw,C,T,quotesL x.fr,quotesL x.keys]).toArray):=by
    rw [← HC.out,← HT.out];rfl
   refine gen_world (P:=fun W=>Code.wp _ _ _ _ W) (below_alloc HBQ.out (Nat.le_refl _) _) (blk_alloc HWQ.out) ?_
   intro W0 hW0B hW0b
   have b2:W0.cell? ⟨w.heap.size,2,none⟩=some (.int .i64 x.tag):=blk_cell hW0b 2
   have HW0B:=hide hW0B
   have HW0b:=hide hW0b
   have hW0s:=hW0B.size
   clear hW0B hW0b
   go_region_held3 (fun w'=>w'.cell? ⟨w.heap.size,2,none⟩=some (.int .i64 x.tag)) (first | go_keep | exact blk_cell (blk_alloc HW0b.out) 2) (first
    | (go_at_call 223;refine (matchTags_any _).mono ?_;rintro e w' ⟨rfl,rfl⟩;skip)
    | (go_at_call 151;refine (tagText_any x.tag _ 3 3 [tIs,tContains,tMatches] _ ((txt_newAt (w:=W0) (g:=W0.heap.size) [tIs,tContains,tMatches] 9 rfl).drew) rfl (by decide) h3).mono ?_;rintro e w' ⟨rfl,rfl⟩;skip))
   all_goals go_wp2_with fail
   all_goals refine gen_world (P:=fun W=>Code.wp _ _ _ _ W) (w:=w) (B:=w.heap.size) (o:=mblk hw x (.slice (some ⟨gf,0,none⟩) x.fr.length cf) (.slice (some ⟨gk,0,none⟩) x.keys.length ck)) (by first | exact (below_alloc HW0B.out (Nat.le_refl _) _).drew | exact below_alloc HW0B.out.drew (Nat.le_refl _) _) (by exact blk_alloc (w:=W0.drew) HW0b.out) ?_
   intro W hWB hWb
   have c0:W.cell? ⟨w.heap.size,0,none⟩=some (.string (strA hw)):=blk_cell hWb 0
   have c4:W.cell? ⟨w.heap.size,4,none⟩=some (.slice (some ⟨gf,0,none⟩) x.fr.length cf):=blk_cell hWb 4
   have c5:W.cell? ⟨w.heap.size,5,none⟩=some (.slice (some ⟨gk,0,none⟩) x.keys.length ck):=blk_cell hWb 5
   have HFW:=hide (HF.out.below hWB)
   have HKW:=hide (HK.out.below hWB)
   have HWB:=hide hWB
   have HWb:=hide hWb
   have hWs:=hWB.size
   have hWl:=blk_lt hWb
   clear hWB hWb
   go_region_held3 (fun w'=>w'.cell? ⟨w.heap.size,0,none⟩=some (.string (strA hw))∧w'.cell? ⟨w.heap.size,4,none⟩=some (.slice (some ⟨gf,0,none⟩) x.fr.length cf)∧w'.cell? ⟨w.heap.size,5,none⟩=some (.slice (some ⟨gk,0,none⟩) x.keys.length ck)) (first | go_keep | exact ⟨blk_cell (blk_alloc HW2.out) 0,blk_cell (blk_alloc HW2.out) 4,blk_cell (blk_alloc HW2.out) 5⟩) (first
    | (go_at_call 150;refine (phrase_any [hw,C,T,quotesL x.fr,quotesL x.keys] _ 5 5 _ (txt_alloc w2 [hw,C,T,quotesL x.fr,quotesL x.keys] _ _ HCT.out) rfl (by simp) HL.out).mono ?_;rintro e w3 ⟨rfl,rfl⟩;skip)
    | (have gg:=HB1;go_at_call 62;refine (quotes_any x.keys gk x.keys.length ck _ (HKW1.out) rfl hnk HLK.out).mono ?_;rintro e w2 ⟨rfl,hB2⟩;have HB2:=hide (HB1.out.trans (hB2.mono h1s));have HW2:=hide (blk_below HW1.out hB2);have e0:w2.cell? ⟨w.heap.size,0,none⟩=some (.string (strA hw)):=blk_cell HW2.out 0;have e4:w2.cell? ⟨w.heap.size,4,none⟩=some (.slice (some ⟨gf,0,none⟩) x.fr.length cf):=blk_cell HW2.out 4;have e5:w2.cell? ⟨w.heap.size,5,none⟩=some (.slice (some ⟨gk,0,none⟩) x.keys.length ck):=blk_cell HW2.out 5;clear hB2;skip)
    | (go_at_call 62;refine (quotes_any x.fr gf x.fr.length cf _ (HFW.out.drew) rfl hnf HLF.out).mono ?_;rintro e w1 ⟨rfl,hB1⟩;have HB1:=hide (HWB.out.drew.trans (hB1.mono hWs));have HW1:=hide (blk_below (w:=W.drew) HWb.out hB1);have d0:w1.cell? ⟨w.heap.size,0,none⟩=some (.string (strA hw)):=blk_cell HW1.out 0;have d4:w1.cell? ⟨w.heap.size,4,none⟩=some (.slice (some ⟨gf,0,none⟩) x.fr.length cf):=blk_cell HW1.out 4;have d5:w1.cell? ⟨w.heap.size,5,none⟩=some (.slice (some ⟨gk,0,none⟩) x.keys.length ck):=blk_cell HW1.out 5;have h1s:=HB1.out.size;have HKW1:=hide (HK.out.below HB1.out);clear hB1;skip))
   all_goals go_wp2
   all_goals go_ret
   all_goals exact ⟨rfl,below_alloc HB2.out (Nat.le_refl _) _⟩
end Go.Proofs.YtgnkjijocdmniaaGreatDoor
