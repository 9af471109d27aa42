import Derived.Test.YtgnkjijocdmniaaGreatDoorZWChoice
namespace Go.Proofs.YtgnkjijocdmniaaGreatDoor
set_option linter.unusedVariables false
set_option linter.unusedSimpArgs false
set_option maxRecDepth 100000
set_option maxHeartbeats 4000000
open Go.RowKit
attribute [local go_sem ↓] Go.wp_at_zero Go.wp_at_succ
theorem cmdText_discard (hw i:List UInt8) (p:Nat) (w:World) (hl:hw.length≤100) :
 Calls Tryz.prog 99 #[.iface 294 (.agg #[.string (strA hw),.int .i64 p]),.string (strA i)] w fun e w'=>e=.returned (.string (strA (hw++[59])))∧Below w.heap.size w w':=by
 have n0:=Tryz.noIf
 have n1:=Tryz.noSet
 have n2:=Tryz.noAct
 have mN:=Tryz.nameDiscard
 have hsA:∀ x:List UInt8,(strA x).size=x.length:=strA_size
 have hap1:strA hw++(⟨#[59]⟩:ByteArray)=strA (hw++[59]):=strA_app hw [59]
 have q1:¬ 9223372036854775807 < hw.length+1:=by omega
 go_enter Tryz.func99,Tryz.ntmps99
 go_wp2
 go_ret
 exact ⟨rfl,(Below.refl _ _).alloc (Nat.le_refl _) _⟩
theorem cmdText_stop (hw i:List UInt8) (p:Nat) (w:World) (hl:hw.length≤100) :
 Calls Tryz.prog 99 #[.iface 295 (.agg #[.string (strA hw),.int .i64 p]),.string (strA i)] w fun e w'=>e=.returned (.string (strA (hw++[59])))∧Below w.heap.size w w':=by
 have n0:=Tryz.noIf
 have n1:=Tryz.noSet
 have n2:=Tryz.noAct
 have mN:=Tryz.nameStop
 have hsA:∀ x:List UInt8,(strA x).size=x.length:=strA_size
 have hap1:strA hw++(⟨#[59]⟩:ByteArray)=strA (hw++[59]):=strA_app hw [59]
 have q1:¬ 9223372036854775807 < hw.length+1:=by omega
 go_enter Tryz.func99,Tryz.ntmps99
 go_wp2
 go_ret
 exact ⟨rfl,(Below.refl _ _).alloc (Nat.le_refl _) _⟩
theorem cmdText_keep (hw i x:List UInt8) (p:Nat) (w:World) (hl:hw.length≤100) :
 Calls Tryz.prog 99 #[.iface 269 (.agg #[.string (strA hw),.int .i64 p,.int .i64 1,.string (strA x)]),.string (strA i)] w fun e w'=>e=.returned (.string (strA (hw++[59])))∧Below w.heap.size w w':=by
 have n0:=Tryz.noIf
 have n1:=Tryz.noSet
 have yy:=Tryz.yesAct
 have mN:=Tryz.nameAct
 have hsA:∀ x:List UInt8,(strA x).size=x.length:=strA_size
 have hap1:strA hw++(⟨#[59]⟩:ByteArray)=strA (hw++[59]):=strA_app hw [59]
 have q1:¬ 9223372036854775807 < hw.length+1:=by omega
 go_enter Tryz.func99,Tryz.ntmps99
 go_wp2
 go_ret
 exact ⟨rfl,((Below.refl _ _).alloc (Nat.le_refl _) _).alloc (by simp) _⟩
theorem cmdText_act (hw i x:List UInt8) (p kd:Nat) (w:World) (hk:2≤kd) (hk4:kd≤4) (hl:(phraseL [hw,quotedL x]).length≤4294967200) :
 Calls Tryz.prog 99 #[.iface 269 (.agg #[.string (strA hw),.int .i64 p,.int .i64 kd,.string (strA x)]),.string (strA i)] w fun e w'=>e=.returned (.string (strA (phraseL [hw,quotedL x]++[59])))∧Below w.heap.size w w':=by
 have n0:=Tryz.noIf
 have n1:=Tryz.noSet
 have yy:=Tryz.yesAct
 have hkn:((kd:Int) != 1)=true:=by simp;omega
 have HL:Hid ((phraseL [hw,quotedL x]).length≤4294967280):=Nat.le_trans hl (by omega)
 have hxl:(strA x).size≤4294967280:=by
  rw [strA_size]
  have h1:=phraseL_mem (ps:=[hw,quotedL x]) (p:=quotedL x) (by simp)
  have h2:=(quotesL_mem (xs:=[x]) (x:=x) (by simp)).1
  have h3:quotesL [x]=quotedL x:=rfl
  rw [h3] at h2
  omega
 obtain ⟨ph,hph⟩:∃ ph,phraseL [hw,quotedL x]=ph:=⟨_,rfl⟩
 rw [hph] at hl ⊢
 have HPH:=hide hph
 have hsA:∀ x:List UInt8,(strA x).size=x.length:=strA_size
 have hap1:strA ph++(⟨#[59]⟩:ByteArray)=strA (ph++[59]):=strA_app ph [59]
 have q1:¬ 9223372036854775807 < ph.length+1:=by omega
 have HXL:=hide hxl
 clear hph hl hxl
 go_enter Tryz.func99,Tryz.ntmps99
 go_wp2_with fail
 refine gen_world (P:=fun W=>Code.wp _ _ _ _ W) (w:=w) (B:=w.heap.size) (o:=.cells #[.string (strA hw),.int .i64 p,.int .i64 kd,.string (strA x)] 269) ((Below.refl _ _).alloc (Nat.le_refl _) _) (blk_new _ _) ?_
 intro W hWB hWb
 have c0:W.cell? ⟨w.heap.size,0,none⟩=some (.string (strA hw)):=blk_cell hWb 0
 have c3:W.cell? ⟨w.heap.size,3,none⟩=some (.string (strA x)):=blk_cell hWb 3
 have HWB:=hide hWB
 have HWb:=hide hWb
 have hWs:=hWB.size
 have hWl:=blk_lt hWb
 clear hWB hWb
 go_region_held3 (fun w'=>w'.cell? ⟨w.heap.size,0,none⟩=some (.string (strA hw))∧w'.cell? ⟨w.heap.size,3,none⟩=some (.string (strA x))) (first | go_keep | exact ⟨blk_cell (blk_alloc HW1.out) 0,blk_cell (blk_alloc HW1.out) 3⟩) (first
  | (go_at_call 150;refine (phrase_any [hw,quotedL x] _ 2 2 _ (txt_alloc w1 [hw,quotedL x] _ _ rfl) rfl (by simp) HL.out).mono ?_;rintro e w3 ⟨rfl,rfl⟩;rw [HPH.out];skip)
  | (go_at_call 97;refine (quoted_any (strA x) W.drew HXL.out).mono ?_;rintro e w1 ⟨rfl,hB1⟩;rw [show (strA x).data.toList=x from rfl];have HB1:=hide (HWB.out.drew.trans (hB1.mono hWs));have HW1:=hide (blk_below (w:=W.drew) HWb.out hB1);have d0:w1.cell? ⟨w.heap.size,0,none⟩=some (.string (strA hw)):=blk_cell HW1.out 0;have d3:w1.cell? ⟨w.heap.size,3,none⟩=some (.string (strA x)):=blk_cell HW1.out 3;have h1s:=HB1.out.size;clear hB1;skip))
 all_goals go_wp2
 all_goals go_ret
 all_goals exact ⟨rfl,below_alloc HB1.out (Nat.le_refl _) _⟩
theorem cmdText_set (hw i var x:List UInt8) (p tag:Nat) (w:World) (ht:tag≤3) (hl:(phraseL [hw,tagTextL tag [tLower,tUpper,tLength],quotedL var,quotedL x]).length≤4294967200) :
 Calls Tryz.prog 99 #[.iface 264 (.agg #[.string (strA hw),.int .i64 p,.int .i64 tag,.string (strA var),.string (strA x)]),.string (strA i)] w fun e w'=>e=.returned (.string (strA (phraseL [hw,tagTextL tag [tLower,tUpper,tLength],quotedL var,quotedL x]++[59])))∧Below w.heap.size w w':=by
 have n0:=Tryz.noIf
 have yy:=Tryz.yesSet
 have hq:∀ z,quotedL z∈[hw,tagTextL tag [tLower,tUpper,tLength],quotedL var,quotedL x]→(strA z).size≤4294967280:=fun z hz=>by
  rw [strA_size]
  have h1:=phraseL_mem hz
  have h2:=(quotesL_mem (xs:=[z]) (x:=z) (by simp)).1
  have h3:quotesL [z]=quotedL z:=rfl
  rw [h3] at h2
  omega
 have HXV:=hide (hq var (by simp))
 have HXL:=hide (hq x (by simp))
 have HL:Hid ((phraseL [hw,tagTextL tag [tLower,tUpper,tLength],quotedL var,quotedL x]).length≤4294967280):=Nat.le_trans hl (by omega)
 obtain ⟨tt,htt⟩:∃ tt,tagTextL tag [tLower,tUpper,tLength]=tt:=⟨_,rfl⟩
 rw [htt] at hl HL ⊢
 obtain ⟨ph,hph⟩:∃ ph,phraseL [hw,tt,quotedL var,quotedL x]=ph:=⟨_,rfl⟩
 rw [hph] at hl ⊢
 have HPH:=hide hph
 have HTT:=hide htt
 have hsA:∀ x:List UInt8,(strA x).size=x.length:=strA_size
 have hap1:strA ph++(⟨#[59]⟩:ByteArray)=strA (ph++[59]):=strA_app ph [59]
 have q1:¬ 9223372036854775807 < ph.length+1:=by omega
 clear hph hl htt hq
 go_enter Tryz.func99,Tryz.ntmps99
 go_wp2_with fail
 refine gen_world (P:=fun W=>Code.wp _ _ _ _ W) (w:=w) (B:=w.heap.size) (o:=.cells #[.string (strA hw),.int .i64 p,.int .i64 tag,.string (strA var),.string (strA x)] 264) ((Below.refl _ _).alloc (Nat.le_refl _) _) (blk_new _ _) ?_
 intro W hWB hWb
 have c0:W.cell? ⟨w.heap.size,0,none⟩=some (.string (strA hw)):=blk_cell hWb 0
 have c2:W.cell? ⟨w.heap.size,2,none⟩=some (.int .i64 tag):=blk_cell hWb 2
 have c3:W.cell? ⟨w.heap.size,3,none⟩=some (.string (strA var)):=blk_cell hWb 3
 have c4:W.cell? ⟨w.heap.size,4,none⟩=some (.string (strA x)):=blk_cell hWb 4
 have HWB:=hide hWB
 have HWb:=hide hWb
 have hWs:=hWB.size
 have hWl:=blk_lt hWb
 clear hWB hWb
 go_region_held3 (fun w'=>w'.cell? ⟨w.heap.size,0,none⟩=some (.string (strA hw))∧w'.cell? ⟨w.heap.size,2,none⟩=some (.int .i64 tag)∧w'.cell? ⟨w.heap.size,3,none⟩=some (.string (strA var))∧w'.cell? ⟨w.heap.size,4,none⟩=some (.string (strA x))) (first | go_keep | exact ⟨blk_cell (blk_alloc HW2.out) 0,blk_cell (blk_alloc HW2.out) 2,blk_cell (blk_alloc HW2.out) 3,blk_cell (blk_alloc HW2.out) 4⟩ | exact ⟨blk_cell (blk_alloc HWb.out) 0,blk_cell (blk_alloc HWb.out) 2,blk_cell (blk_alloc HWb.out) 3,blk_cell (blk_alloc HWb.out) 4⟩) (first
  | (go_at_call 150;refine (phrase_any [hw,tt,quotedL var,quotedL x] _ 4 4 _ (txt_alloc w2 [hw,tt,quotedL var,quotedL x] _ _ rfl) rfl (by simp) HL.out).mono ?_;rintro e w3 ⟨rfl,rfl⟩;rw [HPH.out];skip)
  | (go_at_call 152;refine (turnTags_any _).mono ?_;rintro e w' ⟨rfl,rfl⟩;skip)
  | (go_at_call 151;refine (tagText_any tag _ 3 3 [tLower,tUpper,tLength] _ ((txt_newAt (w:=W) (g:=W.heap.size) [tLower,tUpper,tLength] 9 rfl).drew) rfl (by decide) ht).mono ?_;rintro e w' ⟨rfl,rfl⟩;rw [HTT.out];skip)
  | (have gg:=HB1;go_at_call 97;refine (quoted_any (strA x) w1 HXL.out).mono ?_;rintro e w2 ⟨rfl,hB2⟩;rw [show (strA x).data.toList=x from rfl];have HB2:=hide (HB1.out.trans (hB2.mono h1s));have HW2:=hide (blk_below HW1.out hB2);have f0:w2.cell? ⟨w.heap.size,0,none⟩=some (.string (strA hw)):=blk_cell HW2.out 0;have f2:w2.cell? ⟨w.heap.size,2,none⟩=some (.int .i64 tag):=blk_cell HW2.out 2;have f3:w2.cell? ⟨w.heap.size,3,none⟩=some (.string (strA var)):=blk_cell HW2.out 3;have f4:w2.cell? ⟨w.heap.size,4,none⟩=some (.string (strA x)):=blk_cell HW2.out 4;clear hB2;skip)
  | (go_at_call 97;refine (quoted_any (strA var) (W.alloc (.cells (tcells [tLower,tUpper,tLength]).toArray 9)).drew HXV.out).mono ?_;rintro e w1 ⟨rfl,hB1⟩;rw [show (strA var).data.toList=var from rfl];have HB1:=hide (((below_alloc HWB.out (Nat.le_refl _) (.cells (tcells [tLower,tUpper,tLength]).toArray 9)).drew).trans (hB1.mono (by simp;omega)));have HW1:=hide (blk_below (w:=(W.alloc (.cells (tcells [tLower,tUpper,tLength]).toArray 9)).drew) (blk_alloc HWb.out) hB1);have d0:w1.cell? ⟨w.heap.size,0,none⟩=some (.string (strA hw)):=blk_cell HW1.out 0;have d2:w1.cell? ⟨w.heap.size,2,none⟩=some (.int .i64 tag):=blk_cell HW1.out 2;have d3:w1.cell? ⟨w.heap.size,3,none⟩=some (.string (strA var)):=blk_cell HW1.out 3;have d4:w1.cell? ⟨w.heap.size,4,none⟩=some (.string (strA x)):=blk_cell HW1.out 4;have h1s:=HB1.out.size;clear hB1;skip))
 all_goals go_wp2
 all_goals go_ret
 all_goals exact ⟨rfl,below_alloc HB2.out (Nat.le_refl _) _⟩
theorem cmdText_if (hw i t:List UInt8) (p:Nat) (g n c:Nat) (els:Bool) (ea:Option Addr) (en ec:Nat) (w:World)
 (hc:∀ W,Below w.heap.size w W→Calls Tryz.prog 149 #[.agg #[.string (strA hw),.int .i64 p,.slice (some ⟨g,0,none⟩) n c,.bool els,.slice ea en ec],.string (strA i)] W fun e w'=>e=.returned (.string (strA t))∧Below W.heap.size W w') :
 Calls Tryz.prog 99 #[.iface 261 (.agg #[.string (strA hw),.int .i64 p,.slice (some ⟨g,0,none⟩) n c,.bool els,.slice ea en ec]),.string (strA i)] w fun e w'=>e=.returned (.string (strA t))∧Below w.heap.size w w':=by
 have yy:=Tryz.yesIf
 have HC:=hide hc
 have hB0:∀ o,Below w.heap.size w (w.alloc o):=fun o=>(Below.refl _ _).alloc (Nat.le_refl _) o
 have HB0:=hide hB0
 clear hc hB0
 go_enter Tryz.func99,Tryz.ntmps99
 go_wp2_with fail
 refine (HC.out _ (HB0.out _)).mono ?_
 rintro e w1 ⟨rfl,hB1⟩
 have HB1:=hide ((HB0.out _).trans (hB1.mono (by simp)))
 clear hB1
 go_wp2
 go_ret
 exact ⟨rfl,HB1.out⟩
end Go.Proofs.YtgnkjijocdmniaaGreatDoor
