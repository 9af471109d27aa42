import Derived.Test.YtgnkjijocdmniaaGreatDoorZWChoice
namespace Go.Proofs.YtgnkjijocdmniaaGreatDoor
set_option linter.unusedVariables false
set_option linter.unusedSimpArgs false
set_option maxRecDepth 100000
set_option maxHeartbeats 4000000
open Go.Proofs.Tryz
open Go.RowKit
attribute [local go_sem ↓] Go.wp_at_zero Go.wp_at_succ
theorem Qjt(hw i:L8)(p:Nat)(w:World)(hl:hw.length<=100) :
 Calls Tryz.prog 99 #[.iface 294 (.agg #[.string (Qaf hw),.int .i64 p]),.string (Qaf i)] w fun e w'=>e=.returned (.string (Qaf (hw++[59])))/\Below w.heap.size w w':=by
 have n0:=Tryz.noIf;have n1:=Tryz.noSet;have n2:=Tryz.noAct;have mN:=Tryz.nameDiscard;have hsA:∀ x:L8,(Qaf x).size=x.length:=Qaj;have hap1:Qaf hw++(⟨#[59]⟩:ByteArray)=Qaf (hw++[59]):=QaJ hw [59];have q1:¬ 9223372036854775807<hw.length+1:=by omega
 go_enter func99,ntmps99;go_wp2;go_ret;exact⟨rfl,(Below.refl _ _).alloc (Nat.le_refl _) _⟩
theorem Qm6(hw i:L8)(p:Nat)(w:World)(hl:hw.length<=100) :
 Calls Tryz.prog 99 #[.iface 295 (.agg #[.string (Qaf hw),.int .i64 p]),.string (Qaf i)] w fun e w'=>e=.returned (.string (Qaf (hw++[59])))/\Below w.heap.size w w':=by
 have n0:=Tryz.noIf;have n1:=Tryz.noSet;have n2:=Tryz.noAct;have mN:=Tryz.nameStop;have hsA:∀ x:L8,(Qaf x).size=x.length:=Qaj;have hap1:Qaf hw++(⟨#[59]⟩:ByteArray)=Qaf (hw++[59]):=QaJ hw [59];have q1:¬ 9223372036854775807<hw.length+1:=by omega
 go_enter func99,ntmps99;go_wp2;go_ret;exact⟨rfl,(Below.refl _ _).alloc (Nat.le_refl _) _⟩
theorem QnD(hw i x:L8)(p:Nat)(w:World)(hl:hw.length<=100) :
 Calls Tryz.prog 99 #[.iface 269 (.agg #[.string (Qaf hw),.int .i64 p,.int .i64 1,.string (Qaf x)]),.string (Qaf i)] w fun e w'=>e=.returned (.string (Qaf (hw++[59])))/\Below w.heap.size w w':=by
 have n0:=Tryz.noIf;have n1:=Tryz.noSet;have yy:=Tryz.yesAct;have mN:=Tryz.nameAct;have hsA:∀ x:L8,(Qaf x).size=x.length:=Qaj;have hap1:Qaf hw++(⟨#[59]⟩:ByteArray)=Qaf (hw++[59]):=QaJ hw [59];have q1:¬ 9223372036854775807<hw.length+1:=by omega
 go_enter func99,ntmps99;go_wp2;go_ret;exact⟨rfl,((Below.refl _ _).alloc (Nat.le_refl _) _).alloc (by simp) _⟩
theorem QgF(hw i x:L8)(p kd:Nat)(w:World)(hk:2<=kd)(hk4:kd<=4)(hl:(phraseL [hw,quotedL x]).length<=4294967200) :
 Calls Tryz.prog 99 #[.iface 269 (.agg #[.string (Qaf hw),.int .i64 p,.int .i64 kd,.string (Qaf x)]),.string (Qaf i)] w fun e w'=>e=.returned (.string (Qaf (phraseL [hw,quotedL x]++[59])))/\Below w.heap.size w w':=by
 have n0:=Tryz.noIf;have n1:=Tryz.noSet;have yy:=Tryz.yesAct;have hkn:((kd:Int) != 1)=true:=by simp;omega
 have HL:Hid ((phraseL [hw,quotedL x]).length<=4294967280):=Nat.le_trans hl (by omega)
 have ad:(Qaf x).size<=4294967280:=by
  rw[Qaj];have h1:=QbB (ps:=[hw,quotedL x]) (p:=quotedL x) (by simp);have h2:=(QgS (xs:=[x]) (x:=x) (by simp)).1;have h3:Qam [x]=quotedL x:=rfl;rw[h3]at h2;omega
 obtain⟨ph,ac⟩:∃ ph,phraseL [hw,quotedL x]=ph:=⟨_,rfl⟩;rw[ac]at hl ⊢;have ae:=Qab ac;have hsA:∀ x:L8,(Qaf x).size=x.length:=Qaj;have hap1:Qaf ph++(⟨#[59]⟩:ByteArray)=Qaf (ph++[59]):=QaJ ph [59];have q1:¬ 9223372036854775807<ph.length+1:=by omega
 have HXL:=Qab ad;clear ac hl ad;go_enter func99,ntmps99;go_wp2_with fail;refine Qb8 (P:=fun W=>Code.wp _ _ _ _ W) (w:=w) (B:=w.heap.size) (o:=.cells #[.string (Qaf hw),.int .i64 p,.int .i64 kd,.string (Qaf x)] 269) ((Below.refl _ _).alloc (Nat.le_refl _) _) (Qat _ _) ?_;intro W ab aa;have c0:W.cell? ⟨w.heap.size,0,none⟩=some (.string (Qaf hw)):=Qaa aa 0;have c3:W.cell? ⟨w.heap.size,3,none⟩=some (.string (Qaf x)):=Qaa aa 3;have HWB:=Qab ab;have HWb:=Qab aa;have hWs:=ab.size;have hWl:=QaI aa;clear ab aa
 go_region_held3 (fun w'=>w'.cell? ⟨w.heap.size,0,none⟩=some (.string (Qaf hw))∧w'.cell? ⟨w.heap.size,3,none⟩=some (.string (Qaf x))) (first | go_keep | exact ⟨Qaa (Qae HW1.o) 0,Qaa (Qae HW1.o) 3⟩) (first
  |(go_at_call 150;refine(QbY [hw,quotedL x] _ 2 2 _ (Qba w1 [hw,quotedL x] _ _ rfl) rfl (by simp) HL.o).mono ?_;rintro e w3 ⟨rfl,rfl⟩;rw[ae.o];skip)
  | (go_at_call 97;refine (QdO (Qaf x) W.drew HXL.o).mono ?_;rintro e w1 ⟨rfl,hB1⟩;rw [show (Qaf x).data.toList=x from rfl];have HB1:=Qab (HWB.o.drew.trans (hB1.mono hWs));have HW1:=Qab (Qal (w:=W.drew) HWb.o hB1);have d0:w1.cell? ⟨w.heap.size,0,none⟩=some (.string (Qaf hw)):=Qaa HW1.o 0;have d3:w1.cell? ⟨w.heap.size,3,none⟩=some (.string (Qaf x)):=Qaa HW1.o 3;have h1s:=HB1.o.size;clear hB1;skip))
 all_goals go_wp2
 all_goals go_ret
 all_goals exact⟨rfl,Qbb HB1.o (Nat.le_refl _) _⟩
theorem Qps(hw i var x:L8)(p tag:Nat)(w:World)(ht:tag<=3)(hl:(phraseL [hw,tagTextL tag [QbT,QbU,Qbr],quotedL var,quotedL x]).length<=4294967200) :
 Calls Tryz.prog 99 #[.iface 264 (.agg #[.string (Qaf hw),.int .i64 p,.int .i64 tag,.string (Qaf var),.string (Qaf x)]),.string (Qaf i)] w fun e w'=>e=.returned (.string (Qaf (phraseL [hw,tagTextL tag [QbT,QbU,Qbr],quotedL var,quotedL x]++[59])))/\Below w.heap.size w w':=by
 have n0:=Tryz.noIf;have yy:=Tryz.yesSet
 have hq:∀ z,quotedL z∈[hw,tagTextL tag [QbT,QbU,Qbr],quotedL var,quotedL x]->(Qaf z).size<=4294967280:=fun z hz=>by
  rw[Qaj];have h1:=QbB hz;have h2:=(QgS (xs:=[z]) (x:=z) (by simp)).1;have h3:Qam [z]=quotedL z:=rfl;rw[h3]at h2;omega
 have HXV:=Qab (hq var (by simp));have ai:=Qab (hq x (by simp));have HL:Hid ((phraseL [hw,tagTextL tag [QbT,QbU,Qbr],quotedL var,quotedL x]).length<=4294967280):=Nat.le_trans hl (by omega);obtain⟨tt,ae⟩:∃ tt,tagTextL tag [QbT,QbU,Qbr]=tt:=⟨_,rfl⟩;rw[ae]at hl HL ⊢;obtain⟨ph,ad⟩:∃ ph,phraseL [hw,tt,quotedL var,quotedL x]=ph:=⟨_,rfl⟩;rw[ad]at hl ⊢;have ag:=Qab ad;have ah:=Qab ae;have hsA:∀ x:L8,(Qaf x).size=x.length:=Qaj;have hap1:Qaf ph++(⟨#[59]⟩:ByteArray)=Qaf (ph++[59]):=QaJ ph [59];have q1:¬ 9223372036854775807<ph.length+1:=by omega
 clear ad hl ae hq;go_enter func99,ntmps99;go_wp2_with fail;refine Qb8 (P:=fun W=>Code.wp _ _ _ _ W) (w:=w) (B:=w.heap.size) (o:=.cells #[.string (Qaf hw),.int .i64 p,.int .i64 tag,.string (Qaf var),.string (Qaf x)] 264) ((Below.refl _ _).alloc (Nat.le_refl _) _) (Qat _ _) ?_;intro W ac aa;have c0:W.cell? ⟨w.heap.size,0,none⟩=some (.string (Qaf hw)):=Qaa aa 0;have c2:W.cell? ⟨w.heap.size,2,none⟩=some (.int .i64 tag):=Qaa aa 2;have c3:W.cell? ⟨w.heap.size,3,none⟩=some (.string (Qaf var)):=Qaa aa 3;have c4:W.cell? ⟨w.heap.size,4,none⟩=some (.string (Qaf x)):=Qaa aa 4;have HWB:=Qab ac;have HWb:=Qab aa;have hWs:=ac.size;have hWl:=QaI aa;clear ac aa
 go_region_held3 (fun w'=>w'.cell? ⟨w.heap.size,0,none⟩=some (.string (Qaf hw))∧w'.cell? ⟨w.heap.size,2,none⟩=some (.int .i64 tag)∧w'.cell? ⟨w.heap.size,3,none⟩=some (.string (Qaf var))∧w'.cell? ⟨w.heap.size,4,none⟩=some (.string (Qaf x))) (first | go_keep | exact ⟨Qaa (Qae HW2.o) 0,Qaa (Qae HW2.o) 2,Qaa (Qae HW2.o) 3,Qaa (Qae HW2.o) 4⟩ | exact ⟨Qaa (Qae HWb.o) 0,Qaa (Qae HWb.o) 2,Qaa (Qae HWb.o) 3,Qaa (Qae HWb.o) 4⟩) (first
  |(go_at_call 150;refine(QbY [hw,tt,quotedL var,quotedL x] _ 4 4 _ (Qba w2 [hw,tt,quotedL var,quotedL x] _ _ rfl) rfl (by simp) HL.o).mono ?_;rintro e w3 ⟨rfl,rfl⟩;rw[ag.o];skip)
  |(go_at_call 152;refine(QiF _).mono ?_;rintro e w' ⟨rfl,rfl⟩;skip)
  |(go_at_call 151;refine(QeG tag _ 3 3 [QbT,QbU,Qbr] _ ((QbI (w:=W) (g:=W.heap.size) [QbT,QbU,Qbr] 9 rfl).drew) rfl (by decide) ht).mono ?_;rintro e w' ⟨rfl,rfl⟩;rw[ah.o];skip)
  |(have gg:=HB1;go_at_call 97;refine(QdO (Qaf x) w1 ai.o).mono ?_;rintro e w2 ⟨rfl,ab⟩;rw[show(Qaf x).data.toList=x from rfl];have af:=Qab (HB1.o.trans (ab.mono h1s));have HW2:=Qab (Qal HW1.o ab);have f0:w2.cell? ⟨w.heap.size,0,none⟩=some (.string (Qaf hw)):=Qaa HW2.o 0;have f2:w2.cell? ⟨w.heap.size,2,none⟩=some (.int .i64 tag):=Qaa HW2.o 2;have f3:w2.cell? ⟨w.heap.size,3,none⟩=some (.string (Qaf var)):=Qaa HW2.o 3;have f4:w2.cell? ⟨w.heap.size,4,none⟩=some (.string (Qaf x)):=Qaa HW2.o 4;clear ab;skip)
  | (go_at_call 97;refine (QdO (Qaf var) (W.alloc (.cells (QaN [QbT,QbU,Qbr]).toArray 9)).drew HXV.o).mono ?_;rintro e w1 ⟨rfl,hB1⟩;rw [show (Qaf var).data.toList=var from rfl];have HB1:=Qab (((Qbb HWB.o (Nat.le_refl _) (.cells (QaN [QbT,QbU,Qbr]).toArray 9)).drew).trans (hB1.mono (by simp;omega)));have HW1:=Qab (Qal (w:=(W.alloc (.cells (QaN [QbT,QbU,Qbr]).toArray 9)).drew) (Qae HWb.o) hB1);have d0:w1.cell? ⟨w.heap.size,0,none⟩=some (.string (Qaf hw)):=Qaa HW1.o 0;have d2:w1.cell? ⟨w.heap.size,2,none⟩=some (.int .i64 tag):=Qaa HW1.o 2;have d3:w1.cell? ⟨w.heap.size,3,none⟩=some (.string (Qaf var)):=Qaa HW1.o 3;have d4:w1.cell? ⟨w.heap.size,4,none⟩=some (.string (Qaf x)):=Qaa HW1.o 4;have h1s:=HB1.o.size;clear hB1;skip))
 all_goals go_wp2
 all_goals go_ret
 all_goals exact⟨rfl,Qbb af.o (Nat.le_refl _) _⟩
theorem Qtd(hw i t:L8)(p:Nat)(g n c:Nat)(ab:Bool)(ea:Option Addr)(en ec:Nat)(w:World)
 (hc:∀ W,Below w.heap.size w W->Calls Tryz.prog 149 #[.agg #[.string (Qaf hw),.int .i64 p,.slice (some ⟨g,0,none⟩) n c,.bool ab,.slice ea en ec],.string (Qaf i)] W fun e w'=>e=.returned (.string (Qaf t))/\Below W.heap.size W w') :
 Calls Tryz.prog 99 #[.iface 261 (.agg #[.string (Qaf hw),.int .i64 p,.slice (some ⟨g,0,none⟩) n c,.bool ab,.slice ea en ec]),.string (Qaf i)] w fun e w'=>e=.returned (.string (Qaf t))/\Below w.heap.size w w':=by
 have yy:=Tryz.yesIf;have HC:=Qab hc;have ac:∀ o,Below w.heap.size w (w.alloc o):=fun o=>(Below.refl _ _).alloc (Nat.le_refl _) o
 have aa:=Qab ac;clear hc ac;go_enter func99,ntmps99;go_wp2_with fail;refine(HC.o _ (aa.o _)).mono ?_;rintro e w1 ⟨rfl,ad⟩;have ae:=Qab ((aa.o _).trans (ad.mono (by simp)));clear ad;go_wp2;go_ret;exact⟨rfl,ae.o⟩
end Go.Proofs.YtgnkjijocdmniaaGreatDoor
