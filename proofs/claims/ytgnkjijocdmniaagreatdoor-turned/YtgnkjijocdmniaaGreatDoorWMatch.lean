import Derived.Test.YtgnkjijocdmniaaGreatDoorZCMatch
namespace Go.Proofs.YtgnkjijocdmniaaGreatDoor
set_option linter.unusedVariables false
set_option linter.unusedSimpArgs false
set_option maxRecDepth 100000
set_option maxHeartbeats 4000000
open Go.Proofs.Tryz
open Go.RowKit
def QyE (hw:L8) (x:Qcv) (fv kv:Value):Obj:=.cells #[.string (Qaf hw),.int .i64 x.pos,.int .i64 x.tag,.bool x.octet,fv,kv] 227
theorem QeZ(X:Nat->Prop)(hw:L8)(x:Qcv)(fv kv:Value)(w:World)(hf:slX X x.fr w fv)(hk:slX X x.keys w kv)(h1:1<=x.tag)(h3:x.tag<=3)(ag:(Qbd hw x).length<=4294967280) :
 Calls Tryz.prog 239 #[.agg #[.string (Qaf hw),.int .i64 x.pos,.int .i64 x.tag,.bool x.octet,fv,kv]] w fun e w'=>e=.returned (.string (Qaf (Qbd hw x)))/\Below w.heap.size w w':=by
 obtain⟨gf,cf,rfl,hgf,az,hnf⟩:=hf;obtain⟨gk,ck,rfl,hgk,aE,av⟩:=hk;obtain⟨C,hC⟩:∃ C,(if x.octet then phraseL [Qas,quotedL Qcl]else [])=C:=⟨_,rfl⟩;obtain⟨T,hT⟩:∃ T,(if x.tag≠1 then tagTextL x.tag [tIs,Qaq,Qaz]else [])=T:=⟨_,rfl⟩;have hM:Qbd hw x=phraseL [hw,C,T,Qam x.fr,Qam x.keys]:=by unfold Qbd;rw[hC,hT]
 rw[hM]at ag ⊢;have aC:(Qam x.fr).length<=4294967280:=Nat.le_trans (QbB (ps:=[hw,C,T,Qam x.fr,Qam x.keys]) (by simp)) ag;have aD:(Qam x.keys).length<=4294967280:=Nat.le_trans (QbB (ps:=[hw,C,T,Qam x.fr,Qam x.keys]) (by simp)) ag;have HF:=Qab az;have HK:=Qab aE;have HLF:=Qab aC;have au:=Qab aD;have HL:=Qab ag;have hgl:gf<w.heap.size:=Qau (az 0 (List.length_pos_iff.2 hnf));have aq:∀ b:Bool,b=x.octet->(w.alloc (.cells #[.string (Qaf hw),.int .i64 x.pos,.int .i64 x.tag,.bool b,.slice (some ⟨gf,0,none⟩) x.fr.length cf,.slice (some ⟨gk,0,none⟩) x.keys.length ck] 227)).heap[w.heap.size]?=some (QyE hw x (.slice (some ⟨gf,0,none⟩) x.fr.length cf) (.slice (some ⟨gk,0,none⟩) x.keys.length ck)):=fun b hb=>by subst hb;exact Qat _ _
 have ah:=Qab aq;have aB:∀ o,Below w.heap.size w (w.alloc o):=fun o=>(Below.refl _ _).alloc (Nat.le_refl _) o
 have ar:=Qab aB;clear az aE aC aD ag hM aq aB;go_enter func239,ntmps239;cases ho:x.octet
 ·rw[ho,if_neg (by decide)]at hC;have HC:=Qab hC;clear hC;by_cases h1':x.tag=1
  ·have ht:((x.tag:Int) != 1)=false:=by simp;omega
   rw[if_neg (by omega)]at hT;have HT:=Qab hT;clear hT h1';have HO:=Qab ho;clear ho;go_wp2_with fail
   have aj:Hid ((#[.string (Qaf hw),.string ⟨#[]⟩,.string ⟨#[]⟩,.string (Qaf (Qam x.fr)),.string (Qaf (Qam x.keys))]:Array Value)=(QaN [hw,C,T,Qam x.fr,Qam x.keys]).toArray):=by
    rw[<-HC.o,<-HT.o];rfl
   refine Qb8 (P:=fun W=>Code.wp _ _ _ _ W) (ar.o _) (ah.o false HO.o.symm) ?_;intro W ab aa;have c0:W.cell? ⟨w.heap.size,0,none⟩=some (.string (Qaf hw)):=Qaa aa 0;have c4:W.cell? ⟨w.heap.size,4,none⟩=some (.slice (some ⟨gf,0,none⟩) x.fr.length cf):=Qaa aa 4;have c5:W.cell? ⟨w.heap.size,5,none⟩=some (.slice (some ⟨gk,0,none⟩) x.keys.length ck):=Qaa aa 5;have HFW:=Qab (HF.o.below ab);have aw:=Qab (HK.o.below ab);have HWB:=Qab ab;have HWb:=Qab aa;have hWs:=ab.size;have ay:=QaI aa;clear ab aa
   go_region_held3 (fun w'=>w'.cell? ⟨w.heap.size,0,none⟩=some (.string (Qaf hw))∧w'.cell? ⟨w.heap.size,4,none⟩=some (.slice (some ⟨gf,0,none⟩) x.fr.length cf)∧w'.cell? ⟨w.heap.size,5,none⟩=some (.slice (some ⟨gk,0,none⟩) x.keys.length ck)) (first | go_keep | exact ⟨Qaa (Qae HW2.o) 0,Qaa (Qae HW2.o) 4,Qaa (Qae HW2.o) 5⟩) (first
    |(go_at_call 150;refine(QbY [hw,C,T,Qam x.fr,Qam x.keys] _ 5 5 _ (Qba w2 [hw,C,T,Qam x.fr,Qam x.keys] _ _ aj.o) rfl (by simp) HL.o).mono ?_;rintro e w3 ⟨rfl,rfl⟩;skip)
    |(have gg:=HB1;go_at_call 62;refine(Qcm x.keys gk x.keys.length ck _ (HKW1.o) rfl av au.o).mono ?_;rintro e w2 ⟨rfl,ac⟩;have ai:=Qab (HB1.o.trans (ac.mono h1s));have HW2:=Qab (Qal HW1.o ac);have e0:w2.cell? ⟨w.heap.size,0,none⟩=some (.string (Qaf hw)):=Qaa HW2.o 0;have e4:w2.cell? ⟨w.heap.size,4,none⟩=some (.slice (some ⟨gf,0,none⟩) x.fr.length cf):=Qaa HW2.o 4;have e5:w2.cell? ⟨w.heap.size,5,none⟩=some (.slice (some ⟨gk,0,none⟩) x.keys.length ck):=Qaa HW2.o 5;clear ac;skip)
    | (go_at_call 62;refine (Qcm x.fr gf x.fr.length cf _ (HFW.o.drew) rfl hnf HLF.o).mono ?_;rintro e w1 ⟨rfl,hB1⟩;have HB1:=Qab (HWB.o.drew.trans (hB1.mono hWs));have HW1:=Qab (Qal (w:=W.drew) HWb.o hB1);have d0:w1.cell? ⟨w.heap.size,0,none⟩=some (.string (Qaf hw)):=Qaa HW1.o 0;have d4:w1.cell? ⟨w.heap.size,4,none⟩=some (.slice (some ⟨gf,0,none⟩) x.fr.length cf):=Qaa HW1.o 4;have d5:w1.cell? ⟨w.heap.size,5,none⟩=some (.slice (some ⟨gk,0,none⟩) x.keys.length ck):=Qaa HW1.o 5;have h1s:=HB1.o.size;have HKW1:=Qab (HK.o.below HB1.o);clear hB1;skip))
   all_goals go_wp2
   all_goals go_ret
   all_goals exact⟨rfl,Qbb ai.o (Nat.le_refl _) _⟩
  ·have ht:((x.tag:Int) != 1)=true:=by simp;omega
   rw[if_pos (by omega)]at hT;have HT:=Qab hT;clear hT h1';have HO:=Qab ho;clear ho;go_wp2_with fail
   have aj:Hid ((#[.string (Qaf hw),.string ⟨#[]⟩,.string (Qaf (tagTextL x.tag [tIs,Qaq,Qaz])),.string (Qaf (Qam x.fr)),.string (Qaf (Qam x.keys))]:Array Value)=(QaN [hw,C,T,Qam x.fr,Qam x.keys]).toArray):=by
    rw[<-HC.o,<-HT.o];rfl
   refine Qb8 (P:=fun W=>Code.wp _ _ _ _ W) (ar.o _) (ah.o false HO.o.symm) ?_;intro W0 ad ae;have b2:W0.cell? ⟨w.heap.size,2,none⟩=some (.int .i64 x.tag):=Qaa ae 2;have af:=Qab ad;have HW0b:=Qab ae;have ax:=ad.size;clear ad ae
   go_region_held3 (fun w'=>w'.cell? ⟨w.heap.size,2,none⟩=some (.int .i64 x.tag)) (first | go_keep | exact Qaa (Qae HW0b.o) 2) (first
    |(go_at_call 223;refine(Qe5 _).mono ?_;rintro e w' ⟨rfl,rfl⟩;skip)
    | (go_at_call 151;refine (QeG x.tag _ 3 3 [tIs,Qaq,Qaz] _ ((QbI (w:=W0) (g:=W0.heap.size) [tIs,Qaq,Qaz] 9 rfl).drew) rfl (by decide) h3).mono ?_;rintro e w' ⟨rfl,rfl⟩;skip))
   all_goals go_wp2_with fail
   all_goals refine Qb8 (P:=fun W=>Code.wp _ _ _ _ W) (w:=w) (B:=w.heap.size) (o:=QyE hw x (.slice (some ⟨gf,0,none⟩) x.fr.length cf) (.slice (some ⟨gk,0,none⟩) x.keys.length ck)) (by first|exact(Qbb af.o (Nat.le_refl _) _).drew|exact Qbb af.o.drew (Nat.le_refl _) _) (by exact Qae (w:=W0.drew) HW0b.o) ?_
   intro W ab aa;have c0:W.cell? ⟨w.heap.size,0,none⟩=some (.string (Qaf hw)):=Qaa aa 0;have c4:W.cell? ⟨w.heap.size,4,none⟩=some (.slice (some ⟨gf,0,none⟩) x.fr.length cf):=Qaa aa 4;have c5:W.cell? ⟨w.heap.size,5,none⟩=some (.slice (some ⟨gk,0,none⟩) x.keys.length ck):=Qaa aa 5;have HFW:=Qab (HF.o.below ab);have aw:=Qab (HK.o.below ab);have HWB:=Qab ab;have HWb:=Qab aa;have hWs:=ab.size;have ay:=QaI aa;clear ab aa
   go_region_held3 (fun w'=>w'.cell? ⟨w.heap.size,0,none⟩=some (.string (Qaf hw))∧w'.cell? ⟨w.heap.size,4,none⟩=some (.slice (some ⟨gf,0,none⟩) x.fr.length cf)∧w'.cell? ⟨w.heap.size,5,none⟩=some (.slice (some ⟨gk,0,none⟩) x.keys.length ck)) (first | go_keep | exact ⟨Qaa (Qae HW2.o) 0,Qaa (Qae HW2.o) 4,Qaa (Qae HW2.o) 5⟩) (first
    |(go_at_call 150;refine(QbY [hw,C,T,Qam x.fr,Qam x.keys] _ 5 5 _ (Qba w2 [hw,C,T,Qam x.fr,Qam x.keys] _ _ aj.o) rfl (by simp) HL.o).mono ?_;rintro e w3 ⟨rfl,rfl⟩;skip)
    |(have gg:=HB1;go_at_call 62;refine(Qcm x.keys gk x.keys.length ck _ (HKW1.o) rfl av au.o).mono ?_;rintro e w2 ⟨rfl,ac⟩;have ai:=Qab (HB1.o.trans (ac.mono h1s));have HW2:=Qab (Qal HW1.o ac);have e0:w2.cell? ⟨w.heap.size,0,none⟩=some (.string (Qaf hw)):=Qaa HW2.o 0;have e4:w2.cell? ⟨w.heap.size,4,none⟩=some (.slice (some ⟨gf,0,none⟩) x.fr.length cf):=Qaa HW2.o 4;have e5:w2.cell? ⟨w.heap.size,5,none⟩=some (.slice (some ⟨gk,0,none⟩) x.keys.length ck):=Qaa HW2.o 5;clear ac;skip)
    | (go_at_call 62;refine (Qcm x.fr gf x.fr.length cf _ (HFW.o.drew) rfl hnf HLF.o).mono ?_;rintro e w1 ⟨rfl,hB1⟩;have HB1:=Qab (HWB.o.drew.trans (hB1.mono hWs));have HW1:=Qab (Qal (w:=W.drew) HWb.o hB1);have d0:w1.cell? ⟨w.heap.size,0,none⟩=some (.string (Qaf hw)):=Qaa HW1.o 0;have d4:w1.cell? ⟨w.heap.size,4,none⟩=some (.slice (some ⟨gf,0,none⟩) x.fr.length cf):=Qaa HW1.o 4;have d5:w1.cell? ⟨w.heap.size,5,none⟩=some (.slice (some ⟨gk,0,none⟩) x.keys.length ck):=Qaa HW1.o 5;have h1s:=HB1.o.size;have HKW1:=Qab (HK.o.below HB1.o);clear hB1;skip))
   all_goals go_wp2
   all_goals go_ret
   all_goals exact⟨rfl,Qbb ai.o (Nat.le_refl _) _⟩
 ·rw[ho,if_pos rfl]at hC;have HC:=Qab hC;clear hC;by_cases h1':x.tag=1
  ·have ht:((x.tag:Int) != 1)=false:=by simp;omega
   rw[if_neg (by omega)]at hT;have HT:=Qab hT;clear hT h1';have HO:=Qab ho;clear ho;go_wp2_with fail;refine(QdO ⟨#[105,59,111,99,116,101,116]⟩ _ (by decide)).mono ?_;rintro e wq ⟨rfl,ak⟩;have ao:=Qab ((ar.o _).trans (ak.mono (by simp)));have ap:=Qab (Qal (ah.o true HO.o.symm) ak);have aA:=ao.o.size;have q2:∀ o,(wq.alloc o).cell? ⟨w.heap.size,2,none⟩=some (.int .i64 x.tag):=fun o=>Qaa (Qae ap.o) 2
   clear ak;go_wp2_with fail;refine(QbY [Qas,quotedL Qcl] _ 2 2 _ (Qba wq [Qas,quotedL Qcl] _ _ rfl) rfl (by decide) (by decide)).mono ?_;rintro e aF ⟨rfl,rfl⟩;go_wp2_with fail
   have aj:Hid ((#[.string (Qaf hw),.string (Qaf (phraseL [Qas,quotedL Qcl])),.string ⟨#[]⟩,.string (Qaf (Qam x.fr)),.string (Qaf (Qam x.keys))]:Array Value)=(QaN [hw,C,T,Qam x.fr,Qam x.keys]).toArray):=by
    rw[<-HC.o,<-HT.o];rfl
   refine Qb8 (P:=fun W=>Code.wp _ _ _ _ W) (Qbb ao.o (Nat.le_refl _) _) (Qae ap.o) ?_;intro W ab aa;have c0:W.cell? ⟨w.heap.size,0,none⟩=some (.string (Qaf hw)):=Qaa aa 0;have c4:W.cell? ⟨w.heap.size,4,none⟩=some (.slice (some ⟨gf,0,none⟩) x.fr.length cf):=Qaa aa 4;have c5:W.cell? ⟨w.heap.size,5,none⟩=some (.slice (some ⟨gk,0,none⟩) x.keys.length ck):=Qaa aa 5;have HFW:=Qab (HF.o.below ab);have aw:=Qab (HK.o.below ab);have HWB:=Qab ab;have HWb:=Qab aa;have hWs:=ab.size;have ay:=QaI aa;clear ab aa
   go_region_held3 (fun w'=>w'.cell? ⟨w.heap.size,0,none⟩=some (.string (Qaf hw))∧w'.cell? ⟨w.heap.size,4,none⟩=some (.slice (some ⟨gf,0,none⟩) x.fr.length cf)∧w'.cell? ⟨w.heap.size,5,none⟩=some (.slice (some ⟨gk,0,none⟩) x.keys.length ck)) (first | go_keep | exact ⟨Qaa (Qae HW2.o) 0,Qaa (Qae HW2.o) 4,Qaa (Qae HW2.o) 5⟩) (first
    |(go_at_call 150;refine(QbY [hw,C,T,Qam x.fr,Qam x.keys] _ 5 5 _ (Qba w2 [hw,C,T,Qam x.fr,Qam x.keys] _ _ aj.o) rfl (by simp) HL.o).mono ?_;rintro e w3 ⟨rfl,rfl⟩;skip)
    |(have gg:=HB1;go_at_call 62;refine(Qcm x.keys gk x.keys.length ck _ (HKW1.o) rfl av au.o).mono ?_;rintro e w2 ⟨rfl,ac⟩;have ai:=Qab (HB1.o.trans (ac.mono h1s));have HW2:=Qab (Qal HW1.o ac);have e0:w2.cell? ⟨w.heap.size,0,none⟩=some (.string (Qaf hw)):=Qaa HW2.o 0;have e4:w2.cell? ⟨w.heap.size,4,none⟩=some (.slice (some ⟨gf,0,none⟩) x.fr.length cf):=Qaa HW2.o 4;have e5:w2.cell? ⟨w.heap.size,5,none⟩=some (.slice (some ⟨gk,0,none⟩) x.keys.length ck):=Qaa HW2.o 5;clear ac;skip)
    | (go_at_call 62;refine (Qcm x.fr gf x.fr.length cf _ (HFW.o.drew) rfl hnf HLF.o).mono ?_;rintro e w1 ⟨rfl,hB1⟩;have HB1:=Qab (HWB.o.drew.trans (hB1.mono hWs));have HW1:=Qab (Qal (w:=W.drew) HWb.o hB1);have d0:w1.cell? ⟨w.heap.size,0,none⟩=some (.string (Qaf hw)):=Qaa HW1.o 0;have d4:w1.cell? ⟨w.heap.size,4,none⟩=some (.slice (some ⟨gf,0,none⟩) x.fr.length cf):=Qaa HW1.o 4;have d5:w1.cell? ⟨w.heap.size,5,none⟩=some (.slice (some ⟨gk,0,none⟩) x.keys.length ck):=Qaa HW1.o 5;have h1s:=HB1.o.size;have HKW1:=Qab (HK.o.below HB1.o);clear hB1;skip))
   all_goals go_wp2
   all_goals go_ret
   all_goals exact⟨rfl,Qbb ai.o (Nat.le_refl _) _⟩
  ·have ht:((x.tag:Int) != 1)=true:=by simp;omega
   rw[if_pos (by omega)]at hT;have HT:=Qab hT;clear hT h1';have HO:=Qab ho;clear ho;go_wp2_with fail;refine(QdO ⟨#[105,59,111,99,116,101,116]⟩ _ (by decide)).mono ?_;rintro e wq ⟨rfl,ak⟩;have ao:=Qab ((ar.o _).trans (ak.mono (by simp)));have ap:=Qab (Qal (ah.o true HO.o.symm) ak);have aA:=ao.o.size;have q2:∀ o,(wq.alloc o).cell? ⟨w.heap.size,2,none⟩=some (.int .i64 x.tag):=fun o=>Qaa (Qae ap.o) 2
   clear ak;go_wp2_with fail;refine(QbY [Qas,quotedL Qcl] _ 2 2 _ (Qba wq [Qas,quotedL Qcl] _ _ rfl) rfl (by decide) (by decide)).mono ?_;rintro e aF ⟨rfl,rfl⟩;go_wp2_with fail
   have aj:Hid ((#[.string (Qaf hw),.string (Qaf (phraseL [Qas,quotedL Qcl])),.string (Qaf (tagTextL x.tag [tIs,Qaq,Qaz])),.string (Qaf (Qam x.fr)),.string (Qaf (Qam x.keys))]:Array Value)=(QaN [hw,C,T,Qam x.fr,Qam x.keys]).toArray):=by
    rw[<-HC.o,<-HT.o];rfl
   refine Qb8 (P:=fun W=>Code.wp _ _ _ _ W) (Qbb ao.o (Nat.le_refl _) _) (Qae ap.o) ?_;intro W0 ad ae;have b2:W0.cell? ⟨w.heap.size,2,none⟩=some (.int .i64 x.tag):=Qaa ae 2;have af:=Qab ad;have HW0b:=Qab ae;have ax:=ad.size;clear ad ae
   go_region_held3 (fun w'=>w'.cell? ⟨w.heap.size,2,none⟩=some (.int .i64 x.tag)) (first | go_keep | exact Qaa (Qae HW0b.o) 2) (first
    |(go_at_call 223;refine(Qe5 _).mono ?_;rintro e w' ⟨rfl,rfl⟩;skip)
    | (go_at_call 151;refine (QeG x.tag _ 3 3 [tIs,Qaq,Qaz] _ ((QbI (w:=W0) (g:=W0.heap.size) [tIs,Qaq,Qaz] 9 rfl).drew) rfl (by decide) h3).mono ?_;rintro e w' ⟨rfl,rfl⟩;skip))
   all_goals go_wp2_with fail
   all_goals refine Qb8 (P:=fun W=>Code.wp _ _ _ _ W) (w:=w) (B:=w.heap.size) (o:=QyE hw x (.slice (some ⟨gf,0,none⟩) x.fr.length cf) (.slice (some ⟨gk,0,none⟩) x.keys.length ck)) (by first|exact(Qbb af.o (Nat.le_refl _) _).drew|exact Qbb af.o.drew (Nat.le_refl _) _) (by exact Qae (w:=W0.drew) HW0b.o) ?_
   intro W ab aa;have c0:W.cell? ⟨w.heap.size,0,none⟩=some (.string (Qaf hw)):=Qaa aa 0;have c4:W.cell? ⟨w.heap.size,4,none⟩=some (.slice (some ⟨gf,0,none⟩) x.fr.length cf):=Qaa aa 4;have c5:W.cell? ⟨w.heap.size,5,none⟩=some (.slice (some ⟨gk,0,none⟩) x.keys.length ck):=Qaa aa 5;have HFW:=Qab (HF.o.below ab);have aw:=Qab (HK.o.below ab);have HWB:=Qab ab;have HWb:=Qab aa;have hWs:=ab.size;have ay:=QaI aa;clear ab aa
   go_region_held3 (fun w'=>w'.cell? ⟨w.heap.size,0,none⟩=some (.string (Qaf hw))∧w'.cell? ⟨w.heap.size,4,none⟩=some (.slice (some ⟨gf,0,none⟩) x.fr.length cf)∧w'.cell? ⟨w.heap.size,5,none⟩=some (.slice (some ⟨gk,0,none⟩) x.keys.length ck)) (first | go_keep | exact ⟨Qaa (Qae HW2.o) 0,Qaa (Qae HW2.o) 4,Qaa (Qae HW2.o) 5⟩) (first
    |(go_at_call 150;refine(QbY [hw,C,T,Qam x.fr,Qam x.keys] _ 5 5 _ (Qba w2 [hw,C,T,Qam x.fr,Qam x.keys] _ _ aj.o) rfl (by simp) HL.o).mono ?_;rintro e w3 ⟨rfl,rfl⟩;skip)
    |(have gg:=HB1;go_at_call 62;refine(Qcm x.keys gk x.keys.length ck _ (HKW1.o) rfl av au.o).mono ?_;rintro e w2 ⟨rfl,ac⟩;have ai:=Qab (HB1.o.trans (ac.mono h1s));have HW2:=Qab (Qal HW1.o ac);have e0:w2.cell? ⟨w.heap.size,0,none⟩=some (.string (Qaf hw)):=Qaa HW2.o 0;have e4:w2.cell? ⟨w.heap.size,4,none⟩=some (.slice (some ⟨gf,0,none⟩) x.fr.length cf):=Qaa HW2.o 4;have e5:w2.cell? ⟨w.heap.size,5,none⟩=some (.slice (some ⟨gk,0,none⟩) x.keys.length ck):=Qaa HW2.o 5;clear ac;skip)
    | (go_at_call 62;refine (Qcm x.fr gf x.fr.length cf _ (HFW.o.drew) rfl hnf HLF.o).mono ?_;rintro e w1 ⟨rfl,hB1⟩;have HB1:=Qab (HWB.o.drew.trans (hB1.mono hWs));have HW1:=Qab (Qal (w:=W.drew) HWb.o hB1);have d0:w1.cell? ⟨w.heap.size,0,none⟩=some (.string (Qaf hw)):=Qaa HW1.o 0;have d4:w1.cell? ⟨w.heap.size,4,none⟩=some (.slice (some ⟨gf,0,none⟩) x.fr.length cf):=Qaa HW1.o 4;have d5:w1.cell? ⟨w.heap.size,5,none⟩=some (.slice (some ⟨gk,0,none⟩) x.keys.length ck):=Qaa HW1.o 5;have h1s:=HB1.o.size;have HKW1:=Qab (HK.o.below HB1.o);clear hB1;skip))
   all_goals go_wp2
   all_goals go_ret
   all_goals exact⟨rfl,Qbb ai.o (Nat.le_refl _) _⟩
end Go.Proofs.YtgnkjijocdmniaaGreatDoor
