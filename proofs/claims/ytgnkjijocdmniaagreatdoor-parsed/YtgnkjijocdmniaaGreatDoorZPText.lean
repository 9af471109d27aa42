import Derived.Test.YtgnkjijocdmniaaGreatDoorPTestG
import Derived.Test.YtgnkjijocdmniaaGreatDoorZQCmdL
import Derived.Test.YtgnkjijocdmniaaGreatDoorQParse
namespace Go.Proofs.YtgnkjijocdmniaaGreatDoor
set_option linter.unusedVariables false
set_option linter.unusedSimpArgs false
set_option maxRecDepth 100000
set_option maxHeartbeats 4000000
section
open Go.RowKit
theorem rtest_ptr {n:Nat} {X:Nat→Prop} {x:TestT n} {w:World} {v:Value} (h:RTest n X x w v):∃ g,v=.pointer (some ⟨g,0,none⟩):=by
 match n,x,h with
 | n+1,x,⟨g,_,_,_,h,_⟩=>exact ⟨g,h⟩
theorem test_ne {req:List (List UInt8)} {n:Nat} {x:TestT n} (h:allT (WfT req) n x):testTxt n x≠[]:=by
 match n,x,h with
 | n+1,x,h=>
  obtain ⟨R,e,hR⟩:=testNode_head x.1 (x.2.map (testTxt n)) h.1.kind
  show testNode x.1 _≠[]
  rw [e]
  intro e2
  have h2:=List.append_eq_nil_iff.1 e2
  have h9:=h.1.kind
  have:∀ k,k≤9→testNames.getD k []≠[]:=by decide
  exact this _ h9 h2.1
theorem slY.get {X:Nat→Prop} {xs:List (List UInt8)} {w:World} {v:Value} (h:slY X xs w v) (hne:xs≠[]):∃ g c,v=.slice (some ⟨g,0,none⟩) xs.length c∧TxtAt w g xs:=by
 rcases h with h | ⟨g,c,h1,_,h2,_⟩
 ·exact absurd h.1 hne
 ·exact ⟨g,c,h1,h2⟩
theorem match_txt (nm:List UInt8) (x:TLab) (hnm:nm≠[]) (h1:1≤x.tag∧x.tag≤3) (hf:x.fr≠[]) (hk:x.keys≠[]):matchTxt nm x=mTxt nm x.octet x.tag (quotesL x.fr) (quotesL x.keys):=by
 unfold matchTxt mTxt
 rw [phraseL_cons hnm]
 have hc:phraseL [tComparator,quotedL cOctet]=tComparator++32 :: quotedL cOctet:=by rw [phraseL_cons (by decide),tailP_cons (quotedL_ne _),tailP_nil,List.append_nil]
 have hcn:phraseL [tComparator,quotedL cOctet]≠[]:=by rw [hc];simp
 congr 1
 have key:∀ t,tailP (t :: [quotesL x.fr,quotesL x.keys])=(if t=[] then [] else 32 :: t)++32 :: (quotesL x.fr++32 :: quotesL x.keys):=by
  intro t
  have h2:tailP [quotesL x.fr,quotesL x.keys]=32 :: (quotesL x.fr++32 :: quotesL x.keys):=by rw [tailP_cons (quotesL_ne hf),tailP_cons (quotesL_ne hk),tailP_nil,List.append_nil]
  by_cases ht:t=[]
  ·rw [ht,tailP_none,h2,if_pos rfl];rfl
  ·rw [tailP_cons ht,h2,if_neg ht];simp
 have hT:tailP ((if x.tag≠1 then tagTextL x.tag [tIs,tContains,tMatches] else []) :: [quotesL x.fr,quotesL x.keys])=(if x.tag=2 then 32 :: tContains else if x.tag=3 then 32 :: tMatches else [])++32 :: (quotesL x.fr++32 :: quotesL x.keys):=by
  rw [key]
  congr 1
  rcases Nat.lt_or_ge x.tag 2 with h | h
  ·have e:x.tag=1:=by omega
   rw [e];rfl
  ·rcases Nat.lt_or_ge x.tag 3 with h' | h'
   ·have e:x.tag=2:=by omega
    rw [e];rfl
   ·have e:x.tag=3:=by omega
    rw [e];rfl
 cases x.octet with
 | true=>
  rw [if_pos (show true=true from rfl),if_pos (show true=true from rfl),tailP_cons hcn,hT,hc]
  simp
 | false=>
  rw [if_neg (show ¬ false=true by decide),if_neg (show ¬ false=true by decide),tailP_none,hT]
  rfl
theorem ptext_any {req:List (List UInt8)}:∀ (n:Nat) (X:Nat→Prop) (x:TestT n) (w:World) (v:Value),RTest n X x w v→allT (WfT req) n x→(testTxt n x).length≤4294967280→WrOk w v (testTxt n x)
 | 0,X,x,w,v,h,ha,_=>ha.elim
 | n+1,X,x,w,v,h,ha,hlen=>by
  intro W hW
  obtain ⟨hw,hsub⟩:=ha
  have h':=(rtest_tree (n+1)).keep _ _ _ _ _ h (fun k _ hk=>hW.block k hk)
  obtain ⟨g,tv,fv,kv,rfl,hg,hc,ht,hf,hk⟩:=h'
  have hlen:(testNode x.1 (x.2.map (testTxt n))).length≤4294967280:=hlen
  have hok:∀ a∈x.2,∀ u,RTest n X a W u→(testTxt n a).length≤4294967280→∃ g2,u=.pointer (some ⟨g2,0,none⟩)∧WrOk W (.pointer (some ⟨g2,0,none⟩)) (testTxt n a):=fun a ha u hu hl=>by
   obtain ⟨g2,rfl⟩:=rtest_ptr hu
   exact ⟨g2,rfl,ptext_any n X a W _ hu (hsub a ha) hl⟩
  show Calls Tryz.prog 119 #[.pointer (some ⟨g,0,none⟩)] W fun e w'=>e=.returned (.string (strA (testNode x.1 (x.2.map (testTxt n)))))∧Below W.heap.size W w'
  have h9:=hw.kind
  have hkinds:x.1.kind=0∨x.1.kind=1∨x.1.kind=2∨x.1.kind=3∨x.1.kind=4∨x.1.kind=5∨x.1.kind=6∨x.1.kind=7∨x.1.kind=8∨x.1.kind=9:=by omega
  have hgroup:∀ nm,(groupTxt nm (x.2.map (testTxt n))).length≤4294967280→x.2≠[]→∃ g1 c,tv=.slice (some ⟨g1,0,none⟩) (x.2.map (testTxt n)).length c∧∀ j,j < (x.2.map (testTxt n)).length→∃ g2,W.cell? ⟨g1,j,none⟩=some (.pointer (some ⟨g2,0,none⟩))∧WrOk W (.pointer (some ⟨g2,0,none⟩)) ((x.2.map (testTxt n)).getD j []):=by
   intro nm hl hne
   rcases ht with ht | ⟨_,g1,c,hv,_,hx⟩
   ·exact absurd ht.1 hne
   ·refine ⟨g1,c,by rw [List.length_map];exact hv,fun j hj=>?_⟩
    rw [List.length_map] at hj
    obtain ⟨u,hcu,hpu⟩:=hx j hj
    have hmem:x.2[j]∈x.2:=List.getElem_mem hj
    obtain ⟨g2,rfl,ho⟩:=hok _ hmem u hpu (Nat.le_trans (joinL_memlen (hw:=nm) (List.mem_map_of_mem hmem)) hl)
    refine ⟨g2,hcu,?_⟩
    rw [List.getD_eq_getElem?_getD,List.getElem?_map,List.getElem?_eq_getElem hj]
    exact ho
  have hmatch:∀ nm,testNode x.1 (x.2.map (testTxt n))=matchTxt nm x.1→(nm=kHeader∨nm=kEnvelope∨nm=kString)→testNames.getD x.1.kind []=nm→5≤x.1.kind→x.1.kind≤7→Calls Tryz.prog 119 #[.pointer (some ⟨g,0,none⟩)] W fun e w'=>e=.returned (.string (strA (testNode x.1 (x.2.map (testTxt n)))))∧Below W.heap.size W w':=by
   intro nm e hn hnm h5 h7
   have hne:nm≠[]:=by rcases hn with rfl | rfl | rfl <;> decide
   obtain ⟨g1,c1,rfl,ht1⟩:=hf.get (hw.frm h5 (by omega))
   obtain ⟨g2,c2,rfl,ht2⟩:=hk.get (hw.keys h5 h7)
   rw [e] at hlen ⊢
   have hp1:(quotesL x.1.fr).length≤(matchTxt nm x.1).length:=phraseL_mem (by simp)
   have hp2:(quotesL x.1.keys).length≤(matchTxt nm x.1).length:=phraseL_mem (by simp)
   rw [match_txt nm x.1 hne (hw.tag h5 h7) (hw.frm h5 (by omega)) (hw.keys h5 h7)]
   rw [hnm] at hc
   exact ptext_match nm g _ _ _ x.1.tag x.1.num x.1.octet W hc hn x.1.fr x.1.keys g1 c1 g2 c2 rfl rfl ht1 ht2 (hw.frm h5 (by omega)) (hw.keys h5 h7) (hw.tag h5 h7) (by omega) (by omega)
  rcases hkinds with e | e | e | e | e | e | e | e | e | e
  ·have et:testNode x.1 (x.2.map (testTxt n))=kTrue:=by unfold testNode;rw [e];rfl
   rw [et]
   exact ptext_true _ g tv fv kv _ _ _ W hc (by rw [e];rfl)
  ·have et:testNode x.1 (x.2.map (testTxt n))=kFalse:=by unfold testNode;rw [e];rfl
   rw [et]
   exact ptext_false _ g tv fv kv _ _ _ W hc (by rw [e];rfl)
  ·have h1:=hw.one e
   obtain ⟨a,ha⟩:∃ a,x.2=[a]:=by
    match hx:x.2,h1 with
    | [a],_=>exact ⟨a,rfl⟩
   have et:testNode x.1 (x.2.map (testTxt n))=phraseL [kNot,testTxt n a]:=by unfold testNode;rw [e,ha];rfl
   rw [et] at hlen ⊢
   have hla:(testTxt n a).length≤(phraseL [kNot,testTxt n a]).length:=phraseL_mem (by simp)
   rw [phraseL_cons (by decide),tailP_cons (test_ne (hsub a (by rw [ha];simp))),tailP_nil,List.append_nil]
   rcases ht with ht | ⟨_,g1,c,hv,_,hx⟩
   ·rw [ha] at ht;exact absurd ht.1 (by simp)
   ·rw [ha] at hv hx
    obtain ⟨u,hcu,hpu⟩:=hx 0 (by simp)
    obtain ⟨g2,rfl,ho⟩:=hok a (by rw [ha];simp) u hpu (by omega)
    exact ptext_not _ g tv fv kv _ _ _ W hc (by rw [e];rfl) g1 g2 c _ hv hcu ho (by omega)
  ·have et:testNode x.1 (x.2.map (testTxt n))=groupTxt kAllof (x.2.map (testTxt n)):=by unfold testNode;rw [e];rfl
   rw [et] at hlen ⊢
   have hne:x.2≠[]:=List.length_pos_iff.1 (hw.many (Or.inl e))
   obtain ⟨g1,c,hv,hx⟩:=hgroup kAllof hlen hne
   have hnm:testNames.getD x.1.kind []=kAllof:=by rw [e];rfl
   rw [hnm] at hc
   exact ptext_allof kAllof g tv fv kv _ _ _ W hc rfl g1 c _ hv hx (by simpa using hne) hlen
  ·have et:testNode x.1 (x.2.map (testTxt n))=groupTxt kAnyof (x.2.map (testTxt n)):=by unfold testNode;rw [e];rfl
   rw [et] at hlen ⊢
   have hne:x.2≠[]:=List.length_pos_iff.1 (hw.many (Or.inr e))
   obtain ⟨g1,c,hv,hx⟩:=hgroup kAnyof hlen hne
   have hnm:testNames.getD x.1.kind []=kAnyof:=by rw [e];rfl
   rw [hnm] at hc
   exact ptext_anyof kAnyof g tv fv kv _ _ _ W hc rfl g1 c _ hv hx (by simpa using hne) hlen
  ·exact hmatch kHeader (by unfold testNode;rw [e];rfl) (Or.inl rfl) (by rw [e];rfl) (by omega) (by omega)
  ·exact hmatch kEnvelope (by unfold testNode;rw [e];rfl) (Or.inr (Or.inl rfl)) (by rw [e];rfl) (by omega) (by omega)
  ·exact hmatch kString (by unfold testNode;rw [e];rfl) (Or.inr (Or.inr rfl)) (by rw [e];rfl) (by omega) (by omega)
  ·have et:testNode x.1 (x.2.map (testTxt n))=phraseL [kExists,quotesL x.1.fr]:=by unfold testNode;rw [e];rfl
   rw [et] at hlen ⊢
   have hne:=hw.frm (by omega) (by omega)
   have hla:(quotesL x.1.fr).length≤(phraseL [kExists,quotesL x.1.fr]).length:=phraseL_mem (by simp)
   rw [phraseL_cons (by decide),tailP_cons (quotesL_ne hne),tailP_nil,List.append_nil]
   obtain ⟨g1,c1,rfl,ht1⟩:=hf.get hne
   exact ptext_exists _ g tv _ kv _ _ _ W hc (by rw [e];rfl) x.1.fr g1 c1 rfl ht1 hne (by omega)
  ·have et:testNode x.1 (x.2.map (testTxt n))=phraseL [kSize,tagTextL x.1.tag [tOver,tUnder],itoaL x.1.num]:=by unfold testNode;rw [e];rfl
   rw [et]
   have htg:=hw.size e
   have hne:itoaL x.1.num≠[]:=dec_ne x.1.num
   rcases Nat.lt_or_ge x.1.tag 2 with h | h
   ·have e1:x.1.tag=1:=by omega
    rw [e1,show tagTextL 1 [tOver,tUnder]=tOver from rfl,phraseL_cons (by decide),tailP_cons (show tOver≠[] by decide),tailP_cons hne,tailP_nil,List.append_nil]
    exact ptext_size1 _ g tv fv kv _ _ _ W hc (by rw [e];rfl) e1 hw.num
   ·have e1:x.1.tag=2:=by omega
    rw [e1,show tagTextL 2 [tOver,tUnder]=tUnder from rfl,phraseL_cons (by decide),tailP_cons (show tUnder≠[] by decide),tailP_cons hne,tailP_nil,List.append_nil]
    exact ptext_size2 _ g tv fv kv _ _ _ W hc (by rw [e];rfl) e1 hw.num
end
section
open Go.RowKit
attribute [local go_sem ↓] Go.wp_at_zero Go.wp_at_succ
def LnOk (w:World) (v:Value) (i t:List UInt8):Prop:=∀ W,Below w.heap.size w W→Calls Tryz.prog 54 #[v,.string (strA i)] W fun e w'=>e=.returned (.string (strA t))∧Below W.heap.size W w'
def hdT (ts:List (List UInt8)) (k:Nat):List UInt8:=if k=ts.length then [32,101,108,115,101] else if 0 < k then [32,101,108,115,105,102,32]++ts.getD k [] else 32 :: ts.getD k []
def sgT (i h b:List UInt8):List UInt8:=h++([32,123,10]++(b++(i++[125])))
def bto (ts bs:List (List UInt8)) (i:List UInt8):Nat→List UInt8
 | 0=>[]
 | k+1=>bto ts bs i k++sgT i (hdT ts k) (bs.getD k [])
theorem bto_le (ts bs:List (List UInt8)) (i:List UInt8):∀ d k,(bto ts bs i k).length≤(bto ts bs i (k+d)).length
 | 0,k=>Nat.le_refl _
 | d+1,k=>Nat.le_trans (bto_le ts bs i d k) (by show _≤(bto ts bs i (k+d)++_).length;rw [List.length_append];omega)
theorem pbr_any (nm:List UInt8) (g:Nat) (av tv bv:Value) (tag pos:Nat) (w:World) (hc:CNode w g nm av tag tv bv pos) (i:List UInt8) (hi:i.length≤1000) (ts bs:List (List UInt8)) (g1 c1' g3 c3':Nat) (htv:tv=.slice (some ⟨g1,0,none⟩) ts.length c1') (hbv:bv=.slice (some ⟨g3,0,none⟩) bs.length c3') (h1:∀ j,j < ts.length→∃ g2,w.cell? ⟨g1,j,none⟩=some (.pointer (some ⟨g2,0,none⟩))∧WrOk w (.pointer (some ⟨g2,0,none⟩)) (ts.getD j [])) (h2:∀ j,j < bs.length→∃ p m c,w.cell? ⟨g3,j,none⟩=some (.slice p m c)∧LnOk w (.slice p m c) (i++[32,32]) (bs.getD j [])) (hb1:ts≠[]) (hb2:ts.length≤bs.length) (hb3:bs.length≤ts.length+1) (hlen:(bto ts bs i bs.length).length≤4294967280) :
 Calls Tryz.prog 84 #[.pointer (some ⟨g,0,none⟩),.string (strA i)] w fun e w'=>e=.returned (.string (strA (bto ts bs i bs.length++[10])))∧Below w.heap.size w w':=by
 subst htv hbv
 have c3:w.cell? ⟨g,3,none⟩=some (.slice (some ⟨g1,0,none⟩) ts.length c1'):=blk_cell hc 3
 have c4:w.cell? ⟨g,4,none⟩=some (.slice (some ⟨g3,0,none⟩) bs.length c3'):=blk_cell hc 4
 have hgl:=blk_lt hc
 have hg1:g1 < w.heap.size:=by obtain ⟨g2,h,_⟩:=h1 0 (List.length_pos_iff.2 hb1);exact cell_lt h
 have hg3:g3 < w.heap.size:=by obtain ⟨p,m,c,h,_⟩:=h2 0 (by have:=List.length_pos_iff.2 hb1;omega);exact cell_lt h
 have hbl:bs.length≤4294967280:=by
  have:∀ k,k≤(bto ts bs i k).length:=fun k=>by
   induction k with
   | zero=>exact Nat.zero_le _
   | succ k ih=>
    show _≤(bto ts bs i k++sgT i (hdT ts k) (bs.getD k [])).length
    rw [List.length_append]
    have:1≤(sgT i (hdT ts k) (bs.getD k [])).length:=by unfold sgT;simp;omega
    omega
  have:=this bs.length
  omega
 have H1:=hide h1
 have H2:=hide h2
 have hzi:=strA_size i
 clear hc h1 h2
 go_enter Tryz.func84,Tryz.ntmps84
 go_wp2_with fail
 go_loopw [5,6,7,8,9] (fun o kv _ _ _ wr=>∃ k:Nat,k≤bs.length∧kv=.int .i64 k∧o=.string (strA (bto ts bs i k))∧Below w.heap.size w wr) (fun _ kv _ _ _ _=>bs.length - (intOf kv).toNat)
 case atStart=>exact ⟨0,by omega,rfl,rfl,Below.refl _ _⟩
 case round=>
  obtain ⟨k,hk,rfl,rfl,hB⟩:=hrel
  have HB:=hide hB
  have b3:wr.cell? ⟨g,3,none⟩=some (.slice (some ⟨g1,0,none⟩) ts.length c1'):=by rw [hB.cell (p:=⟨g,3,none⟩) hgl];exact c3
  have b4:wr.cell? ⟨g,4,none⟩=some (.slice (some ⟨g3,0,none⟩) bs.length c3'):=by rw [hB.cell (p:=⟨g,4,none⟩) hgl];exact c4
  clear hB
  by_cases hlt:k < bs.length
  ·obtain ⟨p,m,c,hcb,hok⟩:=H2.out k hlt
   have bk:wr.cell? ⟨g3,k,none⟩=some (.slice p m c):=by rw [HB.out.cell (p:=⟨g3,k,none⟩) hg3];exact hcb
   have HS:Hid (bto ts bs i (k+1)=bto ts bs i k++sgT i (hdT ts k) (bs.getD k [])):=rfl
   have hle:(bto ts bs i k).length+(sgT i (hdT ts k) (bs.getD k [])).length≤4294967280:=by
    have h1:=bto_le ts bs i (bs.length - (k+1)) (k+1)
    rw [show k+1+(bs.length - (k+1))=bs.length by omega] at h1
    have h2:=congrArg List.length HS.out
    rw [List.length_append] at h2
    omega
   have HLN:Hid (∀ W,Below w.heap.size w W→Calls Tryz.prog 54 #[.slice p m c,.string (strA i++strA [32,32])] W fun e w'=>e=.returned (.string (strA (bs.getD k [])))∧Below W.heap.size W w'):=by
    intro W hW
    rw [strA_app]
    exact hok W hW
   obtain ⟨b,hb⟩:∃ b,bs.getD k []=b:=⟨_,rfl⟩
   obtain ⟨y,hy⟩:∃ y,bto ts bs i k=y:=⟨_,rfl⟩
   rw [hb] at HS hle HLN
   rw [hy] at HS hle ⊢
   have hsl:(sgT i (hdT ts k) b).length=(hdT ts k).length+4+b.length+i.length:=by unfold sgT;simp;omega
   have hzy:=strA_size y
   have hzb:=strA_size b
   clear hok hcb hb hy
   by_cases he:k=ts.length
   ·have heb:((k:Int) == (ts.length:Int))=true:=by simp;omega
    have HH:Hid (hdT ts k=[32,101,108,115,101]):=if_pos he
    rw [HH.out] at hsl HS hle
    simp only [List.length_cons,List.length_nil] at hsl
    clear he
    go_wp2_with fail
    refine (HLN.out _ HB.out).mono ?_
    rintro e w1 ⟨rfl,hB1⟩
    have HB1:=hide (HB.out.trans (hB1.mono (Below.size HB.out)))
    clear hB1
    go_wp2
    exact ⟨⟨k+1,by omega,by go_num,by rw [HS.out];exact congrArg Value.string (eqA (by simp [strA,sgT])),HB1.out⟩,by simp [intOf];omega⟩
   ·have heb:((k:Int) == (ts.length:Int))=false:=by simp;omega
    obtain ⟨g2,hc2,hwr⟩:=H1.out k (by omega)
    have bt:wr.cell? ⟨g1,k,none⟩=some (.pointer (some ⟨g2,0,none⟩)):=by rw [HB.out.cell (p:=⟨g1,k,none⟩) hg1];exact hc2
    have HWR:=hide (hwr wr HB.out)
    have hkt:k < ts.length:=by omega
    obtain ⟨t,htt⟩:∃ t,ts.getD k []=t:=⟨_,rfl⟩
    rw [htt] at HWR
    have hzt:=strA_size t
    clear hc2 hwr
    by_cases h0:0 < k
    ·have h0b:decide ((0:Int) < (k:Int))=true:=decide_eq_true (by omega)
     have HH:Hid (hdT ts k=[32,101,108,115,105,102,32]++t):=by show _=_;unfold hdT;rw [if_neg he,if_pos h0,htt]
     rw [HH.out] at hsl HS hle
     simp only [List.length_cons,List.length_nil,List.length_append] at hsl
     clear he htt
     go_wp2_with fail
     refine HWR.out.mono ?_
     rintro e w1 ⟨rfl,hB1⟩
     have HB1:=hide (HB.out.trans (hB1.mono (Below.size HB.out)))
     have b4':w1.cell? ⟨g,4,none⟩=some (.slice (some ⟨g3,0,none⟩) bs.length c3'):=by rw [HB1.out.cell (p:=⟨g,4,none⟩) hgl];exact c4
     have bk':w1.cell? ⟨g3,k,none⟩=some (.slice p m c):=by rw [hB1.cell (p:=⟨g3,k,none⟩) (by have:=HB.out.size;show g3 < _;omega)];exact bk
     clear hB1
     go_wp2_with fail
     refine (HLN.out _ HB1.out).mono ?_
     rintro e w2 ⟨rfl,hB2⟩
     have HB2:=hide (HB1.out.trans (hB2.mono (Below.size HB1.out)))
     clear hB2
     go_wp2
     exact ⟨⟨k+1,by omega,by go_num,by rw [HS.out];exact congrArg Value.string (eqA (by simp [strA,sgT])),HB2.out⟩,by simp [intOf];omega⟩
    ·have h0b:decide ((0:Int) < (k:Int))=false:=decide_eq_false (by omega)
     have HH:Hid (hdT ts k=32 :: t):=by show _=_;unfold hdT;rw [if_neg he,if_neg h0,htt]
     rw [HH.out] at hsl HS hle
     simp only [List.length_cons,List.length_nil,List.length_append] at hsl
     clear he htt
     go_wp2_with fail
     refine HWR.out.mono ?_
     rintro e w1 ⟨rfl,hB1⟩
     have HB1:=hide (HB.out.trans (hB1.mono (Below.size HB.out)))
     have b4':w1.cell? ⟨g,4,none⟩=some (.slice (some ⟨g3,0,none⟩) bs.length c3'):=by rw [HB1.out.cell (p:=⟨g,4,none⟩) hgl];exact c4
     have bk':w1.cell? ⟨g3,k,none⟩=some (.slice p m c):=by rw [hB1.cell (p:=⟨g3,k,none⟩) (by have:=HB.out.size;show g3 < _;omega)];exact bk
     clear hB1
     go_wp2_with fail
     refine (HLN.out _ HB1.out).mono ?_
     rintro e w2 ⟨rfl,hB2⟩
     have HB2:=hide (HB1.out.trans (hB2.mono (Below.size HB1.out)))
     clear hB2
     go_wp2
     exact ⟨⟨k+1,by omega,by go_num,by rw [HS.out];exact congrArg Value.string (eqA (by simp [strA,sgT])),HB2.out⟩,by simp [intOf];omega⟩
  ·have hk':k=bs.length:=by omega
   subst hk'
   have hz1:=strA_size (bto ts bs i bs.length)
   obtain ⟨y,hy⟩:∃ y,bto ts bs i bs.length=y:=⟨_,rfl⟩
   have HY:=hide hy
   rw [hy] at hz1 hlen ⊢
   clear hy
   go_wp2
   go_ret
   exact ⟨by rw [HY.out];show Ending.returned (.string (strA y++strA [10]))=_;rw [strA_app],HB.out⟩
end
section
open Go.RowKit
attribute [local go_sem ↓] Go.wp_at_zero Go.wp_at_succ
def tagP (tag:Nat):List UInt8:=[[],32 :: tLower,32 :: tUpper,32 :: tLength].getD tag []
def argP (xs:List (List UInt8)):List UInt8:=xs.flatMap fun a=>32 :: quotedL a
def CmOk (w:World) (g:Nat) (i t:List UInt8):Prop:=
 ∃ nm av tag tv bv pos,CNode w g nm av tag tv bv pos∧
  ((nm=kIf∧∃ bt,(∀ W,Below w.heap.size w W→Calls Tryz.prog 84 #[.pointer (some ⟨g,0,none⟩),.string (strA i)] W fun e w'=>e=.returned (.string (strA bt))∧Below W.heap.size W w')∧t=i++(nm++bt))∨
   (nm≠kIf∧tag≤3∧∃ xs,((xs=[]∧av=.slice none 0 0)∨∃ g1 c,av=.slice (some ⟨g1,0,none⟩) xs.length c∧TxtAt w g1 xs∧xs≠[])∧t=i++(nm++(tagP tag++(argP xs++[59,10])))))
theorem argP_take (xs:List (List UInt8)) (j:Nat) (h:j < xs.length):argP (xs.take (j+1))=argP (xs.take j)++32 :: quotedL (xs.getD j []):=by
 unfold argP
 rw [List.take_succ_eq_append_getElem h,List.flatMap_append,List.getD_eq_getElem?_getD,List.getElem?_eq_getElem h]
 simp
theorem argP_le (xs:List (List UInt8)) (j:Nat) (h:j < xs.length):(argP (xs.take j)).length+1+(quotedL (xs.getD j [])).length≤(argP xs).length:=by
 have h1:=argP_take xs j h
 have h2:argP xs=argP (xs.take (j+1))++argP (xs.drop (j+1)):=by unfold argP;rw [← List.flatMap_append,List.take_append_drop]
 rw [h2,h1]
 simp
 omega
theorem argP_count (xs:List (List UInt8)):xs.length≤(argP xs).length:=by
 unfold argP
 induction xs with
 | nil=>simp
 | cons a r ih=>rw [List.flatMap_cons,List.length_append,List.length_cons,List.length_cons];omega
theorem flat_take (ts:List (List UInt8)) (k:Nat) (h:k < ts.length):(ts.take (k+1)).flatten=(ts.take k).flatten++ts.getD k []:=by
 rw [List.take_succ_eq_append_getElem h,List.flatten_append,List.getD_eq_getElem?_getD,List.getElem?_eq_getElem h]
 simp
theorem flat_le (ts:List (List UInt8)) (k:Nat) (h:k < ts.length):(ts.take k).flatten.length+(ts.getD k []).length≤ts.flatten.length:=by
 have h1:=flat_take ts k h
 have h2:ts.flatten=(ts.take (k+1)).flatten++(ts.drop (k+1)).flatten:=by rw [← List.flatten_append,List.take_append_drop]
 rw [h2,h1]
 simp
theorem plines_row (i:List UInt8) (hi:i.length≤1000) (ts:List (List UInt8)) (v:Value) (p:Option Addr) (c:Nat) (w:World) (hv:v=.slice p ts.length c) (hp:∀ j,j < ts.length→∃ g,p=some ⟨g,0,none⟩∧∃ g2,w.cell? ⟨g,j,none⟩=some (.pointer (some ⟨g2,0,none⟩))∧CmOk w g2 i (ts.getD j [])) (hn:ts.length≤4294967280) (hlen:ts.flatten.length≤4294967280) :
 Calls Tryz.prog 54 #[v,.string (strA i)] w fun e w'=>e=.returned (.string (strA ts.flatten))∧Below w.heap.size w w':=by
 subst hv
 have HP:=hide hp
 have hzi:=strA_size i
 clear hp
 go_enter Tryz.func54,Tryz.ntmps54
 go_upto_block 0 with fail
 go_cut [5] (fun ov wx=>ov=.string (strA ts.flatten)∧Below w.heap.size w wx)
 case first=>
  go_wp2_with fail
  go_loopg [5,6,7,8,9,10,11] ts.length (fun m ov kv _ _ _ _ _ wr=>∃ k:Nat,m=ts.length - k∧k≤ts.length∧kv=.int .i64 k∧ov=.string (strA (ts.take k).flatten)∧Below w.heap.size w wr)
  case atStart=>exact ⟨0,by omega,by omega,rfl,rfl,Below.refl _ _⟩
  case round=>
   obtain ⟨k,rfl,hk,rfl,rfl,hB⟩:=hrel
   have HB:=hide hB
   clear hB
   by_cases hlt:k < ts.length
   ·obtain ⟨g,rfl,g2,hc2,nm,av,tag,tv,bv,pos,hnd,hcase⟩:=HP.out k hlt
    have hl:=flat_le ts k hlt
    have HS:=hide (flat_take ts k hlt)
    have hlb:decide ((k:Int) < (ts.length:Int))=true:=decide_eq_true (by omega)
    have ck:wr.cell? ⟨g,k,none⟩=some (.pointer (some ⟨g2,0,none⟩)):=by rw [HB.out.cell (p:=⟨g,k,none⟩) (cell_lt hc2)];exact hc2
    have hg2:=blk_lt hnd
    have hnd':CNode wr g2 nm av tag tv bv pos:=blk_below hnd HB.out
    have n0:wr.cell? ⟨g2,0,none⟩=some (.string (strA nm)):=blk_cell hnd' 0
    have n1:wr.cell? ⟨g2,1,none⟩=some av:=blk_cell hnd' 1
    have n2:wr.cell? ⟨g2,2,none⟩=some (.int .i64 tag):=blk_cell hnd' 2
    have m1:w.cell? ⟨g2,1,none⟩=some av:=blk_cell hnd 1
    have HND:=hide hnd'
    have hg2r:g2 < wr.heap.size:=blk_lt hnd'
    obtain ⟨t,ht⟩:∃ t,ts.getD k []=t:=⟨_,rfl⟩
    obtain ⟨y,hy⟩:∃ y,(ts.take k).flatten=y:=⟨_,rfl⟩
    rw [ht] at HS hl hcase
    rw [hy] at HS hl ⊢
    have hzy:=strA_size y
    have hzn:=strA_size nm
    clear hc2 hnd hnd' ht hy
    rcases hcase with ⟨hif,bt,hbr,htx⟩ | ⟨hif,htag,xs,hav,htx⟩
    ·have e1:((strA nm).toList == [105,102])=true:=by rw [strA_beq,hif];decide
     have hnl:nm.length=2:=by rw [hif];rfl
     have HBR:=hide (hbr wr HB.out)
     have htl:t.length=i.length+2+bt.length:=by rw [htx];simp;omega
     have HTX:=hide htx
     have hzb:=strA_size bt
     clear hif hbr htx
     go_wp2_with fail
     refine HBR.out.mono ?_
     rintro e w1 ⟨rfl,hB1⟩
     have HB1:=hide (HB.out.trans (hB1.mono (Below.size HB.out)))
     clear hB1
     go_wp2
     go_roundg (ts.length - (k+1))
     case measure=>omega
     case rel=>exact ⟨k+1,rfl,by omega,by go_num,by rw [HS.out,HTX.out];exact congrArg Value.string (eqA (by simp [strA])),HB1.out⟩
    ·have e1:((strA nm).toList == [105,102])=false:=by rw [strA_beq];exact decide_eq_false hif
     have htl:t.length=i.length+nm.length+(tagP tag).length+(argP xs).length+2:=by rw [htx];simp;omega
     have HTX:=hide htx
     have hxc:=argP_count xs
     obtain ⟨g1,n1',c1',hav',hxa⟩:∃ p1 n1 c1,av=.slice p1 n1 c1∧n1=xs.length∧∀ j,j < xs.length→∃ g,p1=some ⟨g,0,none⟩∧w.cell? ⟨g,j,none⟩=some (.string (strA (xs.getD j []))):=by
      rcases hav with ⟨rfl,rfl⟩ | ⟨g1,c1,rfl,h,_⟩
      ·exact ⟨none,0,0,rfl,rfl,fun j hj=>absurd hj (Nat.not_lt_zero _)⟩
      ·exact ⟨_,_,_,rfl,rfl,fun j hj=>⟨g1,rfl,h j hj⟩⟩
     obtain ⟨rfl,hxa⟩:=hxa
     subst hav'
     have HXA:=hide hxa
     clear hif htx hav hxa
     have h4:tag=0∨tag=1∨tag=2∨tag=3:=by omega
     have hat:∃ Y,Y=y++(i++(nm++tagP tag)):=⟨_,rfl⟩
     obtain ⟨Y,hY⟩:=hat
     have HY:=hide hY
     have hYl:Y.length=y.length+i.length+nm.length+(tagP tag).length:=by rw [hY];simp;omega
     have HEND:Hid (y++t=Y++(argP xs++[59,10])):=by show _=_;rw [HTX.out,hY];simp
     clear hY
     rcases h4 with rfl | rfl | rfl | rfl
     all_goals
      go_upto_block 2 with fail
      go_cut [5] (fun ov wx=>ov=.string (strA (Y++argP xs))∧Below w.heap.size w wx)
      case first=>
       go_wp2_with fail
       go_loopg [5,10,11] xs.length (fun m ov jv _ wy=>∃ j:Nat,m=xs.length - j∧j≤xs.length∧jv=.int .i64 j∧ov=.string (strA (Y++argP (xs.take j)))∧Below w.heap.size w wy)
       case atStart=>exact ⟨0,by omega,by omega,rfl,by rw [HY.out];exact congrArg Value.string (eqA (by simp [strA,tagP,argP,tLower,tUpper,tLength])),HB.out.alloc (Below.size HB.out) _⟩
       case round=>
        obtain ⟨j,rfl,hj,rfl,rfl,hB⟩:=hrel
        have HBJ:=hide hB
        have b1:wr.cell? ⟨g2,1,none⟩=some (.slice g1 xs.length c1'):=by rw [hB.cell (p:=⟨g2,1,none⟩) hg2];exact m1
        clear hB
        by_cases hjl:j < xs.length
        ·obtain ⟨g5,rfl,hcx⟩:=HXA.out j hjl
         have hjb:decide ((j:Int) < (xs.length:Int))=true:=decide_eq_true (by omega)
         have hal:=argP_le xs j hjl
         have HAT:=hide (argP_take xs j hjl)
         have bj:wr.cell? ⟨g5,j,none⟩=some (.string (strA (xs.getD j []))):=by rw [HBJ.out.cell (p:=⟨g5,j,none⟩) (cell_lt hcx)];exact hcx
         obtain ⟨x,hx⟩:∃ x,xs.getD j []=x:=⟨_,rfl⟩
         rw [hx] at hal HAT bj
         have hqx:=quotedL_ge x
         obtain ⟨Z,hZ⟩:∃ Z,Y++argP (xs.take j)=Z:=⟨_,rfl⟩
         have hZl:Z.length=Y.length+(argP (xs.take j)).length:=by rw [← hZ];simp
         have HZ:=hide hZ
         rw [hZ]
         have hzz:=strA_size Z
         have hzq:=strA_size (quotedL x)
         clear hcx hx hZ
         go_wp2_with fail
         refine (qquote_any x _ (by omega)).mono ?_
         rintro e w1 ⟨rfl,hB1⟩
         have HB1:=hide (HBJ.out.trans (hB1.mono (Below.size HBJ.out)))
         clear hB1
         go_wp2
         go_roundg (xs.length - (j+1))
         case measure=>omega
         case rel=>exact ⟨j+1,rfl,by omega,by go_num,by rw [HAT.out,← List.append_assoc,HZ.out];exact congrArg Value.string (eqA (by simp [strA])),HB1.out⟩
        ·have hjb:decide ((j:Int) < (xs.length:Int))=false:=decide_eq_false (by omega)
         have hj':j=xs.length:=by omega
         subst hj'
         go_wp2
         go_meet
         exact ⟨by rw [List.take_of_length_le (Nat.le_refl _)],HBJ.out⟩
      case rest=>
       obtain ⟨rfl,hb⟩:=hcut
       have HBC:=hide hb
       have hzY:=strA_size (Y++argP xs)
       rw [List.length_append] at hzY
       clear hb
       go_wp2
       go_roundg (ts.length - (k+1))
       case measure=>omega
       case rel=>exact ⟨k+1,rfl,by omega,by go_num,by rw [HS.out,HEND.out];exact congrArg Value.string (eqA (by simp [strA])),HBC.out⟩
   ·have hlb:decide ((k:Int) < (ts.length:Int))=false:=decide_eq_false (by omega)
    have hk':k=ts.length:=by omega
    subst hk'
    go_wp2
    go_meet
    exact ⟨by rw [List.take_of_length_le (Nat.le_refl _)],HB.out⟩
 case rest=>
  obtain ⟨rfl,hb⟩:=hcut
  go_wp2
  go_ret
  exact ⟨rfl,hb⟩
end
section
open Go.RowKit
attribute [local go_sem ↓] Go.wp_at_zero Go.wp_at_succ
theorem bto_mem (ts bs:List (List UInt8)) (i:List UInt8):∀ k j,j < k→(sgT i (hdT ts j) (bs.getD j [])).length≤(bto ts bs i k).length
 | 0,j,h=>absurd h (Nat.not_lt_zero _)
 | k+1,j,h=>by
  show _≤(bto ts bs i k++sgT i (hdT ts k) (bs.getD k [])).length
  rw [List.length_append]
  by_cases e:j=k
  ·subst e;omega
  ·have:=bto_mem ts bs i k j (by omega);omega
theorem arms_snoc (i:List UInt8):∀ (P:List (List UInt8×List UInt8)) (word:List UInt8) (a:List UInt8×List UInt8),armsTxt i word (P++[a])=armsTxt i word P++armTxt (if P=[] then word else kElsifB) i a.1 a.2
 | [],word,a=>by simp [armsTxt]
 | b :: r,word,a=>by
  show armTxt word i b.1 b.2++armsTxt i kElsifB (r++[a])=armTxt word i b.1 b.2++armsTxt i kElsifB r++_
  have h1:(if r=[] then kElsifB else kElsifB)=kElsifB:=by split <;> rfl
  have h2:(if b :: r=[] then word else kElsifB)=kElsifB:=if_neg (List.cons_ne_nil _ _)
  rw [arms_snoc i r kElsifB a,h1,h2,List.append_assoc]
theorem arm_txt (word i t b:List UInt8) (hw:word≠[]) (ht:t≠[]):armTxt word i t b=word++(32 :: t++([32,123,10]++(b++i))):=by
 unfold armTxt
 rw [phraseL_cons hw,tailP_cons ht,tailP_cons (show openB≠[] by decide),tailP_nil]
 simp [openB]
theorem arms_bto (i:List UInt8) (P:List (List UInt8×List UInt8)) (E:List (List UInt8)) (hP:∀ a∈P,a.1≠[]):∀ k,k+1≤P.length→armsTxt i kIf (P.take (k+1))++[125]=kIf++bto (P.map Prod.fst) (P.map Prod.snd++E) i (k+1)
 | 0,h=>by
  match P,h,hP with
  | a :: r,_,hP=>
   show armTxt kIf i a.1 a.2++[]++[125]=kIf++([]++sgT i (hdT (a.1 :: r.map Prod.fst) 0) a.2)
   have h0:hdT (a.1 :: r.map Prod.fst) 0=32 :: a.1:=by unfold hdT;rw [if_neg (by simp),if_neg (by omega)];rfl
   rw [h0,arm_txt _ _ _ _ (by decide) (hP a (by simp))]
   simp [sgT]
 | k+1,h=>by
  have ih:=arms_bto i P E hP k (by omega)
  have hk:k+1 < P.length:=by omega
  rw [List.take_succ_eq_append_getElem hk,arms_snoc,if_neg (by intro e;have:=congrArg List.length e;rw [List.length_take,List.length_nil] at this;omega)]
  have hmem:P[k+1]∈P:=List.getElem_mem hk
  rw [arm_txt _ _ _ _ (by decide) (hP _ hmem)]
  have e1:armsTxt i kIf (P.take (k+1))++(kElsifB++(32 :: P[k+1].1++([32,123,10]++(P[k+1].2++i))))++[125]=(armsTxt i kIf (P.take (k+1))++[125])++(32 :: kElsif++(32 :: P[k+1].1++([32,123,10]++(P[k+1].2++(i++[125]))))):=by simp [kElsifB]
  rw [e1,ih]
  have h1:hdT (P.map Prod.fst) (k+1)=32 :: kElsif++32 :: P[k+1].1:=by
   unfold hdT
   rw [if_neg (by rw [List.length_map];omega),if_pos (by omega),List.getD_eq_getElem?_getD,List.getElem?_map,List.getElem?_eq_getElem hk]
   simp [kElsif]
  have h2:(P.map Prod.snd++E).getD (k+1) []=P[k+1].2:=by
   rw [List.getD_eq_getElem?_getD,List.getElem?_append_left (by rw [List.length_map];exact hk),List.getElem?_map,List.getElem?_eq_getElem hk]
   rfl
  show _=kIf++(bto (P.map Prod.fst) (P.map Prod.snd++E) i (k+1)++sgT i (hdT (P.map Prod.fst) (k+1)) ((P.map Prod.snd++E).getD (k+1) []))
  rw [h1,h2]
  simp [sgT]
theorem if_txt (x:CLab) (i:List UInt8) (P:List (List UInt8×List UInt8)) (eb:List UInt8) (hk:x.kind=7) (hP:∀ a∈P,a.1≠[]) (hne:P≠[]):i++cmdNode x i P eb++[10]=i++(kIf++(bto (P.map Prod.fst) (P.map Prod.snd++(if x.els then [eb] else [])) i (P.map Prod.snd++(if x.els then [eb] else [])).length++[10])):=by
 have hl:0 < P.length:=List.length_pos_iff.2 hne
 have hb:=arms_bto i P (if x.els then [eb] else []) hP (P.length - 1) (by omega)
 rw [show P.length - 1+1=P.length by omega,List.take_of_length_le (Nat.le_refl _)] at hb
 have hn:cmdNode x i P eb=armsTxt i kIf P++(if x.els then elseB++eb++i else [])++[125]:=by unfold cmdNode;rw [hk];rfl
 rw [hn]
 cases hx:x.els with
 | false=>
  rw [hx] at hb
  simp only [Bool.false_eq_true,if_false,List.append_nil,List.length_map] at hb ⊢
  rw [List.append_assoc,List.append_assoc,← List.append_assoc kIf,← hb]
  simp
 | true=>
  rw [hx] at hb
  simp only [if_true,List.length_append,List.length_map,List.length_singleton] at hb ⊢
  have e1:bto (P.map Prod.fst) (P.map Prod.snd++[eb]) i (P.length+1)=bto (P.map Prod.fst) (P.map Prod.snd++[eb]) i P.length++sgT i [32,101,108,115,101] eb:=by
   show bto _ _ i P.length++sgT i (hdT _ P.length) ((P.map Prod.snd++[eb]).getD P.length [])=_
   have h1:hdT (P.map Prod.fst) P.length=[32,101,108,115,101]:=by unfold hdT;rw [if_pos (by rw [List.length_map])]
   have h2:(P.map Prod.snd++[eb]).getD P.length []=eb:=by
    rw [List.getD_eq_getElem?_getD,List.getElem?_append_right (by rw [List.length_map];exact Nat.le_refl _),List.length_map,Nat.sub_self]
    rfl
   rw [h1,h2]
  rw [e1]
  have e2:i++(armsTxt i kIf P++(elseB++eb++i)++[125])++[10]=i++((armsTxt i kIf P++[125])++([32,101,108,115,101]++([32,123,10]++(eb++(i++[125]))))++[10]):=by simp [elseB,kElse]
  rw [e2,hb]
  simp [sgT]
theorem cmd_txt {req:List (List UInt8)} (x:CLab) (i:List UInt8) (P:List (List UInt8×List UInt8)) (eb:List UInt8) {a e:Nat} (hw:WfC req x a e) (hk:x.kind≠7):i++cmdNode x i P eb++[10]=i++(cmdNames.getD x.kind []++(tagP x.tag++(argP (argsL x)++[59,10]))):=by
 have h7:=hw.kind
 have hks:x.kind=0∨x.kind=1∨x.kind=2∨x.kind=3∨x.kind=4∨x.kind=5∨x.kind=6:=by omega
 have h2:∀ w:List UInt8,w≠[]→∀ a,phraseL [w,quotedL a]=w++32 :: quotedL a:=fun w hw a=>by rw [phraseL_cons hw,tailP_cons (quotedL_ne a),tailP_nil];simp
 rcases hks with e | e | e | e | e | e | e
 ·have ht:=hw.tag0 (by omega);unfold cmdNode argsL;rw [e,ht];simp [tagP,argP,cmdNames]
 ·have ht:=hw.tag0 (by omega);unfold cmdNode argsL;rw [e,ht];simp [tagP,argP,cmdNames]
 ·have ht:=hw.tag0 (by omega);unfold cmdNode argsL;rw [e,ht];simp [tagP,argP,cmdNames]
 ·have ht:=hw.tag0 (by omega);unfold cmdNode argsL;rw [e,ht];simp [tagP,argP,cmdNames,h2 kFileinto (by decide)]
 ·have ht:=hw.tag0 (by omega);unfold cmdNode argsL;rw [e,ht];simp [tagP,argP,cmdNames,h2 kRedirect (by decide)]
 ·have ht:=hw.tag0 (by omega);unfold cmdNode argsL;rw [e,ht];simp [tagP,argP,cmdNames,h2 kReject (by decide)]
 ·have ht:=hw.tag
  have h4:x.tag=0∨x.tag=1∨x.tag=2∨x.tag=3:=by omega
  have h3:phraseL [kSet,tagTextL x.tag [tLower,tUpper,tLength],quotedL x.var,quotedL x.arg]=kSet++(tagP x.tag++(32 :: (quotedL x.var++32 :: quotedL x.arg))):=by
   rw [phraseL_cons (by decide)]
   have ht2:tailP [quotedL x.var,quotedL x.arg]=32 :: (quotedL x.var++32 :: quotedL x.arg):=by rw [tailP_cons (quotedL_ne _),tailP_cons (quotedL_ne _),tailP_nil,List.append_nil]
   rcases h4 with h | h | h | h
   ·rw [h,show tagTextL 0 [tLower,tUpper,tLength]=[] from rfl,tailP_none,ht2];rfl
   ·rw [h,show tagTextL 1 [tLower,tUpper,tLength]=tLower from rfl,tailP_cons (by decide),ht2];rfl
   ·rw [h,show tagTextL 2 [tLower,tUpper,tLength]=tUpper from rfl,tailP_cons (by decide),ht2];rfl
   ·rw [h,show tagTextL 3 [tLower,tUpper,tLength]=tLength from rfl,tailP_cons (by decide),ht2];rfl
  unfold cmdNode argsL
  rw [e]
  simp only [h3]
  simp [argP,cmdNames]
theorem lines_flat {α:Type} (txt:α→List UInt8→List UInt8) (cs:List α) (i:List UInt8):linesL txt cs i=(cs.map fun c=>i++txt c i++[10]).flatten:=by
 unfold linesL
 rw [List.flatMap_def]
theorem rcmd_ptr {n:Nat} {X:Nat→Prop} {x:CmdT n} {w:World} {v:Value} (h:RCmd n X x w v):∃ g,v=.pointer (some ⟨g,0,none⟩):=by
 match n,x,h with
 | n+1,x,⟨g,_,_,_,h,_⟩=>exact ⟨g,h⟩
theorem flat_mem {ts:List (List UInt8)} {t:List UInt8} (h:t∈ts):t.length≤ts.flatten.length:=by
 induction ts with
 | nil=>cases h
 | cons a r ih=>
  rw [List.flatten_cons,List.length_append]
  rcases List.mem_cons.1 h with rfl | h
  ·omega
  ·have:=ih h;omega
theorem flat_cnt (ts:List (List UInt8)) (h:∀ t∈ts,t≠[]):ts.length≤ts.flatten.length:=by
 induction ts with
 | nil=>simp
 | cons a r ih=>
  rw [List.flatten_cons,List.length_append,List.length_cons]
  have h1:=List.length_pos_iff.2 (h a (by simp))
  have h2:=ih (fun t ht=>h t (List.mem_cons_of_mem _ ht))
  omega
theorem mem_blocks {α β:Type} {x:CLab×List (β×List α)×List α} {B:List α} (h:B∈blocksL x):(∃ a∈x.2.1,a.2=B)∨B=x.2.2:=by
 unfold blocksL at h
 rcases List.mem_append.1 h with h | h
 ·obtain ⟨a,ha,hb⟩:=List.mem_map.1 h
  exact Or.inl ⟨a,ha,hb⟩
 ·by_cases he:x.1.els=true
  ·rw [if_pos he] at h
   exact Or.inr (List.mem_singleton.1 h)
  ·rw [if_neg he] at h;cases h
theorem plines_any (req:List (List UInt8)):∀ (n:Nat) (X:Nat→Prop) (cs:List (CmdT n)) (w:World) (v:Value) (i:List UInt8),trY (RCmd n) X cs w v→(∀ c∈cs,allC (WfT req) (WfC req) n c)→i.length+2*n≤1000→(linesL (cmdTxt n) cs i).length≤4294967280→LnOk w v i (linesL (cmdTxt n) cs i):=by
 intro n
 induction n with
 | zero=>
  intro X cs w v i h ha hi hlen W hW
  rcases h with ⟨rfl,rfl⟩ | ⟨hne,g,c,hv,_,hx⟩
  ·exact plines_row i (by omega) [] _ none 0 W rfl (fun j hj=>absurd hj (Nat.not_lt_zero _)) (by simp) (by simp)
  ·obtain ⟨u,_,hu⟩:=hx 0 (List.length_pos_iff.2 hne)
   exact hu.elim
 | succ n ih=>
  intro X cs w v i h ha hi hlen W hW
  have h':=(trY_tree (rcmd_tree (n+1))).keep _ _ _ _ _ h (fun k _ hk=>hW.block k hk)
  have hfl:=lines_flat (cmdTxt (n+1)) cs i
  rw [hfl] at hlen ⊢
  have hcnt:=flat_cnt (cs.map fun c=>i++cmdTxt (n+1) c i++[10]) (by intro t ht;obtain ⟨c,_,rfl⟩:=List.mem_map.1 ht;simp)
  have key:∀ c∈cs,∀ g,RCmd (n+1) X c W (.pointer (some ⟨g,0,none⟩))→(i++cmdTxt (n+1) c i++[10]).length≤4294967280→CmOk W g i (i++cmdTxt (n+1) c i++[10]):=by
   intro c hc g hg hl
   obtain ⟨hwf,harm,hels⟩:=ha c hc
   obtain ⟨g',av,tv,bv,hgg,_,hnd,hav,htv,hbv⟩:=hg
   have hgg':g=g':=by injection hgg with h;injection h with h;injection h
   subst hgg'
   have hct:cmdTxt (n+1) c i=cmdNode c.1 i (c.2.1.map fun a=>(testTxt n a.1,linesL (cmdTxt n) a.2 (i++[32,32]))) (linesL (cmdTxt n) c.2.2 (i++[32,32])):=rfl
   rw [hct] at hl ⊢
   refine ⟨_,av,_,tv,bv,_,hnd,?_⟩
   by_cases h7:c.1.kind=7
   ·left
    have hane:c.2.1≠[]:=List.length_pos_iff.1 (hwf.arms h7)
    have hit:=if_txt c.1 i (c.2.1.map fun a=>(testTxt n a.1,linesL (cmdTxt n) a.2 (i++[32,32]))) (linesL (cmdTxt n) c.2.2 (i++[32,32])) h7 (by intro a ha';obtain ⟨b,hb,rfl⟩:=List.mem_map.1 ha';exact test_ne (harm b hb).1) (by simpa using hane)
    rw [hit] at hl ⊢
    rw [List.map_map,List.map_map] at hl ⊢
    refine ⟨by rw [h7];rfl,_,?_,by rw [h7];rfl⟩
    intro W2 hW2
    have hnd2:=blk_below hnd hW2
    have hts:(c.2.1.map (Prod.fst ∘ fun a=>(testTxt n a.1,linesL (cmdTxt n) a.2 (i++[32,32]))))=(c.2.1.map Prod.fst).map (testTxt n):=by rw [List.map_map];rfl
    have hbs:(c.2.1.map (Prod.snd ∘ fun a=>(testTxt n a.1,linesL (cmdTxt n) a.2 (i++[32,32]))))++(if c.1.els then [linesL (cmdTxt n) c.2.2 (i++[32,32])] else [])=(blocksL c).map (fun b=>linesL (cmdTxt n) b (i++[32,32])):=by
     unfold blocksL
     rw [List.map_append,List.map_map]
     congr 1
     cases c.1.els <;> rfl
    rw [hts,hbs] at hl ⊢
    have htY:=(trY_tree (rtest_tree n)).keep _ _ _ _ _ htv (fun k _ hk=>hW2.block k hk)
    have hbY:=(trY_tree (trY_tree (rcmd_tree n))).keep _ _ _ _ _ hbv (fun k _ hk=>hW2.block k hk)
    have htne:c.2.1.map Prod.fst≠[]:=by simpa using hane
    have hbne:blocksL c≠[]:=by unfold blocksL;simp;exact fun e=>absurd e hane
    rcases htY with htY | ⟨_,g1,c1,htv1,_,hx1⟩
    ·exact absurd htY.1 htne
    rcases hbY with hbY | ⟨_,g3,c3,hbv3,_,hx3⟩
    ·exact absurd hbY.1 hbne
    have hbl:(bto ((c.2.1.map Prod.fst).map (testTxt n)) ((blocksL c).map fun b=>linesL (cmdTxt n) b (i++[32,32])) i ((blocksL c).map fun b=>linesL (cmdTxt n) b (i++[32,32])).length).length≤4294967280:=by
     simp only [List.length_append,List.length_cons,List.length_nil] at hl
     omega
    have hlt12:(c.2.1.map Prod.fst).length≤(blocksL c).length:=by unfold blocksL;simp
    have hlt13:(blocksL c).length≤(c.2.1.map Prod.fst).length+1:=by unfold blocksL;rw [List.length_append,List.length_map,List.length_map];split <;> simp
    have hmem:∀ j,j < (blocksL c).length→(hdT ((c.2.1.map Prod.fst).map (testTxt n)) j).length+(linesL (cmdTxt n) ((blocksL c).getD j []) (i++[32,32])).length≤4294967280:=by
     intro j hj
     have h1:=bto_mem ((c.2.1.map Prod.fst).map (testTxt n)) ((blocksL c).map fun b=>linesL (cmdTxt n) b (i++[32,32])) i ((blocksL c).map fun b=>linesL (cmdTxt n) b (i++[32,32])).length j (by rw [List.length_map];exact hj)
     have h2:((blocksL c).map fun b=>linesL (cmdTxt n) b (i++[32,32])).getD j []=linesL (cmdTxt n) ((blocksL c).getD j []) (i++[32,32]):=by
      rw [List.getD_eq_getElem?_getD,List.getElem?_map,List.getElem?_eq_getElem hj,List.getD_eq_getElem?_getD,List.getElem?_eq_getElem hj];rfl
     rw [h2] at h1
     unfold sgT at h1
     simp only [List.length_append,List.length_cons,List.length_nil] at h1
     omega
    refine pbr_any _ g av tv bv _ _ W2 hnd2 i (by omega) _ _ g1 c1 g3 c3 (by rw [List.length_map];exact htv1) (by rw [List.length_map];exact hbv3) ?_ ?_ (by simpa using htne) (by simpa using hlt12) (by simpa using hlt13) hbl
    ·intro j hj
     rw [List.length_map] at hj
     obtain ⟨u,hcu,hpu⟩:=hx1 j hj
     obtain ⟨g2,rfl⟩:=rtest_ptr hpu
     refine ⟨g2,hcu,?_⟩
     have hm:(c.2.1.map Prod.fst)[j]∈c.2.1.map Prod.fst:=List.getElem_mem hj
     obtain ⟨a,ham,hae⟩:=List.mem_map.1 hm
     have hgd:((c.2.1.map Prod.fst).map (testTxt n)).getD j []=testTxt n (c.2.1.map Prod.fst)[j]:=by rw [List.getD_eq_getElem?_getD,List.getElem?_map,List.getElem?_eq_getElem hj];rfl
     have hle:(testTxt n (c.2.1.map Prod.fst)[j]).length≤4294967280:=by
      have h1:=hmem j (by omega)
      have h2:(((c.2.1.map Prod.fst).map (testTxt n)).getD j []).length≤(hdT ((c.2.1.map Prod.fst).map (testTxt n)) j).length:=by
       unfold hdT
       rw [if_neg (by rw [List.length_map];omega)]
       split
       ·rw [List.length_append];omega
       ·rw [List.length_cons];omega
      rw [hgd] at h2
      omega
     rw [hgd]
     exact ptext_any (req:=req) n X _ W2 _ hpu (by have:=(harm a ham).1;rw [hae] at this;exact this) hle
    ·intro j hj
     rw [List.length_map] at hj
     obtain ⟨u,hcu,hpu⟩:=hx3 j hj
     have hgd:((blocksL c).map fun b=>linesL (cmdTxt n) b (i++[32,32])).getD j []=linesL (cmdTxt n) (blocksL c)[j] (i++[32,32]):=by rw [List.getD_eq_getElem?_getD,List.getElem?_map,List.getElem?_eq_getElem hj];rfl
     have hform:∃ p m c',u=.slice p m c':=by
      rcases hpu with ⟨_,h⟩ | ⟨_,g5,c5,h,_⟩
      ·exact ⟨_,_,_,h⟩
      ·exact ⟨_,_,_,h⟩
     obtain ⟨p,m,c',rfl⟩:=hform
     refine ⟨p,m,c',hcu,?_⟩
     rw [hgd]
     have hle:=hmem j hj
     rw [List.getD_eq_getElem?_getD,List.getElem?_eq_getElem hj] at hle
     have hm:(blocksL c)[j]∈blocksL c:=List.getElem_mem hj
     have hall:∀ d∈(blocksL c)[j],allC (WfT req) (WfC req) n d:=by
      intro d hd
      rcases mem_blocks hm with ⟨a,ham,hae⟩ | hae
      ·exact (harm a ham).2 d (by rw [hae];exact hd)
      ·exact hels d (by have hd':=hd;rw [hae] at hd';exact hd')
     exact ih X _ W2 _ (i++[32,32]) hpu hall (by simp;omega) (by simp at hle;omega)
   ·right
    have hctx:=cmd_txt (req:=req) c.1 i (c.2.1.map fun a=>(testTxt n a.1,linesL (cmdTxt n) a.2 (i++[32,32]))) (linesL (cmdTxt n) c.2.2 (i++[32,32])) hwf h7
    refine ⟨?_,hwf.tag,argsL c.1,?_,hctx⟩
    ·have h7':=hwf.kind
     have:∀ k,k≤6→cmdNames.getD k []≠kIf:=by decide
     exact this _ (by omega)
    ·rcases hav with h | ⟨g1,c1,h1,_,h2,h3⟩
     ·exact Or.inl h
     ·exact Or.inr ⟨g1,c1,h1,h2,h3⟩
  rcases h' with ⟨rfl,rfl⟩ | ⟨hne,g,c,hv,_,hx⟩
  ·exact plines_row i (by omega) [] _ none 0 W rfl (fun j hj=>absurd hj (Nat.not_lt_zero _)) (by simp) (by simp)
  ·refine plines_row i (by omega) _ v (some ⟨g,0,none⟩) c W (by rw [List.length_map];exact hv) (fun j hj=>?_) (by omega) hlen
   rw [List.length_map] at hj
   obtain ⟨u,hcu,hpu⟩:=hx j hj
   obtain ⟨g2,rfl⟩:=rcmd_ptr hpu
   have hm:cs[j]∈cs:=List.getElem_mem hj
   have hgd:(cs.map fun c=>i++cmdTxt (n+1) c i++[10]).getD j []=i++cmdTxt (n+1) cs[j] i++[10]:=by rw [List.getD_eq_getElem?_getD,List.getElem?_map,List.getElem?_eq_getElem hj];rfl
   refine ⟨g,rfl,g2,hcu,?_⟩
   rw [hgd]
   exact key _ hm g2 hpu (Nat.le_trans (flat_mem (List.mem_map_of_mem (f:=fun c=>i++cmdTxt (n+1) c i++[10]) hm)) hlen)
theorem pscript_any (X:Nat→Prop) (y:List (List UInt8)×List (CmdT 7)) (w:World) (v:Value) (h:RScript X y w v) (ha:∀ c∈y.2,allC (WfT y.1) (WfC y.1) 7 c) (hlen:(textL y).length≤4294967280) :
 Calls Tryz.prog 32 #[v] w fun e w'=>e=.returned (.string (strA (textL y)))∧Below w.heap.size w w':=by
 obtain ⟨g,nv,bv,rfl,_,hc,hn,hb⟩:=h
 have hgl:=blk_lt hc
 have c1:w.cell? ⟨g,1,none⟩=some bv:=blk_cell hc 1
 have htl:textL y=requireTxt y.1++linesL (cmdTxt 7) y.2 []:=rfl
 have hll:(linesL (cmdTxt 7) y.2 []).length≤4294967280:=by rw [htl,List.length_append] at hlen;omega
 have HL:=hide (plines_any y.1 7 X y.2 w bv [] hb ha (by decide) hll)
 obtain ⟨pb,mb,cb,hbf⟩:∃ p m c,bv=.slice p m c:=by
  rcases hb with ⟨_,h⟩ | ⟨_,g5,c5,h,_⟩
  ·exact ⟨_,_,_,h⟩
  ·exact ⟨_,_,_,h⟩
 subst hbf
 have hz2:=strA_size (linesL (cmdTxt 7) y.2 [])
 have HT:=hide htl
 by_cases hq:y.1=[]
 ·have hrt:requireTxt y.1=[]:=if_pos hq
  have hnv:nv=.slice none 0 0:=by
   rcases hn with h | ⟨g1,c,h1,_,_,h⟩
   ·exact h.2
   ·exact absurd hq h
  subst hnv
  have c0:w.cell? ⟨g,0,none⟩=some (.slice none 0 0):=blk_cell hc 0
  rw [hrt] at HT
  clear hc hn hb ha hlen htl hrt
  generalize linesL (cmdTxt 7) y.2 []=b at *
  go_enter Tryz.func32,Tryz.ntmps32
  go_wp2_with fail
  refine (HL.out _ (Below.refl _ _)).mono ?_
  rintro e w1 ⟨rfl,hB⟩
  have HB:=hide hB
  clear hB
  go_wp2
  go_ret
  exact ⟨by rw [HT.out];exact congrArg (fun x=>Ending.returned (Value.string x)) (eqA (by simp [strA])),HB.out⟩
 ·have hrt:requireTxt y.1=kRequire++[32]++quotesL y.1++[59,10]:=if_neg hq
  obtain ⟨g1,c',hnv,htx⟩:=hn.get hq
  subst hnv
  have c0:w.cell? ⟨g,0,none⟩=some (.slice (some ⟨g1,0,none⟩) y.1.length c'):=blk_cell hc 0
  have hql:(quotesL y.1).length+(linesL (cmdTxt 7) y.2 []).length+10≤4294967280:=by
   rw [htl,hrt] at hlen
   have e:kRequire.length=7:=rfl
   simp only [List.length_append,List.length_cons,List.length_nil,e] at hlen
   omega
  rw [hrt] at HT
  have HQ:=hide (qlist_any y.1 g1 y.1.length c' w htx rfl hq (by omega))
  have hyl:=List.length_pos_iff.2 hq
  have hyb:decide ((0:Int) < (y.1.length:Int))=true:=decide_eq_true (by omega)
  have hz1:=strA_size (quotesL y.1)
  clear hc hn hb ha hlen htl hrt htx
  generalize linesL (cmdTxt 7) y.2 []=b at *
  generalize quotesL y.1=q at *
  go_enter Tryz.func32,Tryz.ntmps32
  go_wp2_with fail
  refine HQ.out.mono ?_
  rintro e w1 ⟨rfl,hB⟩
  have HB:=hide hB
  have c1':w1.cell? ⟨g,1,none⟩=some (.slice pb mb cb):=by rw [hB.cell (p:=⟨g,1,none⟩) hgl];exact c1
  clear hB
  go_wp2_with fail
  refine (HL.out _ HB.out).mono ?_
  rintro e w2 ⟨rfl,hB2⟩
  have HB2:=hide (HB.out.trans (hB2.mono (Below.size HB.out)))
  clear hB2
  go_wp2
  go_ret
  exact ⟨by rw [HT.out];exact congrArg (fun x=>Ending.returned (Value.string x)) (eqA (by simp [strA,kRequire])),HB2.out⟩
end
end Go.Proofs.YtgnkjijocdmniaaGreatDoor
