import Derived.Test.YtgnkjijocdmniaaGreatDoorQSkip
namespace Go.Proofs.YtgnkjijocdmniaaGreatDoor
set_option linter.unusedVariables false
set_option linter.unusedSimpArgs false
set_option maxRecDepth 100000
set_option maxHeartbeats 4000000
section
open Go.RowKit
attribute [local go_sem ↓] Go.wp_at_zero Go.wp_at_succ
theorem nameTailQ_step {l:List UInt8} {b:Nat} (h:b < (strA l).size) (hc:letdig (strA l)[b]=true):b+nameTail (l.drop b)=(b+1)+nameTail (l.drop (b+1)):=by
 rw [drop_at h]
 unfold nameTail
 rw [List.takeWhile_cons_of_pos hc,List.length_cons]
 omega
theorem nameTailQ_stop {l:List UInt8} {b:Nat} (h:b < (strA l).size) (hc:letdig (strA l)[b]=false):nameTail (l.drop b)=0:=by
 rw [drop_at h]
 unfold nameTail
 rw [List.takeWhile_cons_of_neg (by rw [hc];decide)]
 rfl
theorem nameTailQ_end {l:List UInt8} {b:Nat} (h:l.length≤b):nameTail (l.drop b)=0:=by
 rw [List.drop_of_length_le h]
 rfl
theorem extract_subS (x:List UInt8) (a b:Nat):(strA x).extract a b=strA ((x.drop a).take (b - a)):=by
 apply ByteArray.ext
 apply Array.ext'
 simp [strA]
def NameQ (tb:Nat) (l:List UInt8) (a:Nat) (d k:Int) (s:List UInt8) (n p:Int) (w:World) (e:Ending) (w':World):Prop:=
 e=.returned (.string (strA (smallL ((l.drop a).take (nameTail (l.drop a))))))∧Mod tb w w'∧QT w' tb l (a+nameTail (l.drop a):Nat) 0 d k s n p∧a+nameTail (l.drop a)≤l.length
theorem name_done {tb:Nat} {l:List UInt8} {a b:Nat} {d k:Int} {s:List UInt8} {n p:Int} {w w':World} (h1:a+nameTail (l.drop a)=b+nameTail (l.drop b)) (h2:nameTail (l.drop b)=0) (hab:a≤b) (hb:b≤l.length) (hm:Mod tb w w') (hq:QT w' tb l b 0 d k s n p):NameQ tb l a d k s n p w (.returned (.string (strA (smallL ((l.drop a).take (b - a)))))) w':=by
 have e:b=a+nameTail (l.drop a):=by omega
 have e2:b - a=nameTail (l.drop a):=by omega
 unfold NameQ
 rw [e2]
 rw [← e]
 exact ⟨rfl,hm,hq,hb⟩
theorem qname_any (tb:Nat) (l:List UInt8) (a:Nat) (d k:Int) (s:List UInt8) (n p:Int) (w:World) (h:QT w tb l a 0 d k s n p) (hl:l.length≤600) (ha:a≤l.length) :
 Calls Tryz.prog 111 #[.pointer (some ⟨tb,0,none⟩)] w (NameQ tb l a d k s n p w):=by
 have H:=hide h
 have hz:=strA_size l
 have c1:w.cell? ⟨tb,1,none⟩=some (.int .i64 a):=blk_cell h 1
 clear h
 go_enter Tryz.func111,Tryz.ntmps111
 go_wp2
 go_loopw [4,5] (fun _ _ wr=>∃ b:Nat,a≤b∧b≤l.length∧QT wr tb l b 0 d k s n p∧Mod tb w wr∧a+nameTail (l.drop a)=b+nameTail (l.drop b)) (fun _ _ wr=>l.length - atW wr tb)
 case atStart=>exact ⟨a,Nat.le_refl _,ha,H.out,Mod.refl _ _,rfl⟩
 case round=>
  obtain ⟨b,hab,hb,hq,hm,hs⟩:=hrel
  have HQ:=hide hq
  have HM:=hide hm
  have HS:=hide hs
  clear c1
  have c0:wr.cell? ⟨tb,0,none⟩=some (.string (strA l)):=blk_cell hq 0
  have c1:wr.cell? ⟨tb,1,none⟩=some (.int .i64 b):=blk_cell hq 1
  have hfz:=fun o=>blk_frozen hq o
  clear hq hm hs H
  have hex:=extract_subS l a b
  have hab':(a:Int)≤(b:Int):=by omega
  have hbl':(b:Int)≤(l.length:Int):=by omega
  have h0a:(0:Int)≤(a:Int):=by omega
  have h0b:(0:Int)≤(b:Int):=by omega
  by_cases hlt:b < (strA l).size
  rotate_left
  ·obtain rfl:b=l.length:=by omega
   have HT:=hide (nameTailQ_end (l:=l) (b:=l.length) (Nat.le_refl _))
   have HLN:Hid (((l.drop a).take (l.length - a)).length≤140737488355328):=by show _≤_;simp;omega
   go_wp2_with fail
   go_quiet (fail)
   go_wp2_with fail
   generalize hW:wr.drewN _=W1
   have hq1:QT W1 tb l l.length 0 d k s n p:=by rw [← hW];exact HQ.out
   have HM1:Hid (Mod tb w W1):=by rw [← hW];exact HM.out.drewN
   clear hW c0 c1 hfz
   have c0:W1.cell? ⟨tb,0,none⟩=some (.string (strA l)):=blk_cell hq1 0
   have c1:W1.cell? ⟨tb,1,none⟩=some (.int .i64 l.length):=blk_cell hq1 1
   have HQ1:=hide hq1
   clear hq1
   go_region_held3 (fun w'=>w'.cell? ⟨tb,0,none⟩=some (.string (strA l))∧w'.cell? ⟨tb,1,none⟩=some (.int .i64 l.length)) (first | go_keep | exact ⟨blk_cell HQ9.out 0,blk_cell HQ9.out 1⟩) (first | (go_at_call 80;refine (qsmall_any ((l.drop a).take (l.length - a)) W1.drew HLN.out).mono ?_;rintro e w9 ⟨rfl,hb9⟩;have HQ9:=hide (QT.below (w:=W1.drew) HQ1.out hb9);have HM9:=hide (HM1.out.drew.trans (Mod.of_below hb9));clear hb9;skip))
   all_goals go_wp2
   all_goals go_ret
   all_goals exact name_done HS.out HT.out hab hb HM9.out HQ9.out
  have hlt':(b:Int) < (l.length:Int):=by omega
  go_wp2_with fail
  go_quiet (fail)
  go_wp2_with fail
  generalize hW:wr.drewN _=W1
  have hq1:QT W1 tb l b 0 d k s n p:=by rw [← hW];exact HQ.out
  have HM1:Hid (Mod tb w W1):=by rw [← hW];exact HM.out.drewN
  clear hW c0 c1 hfz
  have c0:W1.cell? ⟨tb,0,none⟩=some (.string (strA l)):=blk_cell hq1 0
  have c1:W1.cell? ⟨tb,1,none⟩=some (.int .i64 b):=blk_cell hq1 1
  have HQ1:=hide hq1
  clear hq1
  go_quiet (first | (go_at_call 109;refine Calls.quiet_of_same (qletter_any _ _)))
  go_wp2_with fail
  generalize hW:W1.drewN _=W2
  have hq2:QT W2 tb l b 0 d k s n p:=by rw [← hW];exact HQ1.out
  have HM2:Hid (Mod tb w W2):=by rw [← hW];exact HM1.out.drewN
  clear hW c0 c1
  have c0:W2.cell? ⟨tb,0,none⟩=some (.string (strA l)):=blk_cell hq2 0
  have c1:W2.cell? ⟨tb,1,none⟩=some (.int .i64 b):=blk_cell hq2 1
  have HQ2:=hide hq2
  clear hq2
  go_quiet (first | (go_at_call 110;refine Calls.quiet_of_same (qdigit_any _ _)))
  generalize hW:W2.drewN _=W3
  have hq3:QT W3 tb l b 0 d k s n p:=by rw [← hW];exact HQ2.out
  have HM3:Hid (Mod tb w W3):=by rw [← hW];exact HM2.out.drewN
  clear hW c0 c1
  have c0:W3.cell? ⟨tb,0,none⟩=some (.string (strA l)):=blk_cell hq3 0
  have c1:W3.cell? ⟨tb,1,none⟩=some (.int .i64 b):=blk_cell hq3 1
  have hfz:=fun o=>blk_frozen hq3 o
  have HQ3:=hide hq3
  clear hq3
  cases hc:isLetN ((strA l)[b].toNat:Int) <;> cases hd:isDigitN ((strA l)[b].toNat:Int)
  case false.false=>
   have HT:=hide (nameTailQ_stop hlt (by unfold letdig;rw [hc,hd];rfl))
   have HLN:Hid (((l.drop a).take (b - a)).length≤140737488355328):=by show _≤_;simp;omega
   go_wp2_with fail
   go_region_held3 (fun w'=>w'.cell? ⟨tb,0,none⟩=some (.string (strA l))∧w'.cell? ⟨tb,1,none⟩=some (.int .i64 b)) (first | go_keep | exact ⟨blk_cell HQ9.out 0,blk_cell HQ9.out 1⟩) (first | (go_at_call 80;refine (qsmall_any ((l.drop a).take (b - a)) W3.drew HLN.out).mono ?_;rintro e w9 ⟨rfl,hb9⟩;have HQ9:=hide (QT.below (w:=W3.drew) HQ3.out hb9);have HM9:=hide (HM3.out.drew.trans (Mod.of_below hb9));clear hb9;skip))
   all_goals go_wp2
   all_goals go_ret
   all_goals exact name_done HS.out HT.out hab hb HM9.out HQ9.out
  all_goals
   have HT:=hide (nameTailQ_step hlt (by unfold letdig;rw [hc,hd];rfl))
   have HQ4:=hide (HQ3.out.at_ ((b:Int)+1))
   go_wp2
   go_roundw
   case rel=>exact ⟨b+1,by omega,by omega,HQ4.out,HM3.out.setCell _ _,HS.out.trans HT.out⟩
   case measure=>exact at_less (b:=b+1) HQ.out HQ4.out (by omega) (by omega)
end
section
open Go.RowKit
attribute [local go_sem ↓] Go.wp_at_zero Go.wp_at_succ
def qAdd (acc:List UInt8) (m:Nat) (r:Option (List UInt8×Nat)):Option (List UInt8×Nat):=r.map fun x=>(acc++x.1,x.2+m)
theorem quote_end {l:List UInt8} {b:Nat} (h:l.length≤b):quoteL (l.drop b)=none:=by rw [List.drop_of_length_le h];rfl
theorem quote_close {l:List UInt8} {b:Nat} (h:b < (strA l).size) (hc:(strA l)[b]=34):quoteL (l.drop b)=some ([],1):=by
 rw [drop_at h,hc,quoteL.eq_def];rfl
theorem quote_back_end {l:List UInt8} {b:Nat} (h:b < (strA l).size) (hc:(strA l)[b]=92) (he:b+1=l.length):quoteL (l.drop b)=none:=by
 rw [drop_at h,hc,List.drop_of_length_le (by omega),quoteL.eq_def];rfl
theorem quote_back {l:List UInt8} {acc:List UInt8} {b m:Nat} (h:b < (strA l).size) (hc:(strA l)[b]=92) (h1:b+1 < (strA l).size):qAdd acc m (quoteL (l.drop b))=qAdd (acc++[(strA l)[b+1]]) (m+2) (quoteL (l.drop (b+1+1))):=by
 rw [drop_at h,hc,drop_at h1]
 have e:quoteL (92 :: (strA l)[b+1] :: l.drop (b+1+1))=(quoteL (l.drop (b+1+1))).map fun x=>((strA l)[b+1] :: x.1,x.2+2):=by
  rw [quoteL.eq_def]
  rfl
 rw [e]
 unfold qAdd
 cases quoteL (l.drop (b+1+1)) with
 | none=>rfl
 | some x=>simp;omega
theorem quote_step {l:List UInt8} {acc:List UInt8} {b m:Nat} (h:b < (strA l).size) (hc:¬ (strA l)[b]=34) (hc2:¬ (strA l)[b]=92):qAdd acc m (quoteL (l.drop b))=qAdd (acc++[(strA l)[b]]) (m+1) (quoteL (l.drop (b+1))):=by
 rw [drop_at h]
 have e:quoteL ((strA l)[b] :: l.drop (b+1))=(quoteL (l.drop (b+1))).map fun x=>((strA l)[b] :: x.1,x.2+1):=by
  rw [quoteL.eq_def]
  dsimp only
  have n1:¬ (strA l)[b].toNat=34:=fun e=>hc (UInt8.toNat_inj.1 e)
  have n2:¬ (strA l)[b].toNat=92:=fun e=>hc2 (UInt8.toNat_inj.1 e)
  rw [if_neg n1,if_neg n2]
 rw [e]
 unfold qAdd
 cases quoteL (l.drop (b+1)) with
 | none=>rfl
 | some x=>simp;omega
theorem extract_oneQ {l:List UInt8} {b:Nat} (h:b < (strA l).size):(strA l).extract b (b+1)=strA [(strA l)[b]]:=by
 rw [extract_subS,drop_at h,show b+1 - b=1 by omega]
 rfl
def QuoteQ (r:Option (List UInt8×Nat)) (tb:Nat) (l:List UInt8) (a:Nat) (d:Int) (w:World) (e:Ending) (w':World):Prop:=
 e=.returned (.tuple #[])∧Mod tb w w'∧
 match r with
 | some x=>QT w' tb l (a+(1+x.2):Nat) 0 d 34 x.1 0 a
 | none=>TBad w' tb l ⟨2,a⟩
theorem QuoteQ.ok {r:Option (List UInt8×Nat)} {tb:Nat} {l:List UInt8} {a:Nat} {d:Int} {w w':World} {x:List UInt8×Nat} (h:r=some x) (hm:Mod tb w w') (hq:QT w' tb l (a+(1+x.2):Nat) 0 d 34 x.1 0 a):QuoteQ r tb l a d w (.returned (.tuple #[])) w':=by
 subst h;exact ⟨rfl,hm,hq⟩
theorem QuoteQ.bad {r:Option (List UInt8×Nat)} {tb:Nat} {l:List UInt8} {a:Nat} {d:Int} {w w':World} (h:r=none) (hm:Mod tb w w') (hq:TBad w' tb l ⟨2,a⟩):QuoteQ r tb l a d w (.returned (.tuple #[])) w':=by
 subst h;exact ⟨rfl,hm,hq⟩
theorem qquoted_any (tb:Nat) (l:List UInt8) (a:Nat) (d k:Int) (s:List UInt8) (n p:Int) (w:World) (h:QT w tb l a 0 d k s n p) (hl:l.length≤600) (ha:a < l.length) :
 Calls Tryz.prog 113 #[.pointer (some ⟨tb,0,none⟩)] w (QuoteQ (quoteL (l.drop (a+1))) tb l a d w):=by
 have H:=hide h
 have hz:=strA_size l
 have c1:w.cell? ⟨tb,1,none⟩=some (.int .i64 a):=blk_cell h 1
 have hfz:=fun o=>blk_frozen h o
 clear h
 go_enter Tryz.func113,Tryz.ntmps113
 go_wp2
 go_loopw [3] (fun v wr=>∃ (b m:Nat) (acc:List UInt8),a+1≤b∧b≤l.length∧m=b - (a+1)∧acc.length≤b∧v=.string (strA acc)∧QT wr tb l b 0 d k s n p∧Mod tb w wr∧quoteL (l.drop (a+1))=qAdd acc m (quoteL (l.drop b))) (fun _ wr=>l.length - atW wr tb)
 case atStart=>exact ⟨a+1,0,[],Nat.le_refl _,ha,by omega,by simp,rfl,H.out.at_ _,(Mod.refl _ _).setCell _ _,by cases quoteL (l.drop (a+1)) <;> rfl⟩
 case round=>
  obtain ⟨b,m,acc,hab,hb,hmb,hal,rfl,hq,hm,hs⟩:=hrel
  have HQ:=hide hq
  have HM:=hide hm
  have HS:=hide hs
  clear c1 hfz
  have c0:wr.cell? ⟨tb,0,none⟩=some (.string (strA l)):=blk_cell hq 0
  have c1:wr.cell? ⟨tb,1,none⟩=some (.int .i64 b):=blk_cell hq 1
  have c4:wr.cell? ⟨tb,4,none⟩=some (.int .u8 k):=blk_cell hq 4
  have c5:wr.cell? ⟨tb,5,none⟩=some (.string (strA s)):=blk_cell hq 5
  have c6:wr.cell? ⟨tb,6,none⟩=some (.int .i64 n):=blk_cell hq 6
  have c7:wr.cell? ⟨tb,7,none⟩=some (.int .i64 p):=blk_cell hq 7
  have hfz:=fun o=>blk_frozen hq o
  clear hq hm hs H
  have hza:=strA_size acc
  have HMB:=hide hmb
  clear hmb
  by_cases hlt:b < (strA l).size
  rotate_left
  ·obtain rfl:b=l.length:=by omega
   have HF:=hide (fun n'=>qfail_any tb l l.length d k s n p ⟨2,a⟩ (wr.drewN n') HQ.out hl (Nat.succ_ne_zero 1))
   have HN:Hid (quoteL (l.drop (a+1))=none):=by show _=_;rw [HS.out,quote_end (Nat.le_refl _)];rfl
   go_wp2_with fail
   go_quiet (fail)
   go_wp2_with fail
   go_quiet (fail)
   go_wp2_with (go_at_call 70;refine (HF.out _).mono ?_;rintro e w' ⟨rfl,hm',hbad⟩)
   go_end0
   exact QuoteQ.bad HN.out (HM.out.trans (mod_drewN hm')) hbad
  have hlt':(b:Int) < (l.length:Int):=by omega
  have h0b:(0:Int)≤(b:Int):=by omega
  by_cases h34:(strA l)[b]=34
  ·have HN:Hid (quoteL (l.drop (a+1))=some (acc,1+m)):=by show _=_;rw [HS.out,quote_close hlt h34];simp [qAdd]
   have g34:(((strA l)[b].toNat:Int) != 34)=false:=by rw [h34];rfl
   have gge:decide ((l.length:Int)≤(b:Int))=false:=decide_eq_false (by omega)
   clear h34
   go_wp2_with fail
   go_quiet (fail)
   go_wp2_with fail
   go_quiet (fail)
   have he:((a+(1+(1+m)):Nat):Int)=(b:Int)+1:=by have:=HMB.out;omega
   have HE:=hide he
   clear he
   go_wp2
   go_end0
   refine QuoteQ.ok HN.out ((((((HM.out.drewN).setCell _ _).setCell _ _).setCell _ _).setCell _ _).setCell _ _) ?_
   show QT _ tb l ((a+(1+(1+m)):Nat):Int) 0 d 34 acc 0 a
   rw [HE.out]
   exact heap_setCell_at _ _ _ _ _ _ (heap_setCell_at _ _ _ _ _ _ (heap_setCell_at _ _ _ _ _ _ (heap_setCell_at _ _ _ _ _ _ (heap_setCell_at _ _ _ _ _ _ HQ.out))))
  have g34:(((strA l)[b].toNat:Int) != 34)=true:=by
   have h:¬ (strA l)[b].toNat=34:=fun h=>h34 (UInt8.toNat_inj.1 h)
   simp;omega
  have hal2:acc.length≤600:=by omega
  by_cases h92:(strA l)[b]=92
  rotate_left
  ·have g92:(((strA l)[b].toNat:Int) == 92)=false:=by
    have h:¬ (strA l)[b].toNat=92:=fun h=>h92 (UInt8.toNat_inj.1 h)
    simp;omega
   have HN:=hide (HS.out.trans (quote_step (acc:=acc) (m:=m) hlt h34 h92))
   have hex:=extract_oneQ hlt
   have hz1:(strA [(strA l)[b]]).size=1:=rfl
   have HAC:=hide (strA_app acc [(strA l)[b]])
   have hb1:(b:Int)≤(b:Int)+1:=by omega
   have hb2:(b:Int)+1≤(l.length:Int):=by omega
   have HQ4:=hide (HQ.out.at_ ((b:Int)+1))
   clear h34 h92
   go_wp2_with fail
   go_quiet (fail)
   go_wp2_with fail
   go_quiet (fail)
   go_wp2_with fail
   go_quiet (fail)
   go_wp2
   rw [HAC.out]
   go_roundw
   case rel=>exact ⟨b+1,m+1,acc++[(strA l)[b]],by omega,by omega,by have:=HMB.out;omega,by simp;omega,rfl,HQ4.out,(HM.out.drewN).setCell _ _,HN.out⟩
   case measure=>exact at_less (b:=b+1) HQ.out HQ4.out (by omega) (by omega)
  have g92:(((strA l)[b].toNat:Int) == 92)=true:=by rw [h92];rfl
  have HQ4:=hide (HQ.out.at_ ((b:Int)+1))
  by_cases hend:b+1=l.length
  ·have HN:Hid (quoteL (l.drop (a+1))=none):=by show _=_;rw [HS.out,quote_back_end hlt h92 hend];rfl
   have he:(b:Int)+1=(l.length:Int):=by omega
   clear h34 h92
   go_wp2_with fail
   go_quiet (fail)
   go_wp2_with fail
   go_quiet (fail)
   go_wp2_with fail
   generalize hW:(wr.drewN _).setCell _ _=W1
   have hq1:QT W1 tb l l.length 0 d k s n p:=by rw [← hW,← he];exact HQ4.out
   have HM1:Hid (Mod tb w W1):=by rw [← hW];exact (HM.out.drewN).setCell _ _
   clear hW c0 c1 c4 c5 c6 c7 hfz
   have c0:W1.cell? ⟨tb,0,none⟩=some (.string (strA l)):=blk_cell hq1 0
   have c1:W1.cell? ⟨tb,1,none⟩=some (.int .i64 l.length):=blk_cell hq1 1
   have HF:=hide (fun n'=>qfail_any tb l l.length d k s n p ⟨2,a⟩ (W1.drewN n') hq1 hl (Nat.succ_ne_zero 1))
   clear hq1
   go_quiet (fail)
   go_wp2_with fail
   go_quiet (fail)
   go_wp2_with (go_at_call 70;refine (HF.out _).mono ?_;rintro e w' ⟨rfl,hm',hbad⟩)
   go_end0
   exact QuoteQ.bad HN.out (HM1.out.trans (mod_drewN hm')) hbad
  ·obtain ⟨b1,hb1⟩:∃ b1,b1=b+1:=⟨_,rfl⟩
   have hlt1:b1 < (strA l).size:=by omega
   have HN:Hid (quoteL (l.drop (a+1))=qAdd (acc++[(strA l)[b1]]) (m+2) (quoteL (l.drop (b1+1)))):=by
    show _=_
    subst hb1
    exact HS.out.trans (quote_back (acc:=acc) (m:=m) hlt h92 hlt1)
   have hex:=extract_oneQ hlt1
   have hz1:(strA [(strA l)[b1]]).size=1:=rfl
   have HAC:=hide (strA_app acc [(strA l)[b1]])
   have HEX:=hide hex
   have HB1:=hide hb1
   clear h34 h92 hex
   go_wp2_with fail
   go_quiet (fail)
   go_wp2_with fail
   go_quiet (fail)
   go_wp2_with fail
   generalize hW:(wr.drewN _).setCell _ _=W1
   have hq1:QT W1 tb l b1 0 d k s n p:=by rw [← hW,hb1];exact HQ4.out
   have HM1:Hid (Mod tb w W1):=by rw [← hW];exact (HM.out.drewN).setCell _ _
   clear hW c0 c1 c4 c5 c6 c7 hfz
   have hlt2:(b1:Int) < (l.length:Int):=by omega
   have hlt3:(b1:Int)≤(b1:Int)+1:=by omega
   have hlt4:(b1:Int)+1≤(l.length:Int):=by omega
   have h0:(0:Int)≤(b1:Int):=by omega
   have hex:=HEX.out
   have gne1:((b1:Int) == (l.length:Int))=false:=by simp;omega
   have c0:W1.cell? ⟨tb,0,none⟩=some (.string (strA l)):=blk_cell hq1 0
   have c1:W1.cell? ⟨tb,1,none⟩=some (.int .i64 b1):=blk_cell hq1 1
   have hfz:=fun o=>blk_frozen hq1 o
   have HQ5:=hide (hq1.at_ ((b1:Int)+1))
   clear hq1 hb1 hend
   go_quiet (fail)
   go_wp2_with fail
   go_quiet (fail)
   go_wp2
   rw [HAC.out]
   go_roundw
   case rel=>exact ⟨b1+1,m+2,acc++[(strA l)[b1]],by have:=HB1.out;omega,by omega,by have:=HMB.out;have:=HB1.out;omega,by have:=HB1.out;simp;omega,rfl,HQ5.out,(HM1.out.drewN).setCell _ _,HN.out⟩
   case measure=>exact at_less (b:=b1+1) HQ.out HQ5.out (by have:=HB1.out;omega) (by omega)
end
end Go.Proofs.YtgnkjijocdmniaaGreatDoor
