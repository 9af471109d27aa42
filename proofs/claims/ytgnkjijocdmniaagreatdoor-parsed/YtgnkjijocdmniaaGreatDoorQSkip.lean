import Derived.Test.YtgnkjijocdmniaaGreatDoorQText
namespace Go.Proofs.YtgnkjijocdmniaaGreatDoor
set_option linter.unusedVariables false
set_option linter.unusedSimpArgs false
set_option maxRecDepth 100000
set_option maxHeartbeats 4000000
open Go.RowKit
attribute [local go_sem ↓] Go.wp_at_zero Go.wp_at_succ
def atW (w:World) (tb:Nat):Nat:=
 match w.heap[tb]? with
 | some (.cells cs _ _)=>(intOf (cs.getD 1 undef)).toNat
 | _=>0
theorem QT.atW {w:World} {tb:Nat} {l:List UInt8} {a:Nat} {e d k:Int} {s:List UInt8} {n p:Int} (h:QT w tb l a e d k s n p):atW w tb=a:=by
 unfold Go.Proofs.YtgnkjijocdmniaaGreatDoor.atW
 rw [h]
 simp [qtCells,intOf]
theorem Mod.drewN {b:Nat} {u w:World} {n:Nat} (h:Mod b u w):Mod b u (w.drewN n):=⟨h.os,h.tape,h.output,h.size,h.block⟩
theorem at_less {w1 w2:World} {tb:Nat} {l:List UInt8} {a b:Nat} {e1 d1 k1:Int} {s1:List UInt8} {n1 p1 e2 d2 k2:Int} {s2:List UInt8} {n2 p2:Int} (h1:QT w1 tb l a e1 d1 k1 s1 n1 p1) (h2:QT w2 tb l b e2 d2 k2 s2 n2 p2) (hab:a < b) (hb:b≤l.length):l.length - atW w2 tb < l.length - atW w1 tb:=by
 rw [h1.atW,h2.atW];omega
theorem mod_drewN {b:Nat} {u w:World} {n:Nat} (h:Mod b (u.drewN n) w):Mod b u w:=⟨h.os,h.tape,h.output,h.size,h.block⟩
def SkipQ (r:Except Flt Nat) (tb:Nat) (l:List UInt8) (d k:Int) (s:List UInt8) (n p:Int) (w:World) (e:Ending) (w':World):Prop:=
 e=.returned (.tuple #[])∧Mod tb w w'∧
 match r with
 | .ok m=>QT w' tb l m 0 d k s n p∧m≤l.length
 | .error f=>TBad w' tb l f
theorem SkipQ.ok {r:Except Flt Nat} {tb:Nat} {l:List UInt8} {d k:Int} {s:List UInt8} {n p:Int} {w w':World} {m:Nat} (h:r=.ok m) (hm:Mod tb w w') (hq:QT w' tb l m 0 d k s n p) (hl:m≤l.length):SkipQ r tb l d k s n p w (.returned (.tuple #[])) w':=by
 subst h;exact ⟨rfl,hm,hq,hl⟩
theorem SkipQ.err {r:Except Flt Nat} {tb:Nat} {l:List UInt8} {d k:Int} {s:List UInt8} {n p:Int} {w w':World} {f:Flt} (h:r=.error f) (hm:Mod tb w w') (hq:TBad w' tb l f):SkipQ r tb l d k s n p w (.returned (.tuple #[])) w':=by
 subst h;exact ⟨rfl,hm,hq⟩
theorem SkipQ.cases {r:Except Flt Nat} {tb:Nat} {l:List UInt8} {d k:Int} {s:List UInt8} {n p:Int} {w w':World} {e:Ending} (h:SkipQ r tb l d k s n p w e w'):e=.returned (.tuple #[])∧Mod tb w w'∧((∃ m,r=.ok m∧QT w' tb l m 0 d k s n p∧m≤l.length)∨∃ f,r=.error f∧TBad w' tb l f):=by
 obtain ⟨h1,h2,h3⟩:=h
 refine ⟨h1,h2,?_⟩
 cases r with
 | ok m=>exact Or.inl ⟨m,rfl,h3⟩
 | error f=>exact Or.inr ⟨f,rfl,h3⟩
theorem drop_at {l:List UInt8} {a:Nat} (h:a < (strA l).size):l.drop a=(strA l)[a] :: l.drop (a+1):=by
 have h':a < l.length:=h
 rw [List.drop_eq_getElem_cons h']
 congr 1
theorem qskip_any (tb:Nat) (l:List UInt8) (a:Nat) (d k:Int) (s:List UInt8) (n p:Int) (w:World) (h:QT w tb l a 0 d k s n p) (hl:l.length≤600) (ha:a≤l.length) :
 Calls Tryz.prog 108 #[.pointer (some ⟨tb,0,none⟩)] w (SkipQ (skipS (l.drop a) a) tb l d k s n p w):=by
 have H:=hide h
 have hz:=strA_size l
 clear h
 go_enter Tryz.func108,Tryz.ntmps108
 go_wp2
 go_loopw [2,3,4] (fun _ _ _ wr=>∃ b:Nat,b≤l.length∧QT wr tb l b 0 d k s n p∧Mod tb w wr∧skipS (l.drop a) a=skipS (l.drop b) b) (fun _ _ _ wr=>l.length - atW wr tb)
 case atStart=>exact ⟨a,ha,H.out,Mod.refl _ _,rfl⟩
 case round=>
  obtain ⟨b,hb,hq,hm,hs⟩:=hrel
  have HQ:=hide hq
  have HM:=hide hm
  have HS:=hide hs
  have c0:wr.cell? ⟨tb,0,none⟩=some (.string (strA l)):=blk_cell hq 0
  have c1:wr.cell? ⟨tb,1,none⟩=some (.int .i64 b):=blk_cell hq 1
  have hfz:=fun o=>blk_frozen hq o
  clear hq hm hs H
  by_cases hlt:b < (strA l).size
  rotate_left
  ·have hlt':¬ (b:Int) < (l.length:Int):=by omega
   go_wp2_with fail
   go_quiet (fail)
   go_wp2
   go_end0
   exact SkipQ.ok (HS.out.trans (by rw [List.drop_of_length_le (by omega)];rfl)) HM.out.drewN HQ.out hb
  have hlt':(b:Int) < (l.length:Int):=by omega
  have HD:=hide (drop_at hlt)
  have h0b:(0:Int)≤(b:Int):=by omega
  go_wp2_with fail
  go_quiet (fail)
  go_wp2_with fail
  go_quiet (fail)
  cases hbl:isBlankN ((strA l)[b].toNat:Int)
  rotate_left
  ·have HSB:Hid (skipS (l.drop a) a=skipS (l.drop (b+1)) (b+1)):=by
    show _=_
    rw [HS.out,HD.out,skipS_blank _ _ hbl]
   have HQ2:=hide (HQ.out.at_ ((b:Int)+1))
   go_wp2_with (go_at_call 118;refine (qblank_any _ _).mono ?_;rintro e w' ⟨rfl,rfl⟩)
   go_roundw
   case rel=>exact ⟨b+1,by omega,HQ2.out,(HM.out.drewN).setCell _ _,HSB.out⟩
   case measure=>
    exact at_less (b:=b+1) HQ.out HQ2.out (by omega) (by omega)
  by_cases h35:(strA l)[b]=35
  ·have HSL:Hid (skipS (l.drop a) a=inLine (l.drop b) b):=by
    show _=_
    rw [HS.out,HD.out,skipS_inLine _ _ (by rw [h35];rfl)]
   have H35:=hide h35
   go_wp2_with (go_at_call 118;refine (qblank_any _ _).mono ?_;rintro e w' ⟨rfl,rfl⟩)
   clear h35
   generalize hW:wr.drewN _=W
   have HQW:Hid (QT W tb l b 0 d k s n p):=by rw [← hW];exact HQ.out
   have HMW:Hid (Mod tb w W):=by rw [← hW];exact HM.out.drewN
   clear hW c0 c1 hfz hlt'
   go_loopw [] (fun wr2=>∃ b2:Nat,b≤b2∧b2≤l.length∧QT wr2 tb l b2 0 d k s n p∧Mod tb w wr2∧skipS (l.drop a) a=inLine (l.drop b2) b2) (fun wr2=>l.length - atW wr2 tb)
   case atStart=>exact ⟨b,Nat.le_refl _,hb,HQW.out,HMW.out,HSL.out⟩
   case round=>
    obtain ⟨b2,hbb,hb2,hq2,hm2,hs2⟩:=hrel
    have HQ2:=hide hq2
    have HM2:=hide hm2
    have HS2:=hide hs2
    have c0:wr.cell? ⟨tb,0,none⟩=some (.string (strA l)):=blk_cell hq2 0
    have c1:wr.cell? ⟨tb,1,none⟩=some (.int .i64 b2):=blk_cell hq2 1
    have hfz:=fun o=>blk_frozen hq2 o
    clear hq2 hm2 hs2
    by_cases hlt2:b2 < (strA l).size
    ·have hlt2':(b2:Int) < (l.length:Int):=by omega
     have h0b2:(0:Int)≤(b2:Int):=by omega
     have HD2:=hide (drop_at hlt2)
     by_cases h10:(strA l)[b2]=10
     ·have HSX:Hid (skipS (l.drop a) a=skipS (l.drop b2) b2):=by
       show _=_
       rw [HS2.out,HD2.out,inLine,if_pos h10]
      have hbn:b < b2:=by
       rcases Nat.lt_or_eq_of_le hbb with h | h
       ·exact h
       ·subst h;rw [H35.out] at h10;cases h10
      go_wp2_with fail
      go_quiet (fail)
      go_wp2
      go_roundw
      case rel=>exact ⟨b2,hb2,HQ2.out,HM2.out.drewN,HSX.out⟩
      case measure=>exact at_less HQ.out HQ2.out hbn hb2
     ·have HSX:Hid (skipS (l.drop a) a=inLine (l.drop (b2+1)) (b2+1)):=by
       show _=_
       rw [HS2.out,HD2.out,inLine,if_neg h10]
      have h10':(((strA l)[b2].toNat:Int) != 10)=true:=by
       have h:¬ (strA l)[b2].toNat=10:=fun h=>h10 (UInt8.toNat_inj.1 h)
       simp;omega
      have HQ3:=hide (HQ2.out.at_ ((b2:Int)+1))
      go_wp2_with fail
      go_quiet (fail)
      go_wp2
      go_roundw
      case rel=>exact ⟨b2+1,by omega,by omega,HQ3.out,(HM2.out.drewN).setCell _ _,HSX.out⟩
      case measure=>exact at_less (b:=b2+1) HQ2.out HQ3.out (by omega) (by omega)
    ·have hlt2':¬ (b2:Int) < (l.length:Int):=by omega
     have hltd:decide ((b2:Int) < (l.length:Int))=false:=decide_eq_false hlt2'
     have HSX:Hid (skipS (l.drop a) a=skipS (l.drop b2) b2):=by
      show _=_
      rw [HS2.out,List.drop_of_length_le (by omega)]
      rfl
     have HB2:Hid (b < b2):=by show b < b2;omega
     obtain rfl:b2=l.length:=by omega
     clear hlt2 hlt2' hltd
     go_wp2_with fail
     go_quiet (fail)
     go_wp2
     go_roundw
     case rel=>exact ⟨l.length,hb2,HQ2.out,HM2.out.drewN,HSX.out⟩
     case measure=>exact at_less HQ.out HQ2.out HB2.out hb2
  by_cases h47:(strA l)[b]=47
  rotate_left
  ·have HSX:Hid (skipS (l.drop a) a=.ok b):=by
    show _=_
    rw [HS.out,HD.out]
    exact skipS_other _ _ hbl h35 (fun h=>h47 h.1)
   have g35:(((strA l)[b].toNat:Int) == 35)=false:=by
    have h:¬ (strA l)[b].toNat=35:=fun h=>h35 (UInt8.toNat_inj.1 h)
    simp;omega
   have g47:(((strA l)[b].toNat:Int) == 47)=false:=by
    have h:¬ (strA l)[b].toNat=47:=fun h=>h47 (UInt8.toNat_inj.1 h)
    simp;omega
   clear h35 h47
   go_wp2_with (first | (go_at_call 118;refine (qblank_any _ _).mono ?_;rintro e w' ⟨rfl,rfl⟩) | fail)
   go_quiet (fail)
   go_wp2
   go_end0
   exact SkipQ.ok HSX.out HM.out.drewN.drewN HQ.out hb
  have g35:(((strA l)[b].toNat:Int) == 35)=false:=by rw [h47];rfl
  have H47:=hide h47
  have HBL:=hide hbl
  by_cases hend:b+1=l.length
  ·have HSX:Hid (skipS (l.drop a) a=.ok b):=by
    show _=_
    rw [HS.out,HD.out]
    refine skipS_other _ _ hbl h35 (fun h=>?_)
    rw [List.drop_of_length_le (by omega)] at h
    cases h.2
   have hend':(b:Int)+1=(l.length:Int):=by omega
   clear h35 hend
   go_wp2_with (first | (go_at_call 118;refine (qblank_any _ _).mono ?_;rintro e w' ⟨rfl,rfl⟩) | fail)
   go_quiet (fail)
   go_wp2
   go_end0
   exact SkipQ.ok HSX.out HM.out.drewN.drewN HQ.out hb
  have hlt1:b+1 < (strA l).size:=by omega
  have hlt1':(b:Int)+1 < (l.length:Int):=by omega
  have h0b1:(0:Int)≤(b:Int)+1:=by omega
  have HD1:=hide (drop_at hlt1)
  by_cases h42:(strA l)[b+1]=42
  rotate_left
  ·have HSX:Hid (skipS (l.drop a) a=.ok b):=by
    show _=_
    rw [HS.out,HD.out]
    refine skipS_other _ _ hbl h35 (fun h=>?_)
    rw [HD1.out] at h
    exact h42 (Option.some.inj h.2)
   have g42:(((strA l)[b+1].toNat:Int) == 42)=false:=by
    have h:¬ (strA l)[b+1].toNat=42:=fun h=>h42 (UInt8.toNat_inj.1 h)
    simp;omega
   clear h35 h42
   go_wp2_with (first | (go_at_call 118;refine (qblank_any _ _).mono ?_;rintro e w' ⟨rfl,rfl⟩) | fail)
   go_quiet (fail)
   go_wp2
   go_end0
   exact SkipQ.ok HSX.out HM.out.drewN.drewN HQ.out hb
  have HSR:Hid (skipS (l.drop a) a=inRem b (l.drop (b+1+1)) (b+2)):=by
   show _=_
   rw [HS.out,HD.out,HD1.out,h47,h42,skipS_inRem]
  have g42:(((strA l)[b+1].toNat:Int) == 42)=true:=by rw [h42];rfl
  clear h35 h42
  go_wp2_with (first | (go_at_call 118;refine (qblank_any _ _).mono ?_;rintro e w' ⟨rfl,rfl⟩) | fail)
  go_quiet (fail)
  go_wp2
  have HQ1:=hide (HQ.out.at_ ((b:Int)+2))
  generalize hW:(wr.drewN _).setCell _ _=W
  have HQW:Hid (QT W tb l (b+2:Nat) 0 d k s n p):=by rw [← hW];exact HQ1.out
  have HMW:Hid (Mod tb w W):=by rw [← hW];exact (HM.out.drewN).setCell _ _
  clear hW c0 c1 hfz g35 g42
  go_loopw [] (fun wr2=>∃ b2:Nat,b+2≤b2∧b2≤l.length∧QT wr2 tb l b2 0 d k s n p∧Mod tb w wr2∧skipS (l.drop a) a=inRem b (l.drop b2) b2) (fun wr2=>l.length - atW wr2 tb)
  case atStart=>exact ⟨b+2,Nat.le_refl _,by omega,HQW.out,HMW.out,HSR.out⟩
  case round=>
   obtain ⟨b2,hbb,hb2,hq2,hm2,hs2⟩:=hrel
   have HQ2:=hide hq2
   have HM2:=hide hm2
   have HS2:=hide hs2
   have c0:wr.cell? ⟨tb,0,none⟩=some (.string (strA l)):=blk_cell hq2 0
   have c1:wr.cell? ⟨tb,1,none⟩=some (.int .i64 b2):=blk_cell hq2 1
   have c2:wr.cell? ⟨tb,2,none⟩=some (.int .i64 0):=blk_cell hq2 2
   have hfz:=fun o=>blk_frozen hq2 o
   clear hq2 hm2 hs2
   by_cases hlt2:b2+1 < (strA l).size
   ·have hlt2':(b2:Int)+1 < (l.length:Int):=by omega
    have hlt3:b2 < (strA l).size:=by omega
    have hlt3':(b2:Int) < (l.length:Int):=by omega
    have h0b2:(0:Int)≤(b2:Int):=by omega
    have h0b3:(0:Int)≤(b2:Int)+1:=by omega
    have HD2:=hide (drop_at hlt3)
    have HD3:=hide (drop_at hlt2)
    by_cases h42:(strA l)[b2]=42
    rotate_left
    ·have HSX:Hid (skipS (l.drop a) a=inRem b (l.drop (b2+1)) (b2+1)):=by
      show _=_
      rw [HS2.out,HD2.out,HD3.out,inRem,if_neg (fun h=>h42 h.1)]
     have g1:(((strA l)[b2].toNat:Int) != 42)=true:=by
      have h:¬ (strA l)[b2].toNat=42:=fun h=>h42 (UInt8.toNat_inj.1 h)
      simp;omega
     have HQ3:=hide (HQ2.out.at_ ((b2:Int)+1))
     clear h42
     go_wp2_with fail
     go_quiet (fail)
     go_wp2
     go_roundw
     case rel=>exact ⟨b2+1,by omega,by omega,HQ3.out,(HM2.out.drewN).setCell _ _,HSX.out⟩
     case measure=>exact at_less (b:=b2+1) HQ2.out HQ3.out (by omega) (by omega)
    have g1:(((strA l)[b2].toNat:Int) != 42)=false:=by rw [h42];rfl
    by_cases h47':(strA l)[b2+1]=47
    rotate_left
    ·have HSX:Hid (skipS (l.drop a) a=inRem b (l.drop (b2+1)) (b2+1)):=by
      show _=_
      rw [HS2.out,HD2.out,HD3.out,inRem,if_neg (fun h=>h47' h.2)]
     have g2:(((strA l)[b2+1].toNat:Int) != 47)=true:=by
      have h:¬ (strA l)[b2+1].toNat=47:=fun h=>h47' (UInt8.toNat_inj.1 h)
      simp;omega
     have HQ3:=hide (HQ2.out.at_ ((b2:Int)+1))
     clear h42 h47'
     go_wp2_with fail
     go_quiet (fail)
     go_wp2
     go_roundw
     case rel=>exact ⟨b2+1,by omega,by omega,HQ3.out,(HM2.out.drewN).setCell _ _,HSX.out⟩
     case measure=>exact at_less (b:=b2+1) HQ2.out HQ3.out (by omega) (by omega)
    have g2:(((strA l)[b2+1].toNat:Int) != 47)=false:=by rw [h47'];rfl
    have HSX:Hid (skipS (l.drop a) a=skipS (l.drop (b2+1+1)) (b2+1+1)):=by
     show _=_
     rw [HS2.out,HD2.out,HD3.out,inRem,if_pos ⟨h42,h47'⟩]
    have HQ3:=hide (HQ2.out.at_ ((b2:Int)+2))
    have g3:decide ((l.length:Int)≤(b2:Int)+1)=false:=decide_eq_false (by omega)
    clear h42 h47'
    go_wp2_with fail
    go_quiet (fail)
    go_wp2_with fail
    go_quiet (fail)
    go_wp2
    go_roundw
    case rel=>exact ⟨b2+1+1,by omega,HQ3.out,(HM2.out.drewN).setCell _ _,HSX.out⟩
    case measure=>exact at_less (b:=b2+1+1) HQ.out HQ3.out (by omega) (by omega)
   ·have HSX:Hid (skipS (l.drop a) a=.error ⟨2,b⟩):=by
     show _=_
     rw [HS2.out]
     rcases Nat.lt_or_ge b2 l.length with h | h
     ·rw [drop_at (a:=b2) (by omega),List.drop_of_length_le (by omega)]
      rfl
     ·rw [List.drop_of_length_le (by omega)]
      rfl
    have HF:=hide (fun n'=>qfail_any tb l b2 d k s n p ⟨2,b⟩ (wr.drewN n') HQ2.out hl (Nat.succ_ne_zero 1))
    rcases Nat.lt_or_ge b2 l.length with hbl2 | hbl2
    ·have he:(b2:Int)+1=(l.length:Int):=by omega
     clear hlt2 hbl2
     go_wp2_with fail
     go_quiet (fail)
     go_wp2_with fail
     go_quiet (fail)
     go_wp2_with (go_at_call 70;refine (HF.out _).mono ?_;rintro e w' ⟨rfl,hm',hbad⟩)
     go_end0
     exact SkipQ.err HSX.out (HM2.out.trans (mod_drewN hm')) hbad
    ·obtain rfl:b2=l.length:=by omega
     have he:decide ((l.length:Int)+1 < (l.length:Int))=false:=decide_eq_false (by omega)
     have he2:decide ((l.length:Int)≤(l.length:Int)+1)=true:=decide_eq_true (by omega)
     clear hlt2 hbl2
     go_wp2_with fail
     go_quiet (fail)
     go_wp2_with fail
     go_quiet (fail)
     go_wp2_with (go_at_call 70;refine (HF.out _).mono ?_;rintro e w' ⟨rfl,hm',hbad⟩)
     go_end0
     exact SkipQ.err HSX.out (HM2.out.trans (mod_drewN hm')) hbad
end Go.Proofs.YtgnkjijocdmniaaGreatDoor
