import Derived.Deep.DeepCutAuto
import Derived.Deep.CutBlock
import Derived.Test.YtgnkjijocdmniaaGreatDoorZQQuoted
namespace Go.Proofs.YtgnkjijocdmniaaGreatDoor
set_option linter.unusedVariables false
set_option linter.unusedSimpArgs false
set_option maxRecDepth 100000
set_option maxHeartbeats 4000000
open Go.RowKit
attribute [local go_sem ↓] Go.wp_at_zero Go.wp_at_succ
structure NumI (l:List UInt8) (a b v:Nat):Prop where
 le:a≤b
 val:numVal (l.drop a)=((l.drop b).takeWhile fun c=>isDigitN c.toNat).foldl numStep v
 len:a+digLen (l.drop a)=b+digLen (l.drop b)
 bd:v≤2147483648
theorem NumI.init (l:List UInt8) (a:Nat):NumI l a a 0:=⟨Nat.le_refl _,rfl,rfl,by omega⟩
theorem NumI.step {l:List UInt8} {a b v:Nat} (h:NumI l a b v) (hlt:b < (strA l).size) (hd:isDigitN ((strA l)[b].toNat:Int)=true):NumI l a (b+1) (numStep v (strA l)[b]):=by
 obtain ⟨h1,h2,h3,h4⟩:=h
 have e:(l.drop b).takeWhile (fun c=>isDigitN c.toNat)=(strA l)[b] :: (l.drop (b+1)).takeWhile fun c=>isDigitN c.toNat:=by
  rw [drop_at hlt]
  exact List.takeWhile_cons_of_pos hd
 refine ⟨by omega,?_,?_,by unfold numStep;omega⟩
 ·rw [h2,e];rfl
 ·rw [h3]
  unfold digLen
  rw [e,List.length_cons]
  omega
theorem NumI.done {l:List UInt8} {a b v:Nat} (h:NumI l a b v) (hd:b=l.length∨∃ hlt:b < (strA l).size,isDigitN ((strA l)[b].toNat:Int)=false):numVal (l.drop a)=v∧a+digLen (l.drop a)=b:=by
 obtain ⟨h1,h2,h3,h4⟩:=h
 have e:(l.drop b).takeWhile (fun c=>isDigitN c.toNat)=[]:=by
  rcases hd with rfl | ⟨hlt,hd⟩
  ·rw [List.drop_length];rfl
  ·rw [drop_at hlt]
   exact List.takeWhile_cons_of_neg (by rw [hd];decide)
 constructor
 ·rw [h2,e];rfl
 ·rw [h3]
  unfold digLen
  rw [e]
  rfl
theorem getD_drop (l:List UInt8) (a b:Nat) (hab:a≤b):(l.drop a).getD (b - a) 0=l.getD b 0:=by
 rw [List.getD_eq_getElem?_getD,List.getD_eq_getElem?_getD,List.getElem?_drop]
 congr 2
 omega
theorem getD_strA {l:List UInt8} {b:Nat} (h:b < (strA l).size):l.getD b 0=(strA l)[b]:=by
 have h':b < l.length:=h
 rw [List.getD_eq_getElem?_getD,List.getElem?_eq_getElem h']
 simp [strA,ByteArray.getElem_eq_getElem_data]
def NumT (l:List UInt8) (a b v:Nat):Prop:=scanNumL (l.drop a) a=if letdig (l.getD b 0) then .error ⟨2,a⟩ else if 2147483647 < v then .error ⟨3,a⟩ else .ok (⟨4,a,[],[],v⟩,b)
theorem num_tail {l:List UInt8} {a b v:Nat} (hab:a≤b) (h1:numVal (l.drop a)=v) (h2:a+digLen (l.drop a)=b) {b' v':Nat} (hb:b'=if isM (l.getD b 0) || isK (l.getD b 0) then b+1 else b) (hv:v'=if isM (l.getD b 0) then v*1048576 else if isK (l.getD b 0) then v*1024 else v):NumT l a b' v':=by
 have e:digLen (l.drop a)=b - a:=by omega
 have eg:=getD_drop l a b hab
 have e0:scanNumL (l.drop a) a=if letdig ((l.drop a).getD (if isM (l.getD b 0) || isK (l.getD b 0) then b - a+1 else b - a) 0) then .error ⟨2,a⟩ else if 2147483647 < v' then .error ⟨3,a⟩ else .ok (⟨4,a,[],[],v'⟩,a+(if isM (l.getD b 0) || isK (l.getD b 0) then b - a+1 else b - a)):=by
  have e0':scanNumL (l.drop a) a=if letdig ((l.drop a).getD (if isM ((l.drop a).getD (digLen (l.drop a)) 0) || isK ((l.drop a).getD (digLen (l.drop a)) 0) then digLen (l.drop a)+1 else digLen (l.drop a)) 0) then .error ⟨2,a⟩ else if 2147483647 < (if isM ((l.drop a).getD (digLen (l.drop a)) 0) then numVal (l.drop a)*1048576 else if isK ((l.drop a).getD (digLen (l.drop a)) 0) then numVal (l.drop a)*1024 else numVal (l.drop a)) then .error ⟨3,a⟩ else .ok (⟨4,a,[],[],(if isM ((l.drop a).getD (digLen (l.drop a)) 0) then numVal (l.drop a)*1048576 else if isK ((l.drop a).getD (digLen (l.drop a)) 0) then numVal (l.drop a)*1024 else numVal (l.drop a))⟩,a+(if isM ((l.drop a).getD (digLen (l.drop a)) 0) || isK ((l.drop a).getD (digLen (l.drop a)) 0) then digLen (l.drop a)+1 else digLen (l.drop a))):=rfl
  rw [e0',e,eg,h1,← hv]
 unfold NumT
 rw [e0]
 have eb:(if isM (l.getD b 0) || isK (l.getD b 0) then b - a+1 else b - a)=b' - a:=by
  rw [hb];split <;> omega
 have hab':a≤b':=by rw [hb];split <;> omega
 rw [eb,getD_drop l a b' hab',show a+(b' - a)=b' by omega]
def NumQ (r:Except Flt (Wd×Nat)) (tb:Nat) (l:List UInt8) (d:Int) (w:World) (e:Ending) (w':World):Prop:=
 e=.returned (.tuple #[])∧Mod tb w w'∧
 match r with
 | .ok x=>QT w' tb l x.2 0 d 48 [] x.1.num x.1.pos
 | .error f=>TBad w' tb l f
theorem NumQ.ok {r:Except Flt (Wd×Nat)} {tb:Nat} {l:List UInt8} {d:Int} {w w':World} {a v b:Nat} (h:r=.ok (⟨4,a,[],[],v⟩,b)) (hm:Mod tb w w') (hq:QT w' tb l b 0 d 48 [] v a):NumQ r tb l d w (.returned (.tuple #[])) w':=by
 subst h;exact ⟨rfl,hm,hq⟩
theorem NumQ.bad {r:Except Flt (Wd×Nat)} {tb:Nat} {l:List UInt8} {d:Int} {w w':World} {f:Flt} (h:r=.error f) (hm:Mod tb w w') (hq:TBad w' tb l f):NumQ r tb l d w (.returned (.tuple #[])) w':=by
 subst h;exact ⟨rfl,hm,hq⟩
theorem qnumber_any (tb:Nat) (l:List UInt8) (a:Nat) (d:Int) (w:World) (h:QT w tb l a 0 d 0 [] 0 a) (hl:l.length≤600) (ha:a≤l.length) :
 Calls Tryz.prog 112 #[.pointer (some ⟨tb,0,none⟩)] w (NumQ (scanNumL (l.drop a) a) tb l d w):=by
 have H:=hide h
 have hz:=strA_size l
 clear h
 go_enter Tryz.func112,Tryz.ntmps112
 go_upto_block 0 with fail
 go_cut [2,3] (fun nv bv wx=>∃ (b v:Nat) (g:Bool),b≤l.length∧nv=.int .i64 v∧bv=.bool g∧QT wx tb l b 0 d 0 [] 0 a∧Mod tb w wx∧a≤b∧numVal (l.drop a)=v∧a+digLen (l.drop a)=b∧v≤2147483648∧(g=true→2147483647 < v))
 case first=>
  as_aux_lemma=>
   go_wp2_with fail
   go_loopg [2,3] (l.length - a) (fun k nv bv wr=>∃ (b v:Nat),b≤l.length∧k=l.length - b∧NumI l a b v∧nv=.int .i64 v∧bv=.bool (decide (v=2147483648))∧QT wr tb l b 0 d 0 [] 0 a∧Mod tb w wr)
   case atStart=>exact ⟨a,0,ha,rfl,NumI.init l a,rfl,rfl,H.out,Mod.refl _ _⟩
   case round=>
    obtain ⟨b,v,hb,rfl,hi,rfl,rfl,hq,hm⟩:=hrel
    have HQ:=hide hq
    have HM:=hide hm
    have HI:=hide hi
    have c0:wr.cell? ⟨tb,0,none⟩=some (.string (strA l)):=blk_cell hq 0
    have c1:wr.cell? ⟨tb,1,none⟩=some (.int .i64 b):=blk_cell hq 1
    have hfz:=fun o=>blk_frozen hq o
    have hvb:=hi.bd
    clear hq hm hi H
    by_cases hlt:b < (strA l).size
    rotate_left
    ·obtain rfl:b=l.length:=by omega
     have HDN:=hide (HI.out.done (Or.inl rfl))
     go_wp2_with fail
     go_quiet (fail)
     go_wp2
     go_meet
     exact ⟨l.length,v,_,hb,rfl,rfl,HQ.out,HM.out.drewN,HI.out.le,HDN.out.1,HDN.out.2,hvb,fun h=>by have:=of_decide_eq_true h;omega⟩
    have hlt':(b:Int) < (l.length:Int):=by omega
    have h0b:(0:Int)≤(b:Int):=by omega
    cases hd:isDigitN ((strA l)[b].toNat:Int)
    ·have HDN:=hide (HI.out.done (Or.inr ⟨hlt,hd⟩))
     go_wp2_with fail
     go_quiet (first | (go_at_call 110;refine Calls.quiet_of_same (qdigit_any _ _)))
     go_wp2
     go_meet
     exact ⟨b,v,_,hb,rfl,rfl,HQ.out,HM.out.drewN,HI.out.le,HDN.out.1,HDN.out.2,hvb,fun h=>by have:=of_decide_eq_true h;omega⟩
    ·have HST:=hide (HI.out.step hlt hd)
     have hc:=hd
     unfold isDigitN at hc
     simp at hc
     obtain ⟨hc1,hc2⟩:=hc
     have HQ4:=hide (HQ.out.at_ ((b:Int)+1))
     go_wp2_with fail
     go_quiet (first | (go_at_call 110;refine Calls.quiet_of_same (qdigit_any _ _)))
     go_wp2_with fail
     go_quiet (fail)
     by_cases hbig:(2147483647:Int) < (v:Int)*10+((((strA l)[b].toNat:Nat):Int) - 48)
     ·have HV:Hid (numStep v (strA l)[b]=2147483648):=by show _=_;unfold numStep;omega
      go_wp2
      go_roundg (l.length - (b+1))
      case measure=>omega
      case rel=>exact ⟨b+1,numStep v (strA l)[b],by omega,rfl,HST.out,by rw [HV.out];rfl,by rw [HV.out];rfl,HQ4.out,(HM.out.drewN).setCell _ _⟩
     ·have HV:Hid (((numStep v (strA l)[b]:Nat):Int)=(v:Int)*10+((((strA l)[b].toNat:Nat):Int) - 48)):=by show _=_;unfold numStep;omega
      have HV2:Hid (decide (v=2147483648)=decide (numStep v (strA l)[b]=2147483648)):=by
       show _=_
       rw [decide_eq_false (by omega),decide_eq_false (by have:=HV.out;omega)]
      go_wp2
      go_roundg (l.length - (b+1))
      case measure=>omega
      case rel=>exact ⟨b+1,numStep v (strA l)[b],by omega,rfl,HST.out,by rw [HV.out],by rw [HV2.out],HQ4.out,(HM.out.drewN).setCell _ _⟩
 case rest=>
  obtain ⟨b,v,g,hb,rfl,rfl,hq,hm,hab,hnv,hdl,hvb,hg⟩:=hcut
  have HG:=hide hg
  have HNT0:Hid (∀ b' v',b'=(if isM (l.getD b 0) || isK (l.getD b 0) then b+1 else b)→v'=(if isM (l.getD b 0) then v*1048576 else if isK (l.getD b 0) then v*1024 else v)→NumT l a b' v'):=fun b' v' e1 e2=>num_tail hab hnv hdl e1 e2
  clear hg hnv hdl H
  have HQ:=hide hq
  have HM:=hide hm
  have c0:wc.cell? ⟨tb,0,none⟩=some (.string (strA l)):=blk_cell hq 0
  have c1:wc.cell? ⟨tb,1,none⟩=some (.int .i64 b):=blk_cell hq 1
  clear hq hm
  go_upto_region 8 with fail
  go_cut [82] (fun s82 wx=>s82=.bool (isK (l.getD b 0))∧∃ n,wx=wc.drewN n)
  case first=>
   as_aux_lemma=>
    by_cases hlt:b < (strA l).size
    rotate_left
    ·obtain rfl:b=l.length:=by omega
     have HE:Hid (isK (l.getD l.length 0)=false):=by show _=_;rw [getD_zero_of_le _ _ (Nat.le_refl _)];decide
     go_quiet (fail)
     go_wp2
     go_meet
     exact ⟨by rw [HE.out],_,rfl⟩
    have hlt':(b:Int) < (l.length:Int):=by omega
    have h0b:(0:Int)≤(b:Int):=by omega
    have HGD:=hide (getD_strA hlt)
    by_cases h75:(strA l)[b]=75
    ·have HE:Hid (isK (l.getD b 0)=true):=by show _=_;rw [HGD.out,h75];rfl
     have h75L:∀ h:b < (strA l).size,(((strA l)[b]'h).toNat:Int)=75:=fun _=>congrArg (fun c:UInt8=>(c.toNat:Int)) h75
     clear h75
     go_quiet (fail)
     go_wp2
     go_meet
     exact ⟨by rw [HE.out],_,rfl⟩
    have n75:∀ h:b < (strA l).size,((((strA l)[b]'h).toNat:Int) == 75)=false:=fun _=>by
     have h:¬ (strA l)[b].toNat=75:=fun h=>h75 (UInt8.toNat_inj.1 h)
     simp;omega
    by_cases h107:(strA l)[b]=107
    ·have HE:Hid (isK (l.getD b 0)=true):=by show _=_;rw [HGD.out,h107];rfl
     have h107L:∀ h:b < (strA l).size,(((strA l)[b]'h).toNat:Int)=107:=fun _=>congrArg (fun c:UInt8=>(c.toNat:Int)) h107
     clear h107 h75
     go_quiet (fail)
     go_wp2
     go_meet
     exact ⟨by rw [HE.out],_,rfl⟩
    have n107:∀ h:b < (strA l).size,((((strA l)[b]'h).toNat:Int) == 107)=false:=fun _=>by
     have h:¬ (strA l)[b].toNat=107:=fun h=>h107 (UInt8.toNat_inj.1 h)
     simp;omega
    have HE:Hid (isK (l.getD b 0)=false):=by
     show _=_
     rw [HGD.out]
     have h1:¬ (strA l)[b].toNat=75:=fun h=>h75 (UInt8.toNat_inj.1 h)
     have h2:¬ (strA l)[b].toNat=107:=fun h=>h107 (UInt8.toNat_inj.1 h)
     unfold isK;simp [h1,h2]
    clear h107 h75
    go_quiet (fail)
    go_wp2
    go_meet
    exact ⟨by rw [HE.out],_,rfl⟩
  case rest=>
   obtain ⟨rfl,nn,rfl⟩:=hcut
   go_upto_if 82 with fail
   go_cut [2] (fun nv wx=>∃ (b1 v1:Nat),b1≤l.length∧nv=.int .i64 v1∧QT wx tb l b1 0 d 0 [] 0 a∧Mod tb w wx∧NumT l a b1 v1∧v1≤2251799813685248∧(g=true→2147483647 < v1))
   case first=>
    as_aux_lemma=>
     have hfz:=fun o=>blk_frozen HQ.out o
     have HQ4:=hide (HQ.out.at_ ((b:Int)+1))
     cases hK:isK (l.getD b 0)
     rotate_left
     ·have hlt:b < l.length:=by
       rcases Nat.lt_or_ge b l.length with h | h
       ·exact h
       ·rw [getD_zero_of_le _ _ h] at hK;exact absurd hK (by decide)
      have hKM:isM (l.getD b 0)=false:=by unfold isK at hK;unfold isM;simp at hK ⊢;omega
      have HN:Hid (NumT l a (b+1) (v*1024)):=HNT0.out _ _ (by rw [hK,hKM];rfl) (by rw [hK,hKM];rfl)
      clear hK hKM
      go_wp2
      go_meet
      exact ⟨b+1,v*1024,by omega,by simp,HQ4.out,(by first | exact (HM.out.drewN).setCell _ _ | exact (HM.out.drewN.drewN).setCell _ _),HN.out,by omega,fun h=>by have:=HG.out h;omega⟩
     by_cases hlt:b < (strA l).size
     rotate_left
     ·obtain rfl:b=l.length:=by omega
      have HN:Hid (NumT l a l.length v):=HNT0.out _ _ (by rw [getD_zero_of_le _ _ (Nat.le_refl _)];rfl) (by rw [getD_zero_of_le _ _ (Nat.le_refl _)];rfl)
      clear hK
      go_wp2_with fail
      go_quiet (fail)
      go_wp2
      go_meet
      exact ⟨l.length,v,hb,rfl,HQ.out,(by first | exact HM.out.drewN | exact HM.out.drewN.drewN),HN.out,by omega,fun h=>by have:=HG.out h;omega⟩
     have hlt':(b:Int) < (l.length:Int):=by omega
     have h0b:(0:Int)≤(b:Int):=by omega
     have HGD:=hide (getD_strA hlt)
     have HK:=hide hK
     clear hK
     by_cases h77:(strA l)[b]=77
     ·have HN:Hid (NumT l a (b+1) (v*1048576)):=HNT0.out _ _ (by rw [HGD.out,h77];rfl) (by rw [HGD.out,h77];rfl)
      have h77L:∀ h:b < (strA l).size,(((strA l)[b]'h).toNat:Int)=77:=fun _=>congrArg (fun c:UInt8=>(c.toNat:Int)) h77
      clear h77
      go_wp2_with fail
      go_quiet (fail)
      go_wp2
      go_meet
      exact ⟨b+1,v*1048576,by omega,by simp;omega,HQ4.out,(by first | exact (HM.out.drewN).setCell _ _ | exact (HM.out.drewN.drewN).setCell _ _),HN.out,by omega,fun h=>by have:=HG.out h;omega⟩
     have n77:∀ h:b < (strA l).size,((((strA l)[b]'h).toNat:Int) == 77)=false:=fun _=>by
      have h:¬ (strA l)[b].toNat=77:=fun h=>h77 (UInt8.toNat_inj.1 h)
      simp;omega
     by_cases h109:(strA l)[b]=109
     ·have HN:Hid (NumT l a (b+1) (v*1048576)):=HNT0.out _ _ (by rw [HGD.out,h109];rfl) (by rw [HGD.out,h109];rfl)
      have h109L:∀ h:b < (strA l).size,(((strA l)[b]'h).toNat:Int)=109:=fun _=>congrArg (fun c:UInt8=>(c.toNat:Int)) h109
      clear h109 h77
      go_wp2_with fail
      go_quiet (fail)
      go_wp2
      go_meet
      exact ⟨b+1,v*1048576,by omega,by simp;omega,HQ4.out,(by first | exact (HM.out.drewN).setCell _ _ | exact (HM.out.drewN.drewN).setCell _ _),HN.out,by omega,fun h=>by have:=HG.out h;omega⟩
     have n109:∀ h:b < (strA l).size,((((strA l)[b]'h).toNat:Int) == 109)=false:=fun _=>by
      have h:¬ (strA l)[b].toNat=109:=fun h=>h109 (UInt8.toNat_inj.1 h)
      simp;omega
     have HN:Hid (NumT l a b v):=by
      have h1:¬ (strA l)[b].toNat=77:=fun h=>h77 (UInt8.toNat_inj.1 h)
      have h2:¬ (strA l)[b].toNat=109:=fun h=>h109 (UInt8.toNat_inj.1 h)
      have e:isM (l.getD b 0)=false:=by rw [HGD.out];unfold isM;simp [h1,h2]
      exact HNT0.out _ _ (by rw [e,HK.out];rfl) (by rw [e,HK.out];rfl)
     clear h109 h77
     go_wp2_with fail
     go_quiet (fail)
     go_wp2
     go_meet
     exact ⟨b,v,hb,rfl,HQ.out,(by first | exact HM.out.drewN | exact HM.out.drewN.drewN),HN.out,by omega,fun h=>by have:=HG.out h;omega⟩
   case rest=>
    obtain ⟨b1,v1,hb1,rfl,hq,hm,hnt,hvb1,hg1⟩:=hcut
    clear HG HNT0 HQ HM c0 c1 hvb hab hb
    have HQ:=hide hq
    have HM:=hide hm
    have HNT:=hide hnt
    have HG:=hide hg1
    have c0:wc.cell? ⟨tb,0,none⟩=some (.string (strA l)):=blk_cell hq 0
    have c1:wc.cell? ⟨tb,1,none⟩=some (.int .i64 b1):=blk_cell hq 1
    clear hq hm hnt hg1
    go_upto_region 14 with fail
    go_cut [169] (fun s169 wx=>s169=.bool (letdig (l.getD b1 0))∧∃ n,wx=wc.drewN n)
    case first=>
     as_aux_lemma=>
      by_cases hlt1:b1 < (strA l).size
      rotate_left
      ·obtain rfl:b1=l.length:=by omega
       have HE:Hid (letdig (l.getD l.length 0)=false):=by show _=_;rw [getD_zero_of_le _ _ (Nat.le_refl _)];decide
       go_quiet (fail)
       go_wp2
       go_meet
       exact ⟨by rw [HE.out],_,rfl⟩
      have hlt2:(b1:Int) < (l.length:Int):=by omega
      have h0b1:(0:Int)≤(b1:Int):=by omega
      have HGD:=hide (getD_strA hlt1)
      cases hL:isLetN ((strA l)[b1].toNat:Int)
      ·have HCL:Hid (∀ h:b1 < (strA l).size,∀ W,Calls Tryz.prog 109 #[.int .u8 (((strA l)[b1]'h).toNat:Int)] W fun e w'=>e=.returned (.bool false)∧w'=W):=fun h W=>by have:=qletter_any (((strA l)[b1]'h).toNat:Int) W;rw [hL] at this;exact this
       have HE:Hid (letdig (l.getD b1 0)=isDigitN ((strA l)[b1].toNat:Int)):=by show _=_;rw [HGD.out];unfold letdig;rw [hL];rfl
       go_quiet (first | (go_at_call 109;refine Calls.quiet_of_same (HCL.out _ _)) | (go_at_call 110;refine Calls.quiet_of_same (qdigit_any _ _)))
       go_wp2
       go_meet
       exact ⟨by rw [HE.out],_,rfl⟩
      ·have HCL:Hid (∀ h:b1 < (strA l).size,∀ W,Calls Tryz.prog 109 #[.int .u8 (((strA l)[b1]'h).toNat:Int)] W fun e w'=>e=.returned (.bool true)∧w'=W):=fun h W=>by have:=qletter_any (((strA l)[b1]'h).toNat:Int) W;rw [hL] at this;exact this
       have HE:Hid (letdig (l.getD b1 0)=true):=by show _=_;rw [HGD.out];unfold letdig;rw [hL];rfl
       go_quiet (first | (go_at_call 109;refine Calls.quiet_of_same (HCL.out _ _)))
       go_wp2
       go_meet
       exact ⟨by rw [HE.out],_,rfl⟩
    case rest=>
     obtain ⟨rfl,n2,rfl⟩:=hcut
     have c7:wc.cell? ⟨tb,7,none⟩=some (.int .i64 a):=blk_cell HQ.out 7
     have hnt:scanNumL (l.drop a) a=_:=HNT.out
     cases hld:letdig (l.getD b1 0)
     rotate_left
     ·rw [hld,if_pos rfl] at hnt
      have HBAD:=hide hnt
      have HF:=hide (fun n'=>qfail_any tb l b1 d 0 [] 0 a ⟨2,a⟩ (wc.drewN n') HQ.out hl (Nat.succ_ne_zero 1))
      clear hnt hld
      go_wp2_with (go_at_call 70;refine (HF.out _).mono ?_;rintro e w' ⟨rfl,hm',hbad⟩)
      go_end0
      exact NumQ.bad HBAD.out (HM.out.trans (mod_drewN hm')) hbad
     rw [hld,if_neg (by decide)] at hnt
     have HF:=hide (fun n'=>qfail_any tb l b1 d 0 [] 0 a ⟨3,a⟩ (wc.drewN n') HQ.out hl (Nat.succ_ne_zero 2))
     by_cases hbig:2147483647 < v1
     ·rw [if_pos hbig] at hnt
      have HBAD:=hide hnt
      have hbig':(2147483647:Int) < (v1:Int):=by omega
      clear hnt hld
      cases g
      all_goals
       go_wp2_with (go_at_call 70;refine (HF.out _).mono ?_;rintro e w' ⟨rfl,hm',hbad⟩)
       go_end0
       exact NumQ.bad HBAD.out (HM.out.trans (mod_drewN hm')) hbad
     ·rw [if_neg hbig] at hnt
      have HOK:=hide hnt
      have hbig':¬ (2147483647:Int) < (v1:Int):=by omega
      have hgf:g=false:=by
       cases g with
       | false=>rfl
       | true=>exact absurd (HG.out rfl) hbig
      subst hgf
      have c4:wc.cell? ⟨tb,4,none⟩=some (.int .u8 0):=blk_cell HQ.out 4
      have c5:wc.cell? ⟨tb,5,none⟩=some (.string (strA [])):=blk_cell HQ.out 5
      have c6:wc.cell? ⟨tb,6,none⟩=some (.int .i64 0):=blk_cell HQ.out 6
      have hfz:=fun o=>blk_frozen HQ.out o
      clear hnt hld
      go_wp2
      go_end0
      exact NumQ.ok HOK.out (((((HM.out.drewN).setCell _ _).setCell _ _).setCell _ _).setCell _ _) (heap_setCell_at _ _ _ _ _ _ (heap_setCell_at _ _ _ _ _ _ (heap_setCell_at _ _ _ _ _ _ (heap_setCell_at _ _ _ _ _ _ HQ.out))))
end Go.Proofs.YtgnkjijocdmniaaGreatDoor
