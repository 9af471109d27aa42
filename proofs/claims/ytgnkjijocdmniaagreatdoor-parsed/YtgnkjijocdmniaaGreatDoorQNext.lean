import Derived.Test.YtgnkjijocdmniaaGreatDoorZPlainQ3
import Derived.Test.YtgnkjijocdmniaaGreatDoorQNumber
namespace Go.Proofs.YtgnkjijocdmniaaGreatDoor
set_option linter.unusedVariables false
set_option linter.unusedSimpArgs false
set_option maxRecDepth 100000
set_option maxHeartbeats 4000000
open Go.RowKit
attribute [local go_sem ↓] Go.wp_at_zero Go.wp_at_succ
structure TGood (w:World) (tb:Nat) (l:List UInt8) (s:PS):Prop where
 qt:QT w tb l s.2 0 0 (kQ s.1) (sQ s.1) s.1.num s.1.pos
 le:s.2≤l.length
 wd:WdQ s.1
 sz:s.1.said.length≤l.length∧s.1.num≤2147483647
 sp:s.1.spelt.length≤l.length
def TSt (w:World) (tb:Nat) (l:List UInt8) (r:Except Flt PS):Prop:=
 match r with
 | .ok s=>TGood w tb l s
 | .error f=>TBad w tb l f
def NextQ (r:Except Flt PS) (tb:Nat) (l:List UInt8) (w:World) (e:Ending) (w':World):Prop:=
 e=.returned (.tuple #[])∧Mod tb w w'∧TSt w' tb l r
theorem NextQ.ok {r:Except Flt PS} {tb:Nat} {l:List UInt8} {w w':World} {a:Nat} {x:PS} (ha:a≤l.length) (hr:nextL l a=r) (h:r=.ok x) (hm:Mod tb w w') (hq:QT w' tb l x.2 0 0 (kQ x.1) (sQ x.1) x.1.num x.1.pos):NextQ r tb l w (.returned (.tuple #[])) w':=by
 subst h
 exact ⟨rfl,hm,hq,(nextL_le l a ha x hr).2.1,next_wdq hr,nextL_small l a x hr,next_spelt hr⟩
theorem NextQ.bad {r:Except Flt PS} {tb:Nat} {l:List UInt8} {w w':World} {f:Flt} (h:r=.error f) (hm:Mod tb w w') (hq:TBad w' tb l f):NextQ r tb l w (.returned (.tuple #[])) w':=by
 subst h;exact ⟨rfl,hm,hq⟩
theorem QT.word0 {w:World} {tb:Nat} {l:List UInt8} {a e d k:Int} {s:List UInt8} {n p:Int} (h:QT w tb l a e d k s n p) (p':Int):QT ((((w.setCell ⟨tb,4,none⟩ (.int .u8 0)).setCell ⟨tb,5,none⟩ (.string ⟨#[]⟩)).setCell ⟨tb,6,none⟩ (.int .i64 0)).setCell ⟨tb,7,none⟩ (.int .i64 p')) tb l a e d 0 [] 0 p':=
 heap_setCell_at _ _ _ _ _ _ (heap_setCell_at _ _ _ _ _ _ (heap_setCell_at _ _ _ _ _ _ (heap_setCell_at _ _ _ _ _ _ h)))
theorem nameTail_let {c:UInt8} {r:List UInt8} (h:isLetN c.toNat=true):nameTail (c :: r)=nameLen (c :: r):=by
 have hd:letdig c=true:=by unfold letdig;rw [h];rfl
 rw [nameLen,if_pos h]
 unfold nameTail
 rw [List.takeWhile_cons_of_pos hd,List.length_cons]
 omega
theorem scanQ_letter {l:List UInt8} {m:Nat} (h:m < (strA l).size) (hc:isLetN ((strA l)[m].toNat:Int)=true):scanL (l.drop m) m=.ok (⟨1,m,smallL ((l.drop m).take (nameTail (l.drop m))),[],0⟩,m+nameTail (l.drop m)):=by
 rw [drop_at h,nameTail_let hc]
 unfold scanL
 dsimp only
 rw [if_pos hc]
 rfl
theorem scanQ_colon_no {l:List UInt8} {m:Nat} (h:m < (strA l).size) (hc:(strA l)[m]=58) (hn:m+1=l.length∨∃ h1:m+1 < (strA l).size,isLetN ((strA l)[m+1].toNat:Int)=false):scanL (l.drop m) m=.error ⟨2,m⟩:=by
 rw [drop_at h,hc]
 have e:nameLen (l.drop (m+1))=0:=by
  rcases hn with hn | ⟨h1,hn⟩
  ·rw [List.drop_of_length_le (by omega)];rfl
  ·rw [drop_at h1,nameLen,if_neg (by rw [hn];decide)]
 unfold scanL
 dsimp only
 rw [if_neg (by decide),if_pos (by decide),e,if_pos rfl]
theorem scanQ_colon {l:List UInt8} {m:Nat} (h:m < (strA l).size) (hc:(strA l)[m]=58) (h1:m+1 < (strA l).size) (hn:isLetN ((strA l)[m+1].toNat:Int)=true):scanL (l.drop m) m=.ok (⟨2,m,58 :: smallL ((l.drop (m+1)).take (nameTail (l.drop (m+1)))),[],0⟩,m+1+nameTail (l.drop (m+1))):=by
 have e:nameTail (l.drop (m+1))=nameLen (l.drop (m+1)):=by rw [drop_at h1,nameTail_let hn]
 have e0:¬ nameLen (l.drop (m+1))=0:=by rw [drop_at h1,nameLen,if_pos hn];omega
 rw [e,drop_at h,hc]
 unfold scanL
 dsimp only
 rw [if_neg (by decide),if_pos (by decide),if_neg e0]
 unfold spellL
 rw [Nat.add_comm 1 (nameLen _),List.take_succ_cons]
 congr 2
 omega
theorem scanQ_digit {l:List UInt8} {m:Nat} (h:m < (strA l).size) (hL:isLetN ((strA l)[m].toNat:Int)=false) (hc:isDigitN ((strA l)[m].toNat:Int)=true):scanL (l.drop m) m=scanNumL (l.drop m) m:=by
 have h58:¬ (strA l)[m].toNat=58:=by unfold isDigitN at hc;simp at hc;omega
 rw [drop_at h]
 unfold scanL
 dsimp only
 rw [if_neg (by rw [hL];decide),if_neg h58,if_pos hc]
theorem scanQ_quote {l:List UInt8} {m:Nat} (h:m < (strA l).size) (hc:(strA l)[m]=34):scanL (l.drop m) m=quoteR (l.drop (m+1)) m:=by
 rw [drop_at h,hc]
 rfl
theorem scanQ_sign {l:List UInt8} {m:Nat} (h:m < (strA l).size) (hc:isSign (strA l)[m]=true):scanL (l.drop m) m=.ok (⟨3,m,[(strA l)[m]],[],0⟩,m+1):=by
 rw [drop_at h]
 generalize (strA l)[m]=c at *
 rcases sign_cases hc with rfl | rfl | rfl | rfl | rfl | rfl | rfl | rfl <;> rfl
theorem scanQ_other {l:List UInt8} {m:Nat} (h:m < (strA l).size) (hL:isLetN ((strA l)[m].toNat:Int)=false) (h58:¬ (strA l)[m]=58) (hD:isDigitN ((strA l)[m].toNat:Int)=false) (h34:¬ (strA l)[m]=34) (hs:isSign (strA l)[m]=false):scanL (l.drop m) m=.error ⟨2,m⟩:=by
 rw [drop_at h]
 have n58:¬ (strA l)[m].toNat=58:=fun e=>h58 (UInt8.toNat_inj.1 e)
 have n34:¬ (strA l)[m].toNat=34:=fun e=>h34 (UInt8.toNat_inj.1 e)
 unfold scanL
 dsimp only
 rw [if_neg (by rw [hL];decide),if_neg n58,if_neg (by rw [hD];decide),if_neg n34,hs,if_neg (by decide)]
theorem scanQ_end {l:List UInt8}:scanL (l.drop l.length) l.length=.ok (⟨0,l.length,[],[],0⟩,l.length):=by rw [List.drop_length];rfl
theorem quoteR_ok {r:List UInt8} {p:Nat} {x:List UInt8×Nat} (h:quoteL r=some x):quoteR r p=.ok (⟨5,p,[],x.1,0⟩,p+(1+x.2)):=by unfold quoteR;rw [h]
theorem quoteR_no {r:List UInt8} {p:Nat} (h:quoteL r=none):quoteR r p=.error ⟨2,p⟩:=by unfold quoteR;rw [h]
theorem num_shape {r:List UInt8} {p:Nat} {x:PS} (h:scanNumL r p=.ok x):∃ v n,x=(⟨4,p,[],[],v⟩,n):=by
 obtain ⟨n',v',he⟩:∃ n' v':Nat,scanNumL r p=if letdig (r.getD n' 0) then .error ⟨2,p⟩ else if 2147483647 < v' then .error ⟨3,p⟩ else .ok (⟨4,p,[],[],v'⟩,p+n'):=⟨_,_,rfl⟩
 rw [he] at h
 split at h
 ·cases h
 ·split at h
  ·cases h
  ·cases h;exact ⟨_,_,rfl⟩
theorem num_next {r:Except Flt PS} {tb:Nat} {l:List UInt8} {w w':World} {a m:Nat} (ha:a≤l.length) (hr:nextL l a=r) (h:r=scanNumL (l.drop m) m) (hm:Mod tb w w') (hq:match scanNumL (l.drop m) m with | .ok x=>QT w' tb l x.2 0 0 48 [] x.1.num x.1.pos | .error f=>TBad w' tb l f):NextQ r tb l w (.returned (.tuple #[])) w':=by
 cases hs:scanNumL (l.drop m) m with
 | error f=>rw [hs] at hq h;exact NextQ.bad h hm hq
 | ok x=>
  rw [hs] at hq h
  obtain ⟨v,n,rfl⟩:=num_shape hs
  exact NextQ.ok ha hr h hm hq
theorem quote_next {r:Except Flt PS} {tb:Nat} {l:List UInt8} {w w':World} {a m:Nat} (ha:a≤l.length) (hr:nextL l a=r) (h:r=quoteR (l.drop (m+1)) m) (hm:Mod tb w w') (hq:match quoteL (l.drop (m+1)) with | some x=>QT w' tb l (m+(1+x.2):Nat) 0 0 34 x.1 0 m | none=>TBad w' tb l ⟨2,m⟩):NextQ r tb l w (.returned (.tuple #[])) w':=by
 cases hs:quoteL (l.drop (m+1)) with
 | none=>rw [hs] at hq;rw [quoteR_no hs] at h;exact NextQ.bad h hm hq
 | some x=>rw [hs] at hq;rw [quoteR_ok hs] at h;exact NextQ.ok ha hr h hm hq
theorem isSign_no {c:UInt8} (h:isSign c=false):¬ c.toNat=59∧¬ c.toNat=44∧¬ c.toNat=40∧¬ c.toNat=41∧¬ c.toNat=123∧¬ c.toNat=125∧¬ c.toNat=91∧¬ c.toNat=93:=by
 have key:∀ k:UInt8,isSign k=true→¬ c.toNat=k.toNat:=fun k hk e=>by
  rw [UInt8.toNat_inj.1 e,hk] at h
  cases h
 exact ⟨key 59 (by decide),key 44 (by decide),key 40 (by decide),key 41 (by decide),key 123 (by decide),key 125 (by decide),key 91 (by decide),key 93 (by decide)⟩
theorem qnext_any (tb:Nat) (l:List UInt8) (a:Nat) (k:Int) (s:List UInt8) (n p:Int) (w:World) (h:QT w tb l a 0 0 k s n p) (hl:l.length≤600) (ha:a≤l.length) :
 Calls Tryz.prog 66 #[.pointer (some ⟨tb,0,none⟩)] w (NextQ (nextL l a) tb l w):=by
 have H:=hide h
 have hz:=strA_size l
 clear h
 obtain ⟨r,hr⟩:∃ r,nextL l a=r:=⟨_,rfl⟩
 have hrS:=hr
 rw [nextL_S] at hrS
 rw [hr]
 have HR:=hide hr
 clear hr
 go_enter Tryz.func66,Tryz.ntmps66
 go_wp2_with fail
 refine (qskip_any tb l a 0 k s n p w H.out hl ha).mono ?_
 intro e w1 h1
 obtain ⟨rfl,hm1,h1⟩:=h1.cases
 have HM1:=hide hm1
 clear hm1 H
 rcases h1 with ⟨m,hm,hq,hml⟩ | ⟨f,hf,hbad⟩
 rotate_left
 ·rw [hf] at hrS
  have HRE:Hid (r=.error f):=hrS.symm
  have c2:w1.cell? ⟨tb,2,none⟩=some (.int .i64 f.err):=blk_cell hbad.1 2
  have hne:((f.err:Int) != 0)=true:=by have:=hbad.2;simp;omega
  have HB:=hide hbad
  clear hrS hbad hf
  go_wp2
  go_end0
  exact NextQ.bad HRE.out HM1.out HB.out
 rw [hm] at hrS
 have HRS:Hid (scanL (l.drop m) m=r):=hrS
 clear hrS hm
 have c0:w1.cell? ⟨tb,0,none⟩=some (.string (strA l)):=blk_cell hq 0
 have c1:w1.cell? ⟨tb,1,none⟩=some (.int .i64 m):=blk_cell hq 1
 have c2:w1.cell? ⟨tb,2,none⟩=some (.int .i64 0):=blk_cell hq 2
 have c4:w1.cell? ⟨tb,4,none⟩=some (.int .u8 k):=blk_cell hq 4
 have c5:w1.cell? ⟨tb,5,none⟩=some (.string (strA s)):=blk_cell hq 5
 have c6:w1.cell? ⟨tb,6,none⟩=some (.int .i64 n):=blk_cell hq 6
 have c7:w1.cell? ⟨tb,7,none⟩=some (.int .i64 p):=blk_cell hq 7
 have hfz:=fun o=>blk_frozen hq o
 have HQ1:=hide (hq.word0 m)
 clear hq
 go_wp2_with fail
 generalize hW:World.setCell _ _ _=W
 have hqW:QT W tb l m 0 0 0 [] 0 m:=by rw [← hW];exact HQ1.out
 have HMW:Hid (Mod tb w W):=by rw [← hW];exact (((HM1.out.setCell _ _).setCell _ _).setCell _ _).setCell _ _
 clear hW c0 c1 c2 c4 c5 c6 c7 hfz HQ1 HM1 h1
 have HQ:=hide hqW
 have c0:W.cell? ⟨tb,0,none⟩=some (.string (strA l)):=blk_cell hqW 0
 have c1:W.cell? ⟨tb,1,none⟩=some (.int .i64 m):=blk_cell hqW 1
 have c4:W.cell? ⟨tb,4,none⟩=some (.int .u8 0):=blk_cell hqW 4
 have c5:W.cell? ⟨tb,5,none⟩=some (.string (strA [])):=blk_cell hqW 5
 have c6:W.cell? ⟨tb,6,none⟩=some (.int .i64 0):=blk_cell hqW 6
 have c7:W.cell? ⟨tb,7,none⟩=some (.int .i64 m):=blk_cell hqW 7
 have hfz:=fun o=>blk_frozen hqW o
 clear hqW
 by_cases hlt:m < (strA l).size
 rotate_left
 ·obtain rfl:m=l.length:=by omega
  have HX:Hid (r=.ok (⟨0,l.length,[],[],0⟩,l.length)):=HRS.out.symm.trans scanQ_end
  go_quiet (fail)
  go_wp2
  go_end0
  exact NextQ.ok ha HR.out HX.out HMW.out.drewN HQ.out
 have hlt':(m:Int) < (l.length:Int):=by omega
 have h0:(0:Int)≤(m:Int):=by omega
 have hne:((m:Int) == (l.length:Int))=false:=by simp;omega
 go_quiet (fail)
 go_wp2_with fail
 go_quiet (fail)
 rw [World.drewN_drewN]
 generalize hW2:W.drewN _=W2
 have hq2:QT W2 tb l m 0 0 0 [] 0 m:=by rw [← hW2];exact HQ.out
 have HM2:Hid (Mod tb w W2):=by rw [← hW2];exact HMW.out.drewN
 clear hW2 c0 c1 c4 c5 c6 c7 hfz HQ HMW hne
 have HQ2:=hide hq2
 have c0:W2.cell? ⟨tb,0,none⟩=some (.string (strA l)):=blk_cell hq2 0
 have c1:W2.cell? ⟨tb,1,none⟩=some (.int .i64 m):=blk_cell hq2 1
 have c4:W2.cell? ⟨tb,4,none⟩=some (.int .u8 0):=blk_cell hq2 4
 have c7:W2.cell? ⟨tb,7,none⟩=some (.int .i64 m):=blk_cell hq2 7
 have hfz:=fun o=>blk_frozen hq2 o
 clear hq2
 have hcb:=UInt8.toNat_lt (strA l)[m]
 cases hL:isLetN ((strA l)[m].toNat:Int)
 rotate_left
 ·
  have HX:=hide (HRS.out.symm.trans (scanQ_letter hlt hL))
  as_aux_lemma=>
   go_wp2_with (first | (go_at_call 109;refine (qletter_any _ _).mono ?_;rintro e w' ⟨rfl,rfl⟩) | (go_at_call 110;refine (qdigit_any _ _).mono ?_;rintro e w' ⟨rfl,rfl⟩) | (go_at_call 111;refine (qname_any tb l m 0 0 [] 0 m _ HQ2.out hl hml).mono ?_;rintro e w3 ⟨rfl,hm3,hq3,hl3⟩;have d4:w3.cell? ⟨tb,4,none⟩=some (.int .u8 0):=blk_cell hq3 4;have d5:w3.cell? ⟨tb,5,none⟩=some (.string (strA [])):=blk_cell hq3 5;have d6:w3.cell? ⟨tb,6,none⟩=some (.int .i64 0):=blk_cell hq3 6;have d7:w3.cell? ⟨tb,7,none⟩=some (.int .i64 m):=blk_cell hq3 7;have hfz3:=fun o=>blk_frozen hq3 o;have HQ3:=hide hq3;have HM3:=hide (HM2.out.trans hm3);clear hq3 hm3))
   go_end0
   exact NextQ.ok ha HR.out HX.out ((((HM3.out.setCell _ _).setCell _ _).setCell _ _).setCell _ _) (heap_setCell_at _ _ _ _ _ _ (heap_setCell_at _ _ _ _ _ _ (heap_setCell_at _ _ _ _ _ _ (heap_setCell_at _ _ _ _ _ _ HQ3.out))))
 by_cases h58:(strA l)[m]=58
 ·
  have HQ4:=hide (HQ2.out.at_ ((m:Int)+1))
  have H58:=hide h58
  go_wp2_with (first | (go_at_call 109;refine (qletter_any _ _).mono ?_;rintro e w' ⟨rfl,rfl⟩) | (go_at_call 110;refine (qdigit_any _ _).mono ?_;rintro e w' ⟨rfl,rfl⟩) | fail)
  generalize hW3:World.setCell _ _ _=W3
  have hq3:QT W3 tb l (m+1:Nat) 0 0 0 [] 0 m:=by rw [← hW3];exact HQ4.out
  have HM3:Hid (Mod tb w W3):=by rw [← hW3];exact HM2.out.setCell _ _
  clear hW3 c0 c1 c4 c7 hfz HQ4 h58
  obtain ⟨b,hb⟩:∃ b,b=m+1:=⟨_,rfl⟩
  rw [← hb] at hq3
  have HB:=hide hb
  clear hb
  have HQ3:=hide hq3
  have c0:W3.cell? ⟨tb,0,none⟩=some (.string (strA l)):=blk_cell hq3 0
  have c1:W3.cell? ⟨tb,1,none⟩=some (.int .i64 b):=blk_cell hq3 1
  have c7:W3.cell? ⟨tb,7,none⟩=some (.int .i64 m):=blk_cell hq3 7
  clear hq3
  have HF:=hide (fun n'=>qfail_any tb l b 0 0 [] 0 m ⟨2,m⟩ (W3.drewN n') HQ3.out hl (Nat.succ_ne_zero 1))
  have hbl:b≤l.length:=by have:=HB.out;omega
  by_cases hend:b < (strA l).size
  rotate_left
  ·obtain rfl:b=l.length:=by omega
   have HX:=hide (HRS.out.symm.trans (scanQ_colon_no hlt H58.out (Or.inl HB.out.symm)))
   go_quiet (fail)
   go_wp2_with (go_at_call 70;refine (HF.out _).mono ?_;rintro e w3 ⟨rfl,hm3,hbad⟩)
   go_end0
   exact NextQ.bad HX.out (HM3.out.trans (mod_drewN hm3)) hbad
  have hend':(b:Int) < (l.length:Int):=by omega
  have hb0:(0:Int)≤(b:Int):=by omega
  have gne:((b:Int) == (l.length:Int))=false:=by simp;omega
  cases hL2:isLetN ((strA l)[b].toNat:Int)
  ·have HX:Hid (r=.error ⟨2,m⟩):=by
    have e:=HB.out
    subst e
    exact HRS.out.symm.trans (scanQ_colon_no hlt H58.out (Or.inr ⟨hend,hL2⟩))
   have HCL:Hid (∀ h:b < (strA l).size,∀ W,Calls Tryz.prog 109 #[.int .u8 (((strA l)[b]'h).toNat:Int)] W fun e w'=>e=.returned (.bool false)∧w'=W):=fun h W=>by have:=qletter_any (((strA l)[b]'h).toNat:Int) W;rw [hL2] at this;exact this
   go_quiet (first | (go_at_call 109;refine Calls.quiet_of_same (HCL.out _ _)))
   go_wp2_with (go_at_call 70;refine (HF.out _).mono ?_;rintro e w3 ⟨rfl,hm3,hbad⟩)
   go_end0
   exact NextQ.bad HX.out (HM3.out.trans (mod_drewN hm3)) hbad
  ·have HX:Hid (r=.ok (⟨2,m,58 :: smallL ((l.drop b).take (nameTail (l.drop b))),[],0⟩,b+nameTail (l.drop b))):=by
    have e:=HB.out
    subst e
    exact HRS.out.symm.trans (scanQ_colon hlt H58.out hend hL2)
   have HCL:Hid (∀ h:b < (strA l).size,∀ W,Calls Tryz.prog 109 #[.int .u8 (((strA l)[b]'h).toNat:Int)] W fun e w'=>e=.returned (.bool true)∧w'=W):=fun h W=>by have:=qletter_any (((strA l)[b]'h).toNat:Int) W;rw [hL2] at this;exact this
   have HNM:=hide (fun n'=>qname_any tb l b 0 0 [] 0 m (W3.drewN n') HQ3.out hl hbl)
   go_quiet (first | (go_at_call 109;refine Calls.quiet_of_same (HCL.out _ _)))
   go_wp2_with (go_at_call 111;refine (HNM.out _).mono ?_;rintro e w3 ⟨rfl,hm3,hq3,hl3⟩;have d4:w3.cell? ⟨tb,4,none⟩=some (.int .u8 0):=blk_cell hq3 4;have d5:w3.cell? ⟨tb,5,none⟩=some (.string (strA [])):=blk_cell hq3 5;have d6:w3.cell? ⟨tb,6,none⟩=some (.int .i64 0):=blk_cell hq3 6;have d7:w3.cell? ⟨tb,7,none⟩=some (.int .i64 m):=blk_cell hq3 7;have hfz3:=fun o=>blk_frozen hq3 o;have HQ5:=hide hq3;have HM5:=hide (HM3.out.trans (mod_drewN hm3));clear hq3 hm3)
   go_end0
   exact NextQ.ok ha HR.out HX.out ((((HM5.out.setCell _ _).setCell _ _).setCell _ _).setCell _ _) (heap_setCell_at _ _ _ _ _ _ (heap_setCell_at _ _ _ _ _ _ (heap_setCell_at _ _ _ _ _ _ (heap_setCell_at _ _ _ _ _ _ HQ5.out))))
 have n58:(((strA l)[m].toNat:Int) == 58)=false:=by
  have h:¬ (strA l)[m].toNat=58:=fun h=>h58 (UInt8.toNat_inj.1 h)
  simp;omega
 cases hD:isDigitN ((strA l)[m].toNat:Int)
 rotate_left
 ·
  have HX:=hide (HRS.out.symm.trans (scanQ_digit hlt hL hD))
  clear h58
  as_aux_lemma=>
   go_wp2_with (first | (go_at_call 109;refine (qletter_any _ _).mono ?_;rintro e w' ⟨rfl,rfl⟩) | (go_at_call 110;refine (qdigit_any _ _).mono ?_;rintro e w' ⟨rfl,rfl⟩) | (go_at_call 112;refine (qnumber_any tb l m 0 _ HQ2.out hl hml).mono ?_;rintro e w3 ⟨rfl,hm3,h3⟩;have HM3:=hide (HM2.out.trans hm3);have H3:=hide h3;clear hm3 h3))
   go_end0
   exact num_next ha HR.out HX.out HM3.out H3.out
 by_cases h34:(strA l)[m]=34
 ·
  have HX:=hide (HRS.out.symm.trans (scanQ_quote hlt h34))
  have g34:(((strA l)[m].toNat:Int) == 34)=true:=by rw [h34];rfl
  clear h58 h34
  as_aux_lemma=>
   go_wp2_with (first | (go_at_call 109;refine (qletter_any _ _).mono ?_;rintro e w' ⟨rfl,rfl⟩) | (go_at_call 110;refine (qdigit_any _ _).mono ?_;rintro e w' ⟨rfl,rfl⟩) | (go_at_call 113;refine (qquoted_any tb l m 0 0 [] 0 m _ HQ2.out hl (by omega)).mono ?_;rintro e w3 ⟨rfl,hm3,h3⟩;have HM3:=hide (HM2.out.trans hm3);have H3:=hide h3;clear hm3 h3))
   go_end0
   exact quote_next ha HR.out HX.out HM3.out H3.out
 have n34:(((strA l)[m].toNat:Int) == 34)=false:=by
  have h:¬ (strA l)[m].toNat=34:=fun h=>h34 (UInt8.toNat_inj.1 h)
  simp;omega
 cases hS:isSign (strA l)[m]
 ·
  have HX:=hide (HRS.out.symm.trans (scanQ_other hlt hL h58 hD h34 hS))
  obtain ⟨s1,s2,s3,s4,s5,s6,s7,s8⟩:=isSign_no hS
  have g1:(((strA l)[m].toNat:Int) == 59)=false:=by simp;omega
  have g2:(((strA l)[m].toNat:Int) == 44)=false:=by simp;omega
  have g3:(((strA l)[m].toNat:Int) == 40)=false:=by simp;omega
  have g4:(((strA l)[m].toNat:Int) == 41)=false:=by simp;omega
  have g5:(((strA l)[m].toNat:Int) == 123)=false:=by simp;omega
  have g6:(((strA l)[m].toNat:Int) == 125)=false:=by simp;omega
  have g7:(((strA l)[m].toNat:Int) == 91)=false:=by simp;omega
  have g8:(((strA l)[m].toNat:Int) == 93)=false:=by simp;omega
  clear h58 h34 s1 s2 s3 s4 s5 s6 s7 s8 hS
  as_aux_lemma=>
   go_wp2_with (first | (go_at_call 109;refine (qletter_any _ _).mono ?_;rintro e w' ⟨rfl,rfl⟩) | (go_at_call 110;refine (qdigit_any _ _).mono ?_;rintro e w' ⟨rfl,rfl⟩) | (go_at_call 70;refine (qfail_any tb l m 0 0 [] 0 m ⟨2,m⟩ _ HQ2.out hl (Nat.succ_ne_zero 1)).mono ?_;rintro e w3 ⟨rfl,hm3,hbad⟩;have HM3:=hide (HM2.out.trans hm3);have HB:=hide hbad;clear hm3 hbad))
   go_end0
   exact NextQ.bad HX.out HM3.out HB.out
 ·
  obtain ⟨c,hc⟩:∃ c,(strA l)[m]=c:=⟨_,rfl⟩
  have hx:=HRS.out.symm.trans (scanQ_sign hlt hS)
  rw [hc] at hx
  have HX:=hide hx
  have hs8:=sign_cases hS
  rw [hc] at hs8
  have HQ4:=hide (HQ2.out.at_ ((m:Int)+1))
  have HQ5:Hid (∀ v:Int,QT ((W2.setCell ⟨tb,1,none⟩ (.int .i64 ((m:Int)+1))).setCell ⟨tb,4,none⟩ (.int .u8 v)) tb l (m+1:Nat) 0 0 v [] 0 m):=fun v=>heap_setCell_at _ _ _ _ _ _ HQ4.out
  clear h58 h34 hS hx
  rcases hs8 with rfl | rfl | rfl | rfl | rfl | rfl | rfl | rfl
  all_goals
   go_wp2_with (first | (go_at_call 109;refine (qletter_any _ _).mono ?_;rintro e w' ⟨rfl,rfl⟩) | (go_at_call 110;refine (qdigit_any _ _).mono ?_;rintro e w' ⟨rfl,rfl⟩))
   go_end0
   exact NextQ.ok ha HR.out HX.out ((HM2.out.setCell _ _).setCell _ _) (HQ5.out _)
end Go.Proofs.YtgnkjijocdmniaaGreatDoor
