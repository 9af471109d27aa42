import Derived.Test.YthkibedbcbgajaaGreatDoorEBoxR
import Derived.Test.YthkibedbcbgajaaGreatDoorPlainTwice
namespace Go.Proofs.YthkibedbcbgajaaGreatDoor
set_option linter.unusedVariables false
set_option linter.unusedSimpArgs false
set_option maxRecDepth 100000
set_option maxHeartbeats 4000000
open Go.RowKit
attribute [local go_sem ↓] Go.wp_at_zero Go.wp_at_succ
theorem strA_listT (x:List UInt8):(strA x).toList=x:=by
 have h:=strA_beq x x
 rw [decide_eq_true rfl] at h
 exact beq_iff_eq.1 h
structure EnvD (w:World):Prop where
 tab:Tab w
 tz:Tz w
 err:ErrT w
theorem EnvD.below {w w':World} (h:EnvD w) (hb:Below w.heap.size w w'):EnvD w':=
 ⟨h.tab.below hb,h.tz.below hb,(hb.cell (p:=⟨0,0,none⟩) (cell_lt (a:=⟨0,0,none⟩) h.err)).trans h.err⟩
theorem Fr.lowB {B:Nat} {u w w':World} (h:Below u.heap.size u w) (hf:Fr (PDk B) w w') (hB:u.heap.size≤B):Below u.heap.size u w':=
 h.trans (hf.below (fun _ _ hp=>Nat.le_trans hB hp.1) h.size)
theorem aft_own (id text:List UInt8) (acts:List (Int×List UInt8)) (F:Fs) (h3:∀ a∈acts,a.2.length≤2000000) (hF:∀ x,(F x).isSome=true→Lib.hasPrefix x [46]=false) (x:List UInt8) (hx:(aft id acts text F x).isSome=true):Lib.hasPrefix x [46]=false:=by
 cases h:filesL id acts text with
 | error k=>rw [(aft_err _ h).1] at hx;exact hF x hx
 | ok fs=>
  rw [(aft_ok _ h).1] at hx
  rcases putFs_names fs F x hx with hx | ⟨f,hf,rfl⟩
  ·exact hF x hx
  ·exact nameOk_own (((filesL_all 2000000 h h3).2.2.1 f hf).1)
theorem own_jou {F:Fs} (hF:∀ x,(F x).isSome=true→Lib.hasPrefix x [46]=false):F kJournal=none:=by
 cases h:F kJournal with
 | none=>rfl
 | some s=>have:=hF kJournal (by rw [h];rfl);cases this
theorem bd_both {B db bd bn n:Nat} {F:Fs} {id text:List UInt8} {acts:List (Int×List UInt8)} {w:World} {e:Ending} {w':World} (h:BdPost B db bd bn n F id acts text w e w') :
 Fr (PDk B) w w'∧∃ n' pv',e=.returned (.int .i64 ((aftN id acts text:Nat):Int))∧n'≤n+20∧DI w' B db bd bn n' (aft id acts text F) (aft id acts text F) [] (-1) pv':=by
 obtain ⟨hF,⟨k,pv',h1,rfl,h2⟩ | ⟨fs,n',pv',h1,rfl,h2,h3⟩⟩:=h
 ·rw [(aft_err F h1).1,(aft_err F h1).2]
  exact ⟨hF,n,pv',rfl,by omega,h2⟩
 ·rw [(aft_ok F h1).1,(aft_ok F h1).2]
  exact ⟨hF,n',pv',rfl,h2,h3⟩
theorem PDk.notFil {B k:Nat} {cs:Array Value}:¬ PDk B k (.cells cs 39):=by
 rintro ⟨_,⟨cs',e⟩ | ⟨es,c,e⟩ | ⟨cs',e⟩⟩
 ·injection e with e1 e2;exact absurd e2 (by decide)
 ·cases e
 ·injection e with e1 e2;exact absurd e2 (by decide)
theorem twice_any (id text:List UInt8) (acts:List (Int×List UInt8)) (av:Value) (w:World) (he:EnvD w) (ha:ActG w av acts) (h1:id.length≤2000000) (h2:text.length≤2000000) (h3:∀ a∈acts,a.2.length≤2000000) (h4:acts.length≤2000000) :
 Calls Tryz.prog 4 #[.string (strA id),av,.string (strA text)] w fun e w'=>e=.returned (.bool true)∧Below w.heap.size w w':=by
 have HA:=hide ha
 have HE:=hide he
 have H3:=hide h3
 have hzt:=strA_size text
 have h6:6 < w.heap.size:=cell_lt (a:=⟨6,15,none⟩) he.tz
 obtain ⟨aa,ac,hav,_⟩:=ha
 subst hav
 clear he h3
 go_enter Tryz.func4,Tryz.ntmps4
 by_cases hl:16384 < text.length
 ·have hl':(16384:Int) < (text.length:Int):=by omega
  go_wp2
  go_ret
  exact ⟨rfl,Below.refl _ _⟩
 have hl':¬ (16384:Int) < (text.length:Int):=by omega
 by_cases hk:100 < acts.length
 ·have hk':(100:Int) < (acts.length:Int):=by omega
  go_wp2
  go_ret
  exact ⟨rfl,Below.refl _ _⟩
 have hk':¬ (100:Int) < (acts.length:Int):=by omega
 go_wp2_with fail
 obtain ⟨V0,hV0⟩:∃ V,V=w.alloc (.cells #[.string (strA kIz),.string (strA kOld)] 39):=⟨_,rfl⟩
 have hBV0:Below w.heap.size w V0:=by rw [hV0];exact (Below.refl _ _).alloc (Nat.le_refl _) _
 have hG0:FilG V0 (.slice (some ⟨w.heap.size,0,none⟩) 1 1) [(kIz,kOld)]:=by
  have hb:V0.heap[w.heap.size]?=some (.cells #[.string (strA kIz),.string (strA kOld)] 39):=by rw [hV0];exact blk_new _ _
  refine ⟨_,_,rfl,fun _=>⟨w.heap.size,0,rfl,fun j hj=>?_⟩⟩
  obtain rfl:j=0:=by simp at hj;omega
  exact ⟨blk_cell hb 0,blk_cell hb 1⟩
 have HBV0:=hide hBV0
 rw [show w.alloc (.cells #[.string ⟨#[105,110,98,111,120,47,122]⟩,.string ⟨#[111,108,100]⟩] 39)=V0 from hV0.symm]
 refine (newBox_any [(kIz,kOld)] _ V0 hG0 (by simp) (by intro f hf;simp at hf;subst hf;decide)).mono ?_
 rintro e w1 ⟨hb1,bb,bn,rfl,hx1,hD1⟩
 have hBw:w.heap.size≤V0.heap.size:=HBV0.out.size
 have HB1:=hide (HBV0.out.trans (hb1.mono hBw))
 have hBw1:V0.heap.size≤w1.heap.size:=hb1.size
 have HX1:=hide hx1
 have HD1:Hid (DI w1 V0.heap.size (V0.heap.size+1) V0.heap.size bn 1 fs0 fs0 [] (-1) (.slice none 0 0)):=hD1
 generalize V0.heap.size=B at *
 clear hV0 hBV0 hG0 HBV0 hb1 hx1 hD1
 clear V0
 obtain ⟨V1,hV1⟩:∃ V,V=w1.alloc (.cells #[.int .i64 1,.string (strA [])] 34):=⟨_,rfl⟩
 have hBV1:Below w1.heap.size w1 V1:=by rw [hV1];exact (Below.refl _ _).alloc (Nat.le_refl _) _
 have hO1:V1.heap[w1.heap.size]?=some (.cells #[.int .i64 1,.string (strA [])] 34):=by rw [hV1];exact blk_new _ _
 have HV1:=hide hV1
 have HBV1:=hide (HB1.out.trans (hBV1.mono HB1.out.size))
 have HXV1:=hide (blk_below HX1.out hBV1)
 have HCALL:=hide (bdeliver_any B bb (B+1) B bn 1 fs0 _ kA1 kNew [(1,[])] (.slice (some ⟨w1.heap.size,0,none⟩) 1 1) V1 HXV1.out (HD1.out.below hBV1) (HE.out.below HBV1.out).tab (HE.out.below HBV1.out).tz (HE.out.below HBV1.out).err (fun w' hf=>by
  have hb:=hf.block _ _ hO1 PDk.notAc
  refine ⟨_,_,rfl,fun _=>⟨w1.heap.size,0,rfl,fun j hj=>?_⟩⟩
  obtain rfl:j=0:=by simp at hj;omega
  exact ⟨blk_cell hb 0,blk_cell hb 1⟩) (by decide) (by decide) (by intro a ha;simp at ha;subst ha;decide) (by simp) ⟨kIz,rfl⟩ rfl (by omega) (by omega) (by have:=hBV1.size;omega))
 have hzV1:w1.heap.size≤V1.heap.size:=hBV1.size
 clear hBV1 hO1 hV1
 go_wp2_with fail
 rw [show w1.alloc (.cells #[.int .i64 1,.string ⟨#[]⟩] 34)=V1 from HV1.out.symm]
 refine HCALL.out.mono ?_
 rintro e w2 ⟨hF2,⟨k,pv',hk1,_⟩ | ⟨fs,n2,pv2,hk1,rfl,hn2,hD2⟩⟩
 ·rw [filesL_a1] at hk1;cases hk1
 rw [filesL_a1] at hk1
 injection hk1 with hk1
 subst hk1
 have HD2:Hid (DI w2 B (B+1) B bn n2 fs1 fs1 [] (-1) pv2):=hD2
 have HX2:=hide (hF2.block _ _ HXV1.out PDk.notBox)
 have HB2:=hide (Fr.lowB HBV1.out hF2 hBw)
 have hBw2:B≤w2.heap.size:=by have:=hF2.size;omega
 clear hF2 hD2 HCALL HV1 HXV1 HBV1 HB1 HX1 HD1 hzV1 hBw1
 have HN1:Hid (∃ x,(fs1 x).isSome=true):=⟨kIz,rfl⟩
 go_wp2_with fail
 refine (bfiles_any B bb (B+1) B bn n2 fs1 pv2 w2 HX2.out HD2.out (by omega) HN1.out).mono ?_
 rintro e w3 ⟨hb3,v3,l3,rfl,hf3,hl3,hln3⟩
 have hl3':=lists_one hl3 lists_fs1
 subst hl3'
 obtain ⟨g3,c3,cs3,hv3,hg3,hc3⟩:=hf3
 subst hv3
 have p0:w3.cell? ⟨g3,0,none⟩=some (.string (strA kIa1)):=(hc3 0 (by decide)).1
 have p1:w3.cell? ⟨g3,1,none⟩=some (.string (strA kNew)):=(hc3 0 (by decide)).2
 have p2:w3.cell? ⟨g3,2,none⟩=some (.string (strA kIz)):=(hc3 1 (by decide)).1
 have p3:w3.cell? ⟨g3,3,none⟩=some (.string (strA kOld)):=(hc3 1 (by decide)).2
 have HD3:=hide (HD2.out.below hb3)
 have HX3:=hide (blk_below HX2.out hb3)
 have HB3:=hide (HB2.out.trans (hb3.mono HB2.out.size))
 have hBw3:B≤w3.heap.size:=by have:=hb3.size;omega
 have t0:(strA kIa1).toList=[105,110,98,111,120,47,97,49]:=strA_listT _
 have t1:(strA kNew).toList=[110,101,119]:=strA_listT _
 have t2:(strA kIz).toList=[105,110,98,111,120,47,122]:=strA_listT _
 have t3:(strA kOld).toList=[111,108,100]:=strA_listT _
 clear hb3 hl3 hc3 hg3 HD2 HX2 HB2 hBw2 hln3
 go_wp2_with fail
 clear p0 p1 p2 p3 HN1 t0 t1 t2 t3
 have HOW:Hid (∀ x,(aft id acts text fs1 x).isSome=true→Lib.hasPrefix x [46]=false):=aft_own id text acts fs1 H3.out fs1_names
 have HSA:Hid ((aft id acts text fs1 kIa1).isSome=true∧(aft id acts text fs1 kIz).isSome=true):=⟨aft_some _ _ _ _ _ rfl,aft_some _ _ _ _ _ rfl⟩
 have HTW:Hid (aft id acts text (aft id acts text fs1)=aft id acts text fs1):=aft_twice _ _ _ _
 refine (bdeliver_any B bb (B+1) B bn n2 fs1 pv2 id text acts (.slice aa acts.length ac) w3 HX3.out HD3.out (HE.out.below HB3.out).tab (HE.out.below HB3.out).tz (HE.out.below HB3.out).err (fun w' hf=>HA.out.below (Fr.lowB HB3.out hf hBw)) h1 h2 H3.out (by omega) ⟨kIz,rfl⟩ (own_jou fs1_names) (by omega) (by omega) hBw3).mono ?_
 intro e w4 h4'
 obtain ⟨hF4,n4,pv4,rfl,hn4,hD4⟩:=bd_both h4'
 generalize haN:aftN id acts text=N at *
 have HD4:=hide hD4
 have HX4:=hide (hF4.block _ _ HX3.out PDk.notBox)
 have HB4:=hide (Fr.lowB HB3.out hF4 hBw)
 have hBw4:B≤w4.heap.size:=by have:=hF4.size;omega
 clear h4' hF4 hD4 HD3 HX3 HB3 hBw3
 go_wp2_with fail
 refine (bfiles_any B bb (B+1) B bn n4 _ pv4 w4 HX4.out HD4.out (by omega) ⟨_,HSA.out.2⟩).mono ?_
 rintro e w5 ⟨hb5,v5,l5,rfl,hf5,hl5,hln5⟩
 have HF5:=hide hf5
 have HL5:=hide hl5
 have hp2:=lists_two hl5 kIa1 kIz HSA.out.1 HSA.out.2 (by decide)
 have hv5:∃ a c,v5=.slice a l5.length c:=by obtain ⟨g,c,cs,hv,_⟩:=hf5;exact ⟨_,c,hv⟩
 obtain ⟨a5,c5,hv5⟩:=hv5
 subst hv5
 have HD5:=hide (HD4.out.below hb5)
 have HX5:=hide (blk_below HX4.out hb5)
 have HB5:=hide (HB4.out.trans (hb5.mono HB4.out.size))
 have hBw5:B≤w5.heap.size:=by have:=hb5.size;omega
 clear hb5 hf5 hl5 HD4 HX4 HB4 hBw4
 go_wp2_with fail
 refine (bdeliver_any B bb (B+1) B bn n4 _ pv4 id text acts (.slice aa acts.length ac) w5 HX5.out HD5.out (HE.out.below HB5.out).tab (HE.out.below HB5.out).tz (HE.out.below HB5.out).err (fun w' hf=>HA.out.below (Fr.lowB HB5.out hf hBw)) h1 h2 H3.out (by omega) ⟨_,HSA.out.2⟩ (own_jou HOW.out) (by omega) (by omega) hBw5).mono ?_
 intro e w6 h6'
 obtain ⟨hF6,n6,pv6,rfl,hn6,hD6⟩:=bd_both h6'
 rw [HTW.out] at hD6
 rw [haN]
 have HD6:=hide hD6
 have HX6:=hide (hF6.block _ _ HX5.out PDk.notBox)
 have HB6:=hide (Fr.lowB HB5.out hF6 hBw)
 have HF6:=hide (HF5.out.fr hF6 (fun _ _=>PDk.notFil))
 have hBw6:B≤w6.heap.size:=by have:=hF6.size;omega
 clear h6' hF6 hD6 HD5 HX5 HB5 hBw5 HF5
 go_wp2_with fail
 refine (bfiles_any B bb (B+1) B bn n6 _ pv6 w6 HX6.out HD6.out (by omega) ⟨_,HSA.out.2⟩).mono ?_
 rintro e w7 ⟨hb7,v7,l7,rfl,hf7,hl7,hln7⟩
 have hl7':=lists_one hl7 HL5.out
 subst hl7'
 have HF7:=hide hf7
 have HP7:Hid (FilB w7 (.slice a5 l7.length c5) l7):=HF6.out.fr (P:=fun _ _=>False) (Fr.of_below hb7) (fun _ _ h=>h)
 have hv7:∃ a c,v7=.slice a l7.length c:=by obtain ⟨g,c,cs,hv,_⟩:=hf7;exact ⟨_,c,hv⟩
 obtain ⟨a7,c7,hv7⟩:=hv7
 subst hv7
 have HD7:=hide (HD6.out.below hb7)
 have HX7:=hide (blk_below HX6.out hb7)
 have HB7:=hide (HB6.out.trans (hb7.mono HB6.out.size))
 have hBw7:B≤w7.heap.size:=by have:=hb7.size;omega
 clear hb7 hf7 hl7 HD6 HX6 HB6 hBw6 HF6
 go_wp2_with fail
 refine (brecover_any B bb (B+1) B bn n6 _ pv6 w7 HX7.out HD7.out ⟨_,HSA.out.2⟩ HOW.out (by omega)).mono ?_
 rintro e w8 ⟨rfl,hF8,n8,pv8,hn8,hD8⟩
 have HD8:=hide hD8
 have HX8:=hide (hF8.block _ _ HX7.out PDk.notBox)
 have HB8:=hide (Fr.lowB HB7.out hF8 hBw)
 have HP8:=hide (HP7.out.fr hF8 (fun _ _=>PDk.notFil))
 have HQ8:=hide (HF7.out.fr hF8 (fun _ _=>PDk.notFil))
 clear hF8 hD8 HD7 HX7 HB7 hBw7 HF7 HP7
 go_wp2_with fail
 refine (bfiles_any B bb (B+1) B bn n8 _ pv8 w8 HX8.out HD8.out (by omega) ⟨_,HSA.out.2⟩).mono ?_
 rintro e w9 ⟨hb9,v9,l9,rfl,hf9,hl9,hln9⟩
 have hl9':=lists_one hl9 HL5.out
 subst hl9'
 have HP9:Hid (FilB w9 (.slice a5 l9.length c5) l9):=HP8.out.fr (P:=fun _ _=>False) (Fr.of_below hb9) (fun _ _ h=>h)
 have HQ9:Hid (FilB w9 (.slice a7 l9.length c7) l9):=HQ8.out.fr (P:=fun _ _=>False) (Fr.of_below hb9) (fun _ _ h=>h)
 have HR9:=hide hf9
 have hv9:∃ a c,v9=.slice a l9.length c:=by obtain ⟨g,c,cs,hv,_⟩:=hf9;exact ⟨_,c,hv⟩
 obtain ⟨a9,c9,hv9⟩:=hv9
 subst hv9
 have HB9:=hide (HB8.out.trans (hb9.mono HB8.out.size))
 clear hb9 hf9 hl9 HD8 HX8 HB8 HP8 HQ8
 obtain ⟨g5,c5',cs5,hv5,_,hc5⟩:=HP9.out
 obtain ⟨g7,c7',cs7,hv7,_,hc7⟩:=HQ9.out
 obtain ⟨g9,c9',cs9,hv9,_,hc9⟩:=HR9.out
 injection hv5 with hv5 _ _
 injection hv7 with hv7 _ _
 injection hv9 with hv9 _ _
 subst hv5 hv7 hv9
 have HC5:=hide hc5
 have HC7:=hide hc7
 have HC9:=hide hc9
 clear hc5 hc7 hc9 HP9 HQ9 HR9 HOW HSA HTW HL5 hln5 hln7
 have hl9s:l9.length≤1000:=by omega
 go_wp2_with fail
 go_loopw [17] (fun i wr=>∃ j:Nat,j≤l9.length∧i=.int .i64 (j:Int)∧Below w9.heap.size w9 wr) (fun i _=>l9.length - (intOf i).toNat)
 case atStart=>exact ⟨0,Nat.zero_le _,rfl,Below.refl _ _⟩
 case round=>
  obtain ⟨j,hj,rfl,hbr⟩:=hrel
  have HBR:=hide hbr
  clear hbr
  by_cases hlt:j < l9.length
  ·have hlt':(j:Int) < (l9.length:Int):=by omega
   have HQ:Hid (∀ (g o:Nat) (v:Value),w9.cell? ⟨g,o,none⟩=some v→wr.cell? ⟨g,o,none⟩=some v):=fun g o v hc=>(HBR.out.cell (p:=⟨g,o,none⟩) (cell_lt hc)).trans hc
   have q1:=HQ.out _ _ _ (HC5.out j hlt).1
   have q2:=HQ.out _ _ _ (HC5.out j hlt).2
   have q3:=HQ.out _ _ _ (HC7.out j hlt).1
   have q4:=HQ.out _ _ _ (HC7.out j hlt).2
   have q5:=HQ.out _ _ _ (HC9.out j hlt).1
   have q6:=HQ.out _ _ _ (HC9.out j hlt).2
   generalize l9[j].1=xa at *
   generalize l9[j].2=xb at *
   go_wp2_with fail
   refine wp_region_noPanic ?_
   go_region
   refine NoPanic.normal ?_
   go_wp2
   exact ⟨⟨j+1,by omega,by go_num,HBR.out.drew⟩,by simp [intOf];omega⟩
  ·have hlt':¬ (j:Int) < (l9.length:Int):=by omega
   have hp2':(2:Int)≤(l9.length:Int):=by omega
   go_wp2
   all_goals go_ret
   all_goals exact ⟨rfl,HB9.out.trans (HBR.out.mono HB9.out.size)⟩
end Go.Proofs.YthkibedbcbgajaaGreatDoor
