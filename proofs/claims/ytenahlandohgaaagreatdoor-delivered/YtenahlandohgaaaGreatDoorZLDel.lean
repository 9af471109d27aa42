import Derived.Test.YtenahlandohgaaaGreatDoorAftB
import Derived.Test.YtenahlandohgaaaGreatDoorZDUp
import Derived.Test.YtenahlandohgaaaGreatDoorEBox
import Derived.Test.YtenahlandohgaaaGreatDoorRFiles
import Derived.Test.YtenahlandohgaaaGreatDoorZStepOpen
namespace Go.Proofs.YtenahlandohgaaaGreatDoor
set_option linter.unusedVariables false
set_option linter.unusedSimpArgs false
set_option maxRecDepth 100000
set_option maxHeartbeats 4000000
section
open Go.RowKit
attribute [local go_sem ↓] Go.wp_at_zero Go.wp_at_succ
theorem pickP_one (k:Int) (w:World) (h0:-9223372036854775808≤k) (h1:k≤9223372036854775807):Calls Tryz.prog 51 #[.int .i64 k,.int .i64 1] w fun e w'=>e=.returned (.int .i64 0)∧w'=w:=by
 by_cases hk:k < 0
 ·go_enter Tryz.func51,Tryz.ntmps51
  go_wp2
  go_ret
  exact ⟨by simp,rfl⟩
 ·go_enter Tryz.func51,Tryz.ntmps51
  go_wp2
  go_ret
  exact ⟨by simp,rfl⟩
theorem crash_none (B db bd bn n:Nat) (F:Fs) (q:Int) (pv:Value) (kp pt:Int) (w:World) (h:DI w B db bd bn n F F [] q pv) (hn:n≤500000) (h0:-9223372036854775808≤pt) (h1:pt≤9223372036854775807) :
 Calls Tryz.prog 39 #[.pointer (some ⟨db,0,none⟩),.int .i64 kp,.int .i64 pt] w fun e w'=>e=.returned (.tuple #[])∧Fr (PDk B) w w'∧∃ bn',DI w' B db bd bn' n F F [] (-1) (.slice none 0 0):=by
 have HD:=hide h
 obtain ⟨pa,pc,hpv⟩:=owns_len h.row
 have hpv':pv=.slice pa 0 pc:=hpv
 subst hpv'
 have d2:w.cell? ⟨db,2,none⟩=some (.slice pa 0 pc):=blk_cell h.blk 2
 have d3:w.cell? ⟨db,3,none⟩=some (.int .i64 q):=blk_cell h.blk 3
 have d4:w.cell? ⟨db,4,none⟩=some (.int .i64 q):=blk_cell h.blk 4
 have z0:∀ j,w.frozen? ⟨db,j,none⟩=false:=blk_frozen h.blk
 have HP:=hide (pickP_one pt w h0 h1)
 clear h hpv
 go_enter Tryz.func39,Tryz.ntmps39
 go_wp2_with (go_at_call 51;refine HP.out.mono ?_;rintro e w1 ⟨rfl,hw1⟩;rw [hw1];clear hw1)
 go_loopw [24] (fun i wr=>i=.int .i64 0∧wr=w) (fun _ _=>0)
 case atStart=>exact ⟨by go_num,rfl⟩
 case round=>
  obtain ⟨rfl,hwr⟩:=hrel
  rw [hwr]
  obtain ⟨W,hW⟩:∃ W,W=(w.setCell ⟨db,3,none⟩ (.int .i64 (-1))).setCell ⟨db,4,none⟩ (.int .i64 (-1)):=⟨_,rfl⟩
  have hh1:=heap_setCell_at w db 3 (.int .i64 (-1)) _ _ HD.out.blk
  have hh2:=heap_setCell_at _ db 4 (.int .i64 (-1)) _ _ hh1
  have hFA:Fr (PDb db) w W:=by rw [hW];exact ((Fr.refl _ w).set HD.out.blk ⟨rfl,_,rfl⟩ 3 _).set hh1 ⟨rfl,_,rfl⟩ 4 _
  rw [← hW] at hh2
  have HDA:=hide (HD.out.turn hFA hh2)
  have HFA:Hid (Fr (PDk B) w W):=hFA.mono (fun _ _ h=>h.toK HD.out.bb.1)
  have HW:=hide hW
  clear hFA hW hh1 hh2
  go_wp2_with fail
  rw [← HW.out]
  refine (up_any B db bd n F (.map (some bn)) (.slice pa 0 pc) (-1) false W ⟨HDA.out.bb.1,HDA.out.bb.2.1⟩ HDA.out.blk HDA.out.md hn).mono ?_
  rintro e w2 ⟨rfl,hD2,hF2⟩
  have HD2:=hide hD2
  have HF2:=hide (HFA.out.trans hF2)
  clear hD2 hF2
  go_wp2
  go_end0
  exact ⟨rfl,HF2.out,_,HD2.out⟩
theorem lose_none (B bb db bd bn n:Nat) (F:Fs) (q:Int) (pv:Value) (kp pt:Int) (w:World) (hb:w.heap[bb]?=some (.cells #[.pointer (some ⟨db,0,none⟩)] 55)) (h:DI w B db bd bn n F F [] q pv) (hn:n≤500000) (h0:-9223372036854775808≤pt) (h1:pt≤9223372036854775807) :
 Calls Tryz.prog 23 #[.pointer (some ⟨bb,0,none⟩),.int .i64 kp,.int .i64 pt] w fun e w'=>e=.returned (.tuple #[])∧Fr (PDk B) w w'∧∃ bn',DI w' B db bd bn' n F F [] (-1) (.slice none 0 0):=by
 have HL:=hide (crash_none B db bd bn n F q pv kp pt w h hn h0 h1)
 have b0:w.cell? ⟨bb,0,none⟩=some (.pointer (some ⟨db,0,none⟩)):=blk_cell hb 0
 clear h hb
 go_enter Tryz.func23,Tryz.ntmps23
 go_wp2_with fail
 refine HL.out.mono ?_
 rintro e w2 ⟨rfl,hF2,bn',hD2⟩
 have HD2:=hide hD2
 have HF2:=hide hF2
 clear hD2 hF2
 go_wp2
 go_end0
 exact ⟨rfl,HF2.out,bn',HD2.out⟩
end
section
open Go.RowKit
attribute [local go_sem ↓] Go.wp_at_zero Go.wp_at_succ
structure StoreI (w:World) (B bb db bd n:Nat) (F:Fs) (v:Value) (l:List Fl):Prop where
 box:w.heap[bb]?=some (.cells #[.pointer (some ⟨db,0,none⟩)] 55)
 disk:∃ bn pv,DI w B db bd bn n F F [] (-1) pv
 fil:FilS w v l
 lst:Lists F l
 own:∀ x,(F x).isSome=true→Lib.hasPrefix x [46]=false
 siz:B≤w.heap.size
 len:l.length≤n
def stepV (x:StepD):Value:=.agg #[.string (strA x.id),x.av,.string (strA x.text),.int .i64 x.left,.int .i64 x.full,.int .i64 x.kept,.int .i64 x.part,x.dv,.bool x.again]
theorem argN_mem (a:Int×List UInt8):∀ l:List (Int×List UInt8),a∈l→a.2.length≤argN l
 | [],h=>by cases h
 | b :: r,h=>by
  have e:argN (b :: r)=b.2.length+argN r:=by simp [argN]
  rcases List.mem_cons.1 h with rfl | h
  ·omega
  ·have:=argN_mem a r h;omega
theorem fileL_pos {id text:List UInt8} {n k:Nat} {a:Int×List UInt8} (h:fileL id text n a=.error k):k≠0:=by
 unfold fileL at h
 repeat' split at h
 all_goals cases h
 all_goals decide
theorem filesTo_pos {id text:List UInt8} {k:Nat}:∀ (r:List (Int×List UInt8)) (n:Nat),filesTo id text n r=.error k→k≠0
 | [],n,h=>by rw [filesTo] at h;cases h
 | a :: r,n,h=>by
  rw [filesTo] at h
  cases hf:fileL id text n a with
  | error e=>rw [hf] at h;injection h with h;subst h;exact fileL_pos hf
  | ok f=>
   rw [hf] at h
   dsimp only at h
   cases hr:filesTo id text (n+1) r with
   | error e=>rw [hr] at h;injection h with h;subst h;exact filesTo_pos r (n+1) hr
   | ok l'=>rw [hr] at h;cases h
theorem filesL_pos {id text:List UInt8} {acts:List (Int×List UInt8)} {k:Nat} (h:filesL id acts text=.error k):k≠0:=by
 unfold filesL at h
 split at h
 ·split at h
  ·cases h;decide
  ·exact filesTo_pos _ _ h
 ·cases h;decide
def DelPost (u:World) (B bb db bd n:Nat) (x:StepD) (e:Ending) (w':World):Prop:=
 Below u.heap.size u w'∧∃ n' F' v' l',e=.returned (.tuple #[v',.bool true])∧n'≤n+20*min 1 x.acts.length∧(x.id=[]→n'≤n)∧StoreI w' B bb db bd n' F' v' l'
theorem delivered_any (u:World) (B bb db bd n:Nat) (F:Fs) (v:Value) (l:List Fl) (x:StepD) (w:World) (he:EnvD u) (hu:Below u.heap.size u w) (hB:u.heap.size≤B) (h:StoreI w B bb db bd n F v l) (ha:ActG u x.av x.acts) (hs:costN x≤65536) (hp:-9223372036854775808≤x.part∧x.part≤9223372036854775807) (hn:n≤440000) :
 Calls Tryz.prog 8 #[.pointer (some ⟨bb,0,none⟩),v,stepV x,.bool false] w (DelPost u B bb db bd n x):=by
 have h1:x.id.length≤2000000:=by unfold costN at hs;omega
 have h2:x.text.length≤2000000:=by unfold costN at hs;omega
 have h4:x.acts.length≤1000000:=by unfold costN at hs;omega
 have h3:∀ a∈x.acts,a.2.length≤2000000:=fun a h=>by
  have h5:=argN_mem a x.acts h
  unfold costN at hs
  omega
 have HA:=hide ha
 have HE:=hide he
 have HU:=hide hu
 have HS:=hide h
 have H3:=hide h3
 have h6:6 < u.heap.size:=cell_lt (a:=⟨6,15,none⟩) he.tz
 obtain ⟨aa,ac,hav,_⟩:=ha
 obtain ⟨va,vc,hve⟩:=h.fil.len
 subst hve
 clear he h3 hu h hs
 obtain ⟨id,acts,av,text,left,full,kept,part,downs,dv,again⟩:=x
 dsimp only at *
 subst hav
 unfold stepV
 dsimp only
 go_enter Tryz.func8,Tryz.ntmps8
 go_wp2_with fail
 obtain ⟨V,hV⟩:∃ V,V=w.alloc (.cells #[.string (strA id),.slice aa acts.length ac,.string (strA text),.int .i64 left,.int .i64 full,.int .i64 kept,.int .i64 part,dv,.bool again] 32):=⟨_,rfl⟩
 have hBV:Below w.heap.size w V:=by rw [hV];exact (Below.refl _ _).alloc (Nat.le_refl _) _
 have HSt:Hid (V.heap[w.heap.size]?=some (.cells #[.string (strA id),.slice aa acts.length ac,.string (strA text),.int .i64 left,.int .i64 full,.int .i64 kept,.int .i64 part,dv,.bool again] 32)):=by rw [hV];exact blk_new _ _
 have HBV:=hide (HU.out.trans (hBV.mono HU.out.size))
 have HXV:=hide (blk_below HS.out.box hBV)
 have HFV:=hide (HS.out.fil.below hBV)
 obtain ⟨bn,pv,hD⟩:=HS.out.disk
 have HDV:=hide (hD.below hBV)
 have HVS:Hid (B≤V.heap.size):=Nat.le_trans HS.out.siz hBV.size
 have HWV:=hide hV
 have hlen:=HS.out.len
 clear hV hBV hD
 rw [← HWV.out]
 refine (rfiles_any id text acts (.slice aa acts.length ac) V (HA.out.below HBV.out) h1 h2 H3.out (by omega)).mono ?_
 rintro e w1 ⟨hb1,⟨fs,fv,hr,rfl,hrow⟩ | ⟨k,hr,rfl⟩⟩
 ·have HB1:=hide (HBV.out.trans (hb1.mono HBV.out.size))
  have HSt1:=hide (blk_below HSt.out hb1)
  have HX1:=hide (blk_below HXV.out hb1)
  have HD1:=hide (HDV.out.below hb1)
  have HF1:=hide (HFV.out.below hb1)
  have g0:w1.cell? ⟨w.heap.size,0,none⟩=some (.string (strA id)):=blk_cell HSt1.out 0
  have g1:w1.cell? ⟨w.heap.size,1,none⟩=some (.slice aa acts.length ac):=blk_cell HSt1.out 1
  have g2:w1.cell? ⟨w.heap.size,2,none⟩=some (.string (strA text)):=blk_cell HSt1.out 2
  have g5:w1.cell? ⟨w.heap.size,5,none⟩=some (.int .i64 kept):=blk_cell HSt1.out 5
  have g6:w1.cell? ⟨w.heap.size,6,none⟩=some (.int .i64 part):=blk_cell HSt1.out 6
  have hBw1:B≤w1.heap.size:=by have:=hb1.size;have:=HVS.out;omega
  have HRS:=hide hr
  have HK1:=hide (FilS.of_owns hrow)
  have HFL:=hide (filesL_len hr)
  have hf6:fs.length≤6:=by have h:=(filesL_all 2000000 hr H3.out).2.1;have h':=filesL_len hr;omega
  obtain ⟨fa,fc,hfe⟩:=owns_len hrow
  subst hfe
  clear hb1 hr hrow
  have HBD:=hide (bdeliver_any B bb db bd bn n F pv id text acts (.slice aa acts.length ac) kept part w1 HX1.out HD1.out (HE.out.below HB1.out).tab (HE.out.below HB1.out).tz (HE.out.below HB1.out).err (fun w' hf=>HA.out.below (Fr.lowB HB1.out hf hB)) h1 h2 H3.out h4 (own_jou HS.out.own) (by omega) (by omega) hBw1)
  go_wp2_with fail
  refine HBD.out.mono ?_
  rintro e w2 ⟨hF2,hr2⟩
  have HRS2:=hide hr2
  have HB2:=hide (Fr.lowB HB1.out hF2 hB)
  have HX2:=hide (hF2.block _ _ HX1.out PDk.notBox)
  have HSt2:=hide (hF2.block _ _ HSt1.out (PDk.notT (by decide) (by decide)))
  have HF2:=hide (HF1.out.fr hF2 (fun _ _=>PDk.notFil))
  have hBw2:B≤w2.heap.size:=by have:=hF2.size;omega
  have HK2:=hide (HK1.out.fr hF2 (fun _ _=>PDk.notFil))
  obtain ⟨n2,pv2,he2,hn2,hD2⟩:∃ n' pv',e=.returned (.int .i64 0)∧n'≤n+20*min 1 fs.length∧DI w2 B db bd bn n' (putFs F fs) (putFs F fs) [] (-1) pv':=by
   rcases hr2 with ⟨k',pv',hk,_⟩ | ⟨fs',n',pv',hk,he',hn',hD'⟩
   ·rw [HRS.out] at hk;cases hk
   ·rw [HRS.out] at hk
    injection hk with hk
    subst hk
    exact ⟨n',pv',he',hn',hD'⟩
  subst he2
  have HD2:=hide hD2
  have HOW:Hid (∀ y,(putFs F fs y).isSome=true→Lib.hasPrefix y [46]=false):=fun y hy=>aft_own id text acts F H3.out HS.out.own y (by rw [(aft_ok F HRS.out).1];exact hy)
  clear hr2 hF2 hD2 g0 g1 g2 g5 g6 HRS2
  go_wp2_with fail
  refine (bfiles_any B bb db bd bn n2 _ pv2 w2 HX2.out HD2.out (by omega)).mono ?_
  rintro e w3 ⟨hb3,v3,l3,rfl,hf3,hl3,hln3⟩
  have hle:=lists_one hl3 (lists_put fs HS.out.lst)
  subst hle
  have HF3:=hide hf3.toS
  obtain ⟨a3,c3,hv3⟩:=hf3.toS.len
  subst hv3
  have HW3:=hide (HF2.out.below hb3)
  have HK3:=hide (HK2.out.below hb3)
  have HX3:=hide (blk_below HX2.out hb3)
  have HSt3:=hide (blk_below HSt2.out hb3)
  have HD3:=hide (HD2.out.below hb3)
  have HB3:=hide (HB2.out.trans (hb3.mono HB2.out.size))
  have hBw3:B≤w3.heap.size:=by have:=hb3.size;omega
  have HL3:=hide hl3
  clear hb3 hf3 hl3
  go_wp2_with fail
  refine (put_any l fs _ _ w3 HW3.out HK3.out (by omega)).mono ?_
  rintro e w4 ⟨hb4,v4,rfl,hrow4⟩
  have HN4:=hide (FilS.of_owns hrow4)
  obtain ⟨a4,c4,hv4⟩:=owns_len hrow4
  subst hv4
  have HF4:=hide (HF3.out.below hb4)
  have HX4:=hide (blk_below HX3.out hb4)
  have HSt4:=hide (blk_below HSt3.out hb4)
  have HD4:=hide (HD3.out.below hb4)
  have HB4:=hide (HB3.out.trans (hb4.mono HB3.out.size))
  have hBw4:B≤w4.heap.size:=by have:=hb4.size;omega
  have g5:w4.cell? ⟨w.heap.size,5,none⟩=some (.int .i64 kept):=blk_cell HSt4.out 5
  have g6:w4.cell? ⟨w.heap.size,6,none⟩=some (.int .i64 part):=blk_cell HSt4.out 6
  clear hb4 hrow4
  go_wp2_with fail
  refine (lose_none B bb db bd bn n2 _ (-1) pv2 kept part w4 HX4.out HD4.out (by omega) hp.1 hp.2).mono ?_
  rintro e w5 ⟨rfl,hF5,bn5,hD5⟩
  have HF5:=hide (HF4.out.fr hF5 (fun _ _=>PDk.notFil))
  have HN5:=hide (HN4.out.fr hF5 (fun _ _=>PDk.notFil))
  have HX5:=hide (hF5.block _ _ HX4.out PDk.notBox)
  have HD5:=hide hD5
  have HB5:=hide (Fr.lowB HB4.out hF5 hB)
  have hBw5:B≤w5.heap.size:=by have:=hF5.size;omega
  clear hF5 hD5 g5 g6
  go_wp2_with fail
  refine (bfiles_any B bb db bd bn5 n2 _ _ w5 HX5.out HD5.out (by omega)).mono ?_
  rintro e w6 ⟨hb6,v6,l6,rfl,hf6',hl6,hln6⟩
  have hle:=lists_one hl6 HL3.out
  subst hle
  have HG6:=hide hf6'.toS
  obtain ⟨a6,c6,hv6⟩:=hf6'.toS.len
  subst hv6
  have HF6:=hide (HF5.out.below hb6)
  have HN6:=hide (HN5.out.below hb6)
  have HX6:=hide (blk_below HX5.out hb6)
  have HD6:=hide (HD5.out.below hb6)
  have HB6:=hide (HB5.out.trans (hb6.mono HB5.out.size))
  have hBw6:B≤w6.heap.size:=by have:=hb6.size;omega
  clear hb6 hf6' hl6
  go_wp2_with fail
  refine (sameF_any _ _ _ _ w6 HF6.out HN6.out (by omega) (by omega)).mono ?_
  rintro e w7 ⟨rfl,hb7⟩
  rw [decide_eq_true rfl]
  have HG7:=hide (HG6.out.below hb7)
  have HN7:=hide (HN6.out.below hb7)
  have HX7:=hide (blk_below HX6.out hb7)
  have HD7:=hide (HD6.out.below hb7)
  have HB7:=hide (HB6.out.trans (hb7.mono HB6.out.size))
  have hBw7:B≤w7.heap.size:=by have:=hb7.size;omega
  clear hb7
  go_wp2_with fail
  refine (sameF_any _ _ _ _ w7 HG7.out HN7.out (by omega) (by omega)).mono ?_
  rintro e w8 ⟨rfl,hb8⟩
  rw [decide_eq_true rfl]
  have HN8:=hide (HN7.out.below hb8)
  have HX8:=hide (blk_below HX7.out hb8)
  have HD8:=hide (HD7.out.below hb8)
  have HB8:=hide (HB7.out.trans (hb8.mono HB7.out.size))
  have hBw8:B≤w8.heap.size:=by have:=hb8.size;omega
  clear hb8
  go_wp2
  go_ret2
  exact ⟨HB8.out,n2,putFs F fs,_,_,rfl,(by have:=HFL.out;show n2≤n+20*min 1 acts.length;omega),(fun e=>by have:=HRS.out;have e':id=[]:=e;subst e';cases this),HX8.out,⟨bn5,_,HD8.out⟩,HN8.out,HL3.out,HOW.out,hBw8,by omega⟩
 ·have hkp:=filesL_pos hr
  have hkp':¬ ((k:Nat):Int)=0:=by omega
  have HB1:=hide (HBV.out.trans (hb1.mono HBV.out.size))
  have HSt1:=hide (blk_below HSt.out hb1)
  have HX1:=hide (blk_below HXV.out hb1)
  have HD1:=hide (HDV.out.below hb1)
  have HF1:=hide (HFV.out.below hb1)
  have g0:w1.cell? ⟨w.heap.size,0,none⟩=some (.string (strA id)):=blk_cell HSt1.out 0
  have g1:w1.cell? ⟨w.heap.size,1,none⟩=some (.slice aa acts.length ac):=blk_cell HSt1.out 1
  have g2:w1.cell? ⟨w.heap.size,2,none⟩=some (.string (strA text)):=blk_cell HSt1.out 2
  have g5:w1.cell? ⟨w.heap.size,5,none⟩=some (.int .i64 kept):=blk_cell HSt1.out 5
  have g6:w1.cell? ⟨w.heap.size,6,none⟩=some (.int .i64 part):=blk_cell HSt1.out 6
  have hBw1:B≤w1.heap.size:=by have:=hb1.size;have:=HVS.out;omega
  have HRS:=hide hr
  clear hb1 hr
  have HBD:=hide (bdeliver_any B bb db bd bn n F pv id text acts (.slice aa acts.length ac) kept part w1 HX1.out HD1.out (HE.out.below HB1.out).tab (HE.out.below HB1.out).tz (HE.out.below HB1.out).err (fun w' hf=>HA.out.below (Fr.lowB HB1.out hf hB)) h1 h2 H3.out h4 (own_jou HS.out.own) (by omega) (by omega) hBw1)
  go_wp2_with fail
  refine HBD.out.mono ?_
  rintro e w2 ⟨hF2,hr2⟩
  have HRS2:=hide hr2
  have HB2:=hide (Fr.lowB HB1.out hF2 hB)
  have HX2:=hide (hF2.block _ _ HX1.out PDk.notBox)
  have HSt2:=hide (hF2.block _ _ HSt1.out (PDk.notT (by decide) (by decide)))
  have HF2:=hide (HF1.out.fr hF2 (fun _ _=>PDk.notFil))
  have hBw2:B≤w2.heap.size:=by have:=hF2.size;omega
  obtain ⟨pv2,he2,hD2⟩:∃ pv',e=.returned (.int .i64 ((k:Nat):Int))∧DI w2 B db bd bn n F F [] (-1) pv':=by
   rcases hr2 with ⟨k',pv',hk,he',hD'⟩ | ⟨fs,n',pv',hk,_⟩
   ·rw [HRS.out] at hk
    injection hk with hk
    subst hk
    exact ⟨pv',he',hD'⟩
   ·rw [HRS.out] at hk;cases hk
  subst he2
  have HD2:=hide hD2
  clear hr2 hF2 hD2 g0 g1 g2 g5 g6 HRS2
  go_wp2_with fail
  refine (bfiles_any B bb db bd bn n F pv2 w2 HX2.out HD2.out (by omega)).mono ?_
  rintro e w3 ⟨hb3,v3,l3,rfl,hf3,hl3,hln3⟩
  have hle:=lists_one hl3 HS.out.lst
  subst hle
  have HF3:=hide hf3.toS
  obtain ⟨a3,c3,hv3⟩:=hf3.toS.len
  subst hv3
  have HW3:=hide (HF2.out.below hb3)
  have HX3:=hide (blk_below HX2.out hb3)
  have HD3:=hide (HD2.out.below hb3)
  have HB3:=hide (HB2.out.trans (hb3.mono HB2.out.size))
  have hBw3:B≤w3.heap.size:=by have:=hb3.size;omega
  clear hb3 hf3 hl3
  go_wp2_with fail
  refine (sameF_any _ _ l3 l3 w3 HF3.out HW3.out (by omega) (by omega)).mono ?_
  rintro e w4 ⟨rfl,hb4⟩
  rw [decide_eq_true rfl]
  have HW4:=hide (HW3.out.below hb4)
  have HX4:=hide (blk_below HX3.out hb4)
  have HD4:=hide (HD3.out.below hb4)
  have HB4:=hide (HB3.out.trans (hb4.mono HB3.out.size))
  have hBw4:B≤w4.heap.size:=by have:=hb4.size;omega
  clear hb4
  go_wp2
  go_ret2
  exact ⟨HB4.out,n,F,_,l3,rfl,by omega,(fun _=>Nat.le_refl _),HX4.out,⟨bn,pv2,HD4.out⟩,HW4.out,HS.out.lst,HS.out.own,hBw4,hlen⟩
end
end Go.Proofs.YtenahlandohgaaaGreatDoor
