import Derived.Test.YtenahlandohgaaaGreatDoorZDUp
import Derived.Test.YtenahlandohgaaaGreatDoorEBox
import Derived.Test.YtenahlandohgaaaGreatDoorZGPart
namespace Go.Proofs.YtenahlandohgaaaGreatDoor
set_option linter.unusedVariables false
set_option linter.unusedSimpArgs false
set_option maxRecDepth 100000
set_option maxHeartbeats 4000000
open Go.RowKit
attribute [local go_sem ↓] Go.wp_at_zero Go.wp_at_succ
def Torn (o o':Dop):Prop:=o'=o∨(o.kind=1∧∃ k,o'=⟨1,o.name,o.data.take k⟩)
def CrashOf:Fs→List Dop→Fs→Prop
 | D,[],D'=>D'=D
 | D,o :: r,D'=>CrashOf D r D'∨∃ o',Torn o o'∧CrashOf (doF D o') r D'
theorem crash_skip:∀ (l:List Dop) (D D':Fs) (o:Dop),CrashOf D l D'→CrashOf D (l++[o]) D'
 | [],D,D',o,h=>Or.inl h
 | a :: r,D,D',o,h=>by
  rcases h with h | ⟨a',ha,h⟩
  ·exact Or.inl (crash_skip r D D' o h)
  ·exact Or.inr ⟨a',ha,crash_skip r _ D' o h⟩
theorem crash_do:∀ (l:List Dop) (D D':Fs) (o o':Dop),CrashOf D l D'→Torn o o'→CrashOf D (l++[o]) (doF D' o')
 | [],D,D',o,o',h,ho=>by
  have h':D'=D:=h
  subst h'
  exact Or.inr ⟨o',ho,rfl⟩
 | a :: r,D,D',o,o',h,ho=>by
  rcases h with h | ⟨a',ha,h⟩
  ·exact Or.inl (crash_do r D D' o o' h ho)
  ·exact Or.inr ⟨a',ha,crash_do r _ D' o o' h ho⟩
theorem extract_takeG (x:List UInt8) (q:Nat):(strA x).extract 0 q=strA (x.take q):=by
 apply ByteArray.ext
 simp [strA]
def pickN (k:Int) (n:Nat):Nat:=((if k < 0 then -(k+1) else k) % (n:Int)).toNat
theorem pickN_lt (k:Int) (n:Nat) (h:0 < n):pickN k n < n:=by
 unfold pickN
 have h1:=Int.emod_lt_of_pos (if k < 0 then -(k+1) else k) (show (0:Int) < (n:Int) by omega)
 have h2:=Int.emod_nonneg (if k < 0 then -(k+1) else k) (show (n:Int)≠0 by omega)
 omega
theorem pickP_any (k:Int) (n:Nat) (w:World) (h0:-9223372036854775808≤k) (h1:k≤9223372036854775807) (hn:0 < n) (hn2:n≤1000000000):Calls Tryz.prog 51 #[.int .i64 k,.int .i64 n] w fun e w'=>e=.returned (.int .i64 ((pickN k n:Nat):Int))∧w'=w:=by
 have hn':¬ (n:Int)=0:=by omega
 have hnm:¬ (n:Int) = -1:=by omega
 by_cases hk:k < 0
 ·have he:-(k+1).tmod (n:Int)=((pickN k n:Nat):Int):=by
   unfold pickN
   rw [if_pos hk,← Int.neg_tmod,Int.tmod_eq_emod_of_nonneg (by omega)]
   have h2:=Int.emod_nonneg (-(k+1)) (show (n:Int)≠0 by omega)
   omega
  have HE:=hide he
  clear he
  go_enter Tryz.func51,Tryz.ntmps51
  go_wp2
  go_ret
  refine ⟨?_,rfl⟩
  show Ending.returned (Value.int IntKind.i64 (-(k+1).tmod (n:Int)))=_
  rw [HE.out]
 ·have he:k % (n:Int)=((pickN k n:Nat):Int):=by
   unfold pickN
   rw [if_neg hk]
   have h2:=Int.emod_nonneg k (show (n:Int)≠0 by omega)
   omega
  have HE:=hide he
  clear he
  go_enter Tryz.func51,Tryz.ntmps51
  go_wp2
  go_ret
  refine ⟨?_,rfl⟩
  first
   | (show Ending.returned (Value.int IntKind.i64 (k % (n:Int)))=_;rw [HE.out])
   | (show Ending.returned (Value.int IntKind.i64 (k.tmod (n:Int)))=_;rw [Int.tmod_eq_emod_of_nonneg (by omega),HE.out])
theorem gcrash_any (B db bd bn n:Nat) (A:AD) (kp pt:Int) (w:World) (h:AbsD w B db bd bn n A) (hn:n≤480000) (hp:A.p.length≤10000) (hops:OpsOk A.p) (hdl:∀ o∈A.p,o.data.length≤100000000) (h0:-9223372036854775808≤pt) (h1:pt≤9223372036854775807) :
 Calls Tryz.prog 39 #[.pointer (some ⟨db,0,none⟩),.int .i64 kp,.int .i64 pt] w fun e w'=>e=.returned (.tuple #[])∧Fr (PDk B) w w'∧∃ bn' D',CrashOf A.D A.p D'∧AbsD w' B db bd bn' (n+A.p.length) ⟨D',D',[],⟨-1,-1,false⟩⟩:=by
 obtain ⟨pv,h⟩:=h
 obtain ⟨la,lc,hpv⟩:=owns_len h.row
 subst hpv
 have HD:=hide h
 have HO:=hide hops
 have HDL:=hide hdl
 have d2:w.cell? ⟨db,2,none⟩=some (.slice la A.p.length lc):=blk_cell h.blk 2
 have hpi:=pickN_lt pt (A.p.length+1) (by omega)
 have HP:=hide (pickP_any pt (A.p.length+1) w h0 h1 (by omega) (by omega))
 clear h hops hdl
 go_enter Tryz.func39,Tryz.ntmps39
 go_wp2_with fail
 have hcast:((A.p.length+1:Nat):Int)=(A.p.length:Int)+1:=by omega
 rw [hcast] at HP
 refine HP.out.mono ?_
 rintro e w1 ⟨rfl,hw1⟩
 rw [hw1]
 clear hw1 hcast
 generalize pickN pt (A.p.length+1)=tn at *
 go_wp2_with fail
 go_loopw [24] (fun i wr=>∃ (k:Nat) (Dk:Fs),k≤A.p.length∧i=.int .i64 (k:Int)∧CrashOf A.D (A.p.take k) Dk∧DJ wr B db bd bn (n+k) Dk A.N A.p A.lf.left A.lf.full A.lf.down (.slice la A.p.length lc)∧Fr (PDk B) w wr) (fun i _=>A.p.length - (intOf i).toNat)
 case atStart=>exact ⟨0,A.D,Nat.zero_le _,by go_num,rfl,HD.out,Fr.refl _ _⟩
 case round=>
  obtain ⟨k,Dk,hk,rfl,hC,hD,hF⟩:=hrel
  have HC:=hide hC
  have HD2:=hide hD
  have HF2:=hide hF
  by_cases hlt:k < A.p.length
  rotate_left
  ·have hk':k=A.p.length:=by omega
   have hz:¬ (k:Int) < (A.p.length:Int):=by omega
   have d3:wr.cell? ⟨db,3,none⟩=some (.int .i64 A.lf.left):=blk_cell hD.blk 3
   have d4:wr.cell? ⟨db,4,none⟩=some (.int .i64 A.lf.full):=blk_cell hD.blk 4
   have z0:∀ j,wr.frozen? ⟨db,j,none⟩=false:=blk_frozen hD.blk
   have HKK:=hide hk'
   obtain ⟨W,hW⟩:∃ W,W=(wr.setCell ⟨db,3,none⟩ (.int .i64 (-1))).setCell ⟨db,4,none⟩ (.int .i64 (-1)):=⟨_,rfl⟩
   have hh1:=heap_setCell_at wr db 3 (.int .i64 (-1)) _ _ HD2.out.blk
   have hh2:=heap_setCell_at _ db 4 (.int .i64 (-1)) _ _ hh1
   have hFA:Fr (PDb db) wr W:=by rw [hW];exact ((Fr.refl _ wr).set HD2.out.blk ⟨rfl,_,rfl⟩ 3 _).set hh1 ⟨rfl,_,rfl⟩ 4 _
   rw [← hW] at hh2
   have HDA:=hide (HD2.out.turn hFA hh2)
   have HFA:Hid (Fr (PDk B) w W):=hF.trans (hFA.mono (fun _ _ h=>h.toK HD2.out.bb.1))
   have HW:=hide hW
   clear hFA hW hh1 hh2 hD hF hC hk' d2
   go_wp2_with fail
   rw [← HW.out]
   refine (up_any B db bd (n+k) Dk (.map (some bn)) (.slice la A.p.length lc) (-1) A.lf.down W ⟨HDA.out.bb.1,HDA.out.bb.2.1⟩ HDA.out.blk HDA.out.md (by omega)).mono ?_
   rintro e w2 ⟨rfl,hD2,hF2⟩
   have HD3:=hide hD2
   have HF3:=hide (HFA.out.trans hF2)
   clear hD2 hF2
   go_wp2
   go_end0
   have hc:=HC.out
   rw [HKK.out,List.take_length] at hc
   have hd:=HD3.out
   rw [HKK.out] at hd
   exact ⟨rfl,HF3.out,_,Dk,hc,.slice none 0 0,hd.bb,hd.ne,hd.blk,hd.md,hd.mn,hd.row⟩
  have hlt':(k:Int) < (A.p.length:Int):=by omega
  obtain ⟨g,c1,hv1,_,hgl,hcells⟩:=owns_get hD.row (by omega)
  injection hv1 with hv1 _ hv3
  subst hv1
  have hat:=ocells_at A.p k hlt
  have e1:wr.cell? ⟨g,k*4,none⟩=some (.int .i64 A.p[k].kind):=hcells _ _ hat.1
  have e2:wr.cell? ⟨g,k*4+1,none⟩=some (.string (strA A.p[k].name)):=hcells _ _ hat.2.1
  have e3:wr.cell? ⟨g,k*4+2,none⟩=some (.string ⟨#[]⟩):=hcells _ _ hat.2.2.1
  have e4:wr.cell? ⟨g,k*4+3,none⟩=some (.string (strA A.p[k].data)):=hcells _ _ hat.2.2.2
  have hok:=HO.out A.p[k] (List.getElem_mem hlt)
  have hdl:=HDL.out A.p[k] (List.getElem_mem hlt)
  have HTK:Hid (A.p.take (k+1)=A.p.take k++[A.p[k]]):=List.take_succ_eq_append_getElem hlt
  generalize A.p[k]=o at *
  obtain ⟨kind,name,data⟩:=o
  dsimp only at e1 e2 e3 e4 hdl
  have hkd:kind=1∨kind=3:=hok.1
  have hnl:name.length≤1000000:=hok.2
  have hzd:=strA_size data
  obtain ⟨V,hV⟩:∃ V,V=wr.alloc (.cells #[.int .i64 kind,.string (strA name),.string ⟨#[]⟩,.string (strA data)] 116):=⟨_,rfl⟩
  have hBV:Below wr.heap.size wr V:=by rw [hV];exact (Below.refl _ _).alloc (Nat.le_refl _) _
  have HVO:Hid (V.heap[wr.heap.size]?=some (.cells #[.int .i64 kind,.string (strA name),.string ⟨#[]⟩,.string (strA data)] 116)):=by rw [hV];exact blk_new _ _
  have HDV:=hide (HD2.out.below hBV)
  have HFV:=hide (HF2.out.trans (Fr.of_below hBV))
  have HWV:=hide hV
  have HBVV:=hide hBV
  clear hcells hat hv3 hD hok hF hC hV hBV
  have HSK:Hid (CrashOf A.D (A.p.take (k+1)) Dk):=by show CrashOf _ _ _;rw [HTK.out];exact crash_skip _ _ _ _ HC.out
  rcases hkd with hk1 | hk3
  rotate_left
  ·subst hk3
   go_wp2_with fail
   ·rw [← HWV.out]
    exact ⟨⟨k+1,Dk,by omega,by go_num,HSK.out,HDV.out.mono (by omega),HFV.out⟩,by simp [intOf];omega⟩
   rw [← HWV.out]
   clear e1 e2 e3 e4
   have v0:V.cell? ⟨db,0,none⟩=some (.map (some bd)):=blk_cell HDV.out.blk 0
   have o0:V.cell? ⟨wr.heap.size,0,none⟩=some (.int .i64 3):=blk_cell HVO.out 0
   have o1:V.cell? ⟨wr.heap.size,1,none⟩=some (.string (strA name)):=blk_cell HVO.out 1
   have o2:V.cell? ⟨wr.heap.size,2,none⟩=some (.string ⟨#[]⟩):=blk_cell HVO.out 2
   have o3:V.cell? ⟨wr.heap.size,3,none⟩=some (.string (strA data)):=blk_cell HVO.out 3
   obtain ⟨lv,hlk⟩:=mapF_look (w:=V.drew) HDV.out.md hnl
   cases hok:(Dk name).isSome
   ·rw [hok] at hlk
    go_wp2_with fail
    go_region_held3 (fun w'=>w'.cell? ⟨db,0,none⟩=some (.map (some bd))∧w'.cell? ⟨wr.heap.size,1,none⟩=some (.string (strA name))) (first | go_keep | exact ⟨v0,o1⟩) (fail)
    all_goals go_wp2
    all_goals exact ⟨⟨k+1,Dk,by omega,by go_num,HSK.out,(HDV.out.below (below_drewE (Below.refl _ _))).mono (by omega),HFV.out.drew⟩,by simp [intOf];omega⟩
   ·rw [hok] at hlk
    go_wp2_with fail
    go_region_held3 (fun w'=>w'.cell? ⟨db,0,none⟩=some (.map (some bd))∧w'.cell? ⟨wr.heap.size,1,none⟩=some (.string (strA name))) (first | go_keep | exact ⟨v0,o1⟩) (fail)
    all_goals go_wp2_with fail
    all_goals clear hlk
    all_goals go_region_held3 (fun w'=>w'.cell? ⟨db,0,none⟩=some (.map (some bd))∧w'.cell? ⟨wr.heap.size,0,none⟩=some (.int .i64 3)∧w'.cell? ⟨wr.heap.size,1,none⟩=some (.string (strA name))∧w'.cell? ⟨wr.heap.size,2,none⟩=some (.string ⟨#[]⟩)∧w'.cell? ⟨wr.heap.size,3,none⟩=some (.string (strA data))) (first | go_keep | exact ⟨q1,q2,q3,q4,q5⟩) (first | (go_at_call 52;refine (ddo_any bd (n+k) Dk ⟨3,name,data⟩ V.drew.drew HDV.out.md (by omega) (by first | exact Or.inl rfl | exact Or.inr rfl) hnl).mono ?_;rintro e w2 ⟨rfl,hm2,hf2'⟩;have hf2:=hf2'.undrew.undrew;have hD2:=HDV.out.durTurn hf2 hm2;have HD3:=hide hD2;have hO2:=hf2.block _ _ HVO.out (fun ⟨_,es,c,e⟩=>by cases e);have q1:w2.cell? ⟨db,0,none⟩=some (.map (some bd)):=blk_cell hD2.blk 0;have q2:w2.cell? ⟨wr.heap.size,0,none⟩=some (.int .i64 3):=blk_cell hO2 0;have q3:w2.cell? ⟨wr.heap.size,1,none⟩=some (.string (strA name)):=blk_cell hO2 1;have q4:w2.cell? ⟨wr.heap.size,2,none⟩=some (.string ⟨#[]⟩):=blk_cell hO2 2;have q5:w2.cell? ⟨wr.heap.size,3,none⟩=some (.string (strA data)):=blk_cell hO2 3;have HF3:=hide (HFV.out.trans (hf2.mono (fun k o hk=>hk.toK HDV.out.bb.2.1)));clear hm2 hf2 hf2' hD2 hO2;skip))
    all_goals go_wp2
    all_goals exact ⟨⟨k+1,doF Dk ⟨3,name,data⟩,by omega,by go_num,(by rw [HTK.out];exact crash_do _ _ _ _ _ HC.out (Or.inl rfl)),HD3.out.mono (by omega),HF3.out⟩,by simp [intOf];omega⟩
  subst hk1
  by_cases htn:k=tn
  rotate_left
  ·have htn':¬ ((k:Nat):Int)=((tn:Nat):Int):=by omega
   go_wp2_with fail
   ·rw [← HWV.out]
    exact ⟨⟨k+1,Dk,by omega,by go_num,HSK.out,HDV.out.mono (by omega),HFV.out⟩,by simp [intOf];omega⟩
   rw [← HWV.out]
   clear e1 e2 e3 e4
   have v0:V.cell? ⟨db,0,none⟩=some (.map (some bd)):=blk_cell HDV.out.blk 0
   have o0:V.cell? ⟨wr.heap.size,0,none⟩=some (.int .i64 1):=blk_cell HVO.out 0
   have o1:V.cell? ⟨wr.heap.size,1,none⟩=some (.string (strA name)):=blk_cell HVO.out 1
   have o2:V.cell? ⟨wr.heap.size,2,none⟩=some (.string ⟨#[]⟩):=blk_cell HVO.out 2
   have o3:V.cell? ⟨wr.heap.size,3,none⟩=some (.string (strA data)):=blk_cell HVO.out 3
   obtain ⟨lv,hlk⟩:=mapF_look (w:=V.drew) HDV.out.md hnl
   generalize (Dk name).isSome=ok at hlk
   cases ok
   all_goals go_wp2_with fail
   all_goals go_region_held3 (fun w'=>w'.cell? ⟨db,0,none⟩=some (.map (some bd))∧w'.cell? ⟨wr.heap.size,1,none⟩=some (.string (strA name))) (first | go_keep | exact ⟨v0,o1⟩) (fail)
   all_goals go_wp2_with fail
   all_goals clear hlk
   all_goals go_region_held3 (fun w'=>w'.cell? ⟨db,0,none⟩=some (.map (some bd))∧w'.cell? ⟨wr.heap.size,0,none⟩=some (.int .i64 1)∧w'.cell? ⟨wr.heap.size,1,none⟩=some (.string (strA name))∧w'.cell? ⟨wr.heap.size,2,none⟩=some (.string ⟨#[]⟩)∧w'.cell? ⟨wr.heap.size,3,none⟩=some (.string (strA data))) (first | go_keep | exact ⟨q1,q2,q3,q4,q5⟩) (first | (go_at_call 52;refine (ddo_any bd (n+k) Dk ⟨1,name,data⟩ V.drew.drew HDV.out.md (by omega) (by first | exact Or.inl rfl | exact Or.inr rfl) hnl).mono ?_;rintro e w2 ⟨rfl,hm2,hf2'⟩;have hf2:=hf2'.undrew.undrew;have hD2:=HDV.out.durTurn hf2 hm2;have HD3:=hide hD2;have hO2:=hf2.block _ _ HVO.out (fun ⟨_,es,c,e⟩=>by cases e);have q1:w2.cell? ⟨db,0,none⟩=some (.map (some bd)):=blk_cell hD2.blk 0;have q2:w2.cell? ⟨wr.heap.size,0,none⟩=some (.int .i64 1):=blk_cell hO2 0;have q3:w2.cell? ⟨wr.heap.size,1,none⟩=some (.string (strA name)):=blk_cell hO2 1;have q4:w2.cell? ⟨wr.heap.size,2,none⟩=some (.string ⟨#[]⟩):=blk_cell hO2 2;have q5:w2.cell? ⟨wr.heap.size,3,none⟩=some (.string (strA data)):=blk_cell hO2 3;have HF3:=hide (HFV.out.trans (hf2.mono (fun k o hk=>hk.toK HDV.out.bb.2.1)));clear hm2 hf2 hf2' hD2 hO2;skip))
   all_goals go_wp2
   all_goals exact ⟨⟨k+1,doF Dk ⟨1,name,data⟩,by omega,by go_num,(by rw [HTK.out];exact crash_do _ _ _ _ _ HC.out (Or.inl rfl)),HD3.out.mono (by omega),HF3.out⟩,by simp [intOf];omega⟩
  ·subst htn
   go_wp2_with fail
   ·rw [← HWV.out]
    exact ⟨⟨k+1,Dk,by omega,by go_num,HSK.out,HDV.out.mono (by omega),HFV.out⟩,by simp [intOf];omega⟩
   rw [← HWV.out]
   clear e1 e2 e3 e4
   have o3:V.cell? ⟨wr.heap.size,3,none⟩=some (.string (strA data)):=blk_cell HVO.out 3
   have zo:∀ j,V.frozen? ⟨wr.heap.size,j,none⟩=false:=blk_frozen HVO.out
   obtain ⟨dl,hdl2⟩:∃ dl:Nat,dl=data.length+1:=⟨_,rfl⟩
   have hwl:IntKind.i64.wrap ((data.length:Int)+1)=(dl:Int):=by rw [IntKind.wrap_i64];omega
   obtain ⟨q7,hq7⟩:∃ q7,IntKind.i64.wrap (pt.tdiv 7)=q7:=⟨_,rfl⟩
   have hq71:-9223372036854775808≤q7∧q7≤9223372036854775807:=by
    rw [← hq7,IntKind.wrap_i64]
    have g1:=Int.emod_nonneg (pt.tdiv 7+9223372036854775808) (show (18446744073709551616:Int)≠0 by decide)
    have g2:=Int.emod_lt_of_pos (pt.tdiv 7+9223372036854775808) (show (0:Int) < 18446744073709551616 by decide)
    omega
   have hpk:=pickN_lt q7 dl (by omega)
   have HPK:=hide (pickP_any q7 dl V.drew hq71.1 hq71.2 (by omega) (by omega))
   have HDL2:=hide hdl2
   clear hdl2
   generalize pickN q7 dl=m at *
   have hml:m≤data.length:=by have:=HDL2.out;omega
   go_region_with (go_at_call 51;refine HPK.out.mono ?_;rintro e w3 ⟨rfl,hw3⟩;rw [hw3];clear hw3;skip)
   all_goals have hex:(strA data).extract 0 m=strA (data.take m):=extract_takeG data m
   all_goals rw [hex]
   all_goals obtain ⟨W2,hW2⟩:∃ W2,W2=(V.setCell ⟨wr.heap.size,3,none⟩ (.string (strA (data.take m)))).drew:=⟨_,rfl⟩
   all_goals have hB2:Below wr.heap.size wr W2:=by rw [hW2];exact below_drewE (HBVV.out.setCell (Nat.le_refl _) _)
   all_goals have hO2:W2.heap[wr.heap.size]?=some (.cells #[.int .i64 1,.string (strA name),.string ⟨#[]⟩,.string (strA (data.take m))] 116):=by rw [hW2];exact heap_setCell_at _ _ _ _ _ _ HVO.out
   all_goals rw [← hW2]
   all_goals clear HVO HDV HFV
   all_goals have HVO:=hide hO2
   all_goals have HDV:=hide (HD2.out.below hB2)
   all_goals have HFV:=hide (HF2.out.trans (Fr.of_below hB2))
   all_goals clear hW2 hO2 hB2 o3 zo hex hwl hq7
   all_goals generalize hdm:data.take m=dm at *
   all_goals have HDM:=hide hdm
   all_goals clear hdm
   all_goals have v0:W2.cell? ⟨db,0,none⟩=some (.map (some bd)):=blk_cell HDV.out.blk 0
   all_goals have o0:W2.cell? ⟨wr.heap.size,0,none⟩=some (.int .i64 1):=blk_cell HVO.out 0
   all_goals have o1:W2.cell? ⟨wr.heap.size,1,none⟩=some (.string (strA name)):=blk_cell HVO.out 1
   all_goals have o2:W2.cell? ⟨wr.heap.size,2,none⟩=some (.string ⟨#[]⟩):=blk_cell HVO.out 2
   all_goals have o3:W2.cell? ⟨wr.heap.size,3,none⟩=some (.string (strA dm)):=blk_cell HVO.out 3
   all_goals obtain ⟨lv,hlk⟩:=mapF_look (w:=W2.drew) HDV.out.md hnl
   all_goals generalize (Dk name).isSome=ok at hlk
   all_goals cases ok
   all_goals go_wp2_with fail
   all_goals go_region_held3 (fun w'=>w'.cell? ⟨db,0,none⟩=some (.map (some bd))∧w'.cell? ⟨wr.heap.size,1,none⟩=some (.string (strA name))) (first | go_keep | exact ⟨v0,o1⟩) (fail)
   all_goals go_wp2_with fail
   all_goals clear hlk
   all_goals go_region_held3 (fun w'=>w'.cell? ⟨db,0,none⟩=some (.map (some bd))∧w'.cell? ⟨wr.heap.size,0,none⟩=some (.int .i64 1)∧w'.cell? ⟨wr.heap.size,1,none⟩=some (.string (strA name))∧w'.cell? ⟨wr.heap.size,2,none⟩=some (.string ⟨#[]⟩)∧w'.cell? ⟨wr.heap.size,3,none⟩=some (.string (strA dm))) (first | go_keep | exact ⟨q1,q2,q3,q4,q5⟩) (first | (go_at_call 52;refine (ddo_any bd (n+k) Dk ⟨1,name,dm⟩ W2.drew.drew HDV.out.md (by omega) (by first | exact Or.inl rfl | exact Or.inr rfl) hnl).mono ?_;rintro e w2 ⟨rfl,hm2,hf2'⟩;have hf2:=hf2'.undrew.undrew;have hD2:=HDV.out.durTurn hf2 hm2;have HD3:=hide hD2;have hO2:=hf2.block _ _ HVO.out (fun ⟨_,es,c,e⟩=>by cases e);have q1:w2.cell? ⟨db,0,none⟩=some (.map (some bd)):=blk_cell hD2.blk 0;have q2:w2.cell? ⟨wr.heap.size,0,none⟩=some (.int .i64 1):=blk_cell hO2 0;have q3:w2.cell? ⟨wr.heap.size,1,none⟩=some (.string (strA name)):=blk_cell hO2 1;have q4:w2.cell? ⟨wr.heap.size,2,none⟩=some (.string ⟨#[]⟩):=blk_cell hO2 2;have q5:w2.cell? ⟨wr.heap.size,3,none⟩=some (.string (strA dm)):=blk_cell hO2 3;have HF3:=hide (HFV.out.trans (hf2.mono (fun k o hk=>hk.toK HDV.out.bb.2.1)));clear hm2 hf2 hf2' hD2 hO2;skip))
   all_goals go_wp2
   all_goals exact ⟨⟨k+1,doF Dk ⟨1,name,dm⟩,by omega,by go_num,(by rw [HTK.out];exact crash_do _ _ _ _ _ HC.out (Or.inr ⟨rfl,m,by rw [HDM.out]⟩)),HD3.out.mono (by omega),HF3.out⟩,by simp [intOf];omega⟩
end Go.Proofs.YtenahlandohgaaaGreatDoor
