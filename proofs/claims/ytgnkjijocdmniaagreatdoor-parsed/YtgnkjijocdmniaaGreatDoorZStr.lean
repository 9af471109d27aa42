import Derived.Test.YtgnkjijocdmniaaGreatDoorZQFits
namespace Go.Proofs.YtgnkjijocdmniaaGreatDoor
set_option linter.unusedVariables false
set_option linter.unusedSimpArgs false
set_option maxRecDepth 100000
set_option maxHeartbeats 4000000
section
open Go.RowKit
def chkAny (_:List UInt8):Nat:=0
def chkName (x:List UInt8):Nat:=if isNameL x then 0 else 7
def chkOne (er:Nat) (zs:List (List UInt8)) (x:List UInt8):Nat:=if 0 < whichL zs x then 0 else er
def chkSmall (c:List UInt8→Nat) (x:List UInt8):Nat:=c (smallL x)
theorem strA_list (x:List UInt8):(strA x).data.toList=x:=rfl
theorem anything_any (s:ByteArray) (w:World):Calls Tryz.prog 134 #[.string s] w fun e w'=>e=.returned (.int .i64 0)∧w'=w:=by
 go_enter Tryz.func134,Tryz.ntmps134
 go_wp2
 go_ret
 exact ⟨rfl,rfl⟩
theorem isName_any (x:List UInt8) (w:World) (hs:x.length≤1000) :
 Calls Tryz.prog 221 #[.string (strA x)] w fun e w'=>e=.returned (.bool (isNameL x))∧w'=w:=by
 have hle:=nameLen_le x
 have hsz:(strA x).size=x.length:=rfl
 have hL:=hide (nameLength_any (strA x) w (by rw [hsz];unfold maxLen;omega))
 by_cases h0:x.length=0
 ·have hx:x=[]:=List.eq_nil_of_length_eq_zero h0
  subst hx
  have h0':(strA []).toList=[]:=toList_size0 rfl
  have h0'':(strA []).toList.isEmpty=true:=by rw [h0'];rfl
  go_enter Tryz.func221,Tryz.ntmps221
  go_wp2
  go_ret
  exact ⟨rfl,rfl⟩
 ·have h0':¬ (strA x).toList=[]:=toList_sizePos (by rw [hsz];exact h0)
  have h0'':(strA x).toList.isEmpty=false:=by simpa using h0'
  go_enter Tryz.func221,Tryz.ntmps221
  go_wp2_with (go_at_call 226;refine hL.out.mono ?_;rintro e w' ⟨rfl,rfl⟩)
  go_ret
  refine ⟨ret_bool ?_,rfl⟩
  rw [strA_list]
  unfold isNameL
  have:x.isEmpty=false:=by
   cases x with
   | nil=>exact absurd rfl h0
   | cons a r=>rfl
  rw [this,Bool.eq_iff_iff]
  simp
  omega
theorem aName_any (x:List UInt8) (w:World) (hs:x.length≤1000) :
 Calls Tryz.prog 182 #[.string (strA x)] w fun e w'=>e=.returned (.int .i64 (chkName x))∧w'=w:=by
 have hN:=hide (isName_any x w hs)
 cases h:isNameL x
 ·have HE:Hid (chkName x=7):=by show _=_;unfold chkName;rw [h];rfl
  go_enter Tryz.func182,Tryz.ntmps182
  go_wp2_with (go_at_call 221;refine hN.out.mono ?_;rintro e w' ⟨rfl,rfl⟩)
  go_ret
  exact ⟨ret_int (by rw [HE.out];rfl),rfl⟩
 ·have HE:Hid (chkName x=0):=by show _=_;unfold chkName;rw [h];rfl
  go_enter Tryz.func182,Tryz.ntmps182
  go_wp2_with (go_at_call 221;refine hN.out.mono ?_;rintro e w' ⟨rfl,rfl⟩)
  go_ret
  exact ⟨ret_int (by rw [HE.out];rfl),rfl⟩
theorem contains_any (g n c:Nat) (zs:List (List UInt8)) (x:List UInt8) (w:World) (hz:TxtAt w g zs) (hn:n=zs.length) (hl:zs.length≤1000) :
 Calls Tryz.prog 64 #[.slice (some ⟨g,0,none⟩) n c,.string (strA x)] w fun e w'=>e=.returned (.bool (decide (0 < whichL zs x)))∧w'=w:=by
 have hi:=Tryz.slices_Contains_string g 0 n c (zs.map strA) (strA x) w (by simp [hn]) (by omega) (fun j hj=>by
  have hj':j < zs.length:=by simpa using hj
  rw [Nat.zero_add,getD_map_strA _ _ hj'];exact hz j hj')
 rw [hn,List.take_of_length_le (by simp),contains_which] at hi
 rw [hn]
 exact hi
def OneAt (w:World) (p1 p2 g n c er:Nat) (zs:List (List UInt8)):Prop:=
 w.cell? ⟨p1,0,none⟩=some (.slice (some ⟨g,0,none⟩) n c)∧w.cell? ⟨p2,0,none⟩=some (.int .i64 er)∧TxtAt w g zs∧n=zs.length∧zs.length≤1000
theorem oneOf1_any (p1 p2 g n c er:Nat) (zs:List (List UInt8)) (x:List UInt8) (w:World) (h:OneAt w p1 p2 g n c er zs) :
 Calls Tryz.prog 190 #[.string (strA x),.pointer (some ⟨p1,0,none⟩),.pointer (some ⟨p2,0,none⟩)] w fun e w'=>e=.returned (.int .i64 (chkOne er zs x))∧w'=w:=by
 obtain ⟨h1,h2,hz,hn,hl⟩:=h
 have hC:=hide (contains_any g n c zs x w hz hn hl)
 clear hz hn
 by_cases h:0 < whichL zs x
 ·have HE:Hid (chkOne er zs x=0):=by show _=_;unfold chkOne;rw [if_pos h]
  have hd:decide (0 < whichL zs x)=true:=by simpa using h
  rw [hd] at hC
  go_enter Tryz.func190,Tryz.ntmps190
  go_wp2_with (go_at_call 64;refine hC.out.mono ?_;rintro e w' ⟨rfl,rfl⟩)
  go_ret
  exact ⟨ret_int (by rw [HE.out];rfl),rfl⟩
 ·have HE:Hid (chkOne er zs x=er):=by show _=_;unfold chkOne;rw [if_neg h]
  have hd:decide (0 < whichL zs x)=false:=by simpa using h
  rw [hd] at hC
  go_enter Tryz.func190,Tryz.ntmps190
  go_wp2_with (go_at_call 64;refine hC.out.mono ?_;rintro e w' ⟨rfl,rfl⟩)
  go_ret
  exact ⟨ret_int (by rw [HE.out]),rfl⟩
theorem oneOf_any (er:Int) (g n c:Nat) (w:World) :
 Calls Tryz.prog 137 #[.int .i64 er,.slice (some ⟨g,0,none⟩) n c] w fun e w'=>e=.returned (.func (.func 190) #[] #[.pointer (some ⟨w.heap.size+1,0,none⟩),.pointer (some ⟨w.heap.size,0,none⟩)])∧w'=(w.alloc (.cells #[.int .i64 er] 33)).alloc (.cells #[.slice (some ⟨g,0,none⟩) n c] 61):=by
 have hmf:∀ (fn:Fn) (first cap:Array Value) (w:World),(Instr.makeFunc fn first cap).run Tryz.prog w=.ok (.func fn first cap) w:=fun _ _ _ _=>rfl
 go_enter Tryz.func137,Tryz.ntmps137
 go_wp2
 go_ret
 exact ⟨rfl,rfl⟩
theorem inSmall_any (f:Nat) (a1 a2:Value) (w:World) :
 Calls Tryz.prog 136 #[.func (.func f) #[] #[a1,a2]] w fun e w'=>e=.returned (.func (.func 189) #[] #[.pointer (some ⟨w.heap.size,0,none⟩)])∧w'=w.alloc (.cells #[.func (.func f) #[] #[a1,a2]] 229):=by
 have hmf:∀ (fn:Fn) (first cap:Array Value) (w:World),(Instr.makeFunc fn first cap).run Tryz.prog w=.ok (.func fn first cap) w:=fun _ _ _ _=>rfl
 go_enter Tryz.func136,Tryz.ntmps136
 go_wp2
 go_ret
 exact ⟨rfl,rfl⟩
def SmallAt (w:World) (q p1 p2 g n c er:Nat) (zs:List (List UInt8)):Prop:=
 w.cell? ⟨q,0,none⟩=some (.func (.func 190) #[] #[.pointer (some ⟨p1,0,none⟩),.pointer (some ⟨p2,0,none⟩)])∧OneAt w p1 p2 g n c er zs
theorem TxtAt.below {w w':World} {g:Nat} {zs:List (List UInt8)} (h:TxtAt w g zs) (hb:Below w.heap.size w w'):TxtAt w' g zs:=fun j hj=>by
 have:=h j hj
 rw [hb.cell (p:=⟨g,j,none⟩) (cell_lt this)];exact this
theorem OneAt.below {w w':World} {p1 p2 g n c er:Nat} {zs:List (List UInt8)} (h:OneAt w p1 p2 g n c er zs) (hb:Below w.heap.size w w'):OneAt w' p1 p2 g n c er zs:=by
 obtain ⟨h1,h2,h3,h4,h5⟩:=h
 exact ⟨by rw [hb.cell (p:=⟨p1,0,none⟩) (cell_lt h1)];exact h1,by rw [hb.cell (p:=⟨p2,0,none⟩) (cell_lt h2)];exact h2,h3.below hb,h4,h5⟩
theorem inSmall1_any (q p1 p2 g n c er:Nat) (zs:List (List UInt8)) (x:List UInt8) (w:World) (h:SmallAt w q p1 p2 g n c er zs) (hx:x.length≤1000) :
 Calls Tryz.prog 189 #[.string (strA x),.pointer (some ⟨q,0,none⟩)] w fun e w'=>e=.returned (.int .i64 (chkSmall (chkOne er zs) x))∧Below w.heap.size w w':=by
 obtain ⟨hq,hO⟩:=h
 have HO:=hide hO
 have HQ:=hide hq
 clear hO
 have hs:=hide (fun W=>small_any (strA x) W (by rw [strA_size];omega))
 go_enter Tryz.func189,Tryz.ntmps189
 go_wp2_with fail
 go_region_with (first | (go_at_call 181;refine (hs.out _).mono ?_;rintro e w1 ⟨rfl,hb⟩;have hq1:=(hb.cell (p:=⟨q,0,none⟩) (cell_lt HQ.out)).trans HQ.out;skip) | (go_at_call 190;refine (oneOf1_any p1 p2 g n c er zs (smallL x) _ (HO.out.below (below_drew hb))).mono ?_;rintro e w2 ⟨rfl,rfl⟩;skip))
 all_goals go_wp2
 all_goals go_ret
 all_goals exact ⟨rfl,below_drew hb⟩
end
section
open Go.RowKit
def strV (x:List UInt8) (_:World) (v:Value):Prop:=v=.string (strA x)
theorem stringL_kind {l:List UInt8} {chk:List UInt8→Nat} {s:PS} (h:¬ s.1.kind=5):stringL l chk s=.error ⟨4,s.1.pos⟩:=by unfold stringL;rw [if_neg h]
theorem stringL_chk {l:List UInt8} {chk:List UInt8→Nat} {s:PS} (h:s.1.kind=5) (hc:¬ chk s.1.said=0):stringL l chk s=.error ⟨chk s.1.said,s.1.pos⟩:=by unfold stringL;rw [if_pos h,if_neg hc]
theorem stringL_ok {l:List UInt8} {chk:List UInt8→Nat} {s y:PS} (h:s.1.kind=5) (hc:chk s.1.said=0) (hn:nextL l s.2=.ok y):stringL l chk s=.ok (s.1.said,y):=by unfold stringL;rw [if_pos h,if_pos hc,hn]
theorem stringL_err {l:List UInt8} {chk:List UInt8→Nat} {s:PS} {f:Flt} (h:s.1.kind=5) (hc:chk s.1.said=0) (hn:nextL l s.2=.error f):stringL l chk s=.error f:=by unfold stringL;rw [if_pos h,if_pos hc,hn]
theorem string_anything (b:Nat) (t:ByteArray) (s:PS) (rv:Value) (mc mt:Nat) (w:World) (h:RC w b t s rv mc mt) :
 Calls Tryz.prog 179 #[.pointer (some ⟨b,0,none⟩),.func (.func 134) #[] #[]] w (RPost (stringL t.data.toList chkAny s) b t rv mc mt w strV):=by
 have h1:w.cell? ⟨b,1,none⟩=some (.int .i64 s.1.kind):=h.at_.cell 1
 have h4:w.cell? ⟨b,4,none⟩=some (.string (strA s.1.said)):=h.at_.cell 4
 have H:=hide h
 clear h
 by_cases hk:s.1.kind=5
 rotate_left
 ·have HE:=hide (stringL_kind (l:=t.data.toList) (chk:=chkAny) hk)
  have hk':((s.1.kind:Int) == 5)=false:=by simp;omega
  clear hk
  go_enter Tryz.func179,Tryz.ntmps179
  go_wp2_with fail
  refine (demand_no b 4 _ _ t s.1 s.2 rv mc mt _ H.out.at_ rfl rfl).mono ?_
  rintro e w1 ⟨⟨bb,hz,rfl,hcc⟩,hm⟩
  exact ⟨rfl,RPost.err HE.out (Mod.of_below hm) ⟨bb,hz,rfl,hcc⟩⟩
 have hk':((s.1.kind:Int) == 5)=true:=by simp;omega
 have HK:=hide hk
 clear hk
 go_enter Tryz.func179,Tryz.ntmps179
 go_wp2_with fail
 refine (demand_yes b _ _ _ rfl).mono ?_
 rintro e w' ⟨rfl,rfl⟩
 go_wp2_with fail
 refine (anything_any _ _).mono ?_
 rintro e w1 ⟨rfl,rfl⟩
 go_wp2_with fail
 refine (demand_yes b _ _ _ (by rfl)).mono ?_
 rintro e w' ⟨rfl,rfl⟩
 go_wp2_with fail
 refine (next_rc b t s rv mc mt _ H.out).mono ?_
 rintro e w2 (⟨y,hy,rfl,hc,hm⟩ | ⟨f,hf,⟨bb,hz,rfl,hcc⟩,hm⟩)
 ·go_wp2
  go_ret
  exact RPost.ok (stringL_ok HK.out rfl hy) hm rfl hc
 ·exact ⟨rfl,RPost.err (stringL_err HK.out rfl hf) hm ⟨bb,hz,rfl,hcc⟩⟩
theorem string_aName (b:Nat) (t:ByteArray) (s:PS) (rv:Value) (mc mt:Nat) (w:World) (h:RC w b t s rv mc mt) :
 Calls Tryz.prog 179 #[.pointer (some ⟨b,0,none⟩),.func (.func 182) #[] #[]] w (RPost (stringL t.data.toList chkName s) b t rv mc mt w strV):=by
 have h1:w.cell? ⟨b,1,none⟩=some (.int .i64 s.1.kind):=h.at_.cell 1
 have h4:w.cell? ⟨b,4,none⟩=some (.string (strA s.1.said)):=h.at_.cell 4
 have H:=hide h
 clear h
 by_cases hk:s.1.kind=5
 rotate_left
 ·have HE:=hide (stringL_kind (l:=t.data.toList) (chk:=chkName) hk)
  have hk':((s.1.kind:Int) == 5)=false:=by simp;omega
  clear hk
  go_enter Tryz.func179,Tryz.ntmps179
  go_wp2_with fail
  refine (demand_no b 4 _ _ t s.1 s.2 rv mc mt _ H.out.at_ rfl rfl).mono ?_
  rintro e w1 ⟨⟨bb,hz,rfl,hcc⟩,hm⟩
  exact ⟨rfl,RPost.err HE.out (Mod.of_below hm) ⟨bb,hz,rfl,hcc⟩⟩
 have hk':((s.1.kind:Int) == 5)=true:=by simp;omega
 have HK:=hide hk
 clear hk
 go_enter Tryz.func179,Tryz.ntmps179
 go_wp2_with fail
 refine (demand_yes b _ _ _ rfl).mono ?_
 rintro e w' ⟨rfl,rfl⟩
 go_wp2_with fail
 refine (aName_any _ _ (by have:=H.out.sz.1;omega)).mono ?_
 rintro e w1 ⟨rfl,rfl⟩
 generalize hC:chkName s.1.said=C
 have HC:=hide hC
 clear hC
 by_cases hc:C=0
 rotate_left
 ·have HE:=hide (stringL_chk (l:=t.data.toList) (chk:=chkName) HK.out (by rw [HC.out];exact hc))
  rw [HC.out] at HE
  have hc':((C:Int) == 0)=false:=by simp;omega
  clear hc
  go_wp2_with fail
  refine (demand_no b C _ _ t s.1 s.2 rv mc mt _ H.out.at_ rfl rfl).mono ?_
  rintro e w2 ⟨⟨bb,hz,rfl,hcc⟩,hm⟩
  exact ⟨rfl,RPost.err HE.out (Mod.of_below hm) ⟨bb,hz,rfl,hcc⟩⟩
 subst hc
 go_wp2_with fail
 refine (demand_yes b _ _ _ (by rfl)).mono ?_
 rintro e w' ⟨rfl,rfl⟩
 go_wp2_with fail
 refine (next_rc b t s rv mc mt _ H.out).mono ?_
 rintro e w2 (⟨y,hy,rfl,hc,hm⟩ | ⟨f,hf,⟨bb,hz,rfl,hcc⟩,hm⟩)
 ·go_wp2
  go_ret
  exact RPost.ok (stringL_ok HK.out HC.out hy) hm rfl hc
 ·exact ⟨rfl,RPost.err (stringL_err HK.out HC.out hf) hm ⟨bb,hz,rfl,hcc⟩⟩
theorem string_oneOf (p1 p2 g n c er:Nat) (zs:List (List UInt8)) (b:Nat) (t:ByteArray) (s:PS) (rv:Value) (mc mt:Nat) (w:World) (h:RC w b t s rv mc mt) (ho:OneAt w p1 p2 g n c er zs) :
 Calls Tryz.prog 179 #[.pointer (some ⟨b,0,none⟩),.func (.func 190) #[] #[.pointer (some ⟨p1,0,none⟩),.pointer (some ⟨p2,0,none⟩)]] w (RPost (stringL t.data.toList (chkOne er zs) s) b t rv mc mt w strV):=by
 have h1:w.cell? ⟨b,1,none⟩=some (.int .i64 s.1.kind):=h.at_.cell 1
 have h4:w.cell? ⟨b,4,none⟩=some (.string (strA s.1.said)):=h.at_.cell 4
 have H:=hide h
 clear h
 have HO:=hide ho
 clear ho
 by_cases hk:s.1.kind=5
 rotate_left
 ·have HE:=hide (stringL_kind (l:=t.data.toList) (chk:=(chkOne er zs)) hk)
  have hk':((s.1.kind:Int) == 5)=false:=by simp;omega
  clear hk
  go_enter Tryz.func179,Tryz.ntmps179
  go_wp2_with fail
  refine (demand_no b 4 _ _ t s.1 s.2 rv mc mt _ H.out.at_ rfl rfl).mono ?_
  rintro e w1 ⟨⟨bb,hz,rfl,hcc⟩,hm⟩
  exact ⟨rfl,RPost.err HE.out (Mod.of_below hm) ⟨bb,hz,rfl,hcc⟩⟩
 have hk':((s.1.kind:Int) == 5)=true:=by simp;omega
 have HK:=hide hk
 clear hk
 go_enter Tryz.func179,Tryz.ntmps179
 go_wp2_with fail
 refine (demand_yes b _ _ _ rfl).mono ?_
 rintro e w' ⟨rfl,rfl⟩
 go_wp2_with fail
 refine (oneOf1_any p1 p2 g n c er zs _ _ HO.out).mono ?_
 rintro e w1 ⟨rfl,rfl⟩
 generalize hC:(chkOne er zs) s.1.said=C
 have HC:=hide hC
 clear hC
 by_cases hc:C=0
 rotate_left
 ·have HE:=hide (stringL_chk (l:=t.data.toList) (chk:=(chkOne er zs)) HK.out (by rw [HC.out];exact hc))
  rw [HC.out] at HE
  have hc':((C:Int) == 0)=false:=by simp;omega
  clear hc
  go_wp2_with fail
  refine (demand_no b C _ _ t s.1 s.2 rv mc mt _ H.out.at_ rfl rfl).mono ?_
  rintro e w2 ⟨⟨bb,hz,rfl,hcc⟩,hm⟩
  exact ⟨rfl,RPost.err HE.out (Mod.of_below hm) ⟨bb,hz,rfl,hcc⟩⟩
 subst hc
 go_wp2_with fail
 refine (demand_yes b _ _ _ (by rfl)).mono ?_
 rintro e w' ⟨rfl,rfl⟩
 go_wp2_with fail
 refine (next_rc b t s rv mc mt _ H.out).mono ?_
 rintro e w2 (⟨y,hy,rfl,hc,hm⟩ | ⟨f,hf,⟨bb,hz,rfl,hcc⟩,hm⟩)
 ·go_wp2
  go_ret
  exact RPost.ok (stringL_ok HK.out HC.out hy) hm rfl hc
 ·exact ⟨rfl,RPost.err (stringL_err HK.out HC.out hf) hm ⟨bb,hz,rfl,hcc⟩⟩
theorem string_inSmall (q p1 p2 g n c er:Nat) (zs:List (List UInt8)) (b:Nat) (t:ByteArray) (s:PS) (rv:Value) (mc mt:Nat) (w:World) (h:RC w b t s rv mc mt) (ho:SmallAt w q p1 p2 g n c er zs) :
 Calls Tryz.prog 179 #[.pointer (some ⟨b,0,none⟩),.func (.func 189) #[] #[.pointer (some ⟨q,0,none⟩)]] w (RPost (stringL t.data.toList (chkSmall (chkOne er zs)) s) b t rv mc mt w strV):=by
 have h1:w.cell? ⟨b,1,none⟩=some (.int .i64 s.1.kind):=h.at_.cell 1
 have h4:w.cell? ⟨b,4,none⟩=some (.string (strA s.1.said)):=h.at_.cell 4
 have H:=hide h
 clear h
 have HO:=hide ho
 clear ho
 by_cases hk:s.1.kind=5
 rotate_left
 ·have HE:=hide (stringL_kind (l:=t.data.toList) (chk:=(chkSmall (chkOne er zs))) hk)
  have hk':((s.1.kind:Int) == 5)=false:=by simp;omega
  clear hk
  go_enter Tryz.func179,Tryz.ntmps179
  go_wp2_with fail
  refine (demand_no b 4 _ _ t s.1 s.2 rv mc mt _ H.out.at_ rfl rfl).mono ?_
  rintro e w1 ⟨⟨bb,hz,rfl,hcc⟩,hm⟩
  exact ⟨rfl,RPost.err HE.out (Mod.of_below hm) ⟨bb,hz,rfl,hcc⟩⟩
 have hk':((s.1.kind:Int) == 5)=true:=by simp;omega
 have HK:=hide hk
 clear hk
 go_enter Tryz.func179,Tryz.ntmps179
 go_wp2_with fail
 refine (demand_yes b _ _ _ rfl).mono ?_
 rintro e w' ⟨rfl,rfl⟩
 go_wp2_with fail
 refine (inSmall1_any q p1 p2 g n c er zs _ _ HO.out (by have:=H.out.sz.1;omega)).mono ?_
 rintro e w1 ⟨rfl,hb⟩
 have H1:=hide (H.out.below hb)
 have HB:=hide (Mod.of_below (b:=b) hb)
 have h4:w1.cell? ⟨b,4,none⟩=some (.string (strA s.1.said)):=H1.out.at_.cell 4
 clear hb
 generalize hC:(chkSmall (chkOne er zs)) s.1.said=C
 have HC:=hide hC
 clear hC
 by_cases hc:C=0
 rotate_left
 ·have HE:=hide (stringL_chk (l:=t.data.toList) (chk:=(chkSmall (chkOne er zs))) HK.out (by rw [HC.out];exact hc))
  rw [HC.out] at HE
  have hc':((C:Int) == 0)=false:=by simp;omega
  clear hc
  go_wp2_with fail
  refine (demand_no b C _ _ t s.1 s.2 rv mc mt _ H1.out.at_ rfl rfl).mono ?_
  rintro e w2 ⟨⟨bb,hz,rfl,hcc⟩,hm⟩
  exact ⟨rfl,RPost.err HE.out (HB.out.trans (Mod.of_below hm)) ⟨bb,Nat.le_trans HB.out.size hz,rfl,hcc⟩⟩
 subst hc
 go_wp2_with fail
 refine (demand_yes b _ _ _ (by rfl)).mono ?_
 rintro e w' ⟨rfl,rfl⟩
 go_wp2_with fail
 refine (next_rc b t s rv mc mt _ H1.out).mono ?_
 rintro e w2 (⟨y,hy,rfl,hc,hm⟩ | ⟨f,hf,⟨bb,hz,rfl,hcc⟩,hm⟩)
 ·go_wp2
  go_ret
  exact RPost.ok (stringL_ok HK.out HC.out hy) (HB.out.trans hm) rfl hc
 ·exact ⟨rfl,RPost.err (stringL_err HK.out HC.out hf) (HB.out.trans hm) ⟨bb,Nat.le_trans HB.out.size hz,rfl,hcc⟩⟩
end
end Go.Proofs.YtgnkjijocdmniaaGreatDoor
