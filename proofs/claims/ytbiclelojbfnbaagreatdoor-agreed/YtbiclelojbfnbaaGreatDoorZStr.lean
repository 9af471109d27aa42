import Derived.Test.YtbiclelojbfnbaaGreatDoorZNext
import Derived.Test.YtbiclelojbfnbaaGreatDoorZPlainAsk
namespace Go.Proofs.YtbiclelojbfnbaaGreatDoor
set_option linter.unusedVariables false
set_option linter.unusedSimpArgs false
set_option maxRecDepth 100000
set_option maxHeartbeats 4000000
section
open Go.RowKit
theorem getD_map_strA (zs:List (List UInt8)) (j:Nat) (h:j < zs.length):(zs.map strA).getD j ByteArray.empty=strA (zs.getD j []):=by
 simp [List.getD_eq_getElem?_getD,h]
theorem which_any (b g n c:Nat) (zs:List (List UInt8)) (t:ByteArray) (x:Wd) (p:Nat) (rv:Value) (mc mt:Nat) (w:World) (hr:RAt w b t x p rv mc mt) (hz:TxtAt w g zs) (hn:n=zs.length) (hl:zs.length≤1000) :
  Calls Tryz.prog 303 #[.pointer (some ⟨b,0,none⟩),.slice (some ⟨g,0,none⟩) n c] w fun e w'=>e=.returned (.int .i64 (whichL zs x.spelt))∧w'=w:=by
 have h3:w.cell? ⟨b,3,none⟩=some (.string (strA x.spelt)):=hr.cell 3
 have hw:=whichL_le zs x.spelt
 have hi:=Tryz.slices_Index_string g 0 n c (zs.map strA) (strA x.spelt) w (by simp [hn]) (by omega) (fun j hj=>by
  have hj':j < zs.length:=by simpa using hj
  rw [Nat.zero_add,getD_map_strA _ _ hj'];exact hz j hj')
 rw [hn,List.take_of_length_le (by simp)] at hi
 have e:=idx_which zs x.spelt
 have e2:Lib.idxOfS (zs.map strA) (strA x.spelt)=(whichL zs x.spelt:Int) - 1:=by omega
 rw [e2] at hi
 clear e e2
 have HI:=hide hi
 clear hi
 subst hn
 go_enter Tryz.func303,Tryz.ntmps303
 go_wp2_with (go_at_call 115;refine HI.out.mono ?_;rintro e w' ⟨rfl,rfl⟩)
 go_ret
 exact ⟨ret_int (by omega),rfl⟩
theorem demand_yes (b:Nat) (B:Bool) (er:Int) (w:World) (hB:B=true) :
  Calls Tryz.prog 258 #[.pointer (some ⟨b,0,none⟩),.bool B,.int .i64 er] w fun e w'=>e=.returned (.tuple #[])∧w'=w:=by
 subst hB
 go_enter Tryz.func258,Tryz.ntmps258
 go_wp2
 go_end0
 exact ⟨rfl,rfl⟩
theorem demand_no (b er:Nat) (B:Bool) (E:Int) (t:ByteArray) (x:Wd) (p:Nat) (rv:Value) (mc mt:Nat) (w:World) (hr:RAt w b t x p rv mc mt) (hB:B=false) (hE:E=er) :
  Calls Tryz.prog 258 #[.pointer (some ⟨b,0,none⟩),.bool B,.int .i64 E] w fun e w'=>Threw ⟨er,x.pos⟩ w e w'∧Below w.heap.size w w':=by
 subst hB
 subst hE
 have h2:w.cell? ⟨b,2,none⟩=some (.int .i64 x.pos):=hr.cell 2
 clear hr
 go_enter Tryz.func258,Tryz.ntmps258
 go_wp2_with (go_at_call 118;refine (fault_any _ _ _).mono ?_;rintro e w' ⟨rfl,rfl⟩)
 exact ⟨rfl,threw_at er x.pos (Nat.le_refl _) rfl,(Below.refl _ _).alloc (Nat.le_refl _) _⟩
end
section
open Go.RowKit
structure RC (w:World) (b:Nat) (t:ByteArray) (s:PS) (rv:Value) (mc mt:Nat):Prop where
 at_:RAt w b t s.1 s.2 rv mc mt
 le:s.2≤t.size
 m:∃ m,w.cell? ⟨1,0,none⟩=some (.int .i64 m)
 b1:1 < b
 hs:t.size≤600
 sz:s.1.said.length≤600∧s.1.num≤2147483647
 e0:s.1.kind=0→s.1.spelt=[]
 nm:¬ s.1.kind=1→NoName s.1.spelt
theorem RC.step {w w':World} {b:Nat} {t:ByteArray} {s s':PS} {rv rv':Value} {mc mt:Nat} (h:RC w b t s rv mc mt) (hm:Mod b w w') (ha:RAt w' b t s'.1 s'.2 rv' mc mt) (hl:s'.2≤t.size) (hz:s'.1.said.length≤600∧s'.1.num≤2147483647) (he:s'.1.kind=0→s'.1.spelt=[]) (hn:¬ s'.1.kind=1→NoName s'.1.spelt):RC w' b t s' rv' mc mt:=by
 refine ⟨ha,hl,?_,h.b1,h.hs,hz,he,hn⟩
 obtain ⟨m,hm1⟩:=h.m
 have:=h.at_.lt
 exact ⟨m,by rw [hm.cell (p:=⟨1,0,none⟩) (by show 1 < _;have:=h.b1;omega) (by show 1≠b;have:=h.b1;omega)];exact hm1⟩
theorem RC.below {w w':World} {b:Nat} {t:ByteArray} {s:PS} {rv:Value} {mc mt:Nat} (h:RC w b t s rv mc mt) (hb:Below w.heap.size w w'):RC w' b t s rv mc mt:=
 h.step (Mod.of_below hb) (h.at_.mod hb) h.le h.sz h.e0 h.nm
theorem RC.alloc {w:World} {b:Nat} {t:ByteArray} {s:PS} {rv:Value} {mc mt:Nat} (h:RC w b t s rv mc mt) (o:Obj):RC (w.alloc o) b t s rv mc mt:=
 h.below ((Below.refl _ _).alloc (Nat.le_refl _) _)
theorem RC.drew {w:World} {b:Nat} {t:ByteArray} {s:PS} {rv:Value} {mc mt:Nat} (h:RC w b t s rv mc mt):RC w.drew b t s rv mc mt:=
 ⟨h.at_,h.le,h.m,h.b1,h.hs,h.sz,h.e0,h.nm⟩
def RPost {α:Type} (r:Except Flt (α×PS)) (b:Nat) (t:ByteArray) (rv:Value) (mc mt:Nat) (w:World) (val:α→World→Value→Prop) (e:Ending) (w':World):Prop:=
 Mod b w w'∧
 match r with
 | .ok y=>(∃ v,e=.returned v∧val y.1 w' v)∧RC w' b t y.2 rv mc mt
 | .error f=>Threw f w e w'
theorem RPost.cases {α:Type} {r:Except Flt (α×PS)} {b:Nat} {t:ByteArray} {rv:Value} {mc mt:Nat} {w w':World} {val:α→World→Value→Prop} {e:Ending} (h:RPost r b t rv mc mt w val e w') :
  (∃ y v,r=.ok y∧e=.returned v∧val y.1 w' v∧RC w' b t y.2 rv mc mt∧Mod b w w')∨(∃ f,r=.error f∧Threw f w e w'∧Mod b w w'):=by
 obtain ⟨hm,h⟩:=h
 cases r with
 | ok y=>obtain ⟨⟨v,he,hv⟩,hc⟩:=h;exact Or.inl ⟨y,v,rfl,he,hv,hc,hm⟩
 | error f=>exact Or.inr ⟨f,rfl,h,hm⟩
theorem RPost.ok {α:Type} {r:Except Flt (α×PS)} {b:Nat} {t:ByteArray} {rv:Value} {mc mt:Nat} {w w':World} {val:α→World→Value→Prop} {v:Value} {y:α×PS} (h:r=.ok y) (hm:Mod b w w') (hv:val y.1 w' v) (hc:RC w' b t y.2 rv mc mt):RPost r b t rv mc mt w val (.returned v) w':=by
 subst h;exact ⟨hm,⟨v,rfl,hv⟩,hc⟩
theorem RPost.err {α:Type} {r:Except Flt (α×PS)} {b:Nat} {t:ByteArray} {rv:Value} {mc mt:Nat} {w w':World} {val:α→World→Value→Prop} {e:Ending} {f:Flt} (h:r=.error f) (hm:Mod b w w') (ht:Threw f w e w'):RPost r b t rv mc mt w val e w':=by
 subst h;exact ⟨hm,ht⟩
theorem NextPost.cases {r:Except Flt PS} {b:Nat} {t:ByteArray} {rv:Value} {mc mt:Nat} {w w':World} {e:Ending} (h:NextPost r b t rv mc mt w e w') :
  (∃ y,r=.ok y∧e=.returned (.tuple #[])∧RAt w' b t y.1 y.2 rv mc mt∧Mod b w w')∨(∃ f,r=.error f∧Threw f w e w'∧Mod b w w'):=by
 obtain ⟨hm,h⟩:=h
 cases r with
 | ok y=>exact Or.inl ⟨y,rfl,h.1,h.2,hm⟩
 | error f=>exact Or.inr ⟨f,rfl,h,hm⟩
theorem next_rc (b:Nat) (t:ByteArray) (s:PS) (rv:Value) (mc mt:Nat) (w:World) (h:RC w b t s rv mc mt) :
  Calls Tryz.prog 172 #[.pointer (some ⟨b,0,none⟩)] w fun e w'=>
   (∃ y,nextL t.data.toList s.2=.ok y∧e=.returned (.tuple #[])∧RC w' b t y rv mc mt∧Mod b w w')∨(∃ f,nextL t.data.toList s.2=.error f∧Threw f w e w'∧Mod b w w'):=by
 obtain ⟨m,hm⟩:=h.m
 refine (next_any b t s.1 s.2 rv mc mt m w (by have:=h.hs;omega) h.le h.at_ hm).mono ?_
 intro e w' hp
 rcases hp.cases with ⟨y,hy,he,ha,hmod⟩ | hf
 ·refine Or.inl ⟨y,hy,he,h.step hmod ha ?_ ?_ (nextL_le t.data.toList s.2 (by simpa using h.le) y hy).2.2.2.1 (nextL_noName t.data.toList s.2 y hy),hmod⟩
  ·have:=(nextL_le t.data.toList s.2 (by simpa using h.le) y hy).2.1
   simpa using this
  ·have h1:=nextL_small t.data.toList s.2 y hy
   have h2:=h.hs
   have h3:t.data.toList.length=t.size:=by simp
   exact ⟨by omega,h1.2⟩
 ·exact Or.inr hf
theorem mayL_no {l:List UInt8} {zs:List (List UInt8)} {s:PS} (h:whichL zs s.1.spelt=0):mayL l zs s=.ok (0,s):=by unfold mayL;rw [if_pos h]
theorem mayL_ok {l:List UInt8} {zs:List (List UInt8)} {s y:PS} (h:¬ whichL zs s.1.spelt=0) (hn:nextL l s.2=.ok y):mayL l zs s=.ok (whichL zs s.1.spelt,y):=by unfold mayL;rw [if_neg h,hn]
theorem mayL_err {l:List UInt8} {zs:List (List UInt8)} {s:PS} {f:Flt} (h:¬ whichL zs s.1.spelt=0) (hn:nextL l s.2=.error f):mayL l zs s=.error f:=by unfold mayL;rw [if_neg h,hn]
theorem passL_no {l:List UInt8} {zs:List (List UInt8)} {s:PS} (h:whichL zs s.1.spelt=0):passL l zs s=.error ⟨4,s.1.pos⟩:=by unfold passL;rw [if_pos h]
theorem passL_ok {l:List UInt8} {zs:List (List UInt8)} {s y:PS} (h:¬ whichL zs s.1.spelt=0) (hn:nextL l s.2=.ok y):passL l zs s=.ok (whichL zs s.1.spelt,y):=by unfold passL;rw [if_neg h,hn]
theorem passL_err {l:List UInt8} {zs:List (List UInt8)} {s:PS} {f:Flt} (h:¬ whichL zs s.1.spelt=0) (hn:nextL l s.2=.error f):passL l zs s=.error f:=by unfold passL;rw [if_neg h,hn]
def numV (i:Nat) (_:World) (v:Value):Prop:=v=.int .i64 i
theorem may_any (b g n c:Nat) (zs:List (List UInt8)) (t:ByteArray) (s:PS) (rv:Value) (mc mt:Nat) (w:World) (h:RC w b t s rv mc mt) (hz:TxtAt w g zs) (hn:n=zs.length) (hl:zs.length≤1000) :
  Calls Tryz.prog 246 #[.pointer (some ⟨b,0,none⟩),.slice (some ⟨g,0,none⟩) n c] w (RPost (mayL t.data.toList zs s) b t rv mc mt w numV):=by
 have hw:=hide (which_any b g n c zs t s.1 s.2 rv mc mt w h.at_ hz hn hl)
 have hle:=whichL_le zs s.1.spelt
 have H:=hide h
 clear hz hn
 by_cases h0:whichL zs s.1.spelt=0
 ·have h0':¬ (0:Int) < (whichL zs s.1.spelt:Int):=by omega
  have HE:=hide (mayL_no (l:=t.data.toList) h0)
  have H0:=hide h0
  clear h0 h
  go_enter Tryz.func246,Tryz.ntmps246
  go_wp2_with (go_at_call 303;refine hw.out.mono ?_;rintro e w' ⟨rfl,rfl⟩)
  go_ret
  exact RPost.ok HE.out (Mod.refl _ _) (by unfold numV;rw [H0.out];rfl) H.out
 ·have h0':(0:Int) < (whichL zs s.1.spelt:Int):=by omega
  have H0:=hide h0
  clear h0 h
  go_enter Tryz.func246,Tryz.ntmps246
  go_wp2_with (go_at_call 303;refine hw.out.mono ?_;rintro e w' ⟨rfl,rfl⟩)
  refine (next_rc b t s rv mc mt _ H.out).mono ?_
  rintro e w1 (⟨y,hy,rfl,hc,hm⟩ | ⟨f,hf,⟨bb,hz,rfl,hcc⟩,hm⟩)
  ·go_wp2
   go_ret
   exact RPost.ok (mayL_ok H0.out hy) hm rfl hc
  ·exact ⟨rfl,RPost.err (mayL_err H0.out hf) hm ⟨bb,hz,rfl,hcc⟩⟩
theorem pass_any (b g n c:Nat) (zs:List (List UInt8)) (t:ByteArray) (s:PS) (rv:Value) (mc mt:Nat) (w:World) (h:RC w b t s rv mc mt) (hz:TxtAt w g zs) (hn:n=zs.length) (hl:zs.length≤1000) :
  Calls Tryz.prog 243 #[.pointer (some ⟨b,0,none⟩),.slice (some ⟨g,0,none⟩) n c] w (RPost (passL t.data.toList zs s) b t rv mc mt w numV):=by
 have hw:=hide (which_any b g n c zs t s.1 s.2 rv mc mt w h.at_ hz hn hl)
 have hle:=whichL_le zs s.1.spelt
 have H:=hide h
 clear hz hn
 by_cases h0:whichL zs s.1.spelt=0
 ·have h0':¬ (0:Int) < (whichL zs s.1.spelt:Int):=by omega
  have HE:=hide (passL_no (l:=t.data.toList) h0)
  have H0:=hide h0
  clear h0 h
  go_enter Tryz.func243,Tryz.ntmps243
  go_wp2_with (go_at_call 303;refine hw.out.mono ?_;rintro e w' ⟨rfl,rfl⟩)
  refine (demand_no b 4 _ _ t s.1 s.2 rv mc mt _ H.out.at_ (by simp;omega) rfl).mono ?_
  rintro e w1 ⟨⟨bb,hz,rfl,hcc⟩,hm⟩
  exact ⟨rfl,RPost.err HE.out (Mod.of_below hm) ⟨bb,hz,rfl,hcc⟩⟩
 ·have h0':(0:Int) < (whichL zs s.1.spelt:Int):=by omega
  have H0:=hide h0
  clear h0 h
  go_enter Tryz.func243,Tryz.ntmps243
  go_wp2_with (go_at_call 303;refine hw.out.mono ?_;rintro e w' ⟨rfl,rfl⟩)
  refine (demand_yes b _ _ _ (by simp;omega)).mono ?_
  rintro e w' ⟨rfl,rfl⟩
  go_wp2_with fail
  refine (next_rc b t s rv mc mt _ H.out).mono ?_
  rintro e w1 (⟨y,hy,rfl,hc,hm⟩ | ⟨f,hf,⟨bb,hz,rfl,hcc⟩,hm⟩)
  ·go_wp2
   go_ret
   exact RPost.ok (passL_ok H0.out hy) hm rfl hc
  ·exact ⟨rfl,RPost.err (passL_err H0.out hf) hm ⟨bb,hz,rfl,hcc⟩⟩
end
section
open Go.RowKit
def chkAny (_:List UInt8):Nat:=0
def chkName (x:List UInt8):Nat:=if isNameL x then 0 else 7
def chkOne (er:Nat) (zs:List (List UInt8)) (x:List UInt8):Nat:=if 0 < whichL zs x then 0 else er
def chkSmall (c:List UInt8→Nat) (x:List UInt8):Nat:=c (smallL x)
theorem strA_list (x:List UInt8):(strA x).data.toList=x:=rfl
theorem anything_any (s:ByteArray) (w:World):Calls Tryz.prog 165 #[.string s] w fun e w'=>e=.returned (.int .i64 0)∧w'=w:=by
 go_enter Tryz.func165,Tryz.ntmps165
 go_wp2
 go_ret
 exact ⟨rfl,rfl⟩
theorem isName_any (x:List UInt8) (w:World) (hs:x.length≤1000) :
  Calls Tryz.prog 305 #[.string (strA x)] w fun e w'=>e=.returned (.bool (isNameL x))∧w'=w:=by
 have hle:=nameLen_le x
 have hsz:(strA x).size=x.length:=rfl
 have hL:=hide (nameLength_any (strA x) w (by rw [hsz];unfold maxLen;omega))
 by_cases h0:x.length=0
 ·have hx:x=[]:=List.eq_nil_of_length_eq_zero h0
  subst hx
  have h0':(strA []).toList=[]:=toList_size0 rfl
  have h0'':(strA []).toList.isEmpty=true:=by rw [h0'];rfl
  go_enter Tryz.func305,Tryz.ntmps305
  go_wp2
  go_ret
  exact ⟨rfl,rfl⟩
 ·have h0':¬ (strA x).toList=[]:=toList_sizePos (by rw [hsz];exact h0)
  have h0'':(strA x).toList.isEmpty=false:=by simpa using h0'
  go_enter Tryz.func305,Tryz.ntmps305
  go_wp2_with (go_at_call 309;refine hL.out.mono ?_;rintro e w' ⟨rfl,rfl⟩)
  go_ret
  refine ⟨ret_bool ?_,rfl⟩
  rw [strA_list]
  unfold isNameL
  have:x.isEmpty=false:=by
   cases x with
   | nil=>exact absurd rfl h0
   | cons a r=>rfl
  rw [this,Bool.eq_iff_iff]
  simp
  omega
theorem aName_any (x:List UInt8) (w:World) (hs:x.length≤1000) :
  Calls Tryz.prog 248 #[.string (strA x)] w fun e w'=>e=.returned (.int .i64 (chkName x))∧w'=w:=by
 have hN:=hide (isName_any x w hs)
 cases h:isNameL x
 ·have HE:Hid (chkName x=7):=by show _=_;unfold chkName;rw [h];rfl
  go_enter Tryz.func248,Tryz.ntmps248
  go_wp2_with (go_at_call 305;refine hN.out.mono ?_;rintro e w' ⟨rfl,rfl⟩)
  go_ret
  exact ⟨ret_int (by rw [HE.out];rfl),rfl⟩
 ·have HE:Hid (chkName x=0):=by show _=_;unfold chkName;rw [h];rfl
  go_enter Tryz.func248,Tryz.ntmps248
  go_wp2_with (go_at_call 305;refine hN.out.mono ?_;rintro e w' ⟨rfl,rfl⟩)
  go_ret
  exact ⟨ret_int (by rw [HE.out];rfl),rfl⟩
theorem contains_any (g n c:Nat) (zs:List (List UInt8)) (x:List UInt8) (w:World) (hz:TxtAt w g zs) (hn:n=zs.length) (hl:zs.length≤1000) :
  Calls Tryz.prog 79 #[.slice (some ⟨g,0,none⟩) n c,.string (strA x)] w fun e w'=>e=.returned (.bool (decide (0 < whichL zs x)))∧w'=w:=by
 have hi:=Tryz.slices_Contains_string g 0 n c (zs.map strA) (strA x) w (by simp [hn]) (by omega) (fun j hj=>by
  have hj':j < zs.length:=by simpa using hj
  rw [Nat.zero_add,getD_map_strA _ _ hj'];exact hz j hj')
 rw [hn,List.take_of_length_le (by simp),contains_which] at hi
 rw [hn]
 exact hi
def OneAt (w:World) (p1 p2 g n c er:Nat) (zs:List (List UInt8)):Prop:=
 w.cell? ⟨p1,0,none⟩=some (.slice (some ⟨g,0,none⟩) n c)∧w.cell? ⟨p2,0,none⟩=some (.int .i64 er)∧TxtAt w g zs∧n=zs.length∧zs.length≤1000
theorem oneOf1_any (p1 p2 g n c er:Nat) (zs:List (List UInt8)) (x:List UInt8) (w:World) (h:OneAt w p1 p2 g n c er zs) :
  Calls Tryz.prog 256 #[.string (strA x),.pointer (some ⟨p1,0,none⟩),.pointer (some ⟨p2,0,none⟩)] w fun e w'=>e=.returned (.int .i64 (chkOne er zs x))∧w'=w:=by
 obtain ⟨h1,h2,hz,hn,hl⟩:=h
 have hC:=hide (contains_any g n c zs x w hz hn hl)
 clear hz hn
 by_cases h:0 < whichL zs x
 ·have HE:Hid (chkOne er zs x=0):=by show _=_;unfold chkOne;rw [if_pos h]
  have hd:decide (0 < whichL zs x)=true:=by simpa using h
  rw [hd] at hC
  go_enter Tryz.func256,Tryz.ntmps256
  go_wp2_with (go_at_call 79;refine hC.out.mono ?_;rintro e w' ⟨rfl,rfl⟩)
  go_ret
  exact ⟨ret_int (by rw [HE.out];rfl),rfl⟩
 ·have HE:Hid (chkOne er zs x=er):=by show _=_;unfold chkOne;rw [if_neg h]
  have hd:decide (0 < whichL zs x)=false:=by simpa using h
  rw [hd] at hC
  go_enter Tryz.func256,Tryz.ntmps256
  go_wp2_with (go_at_call 79;refine hC.out.mono ?_;rintro e w' ⟨rfl,rfl⟩)
  go_ret
  exact ⟨ret_int (by rw [HE.out]),rfl⟩
theorem oneOf_any (er:Int) (g n c:Nat) (w:World) :
  Calls Tryz.prog 168 #[.int .i64 er,.slice (some ⟨g,0,none⟩) n c] w fun e w'=>e=.returned (.func (.func 256) #[] #[.pointer (some ⟨w.heap.size+1,0,none⟩),.pointer (some ⟨w.heap.size,0,none⟩)])∧w'=(w.alloc (.cells #[.int .i64 er] 39)).alloc (.cells #[.slice (some ⟨g,0,none⟩) n c] 60):=by
 have hmf:∀ (fn:Fn) (first cap:Array Value) (w:World),(Instr.makeFunc fn first cap).run Tryz.prog w=.ok (.func fn first cap) w:=fun _ _ _ _=>rfl
 go_enter Tryz.func168,Tryz.ntmps168
 go_wp2
 go_ret
 exact ⟨rfl,rfl⟩
theorem inSmall_any (f:Nat) (a1 a2:Value) (w:World) :
  Calls Tryz.prog 167 #[.func (.func f) #[] #[a1,a2]] w fun e w'=>e=.returned (.func (.func 255) #[] #[.pointer (some ⟨w.heap.size,0,none⟩)])∧w'=w.alloc (.cells #[.func (.func f) #[] #[a1,a2]] 279):=by
 have hmf:∀ (fn:Fn) (first cap:Array Value) (w:World),(Instr.makeFunc fn first cap).run Tryz.prog w=.ok (.func fn first cap) w:=fun _ _ _ _=>rfl
 go_enter Tryz.func167,Tryz.ntmps167
 go_wp2
 go_ret
 exact ⟨rfl,rfl⟩
def SmallAt (w:World) (q p1 p2 g n c er:Nat) (zs:List (List UInt8)):Prop:=
 w.cell? ⟨q,0,none⟩=some (.func (.func 256) #[] #[.pointer (some ⟨p1,0,none⟩),.pointer (some ⟨p2,0,none⟩)])∧OneAt w p1 p2 g n c er zs
theorem TxtAt.below {w w':World} {g:Nat} {zs:List (List UInt8)} (h:TxtAt w g zs) (hb:Below w.heap.size w w'):TxtAt w' g zs:=fun j hj=>by
 have:=h j hj
 rw [hb.cell (p:=⟨g,j,none⟩) (cell_lt this)];exact this
theorem OneAt.below {w w':World} {p1 p2 g n c er:Nat} {zs:List (List UInt8)} (h:OneAt w p1 p2 g n c er zs) (hb:Below w.heap.size w w'):OneAt w' p1 p2 g n c er zs:=by
 obtain ⟨h1,h2,h3,h4,h5⟩:=h
 exact ⟨by rw [hb.cell (p:=⟨p1,0,none⟩) (cell_lt h1)];exact h1,by rw [hb.cell (p:=⟨p2,0,none⟩) (cell_lt h2)];exact h2,h3.below hb,h4,h5⟩
theorem inSmall1_any (q p1 p2 g n c er:Nat) (zs:List (List UInt8)) (x:List UInt8) (w:World) (h:SmallAt w q p1 p2 g n c er zs) (hx:x.length≤1000) :
  Calls Tryz.prog 255 #[.string (strA x),.pointer (some ⟨q,0,none⟩)] w fun e w'=>e=.returned (.int .i64 (chkSmall (chkOne er zs) x))∧Below w.heap.size w w':=by
 obtain ⟨hq,hO⟩:=h
 have HO:=hide hO
 have HQ:=hide hq
 clear hO
 have hs:=hide (fun W=>small_any (strA x) W (by rw [strA_size];omega))
 go_enter Tryz.func255,Tryz.ntmps255
 go_wp2_with fail
 go_region_with (first | (go_at_call 247;refine (hs.out _).mono ?_;rintro e w1 ⟨rfl,hb⟩;have hq1:=(hb.cell (p:=⟨q,0,none⟩) (cell_lt HQ.out)).trans HQ.out;skip) | (go_at_call 256;refine (oneOf1_any p1 p2 g n c er zs (smallL x) _ (HO.out.below (below_drew hb))).mono ?_;rintro e w2 ⟨rfl,rfl⟩;skip))
 all_goals go_wp2
 all_goals go_ret
 all_goals exact ⟨rfl,below_drew hb⟩
end
section
open Go.RowKit
def strV (x:List UInt8) (_:World) (v:Value):Prop:=v=.string (strA x)
theorem stringL_kind {l:List UInt8} {chk:List UInt8→Nat} {s:PS} (h:¬ s.1.kind=5):stringL l chk s=.error ⟨4,s.1.pos⟩:=by unfold stringL;rw [if_neg h]
theorem stringL_chk {l:List UInt8} {chk:List UInt8→Nat} {s:PS} (h:s.1.kind=5) (hc:¬ chk s.1.said=0):stringL l chk s=.error ⟨chk s.1.said,s.1.pos⟩:=by unfold stringL;rw [if_pos h,if_neg hc]
theorem stringL_ok {l:List UInt8} {chk:List UInt8→Nat} {s y:PS} (h:s.1.kind=5) (hc:chk s.1.said=0) (hn:nextL l s.2=.ok y):stringL l chk s=.ok (s.1.said,y):=by unfold stringL;rw [if_pos h,if_pos hc,hn]
theorem stringL_err {l:List UInt8} {chk:List UInt8→Nat} {s:PS} {f:Flt} (h:s.1.kind=5) (hc:chk s.1.said=0) (hn:nextL l s.2=.error f):stringL l chk s=.error f:=by unfold stringL;rw [if_pos h,if_pos hc,hn]
theorem string_anything (b:Nat) (t:ByteArray) (s:PS) (rv:Value) (mc mt:Nat) (w:World) (h:RC w b t s rv mc mt) :
  Calls Tryz.prog 245 #[.pointer (some ⟨b,0,none⟩),.func (.func 165) #[] #[]] w (RPost (stringL t.data.toList chkAny s) b t rv mc mt w strV):=by
 have h1:w.cell? ⟨b,1,none⟩=some (.int .i64 s.1.kind):=h.at_.cell 1
 have h4:w.cell? ⟨b,4,none⟩=some (.string (strA s.1.said)):=h.at_.cell 4
 have H:=hide h
 clear h
 by_cases hk:s.1.kind=5
 rotate_left
 ·have HE:=hide (stringL_kind (l:=t.data.toList) (chk:=chkAny) hk)
  have hk':((s.1.kind:Int) == 5)=false:=by simp;omega
  clear hk
  go_enter Tryz.func245,Tryz.ntmps245
  go_wp2_with fail
  refine (demand_no b 4 _ _ t s.1 s.2 rv mc mt _ H.out.at_ rfl rfl).mono ?_
  rintro e w1 ⟨⟨bb,hz,rfl,hcc⟩,hm⟩
  exact ⟨rfl,RPost.err HE.out (Mod.of_below hm) ⟨bb,hz,rfl,hcc⟩⟩
 have hk':((s.1.kind:Int) == 5)=true:=by simp;omega
 have HK:=hide hk
 clear hk
 go_enter Tryz.func245,Tryz.ntmps245
 go_wp2_with fail
 refine (demand_yes b _ _ _ rfl).mono ?_
 rintro e w' ⟨rfl,rfl⟩
 go_wp2_with fail
 refine (anything_any _ _).mono ?_
 rintro e w1 ⟨rfl,rfl⟩
 go_wp2_with fail
 refine (demand_yes b _ _ _ (by rfl)).mono ?_
 rintro e w' ⟨rfl,rfl⟩
 go_wp2_with fail
 refine (next_rc b t s rv mc mt _ H.out).mono ?_
 rintro e w2 (⟨y,hy,rfl,hc,hm⟩ | ⟨f,hf,⟨bb,hz,rfl,hcc⟩,hm⟩)
 ·go_wp2
  go_ret
  exact RPost.ok (stringL_ok HK.out rfl hy) hm rfl hc
 ·exact ⟨rfl,RPost.err (stringL_err HK.out rfl hf) hm ⟨bb,hz,rfl,hcc⟩⟩
theorem string_aName (b:Nat) (t:ByteArray) (s:PS) (rv:Value) (mc mt:Nat) (w:World) (h:RC w b t s rv mc mt) :
  Calls Tryz.prog 245 #[.pointer (some ⟨b,0,none⟩),.func (.func 248) #[] #[]] w (RPost (stringL t.data.toList chkName s) b t rv mc mt w strV):=by
 have h1:w.cell? ⟨b,1,none⟩=some (.int .i64 s.1.kind):=h.at_.cell 1
 have h4:w.cell? ⟨b,4,none⟩=some (.string (strA s.1.said)):=h.at_.cell 4
 have H:=hide h
 clear h
 by_cases hk:s.1.kind=5
 rotate_left
 ·have HE:=hide (stringL_kind (l:=t.data.toList) (chk:=chkName) hk)
  have hk':((s.1.kind:Int) == 5)=false:=by simp;omega
  clear hk
  go_enter Tryz.func245,Tryz.ntmps245
  go_wp2_with fail
  refine (demand_no b 4 _ _ t s.1 s.2 rv mc mt _ H.out.at_ rfl rfl).mono ?_
  rintro e w1 ⟨⟨bb,hz,rfl,hcc⟩,hm⟩
  exact ⟨rfl,RPost.err HE.out (Mod.of_below hm) ⟨bb,hz,rfl,hcc⟩⟩
 have hk':((s.1.kind:Int) == 5)=true:=by simp;omega
 have HK:=hide hk
 clear hk
 go_enter Tryz.func245,Tryz.ntmps245
 go_wp2_with fail
 refine (demand_yes b _ _ _ rfl).mono ?_
 rintro e w' ⟨rfl,rfl⟩
 go_wp2_with fail
 refine (aName_any _ _ (by have:=H.out.sz.1;omega)).mono ?_
 rintro e w1 ⟨rfl,rfl⟩
 generalize hC:chkName s.1.said=C
 have HC:=hide hC
 clear hC
 by_cases hc:C=0
 rotate_left
 ·have HE:=hide (stringL_chk (l:=t.data.toList) (chk:=chkName) HK.out (by rw [HC.out];exact hc))
  rw [HC.out] at HE
  have hc':((C:Int) == 0)=false:=by simp;omega
  clear hc
  go_wp2_with fail
  refine (demand_no b C _ _ t s.1 s.2 rv mc mt _ H.out.at_ rfl rfl).mono ?_
  rintro e w2 ⟨⟨bb,hz,rfl,hcc⟩,hm⟩
  exact ⟨rfl,RPost.err HE.out (Mod.of_below hm) ⟨bb,hz,rfl,hcc⟩⟩
 subst hc
 go_wp2_with fail
 refine (demand_yes b _ _ _ (by rfl)).mono ?_
 rintro e w' ⟨rfl,rfl⟩
 go_wp2_with fail
 refine (next_rc b t s rv mc mt _ H.out).mono ?_
 rintro e w2 (⟨y,hy,rfl,hc,hm⟩ | ⟨f,hf,⟨bb,hz,rfl,hcc⟩,hm⟩)
 ·go_wp2
  go_ret
  exact RPost.ok (stringL_ok HK.out HC.out hy) hm rfl hc
 ·exact ⟨rfl,RPost.err (stringL_err HK.out HC.out hf) hm ⟨bb,hz,rfl,hcc⟩⟩
theorem string_oneOf (p1 p2 g n c er:Nat) (zs:List (List UInt8)) (b:Nat) (t:ByteArray) (s:PS) (rv:Value) (mc mt:Nat) (w:World) (h:RC w b t s rv mc mt) (ho:OneAt w p1 p2 g n c er zs) :
  Calls Tryz.prog 245 #[.pointer (some ⟨b,0,none⟩),.func (.func 256) #[] #[.pointer (some ⟨p1,0,none⟩),.pointer (some ⟨p2,0,none⟩)]] w (RPost (stringL t.data.toList (chkOne er zs) s) b t rv mc mt w strV):=by
 have h1:w.cell? ⟨b,1,none⟩=some (.int .i64 s.1.kind):=h.at_.cell 1
 have h4:w.cell? ⟨b,4,none⟩=some (.string (strA s.1.said)):=h.at_.cell 4
 have H:=hide h
 clear h
 have HO:=hide ho
 clear ho
 by_cases hk:s.1.kind=5
 rotate_left
 ·have HE:=hide (stringL_kind (l:=t.data.toList) (chk:=(chkOne er zs)) hk)
  have hk':((s.1.kind:Int) == 5)=false:=by simp;omega
  clear hk
  go_enter Tryz.func245,Tryz.ntmps245
  go_wp2_with fail
  refine (demand_no b 4 _ _ t s.1 s.2 rv mc mt _ H.out.at_ rfl rfl).mono ?_
  rintro e w1 ⟨⟨bb,hz,rfl,hcc⟩,hm⟩
  exact ⟨rfl,RPost.err HE.out (Mod.of_below hm) ⟨bb,hz,rfl,hcc⟩⟩
 have hk':((s.1.kind:Int) == 5)=true:=by simp;omega
 have HK:=hide hk
 clear hk
 go_enter Tryz.func245,Tryz.ntmps245
 go_wp2_with fail
 refine (demand_yes b _ _ _ rfl).mono ?_
 rintro e w' ⟨rfl,rfl⟩
 go_wp2_with fail
 refine (oneOf1_any p1 p2 g n c er zs _ _ HO.out).mono ?_
 rintro e w1 ⟨rfl,rfl⟩
 generalize hC:(chkOne er zs) s.1.said=C
 have HC:=hide hC
 clear hC
 by_cases hc:C=0
 rotate_left
 ·have HE:=hide (stringL_chk (l:=t.data.toList) (chk:=(chkOne er zs)) HK.out (by rw [HC.out];exact hc))
  rw [HC.out] at HE
  have hc':((C:Int) == 0)=false:=by simp;omega
  clear hc
  go_wp2_with fail
  refine (demand_no b C _ _ t s.1 s.2 rv mc mt _ H.out.at_ rfl rfl).mono ?_
  rintro e w2 ⟨⟨bb,hz,rfl,hcc⟩,hm⟩
  exact ⟨rfl,RPost.err HE.out (Mod.of_below hm) ⟨bb,hz,rfl,hcc⟩⟩
 subst hc
 go_wp2_with fail
 refine (demand_yes b _ _ _ (by rfl)).mono ?_
 rintro e w' ⟨rfl,rfl⟩
 go_wp2_with fail
 refine (next_rc b t s rv mc mt _ H.out).mono ?_
 rintro e w2 (⟨y,hy,rfl,hc,hm⟩ | ⟨f,hf,⟨bb,hz,rfl,hcc⟩,hm⟩)
 ·go_wp2
  go_ret
  exact RPost.ok (stringL_ok HK.out HC.out hy) hm rfl hc
 ·exact ⟨rfl,RPost.err (stringL_err HK.out HC.out hf) hm ⟨bb,hz,rfl,hcc⟩⟩
theorem string_inSmall (q p1 p2 g n c er:Nat) (zs:List (List UInt8)) (b:Nat) (t:ByteArray) (s:PS) (rv:Value) (mc mt:Nat) (w:World) (h:RC w b t s rv mc mt) (ho:SmallAt w q p1 p2 g n c er zs) :
  Calls Tryz.prog 245 #[.pointer (some ⟨b,0,none⟩),.func (.func 255) #[] #[.pointer (some ⟨q,0,none⟩)]] w (RPost (stringL t.data.toList (chkSmall (chkOne er zs)) s) b t rv mc mt w strV):=by
 have h1:w.cell? ⟨b,1,none⟩=some (.int .i64 s.1.kind):=h.at_.cell 1
 have h4:w.cell? ⟨b,4,none⟩=some (.string (strA s.1.said)):=h.at_.cell 4
 have H:=hide h
 clear h
 have HO:=hide ho
 clear ho
 by_cases hk:s.1.kind=5
 rotate_left
 ·have HE:=hide (stringL_kind (l:=t.data.toList) (chk:=(chkSmall (chkOne er zs))) hk)
  have hk':((s.1.kind:Int) == 5)=false:=by simp;omega
  clear hk
  go_enter Tryz.func245,Tryz.ntmps245
  go_wp2_with fail
  refine (demand_no b 4 _ _ t s.1 s.2 rv mc mt _ H.out.at_ rfl rfl).mono ?_
  rintro e w1 ⟨⟨bb,hz,rfl,hcc⟩,hm⟩
  exact ⟨rfl,RPost.err HE.out (Mod.of_below hm) ⟨bb,hz,rfl,hcc⟩⟩
 have hk':((s.1.kind:Int) == 5)=true:=by simp;omega
 have HK:=hide hk
 clear hk
 go_enter Tryz.func245,Tryz.ntmps245
 go_wp2_with fail
 refine (demand_yes b _ _ _ rfl).mono ?_
 rintro e w' ⟨rfl,rfl⟩
 go_wp2_with fail
 refine (inSmall1_any q p1 p2 g n c er zs _ _ HO.out (by have:=H.out.sz.1;omega)).mono ?_
 rintro e w1 ⟨rfl,hb⟩
 have H1:=hide (H.out.below hb)
 have HB:=hide (Mod.of_below (b:=b) hb)
 have h4:w1.cell? ⟨b,4,none⟩=some (.string (strA s.1.said)):=H1.out.at_.cell 4
 clear hb
 generalize hC:(chkSmall (chkOne er zs)) s.1.said=C
 have HC:=hide hC
 clear hC
 by_cases hc:C=0
 rotate_left
 ·have HE:=hide (stringL_chk (l:=t.data.toList) (chk:=(chkSmall (chkOne er zs))) HK.out (by rw [HC.out];exact hc))
  rw [HC.out] at HE
  have hc':((C:Int) == 0)=false:=by simp;omega
  clear hc
  go_wp2_with fail
  refine (demand_no b C _ _ t s.1 s.2 rv mc mt _ H1.out.at_ rfl rfl).mono ?_
  rintro e w2 ⟨⟨bb,hz,rfl,hcc⟩,hm⟩
  exact ⟨rfl,RPost.err HE.out (HB.out.trans (Mod.of_below hm)) ⟨bb,Nat.le_trans HB.out.size hz,rfl,hcc⟩⟩
 subst hc
 go_wp2_with fail
 refine (demand_yes b _ _ _ (by rfl)).mono ?_
 rintro e w' ⟨rfl,rfl⟩
 go_wp2_with fail
 refine (next_rc b t s rv mc mt _ H1.out).mono ?_
 rintro e w2 (⟨y,hy,rfl,hc,hm⟩ | ⟨f,hf,⟨bb,hz,rfl,hcc⟩,hm⟩)
 ·go_wp2
  go_ret
  exact RPost.ok (stringL_ok HK.out HC.out hy) (HB.out.trans hm) rfl hc
 ·exact ⟨rfl,RPost.err (stringL_err HK.out HC.out hf) (HB.out.trans hm) ⟨bb,Nat.le_trans HB.out.size hz,rfl,hcc⟩⟩
end
end Go.Proofs.YtbiclelojbfnbaaGreatDoor
