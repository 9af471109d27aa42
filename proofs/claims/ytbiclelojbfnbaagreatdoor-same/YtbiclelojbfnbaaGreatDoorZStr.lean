import Derived.Test.YtbiclelojbfnbaaGreatDoorZNext
import Derived.Test.YtbiclelojbfnbaaGreatDoorZPlainParse
namespace Go.Proofs.YtbiclelojbfnbaaGreatDoor
set_option linter.unusedVariables false
set_option linter.unusedSimpArgs false
set_option maxRecDepth 100000
set_option maxHeartbeats 4000000
section
open Go.RowKit
theorem Qf9 (zs:List (List UInt8)) (j:Nat) (h:j < zs.length):(zs.map Qad).getD j ByteArray.empty=Qad (zs.getD j []):=by
 simp [List.getD_eq_getElem?_getD,h]
theorem Qf3 (b g n c:Nat) (zs:List (List UInt8)) (t:ByteArray) (x:Wd) (p:Nat) (rv:Value) (mc mt:Nat) (w:World) (hr:RAt w b t x p rv mc mt) (hz:TxtAt w g zs) (hn:n=zs.length) (hl:zs.length≤1000) :
 Calls Tryz.prog 303 #[.pointer (some ⟨b,0,none⟩),.slice (some ⟨g,0,none⟩) n c] w fun e w'=>e=.returned (.int .i64 (whichL zs x.spelt))∧w'=w:=by
 have h3:w.cell? ⟨b,3,none⟩=some (.string (Qad x.spelt)):=hr.cell 3
 have hw:=QbW zs x.spelt
 have hi:=Tryz.slices_Index_string g 0 n c (zs.map Qad) (Qad x.spelt) w (by simp [hn]) (by omega) (fun j hj=>by
  have hj':j < zs.length:=by simpa using hj
  rw [Nat.zero_add,Qf9 _ _ hj'];exact hz j hj')
 rw [hn,List.take_of_length_le (by simp)] at hi
 have e:=Ql1 zs x.spelt
 have e2:Lib.idxOfS (zs.map Qad) (Qad x.spelt)=(whichL zs x.spelt:Int) - 1:=by omega
 rw [e2] at hi
 clear e e2
 have HI:=Qab hi
 clear hi
 subst hn
 go_enter Tryz.func303,Tryz.ntmps303
 go_wp2_with (go_at_call 115;refine HI.out.mono ?_;rintro e w' ⟨rfl,rfl⟩)
 go_ret
 exact ⟨Qct (by omega),rfl⟩
theorem QaI (b:Nat) (B:Bool) (er:Int) (w:World) (hB:B=true) :
 Calls Tryz.prog 258 #[.pointer (some ⟨b,0,none⟩),.bool B,.int .i64 er] w fun e w'=>e=.returned (.tuple #[])∧w'=w:=by
 subst hB
 go_enter Tryz.func258,Tryz.ntmps258
 go_wp2
 go_end0
 exact ⟨rfl,rfl⟩
theorem Qbr (b er:Nat) (B:Bool) (E:Int) (t:ByteArray) (x:Wd) (p:Nat) (rv:Value) (mc mt:Nat) (w:World) (hr:RAt w b t x p rv mc mt) (hB:B=false) (hE:E=er) :
 Calls Tryz.prog 258 #[.pointer (some ⟨b,0,none⟩),.bool B,.int .i64 E] w fun e w'=>Qc6 ⟨er,x.pos⟩ w e w'∧Below w.heap.size w w':=by
 subst hB
 subst hE
 have h2:w.cell? ⟨b,2,none⟩=some (.int .i64 x.pos):=hr.cell 2
 clear hr
 go_enter Tryz.func258,Tryz.ntmps258
 go_wp2_with (go_at_call 118;refine (QaB _ _ _).mono ?_;rintro e w' ⟨rfl,rfl⟩)
 exact ⟨rfl,Qa5 er x.pos (Nat.le_refl _) rfl,(Below.refl _ _).alloc (Nat.le_refl _) _⟩
end
section
open Go.RowKit
structure RC (w:World) (b:Nat) (t:ByteArray) (s:PS) (rv:Value) (mc mt:Nat):Prop where
 at_:RAt w b t s.1 s.2 rv mc mt
 le:s.2≤t.size
 m:∃ m,w.cell? ⟨1,0,none⟩=some (.int .i64 m)
 b1:1 < b
 hs:t.size≤600
 sz:s.1.said.length≤600∧s.1.num≤2147483647
 e0:s.1.kind=0→s.1.spelt=[]
 nm:¬ s.1.kind=1→Qj9 s.1.spelt
theorem RC.step {w w':World} {b:Nat} {t:ByteArray} {s s':PS} {rv rv':Value} {mc mt:Nat} (h:RC w b t s rv mc mt) (hm:Mod b w w') (ha:RAt w' b t s'.1 s'.2 rv' mc mt) (hl:s'.2≤t.size) (hz:s'.1.said.length≤600∧s'.1.num≤2147483647) (he:s'.1.kind=0→s'.1.spelt=[]) (hn:¬ s'.1.kind=1→Qj9 s'.1.spelt):RC w' b t s' rv' mc mt:=by
 refine ⟨ha,hl,?_,h.b1,h.hs,hz,he,hn⟩
 obtain ⟨m,hm1⟩:=h.m
 have:=h.at_.lt
 exact ⟨m,by rw [hm.cell (p:=⟨1,0,none⟩) (by show 1 < _;have:=h.b1;omega) (by show 1≠b;have:=h.b1;omega)];exact hm1⟩
theorem RC.below {w w':World} {b:Nat} {t:ByteArray} {s:PS} {rv:Value} {mc mt:Nat} (h:RC w b t s rv mc mt) (hb:Below w.heap.size w w'):RC w' b t s rv mc mt:=
 h.step (Mod.of_below hb) (h.at_.mod hb) h.le h.sz h.e0 h.nm
theorem RC.alloc {w:World} {b:Nat} {t:ByteArray} {s:PS} {rv:Value} {mc mt:Nat} (h:RC w b t s rv mc mt) (o:Obj):RC (w.alloc o) b t s rv mc mt:=
 h.below ((Below.refl _ _).alloc (Nat.le_refl _) _)
theorem RC.drew {w:World} {b:Nat} {t:ByteArray} {s:PS} {rv:Value} {mc mt:Nat} (h:RC w b t s rv mc mt):RC w.drew b t s rv mc mt:=
 ⟨h.at_,h.le,h.m,h.b1,h.hs,h.sz,h.e0,h.nm⟩
def Qau {α:Type} (r:Except Flt (α×PS)) (b:Nat) (t:ByteArray) (rv:Value) (mc mt:Nat) (w:World) (val:α→World→Value→Prop) (e:Ending) (w':World):Prop:=
 Mod b w w'∧
 match r with
 | .ok y=>(∃ v,e=.returned v∧val y.1 w' v)∧RC w' b t y.2 rv mc mt
 | .error f=>Qc6 f w e w'
theorem Qau.cases {α:Type} {r:Except Flt (α×PS)} {b:Nat} {t:ByteArray} {rv:Value} {mc mt:Nat} {w w':World} {val:α→World→Value→Prop} {e:Ending} (h:Qau r b t rv mc mt w val e w') :
 (∃ y v,r=.ok y∧e=.returned v∧val y.1 w' v∧RC w' b t y.2 rv mc mt∧Mod b w w')∨(∃ f,r=.error f∧Qc6 f w e w'∧Mod b w w'):=by
 obtain ⟨hm,h⟩:=h
 cases r with
 | ok y=>obtain ⟨⟨v,he,hv⟩,hc⟩:=h;exact Or.inl ⟨y,v,rfl,he,hv,hc,hm⟩
 | error f=>exact Or.inr ⟨f,rfl,h,hm⟩
theorem Qau.ok {α:Type} {r:Except Flt (α×PS)} {b:Nat} {t:ByteArray} {rv:Value} {mc mt:Nat} {w w':World} {val:α→World→Value→Prop} {v:Value} {y:α×PS} (h:r=.ok y) (hm:Mod b w w') (hv:val y.1 w' v) (hc:RC w' b t y.2 rv mc mt):Qau r b t rv mc mt w val (.returned v) w':=by
 subst h;exact ⟨hm,⟨v,rfl,hv⟩,hc⟩
theorem Qau.err {α:Type} {r:Except Flt (α×PS)} {b:Nat} {t:ByteArray} {rv:Value} {mc mt:Nat} {w w':World} {val:α→World→Value→Prop} {e:Ending} {f:Flt} (h:r=.error f) (hm:Mod b w w') (ht:Qc6 f w e w'):Qau r b t rv mc mt w val e w':=by
 subst h;exact ⟨hm,ht⟩
theorem Qc3.cases {r:Except Flt PS} {b:Nat} {t:ByteArray} {rv:Value} {mc mt:Nat} {w w':World} {e:Ending} (h:Qc3 r b t rv mc mt w e w') :
 (∃ y,r=.ok y∧e=.returned (.tuple #[])∧RAt w' b t y.1 y.2 rv mc mt∧Mod b w w')∨(∃ f,r=.error f∧Qc6 f w e w'∧Mod b w w'):=by
 obtain ⟨hm,h⟩:=h
 cases r with
 | ok y=>exact Or.inl ⟨y,rfl,h.1,h.2,hm⟩
 | error f=>exact Or.inr ⟨f,rfl,h,hm⟩
theorem Qc1 (b:Nat) (t:ByteArray) (s:PS) (rv:Value) (mc mt:Nat) (w:World) (h:RC w b t s rv mc mt) :
 Calls Tryz.prog 172 #[.pointer (some ⟨b,0,none⟩)] w fun e w'=>
  (∃ y,nextL t.data.toList s.2=.ok y∧e=.returned (.tuple #[])∧RC w' b t y rv mc mt∧Mod b w w')∨(∃ f,nextL t.data.toList s.2=.error f∧Qc6 f w e w'∧Mod b w w'):=by
 obtain ⟨m,hm⟩:=h.m
 refine (QsM b t s.1 s.2 rv mc mt m w (by have:=h.hs;omega) h.le h.at_ hm).mono ?_
 intro e w' hp
 rcases hp.cases with ⟨y,hy,he,ha,hmod⟩ | hf
 ·refine Or.inl ⟨y,hy,he,h.step hmod ha ?_ ?_ (QhS t.data.toList s.2 (by simpa using h.le) y hy).2.2.2.1 (QlK t.data.toList s.2 y hy),hmod⟩
  ·have:=(QhS t.data.toList s.2 (by simpa using h.le) y hy).2.1
   simpa using this
  ·have h1:=QoF t.data.toList s.2 y hy
   have h2:=h.hs
   have h3:t.data.toList.length=t.size:=by simp
   exact ⟨by omega,h1.2⟩
 ·exact Or.inr hf
theorem QuR {l:List UInt8} {zs:List (List UInt8)} {s:PS} (h:whichL zs s.1.spelt=0):mayL l zs s=.ok (0,s):=by unfold mayL;rw [if_pos h]
theorem QuP {l:List UInt8} {zs:List (List UInt8)} {s y:PS} (h:¬ whichL zs s.1.spelt=0) (hn:nextL l s.2=.ok y):mayL l zs s=.ok (whichL zs s.1.spelt,y):=by unfold mayL;rw [if_neg h,hn]
theorem Qtv {l:List UInt8} {zs:List (List UInt8)} {s:PS} {f:Flt} (h:¬ whichL zs s.1.spelt=0) (hn:nextL l s.2=.error f):mayL l zs s=.error f:=by unfold mayL;rw [if_neg h,hn]
theorem QtE {l:List UInt8} {zs:List (List UInt8)} {s:PS} (h:whichL zs s.1.spelt=0):passL l zs s=.error ⟨4,s.1.pos⟩:=by unfold passL;rw [if_pos h]
theorem QsX {l:List UInt8} {zs:List (List UInt8)} {s y:PS} (h:¬ whichL zs s.1.spelt=0) (hn:nextL l s.2=.ok y):passL l zs s=.ok (whichL zs s.1.spelt,y):=by unfold passL;rw [if_neg h,hn]
theorem QrU {l:List UInt8} {zs:List (List UInt8)} {s:PS} {f:Flt} (h:¬ whichL zs s.1.spelt=0) (hn:nextL l s.2=.error f):passL l zs s=.error f:=by unfold passL;rw [if_neg h,hn]
def QjS (i:Nat) (_:World) (v:Value):Prop:=v=.int .i64 i
theorem Qhc (b g n c:Nat) (zs:List (List UInt8)) (t:ByteArray) (s:PS) (rv:Value) (mc mt:Nat) (w:World) (h:RC w b t s rv mc mt) (hz:TxtAt w g zs) (hn:n=zs.length) (hl:zs.length≤1000) :
 Calls Tryz.prog 246 #[.pointer (some ⟨b,0,none⟩),.slice (some ⟨g,0,none⟩) n c] w (Qau (mayL t.data.toList zs s) b t rv mc mt w QjS):=by
 have hw:=Qab (Qf3 b g n c zs t s.1 s.2 rv mc mt w h.at_ hz hn hl)
 have hle:=QbW zs s.1.spelt
 have H:=Qab h
 clear hz hn
 by_cases h0:whichL zs s.1.spelt=0
 ·have h0':¬ (0:Int) < (whichL zs s.1.spelt:Int):=by omega
  have HE:=Qab (QuR (l:=t.data.toList) h0)
  have H0:=Qab h0
  clear h0 h
  go_enter Tryz.func246,Tryz.ntmps246
  go_wp2_with (go_at_call 303;refine hw.out.mono ?_;rintro e w' ⟨rfl,rfl⟩)
  go_ret
  exact Qau.ok HE.out (Mod.refl _ _) (by unfold QjS;rw [H0.out];rfl) H.out
 ·have h0':(0:Int) < (whichL zs s.1.spelt:Int):=by omega
  have H0:=Qab h0
  clear h0 h
  go_enter Tryz.func246,Tryz.ntmps246
  go_wp2_with (go_at_call 303;refine hw.out.mono ?_;rintro e w' ⟨rfl,rfl⟩)
  refine (Qc1 b t s rv mc mt _ H.out).mono ?_
  rintro e w1 (⟨y,hy,rfl,hc,hm⟩ | ⟨f,hf,⟨bb,hz,rfl,hcc⟩,hm⟩)
  ·go_wp2
   go_ret
   exact Qau.ok (QuP H0.out hy) hm rfl hc
  ·exact ⟨rfl,Qau.err (Qtv H0.out hf) hm ⟨bb,hz,rfl,hcc⟩⟩
theorem QcX (b g n c:Nat) (zs:List (List UInt8)) (t:ByteArray) (s:PS) (rv:Value) (mc mt:Nat) (w:World) (h:RC w b t s rv mc mt) (hz:TxtAt w g zs) (hn:n=zs.length) (hl:zs.length≤1000) :
 Calls Tryz.prog 243 #[.pointer (some ⟨b,0,none⟩),.slice (some ⟨g,0,none⟩) n c] w (Qau (passL t.data.toList zs s) b t rv mc mt w QjS):=by
 have hw:=Qab (Qf3 b g n c zs t s.1 s.2 rv mc mt w h.at_ hz hn hl)
 have hle:=QbW zs s.1.spelt
 have H:=Qab h
 clear hz hn
 by_cases h0:whichL zs s.1.spelt=0
 ·have h0':¬ (0:Int) < (whichL zs s.1.spelt:Int):=by omega
  have HE:=Qab (QtE (l:=t.data.toList) h0)
  have H0:=Qab h0
  clear h0 h
  go_enter Tryz.func243,Tryz.ntmps243
  go_wp2_with (go_at_call 303;refine hw.out.mono ?_;rintro e w' ⟨rfl,rfl⟩)
  refine (Qbr b 4 _ _ t s.1 s.2 rv mc mt _ H.out.at_ (by simp;omega) rfl).mono ?_
  rintro e w1 ⟨⟨bb,hz,rfl,hcc⟩,hm⟩
  exact ⟨rfl,Qau.err HE.out (Mod.of_below hm) ⟨bb,hz,rfl,hcc⟩⟩
 ·have h0':(0:Int) < (whichL zs s.1.spelt:Int):=by omega
  have H0:=Qab h0
  clear h0 h
  go_enter Tryz.func243,Tryz.ntmps243
  go_wp2_with (go_at_call 303;refine hw.out.mono ?_;rintro e w' ⟨rfl,rfl⟩)
  refine (QaI b _ _ _ (by simp;omega)).mono ?_
  rintro e w' ⟨rfl,rfl⟩
  go_wp2_with fail
  refine (Qc1 b t s rv mc mt _ H.out).mono ?_
  rintro e w1 (⟨y,hy,rfl,hc,hm⟩ | ⟨f,hf,⟨bb,hz,rfl,hcc⟩,hm⟩)
  ·go_wp2
   go_ret
   exact Qau.ok (QsX H0.out hy) hm rfl hc
  ·exact ⟨rfl,Qau.err (QrU H0.out hf) hm ⟨bb,hz,rfl,hcc⟩⟩
end
section
open Go.RowKit
def Qt4 (_:List UInt8):Nat:=0
def QeH (x:List UInt8):Nat:=if isNameL x then 0 else 7
def QcK (er:Nat) (zs:List (List UInt8)) (x:List UInt8):Nat:=if 0 < whichL zs x then 0 else er
def Qdy (c:List UInt8→Nat) (x:List UInt8):Nat:=c (smallL x)
theorem Qri (x:List UInt8):(Qad x).data.toList=x:=rfl
theorem QmV (s:ByteArray) (w:World):Calls Tryz.prog 165 #[.string s] w fun e w'=>e=.returned (.int .i64 0)∧w'=w:=by
 go_enter Tryz.func165,Tryz.ntmps165
 go_wp2
 go_ret
 exact ⟨rfl,rfl⟩
theorem QqM (x:List UInt8) (w:World) (hs:x.length≤1000) :
 Calls Tryz.prog 305 #[.string (Qad x)] w fun e w'=>e=.returned (.bool (isNameL x))∧w'=w:=by
 have hle:=QdE x
 have hsz:(Qad x).size=x.length:=rfl
 have hL:=Qab (Qb3 (Qad x) w (by rw [hsz];unfold maxLen;omega))
 by_cases h0:x.length=0
 ·have hx:x=[]:=List.eq_nil_of_length_eq_zero h0
  subst hx
  have h0':(Qad []).toList=[]:=Qd3 rfl
  have h0'':(Qad []).toList.isEmpty=true:=by rw [h0'];rfl
  go_enter Tryz.func305,Tryz.ntmps305
  go_wp2
  go_ret
  exact ⟨rfl,rfl⟩
 ·have h0':¬ (Qad x).toList=[]:=QcI (by rw [hsz];exact h0)
  have h0'':(Qad x).toList.isEmpty=false:=by simpa using h0'
  go_enter Tryz.func305,Tryz.ntmps305
  go_wp2_with (go_at_call 309;refine hL.out.mono ?_;rintro e w' ⟨rfl,rfl⟩)
  go_ret
  refine ⟨QaW ?_,rfl⟩
  rw [Qri]
  unfold isNameL
  have:x.isEmpty=false:=by
   cases x with
   | nil=>exact absurd rfl h0
   | cons a r=>rfl
  rw [this,Bool.eq_iff_iff]
  simp
  omega
theorem QrZ (x:List UInt8) (w:World) (hs:x.length≤1000) :
 Calls Tryz.prog 248 #[.string (Qad x)] w fun e w'=>e=.returned (.int .i64 (QeH x))∧w'=w:=by
 have hN:=Qab (QqM x w hs)
 cases h:isNameL x
 ·have HE:Hid (QeH x=7):=by show _=_;unfold QeH;rw [h];rfl
  go_enter Tryz.func248,Tryz.ntmps248
  go_wp2_with (go_at_call 305;refine hN.out.mono ?_;rintro e w' ⟨rfl,rfl⟩)
  go_ret
  exact ⟨Qct (by rw [HE.out];rfl),rfl⟩
 ·have HE:Hid (QeH x=0):=by show _=_;unfold QeH;rw [h];rfl
  go_enter Tryz.func248,Tryz.ntmps248
  go_wp2_with (go_at_call 305;refine hN.out.mono ?_;rintro e w' ⟨rfl,rfl⟩)
  go_ret
  exact ⟨Qct (by rw [HE.out];rfl),rfl⟩
theorem QhD (g n c:Nat) (zs:List (List UInt8)) (x:List UInt8) (w:World) (hz:TxtAt w g zs) (hn:n=zs.length) (hl:zs.length≤1000) :
 Calls Tryz.prog 79 #[.slice (some ⟨g,0,none⟩) n c,.string (Qad x)] w fun e w'=>e=.returned (.bool (decide (0 < whichL zs x)))∧w'=w:=by
 have hi:=Tryz.slices_Contains_string g 0 n c (zs.map Qad) (Qad x) w (by simp [hn]) (by omega) (fun j hj=>by
  have hj':j < zs.length:=by simpa using hj
  rw [Nat.zero_add,Qf9 _ _ hj'];exact hz j hj')
 rw [hn,List.take_of_length_le (by simp),Qjw] at hi
 rw [hn]
 exact hi
def Qi1 (w:World) (p1 p2 g n c er:Nat) (zs:List (List UInt8)):Prop:=
 w.cell? ⟨p1,0,none⟩=some (.slice (some ⟨g,0,none⟩) n c)∧w.cell? ⟨p2,0,none⟩=some (.int .i64 er)∧TxtAt w g zs∧n=zs.length∧zs.length≤1000
theorem QjD (p1 p2 g n c er:Nat) (zs:List (List UInt8)) (x:List UInt8) (w:World) (h:Qi1 w p1 p2 g n c er zs) :
 Calls Tryz.prog 256 #[.string (Qad x),.pointer (some ⟨p1,0,none⟩),.pointer (some ⟨p2,0,none⟩)] w fun e w'=>e=.returned (.int .i64 (QcK er zs x))∧w'=w:=by
 obtain ⟨h1,h2,hz,hn,hl⟩:=h
 have hC:=Qab (QhD g n c zs x w hz hn hl)
 clear hz hn
 by_cases h:0 < whichL zs x
 ·have HE:Hid (QcK er zs x=0):=by show _=_;unfold QcK;rw [if_pos h]
  have hd:decide (0 < whichL zs x)=true:=by simpa using h
  rw [hd] at hC
  go_enter Tryz.func256,Tryz.ntmps256
  go_wp2_with (go_at_call 79;refine hC.out.mono ?_;rintro e w' ⟨rfl,rfl⟩)
  go_ret
  exact ⟨Qct (by rw [HE.out];rfl),rfl⟩
 ·have HE:Hid (QcK er zs x=er):=by show _=_;unfold QcK;rw [if_neg h]
  have hd:decide (0 < whichL zs x)=false:=by simpa using h
  rw [hd] at hC
  go_enter Tryz.func256,Tryz.ntmps256
  go_wp2_with (go_at_call 79;refine hC.out.mono ?_;rintro e w' ⟨rfl,rfl⟩)
  go_ret
  exact ⟨Qct (by rw [HE.out]),rfl⟩
theorem Qil (er:Int) (g n c:Nat) (w:World) :
 Calls Tryz.prog 168 #[.int .i64 er,.slice (some ⟨g,0,none⟩) n c] w fun e w'=>e=.returned (.func (.func 256) #[] #[.pointer (some ⟨w.heap.size+1,0,none⟩),.pointer (some ⟨w.heap.size,0,none⟩)])∧w'=(w.alloc (.cells #[.int .i64 er] 39)).alloc (.cells #[.slice (some ⟨g,0,none⟩) n c] 60):=by
 have hmf:∀ (fn:Fn) (first cap:Array Value) (w:World),(Instr.makeFunc fn first cap).run Tryz.prog w=.ok (.func fn first cap) w:=fun _ _ _ _=>rfl
 go_enter Tryz.func168,Tryz.ntmps168
 go_wp2
 go_ret
 exact ⟨rfl,rfl⟩
theorem Qnh (f:Nat) (a1 a2:Value) (w:World) :
 Calls Tryz.prog 167 #[.func (.func f) #[] #[a1,a2]] w fun e w'=>e=.returned (.func (.func 255) #[] #[.pointer (some ⟨w.heap.size,0,none⟩)])∧w'=w.alloc (.cells #[.func (.func f) #[] #[a1,a2]] 279):=by
 have hmf:∀ (fn:Fn) (first cap:Array Value) (w:World),(Instr.makeFunc fn first cap).run Tryz.prog w=.ok (.func fn first cap) w:=fun _ _ _ _=>rfl
 go_enter Tryz.func167,Tryz.ntmps167
 go_wp2
 go_ret
 exact ⟨rfl,rfl⟩
def QgK (w:World) (q p1 p2 g n c er:Nat) (zs:List (List UInt8)):Prop:=
 w.cell? ⟨q,0,none⟩=some (.func (.func 256) #[] #[.pointer (some ⟨p1,0,none⟩),.pointer (some ⟨p2,0,none⟩)])∧Qi1 w p1 p2 g n c er zs
theorem TxtAt.below {w w':World} {g:Nat} {zs:List (List UInt8)} (h:TxtAt w g zs) (hb:Below w.heap.size w w'):TxtAt w' g zs:=fun j hj=>by
 have:=h j hj
 rw [hb.cell (p:=⟨g,j,none⟩) (Qax this)];exact this
theorem Qi1.below {w w':World} {p1 p2 g n c er:Nat} {zs:List (List UInt8)} (h:Qi1 w p1 p2 g n c er zs) (hb:Below w.heap.size w w'):Qi1 w' p1 p2 g n c er zs:=by
 obtain ⟨h1,h2,h3,h4,h5⟩:=h
 exact ⟨by rw [hb.cell (p:=⟨p1,0,none⟩) (Qax h1)];exact h1,by rw [hb.cell (p:=⟨p2,0,none⟩) (Qax h2)];exact h2,h3.below hb,h4,h5⟩
theorem Qlr (q p1 p2 g n c er:Nat) (zs:List (List UInt8)) (x:List UInt8) (w:World) (h:QgK w q p1 p2 g n c er zs) (hx:x.length≤1000) :
 Calls Tryz.prog 255 #[.string (Qad x),.pointer (some ⟨q,0,none⟩)] w fun e w'=>e=.returned (.int .i64 (Qdy (QcK er zs) x))∧Below w.heap.size w w':=by
 obtain ⟨hq,hO⟩:=h
 have HO:=Qab hO
 have HQ:=Qab hq
 clear hO
 have hs:=Qab (fun W=>Qe8 (Qad x) W (by rw [Qat];omega))
 go_enter Tryz.func255,Tryz.ntmps255
 go_wp2_with fail
 go_region_with (first | (go_at_call 247;refine (hs.out _).mono ?_;rintro e w1 ⟨rfl,hb⟩;have hq1:=(hb.cell (p:=⟨q,0,none⟩) (Qax HQ.out)).trans HQ.out;skip) | (go_at_call 256;refine (QjD p1 p2 g n c er zs (smallL x) _ (HO.out.below (Qa4 hb))).mono ?_;rintro e w2 ⟨rfl,rfl⟩;skip))
 all_goals go_wp2
 all_goals go_ret
 all_goals exact ⟨rfl,Qa4 hb⟩
end
section
open Go.RowKit
def Qq4 (x:List UInt8) (_:World) (v:Value):Prop:=v=.string (Qad x)
theorem QdT {l:List UInt8} {chk:List UInt8→Nat} {s:PS} (h:¬ s.1.kind=5):stringL l chk s=.error ⟨4,s.1.pos⟩:=by unfold stringL;rw [if_neg h]
theorem QfZ {l:List UInt8} {chk:List UInt8→Nat} {s:PS} (h:s.1.kind=5) (hc:¬ chk s.1.said=0):stringL l chk s=.error ⟨chk s.1.said,s.1.pos⟩:=by unfold stringL;rw [if_pos h,if_neg hc]
theorem Qft {l:List UInt8} {chk:List UInt8→Nat} {s y:PS} (h:s.1.kind=5) (hc:chk s.1.said=0) (hn:nextL l s.2=.ok y):stringL l chk s=.ok (s.1.said,y):=by unfold stringL;rw [if_pos h,if_pos hc,hn]
theorem Qet {l:List UInt8} {chk:List UInt8→Nat} {s:PS} {f:Flt} (h:s.1.kind=5) (hc:chk s.1.said=0) (hn:nextL l s.2=.error f):stringL l chk s=.error f:=by unfold stringL;rw [if_pos h,if_pos hc,hn]
theorem QdM (b:Nat) (t:ByteArray) (s:PS) (rv:Value) (mc mt:Nat) (w:World) (h:RC w b t s rv mc mt) :
 Calls Tryz.prog 245 #[.pointer (some ⟨b,0,none⟩),.func (.func 165) #[] #[]] w (Qau (stringL t.data.toList Qt4 s) b t rv mc mt w Qq4):=by
 have h1:w.cell? ⟨b,1,none⟩=some (.int .i64 s.1.kind):=h.at_.cell 1
 have h4:w.cell? ⟨b,4,none⟩=some (.string (Qad s.1.said)):=h.at_.cell 4
 have H:=Qab h
 clear h
 by_cases hk:s.1.kind=5
 rotate_left
 ·have HE:=Qab (QdT (l:=t.data.toList) (chk:=Qt4) hk)
  have hk':((s.1.kind:Int) == 5)=false:=by simp;omega
  clear hk
  go_enter Tryz.func245,Tryz.ntmps245
  go_wp2_with fail
  refine (Qbr b 4 _ _ t s.1 s.2 rv mc mt _ H.out.at_ rfl rfl).mono ?_
  rintro e w1 ⟨⟨bb,hz,rfl,hcc⟩,hm⟩
  exact ⟨rfl,Qau.err HE.out (Mod.of_below hm) ⟨bb,hz,rfl,hcc⟩⟩
 have hk':((s.1.kind:Int) == 5)=true:=by simp;omega
 have HK:=Qab hk
 clear hk
 go_enter Tryz.func245,Tryz.ntmps245
 go_wp2_with fail
 refine (QaI b _ _ _ rfl).mono ?_
 rintro e w' ⟨rfl,rfl⟩
 go_wp2_with fail
 refine (QmV _ _).mono ?_
 rintro e w1 ⟨rfl,rfl⟩
 go_wp2_with fail
 refine (QaI b _ _ _ (by rfl)).mono ?_
 rintro e w' ⟨rfl,rfl⟩
 go_wp2_with fail
 refine (Qc1 b t s rv mc mt _ H.out).mono ?_
 rintro e w2 (⟨y,hy,rfl,hc,hm⟩ | ⟨f,hf,⟨bb,hz,rfl,hcc⟩,hm⟩)
 ·go_wp2
  go_ret
  exact Qau.ok (Qft HK.out rfl hy) hm rfl hc
 ·exact ⟨rfl,Qau.err (Qet HK.out rfl hf) hm ⟨bb,hz,rfl,hcc⟩⟩
theorem QlA (b:Nat) (t:ByteArray) (s:PS) (rv:Value) (mc mt:Nat) (w:World) (h:RC w b t s rv mc mt) :
 Calls Tryz.prog 245 #[.pointer (some ⟨b,0,none⟩),.func (.func 248) #[] #[]] w (Qau (stringL t.data.toList QeH s) b t rv mc mt w Qq4):=by
 have h1:w.cell? ⟨b,1,none⟩=some (.int .i64 s.1.kind):=h.at_.cell 1
 have h4:w.cell? ⟨b,4,none⟩=some (.string (Qad s.1.said)):=h.at_.cell 4
 have H:=Qab h
 clear h
 by_cases hk:s.1.kind=5
 rotate_left
 ·have HE:=Qab (QdT (l:=t.data.toList) (chk:=QeH) hk)
  have hk':((s.1.kind:Int) == 5)=false:=by simp;omega
  clear hk
  go_enter Tryz.func245,Tryz.ntmps245
  go_wp2_with fail
  refine (Qbr b 4 _ _ t s.1 s.2 rv mc mt _ H.out.at_ rfl rfl).mono ?_
  rintro e w1 ⟨⟨bb,hz,rfl,hcc⟩,hm⟩
  exact ⟨rfl,Qau.err HE.out (Mod.of_below hm) ⟨bb,hz,rfl,hcc⟩⟩
 have hk':((s.1.kind:Int) == 5)=true:=by simp;omega
 have HK:=Qab hk
 clear hk
 go_enter Tryz.func245,Tryz.ntmps245
 go_wp2_with fail
 refine (QaI b _ _ _ rfl).mono ?_
 rintro e w' ⟨rfl,rfl⟩
 go_wp2_with fail
 refine (QrZ _ _ (by have:=H.out.sz.1;omega)).mono ?_
 rintro e w1 ⟨rfl,rfl⟩
 generalize hC:QeH s.1.said=C
 have HC:=Qab hC
 clear hC
 by_cases hc:C=0
 rotate_left
 ·have HE:=Qab (QfZ (l:=t.data.toList) (chk:=QeH) HK.out (by rw [HC.out];exact hc))
  rw [HC.out] at HE
  have hc':((C:Int) == 0)=false:=by simp;omega
  clear hc
  go_wp2_with fail
  refine (Qbr b C _ _ t s.1 s.2 rv mc mt _ H.out.at_ rfl rfl).mono ?_
  rintro e w2 ⟨⟨bb,hz,rfl,hcc⟩,hm⟩
  exact ⟨rfl,Qau.err HE.out (Mod.of_below hm) ⟨bb,hz,rfl,hcc⟩⟩
 subst hc
 go_wp2_with fail
 refine (QaI b _ _ _ (by rfl)).mono ?_
 rintro e w' ⟨rfl,rfl⟩
 go_wp2_with fail
 refine (Qc1 b t s rv mc mt _ H.out).mono ?_
 rintro e w2 (⟨y,hy,rfl,hc,hm⟩ | ⟨f,hf,⟨bb,hz,rfl,hcc⟩,hm⟩)
 ·go_wp2
  go_ret
  exact Qau.ok (Qft HK.out HC.out hy) hm rfl hc
 ·exact ⟨rfl,Qau.err (Qet HK.out HC.out hf) hm ⟨bb,hz,rfl,hcc⟩⟩
theorem QhA (p1 p2 g n c er:Nat) (zs:List (List UInt8)) (b:Nat) (t:ByteArray) (s:PS) (rv:Value) (mc mt:Nat) (w:World) (h:RC w b t s rv mc mt) (ho:Qi1 w p1 p2 g n c er zs) :
 Calls Tryz.prog 245 #[.pointer (some ⟨b,0,none⟩),.func (.func 256) #[] #[.pointer (some ⟨p1,0,none⟩),.pointer (some ⟨p2,0,none⟩)]] w (Qau (stringL t.data.toList (QcK er zs) s) b t rv mc mt w Qq4):=by
 have h1:w.cell? ⟨b,1,none⟩=some (.int .i64 s.1.kind):=h.at_.cell 1
 have h4:w.cell? ⟨b,4,none⟩=some (.string (Qad s.1.said)):=h.at_.cell 4
 have H:=Qab h
 clear h
 have HO:=Qab ho
 clear ho
 by_cases hk:s.1.kind=5
 rotate_left
 ·have HE:=Qab (QdT (l:=t.data.toList) (chk:=(QcK er zs)) hk)
  have hk':((s.1.kind:Int) == 5)=false:=by simp;omega
  clear hk
  go_enter Tryz.func245,Tryz.ntmps245
  go_wp2_with fail
  refine (Qbr b 4 _ _ t s.1 s.2 rv mc mt _ H.out.at_ rfl rfl).mono ?_
  rintro e w1 ⟨⟨bb,hz,rfl,hcc⟩,hm⟩
  exact ⟨rfl,Qau.err HE.out (Mod.of_below hm) ⟨bb,hz,rfl,hcc⟩⟩
 have hk':((s.1.kind:Int) == 5)=true:=by simp;omega
 have HK:=Qab hk
 clear hk
 go_enter Tryz.func245,Tryz.ntmps245
 go_wp2_with fail
 refine (QaI b _ _ _ rfl).mono ?_
 rintro e w' ⟨rfl,rfl⟩
 go_wp2_with fail
 refine (QjD p1 p2 g n c er zs _ _ HO.out).mono ?_
 rintro e w1 ⟨rfl,rfl⟩
 generalize hC:(QcK er zs) s.1.said=C
 have HC:=Qab hC
 clear hC
 by_cases hc:C=0
 rotate_left
 ·have HE:=Qab (QfZ (l:=t.data.toList) (chk:=(QcK er zs)) HK.out (by rw [HC.out];exact hc))
  rw [HC.out] at HE
  have hc':((C:Int) == 0)=false:=by simp;omega
  clear hc
  go_wp2_with fail
  refine (Qbr b C _ _ t s.1 s.2 rv mc mt _ H.out.at_ rfl rfl).mono ?_
  rintro e w2 ⟨⟨bb,hz,rfl,hcc⟩,hm⟩
  exact ⟨rfl,Qau.err HE.out (Mod.of_below hm) ⟨bb,hz,rfl,hcc⟩⟩
 subst hc
 go_wp2_with fail
 refine (QaI b _ _ _ (by rfl)).mono ?_
 rintro e w' ⟨rfl,rfl⟩
 go_wp2_with fail
 refine (Qc1 b t s rv mc mt _ H.out).mono ?_
 rintro e w2 (⟨y,hy,rfl,hc,hm⟩ | ⟨f,hf,⟨bb,hz,rfl,hcc⟩,hm⟩)
 ·go_wp2
  go_ret
  exact Qau.ok (Qft HK.out HC.out hy) hm rfl hc
 ·exact ⟨rfl,Qau.err (Qet HK.out HC.out hf) hm ⟨bb,hz,rfl,hcc⟩⟩
theorem Qjs (q p1 p2 g n c er:Nat) (zs:List (List UInt8)) (b:Nat) (t:ByteArray) (s:PS) (rv:Value) (mc mt:Nat) (w:World) (h:RC w b t s rv mc mt) (ho:QgK w q p1 p2 g n c er zs) :
 Calls Tryz.prog 245 #[.pointer (some ⟨b,0,none⟩),.func (.func 255) #[] #[.pointer (some ⟨q,0,none⟩)]] w (Qau (stringL t.data.toList (Qdy (QcK er zs)) s) b t rv mc mt w Qq4):=by
 have h1:w.cell? ⟨b,1,none⟩=some (.int .i64 s.1.kind):=h.at_.cell 1
 have h4:w.cell? ⟨b,4,none⟩=some (.string (Qad s.1.said)):=h.at_.cell 4
 have H:=Qab h
 clear h
 have HO:=Qab ho
 clear ho
 by_cases hk:s.1.kind=5
 rotate_left
 ·have HE:=Qab (QdT (l:=t.data.toList) (chk:=(Qdy (QcK er zs))) hk)
  have hk':((s.1.kind:Int) == 5)=false:=by simp;omega
  clear hk
  go_enter Tryz.func245,Tryz.ntmps245
  go_wp2_with fail
  refine (Qbr b 4 _ _ t s.1 s.2 rv mc mt _ H.out.at_ rfl rfl).mono ?_
  rintro e w1 ⟨⟨bb,hz,rfl,hcc⟩,hm⟩
  exact ⟨rfl,Qau.err HE.out (Mod.of_below hm) ⟨bb,hz,rfl,hcc⟩⟩
 have hk':((s.1.kind:Int) == 5)=true:=by simp;omega
 have HK:=Qab hk
 clear hk
 go_enter Tryz.func245,Tryz.ntmps245
 go_wp2_with fail
 refine (QaI b _ _ _ rfl).mono ?_
 rintro e w' ⟨rfl,rfl⟩
 go_wp2_with fail
 refine (Qlr q p1 p2 g n c er zs _ _ HO.out (by have:=H.out.sz.1;omega)).mono ?_
 rintro e w1 ⟨rfl,hb⟩
 have H1:=Qab (H.out.below hb)
 have HB:=Qab (Mod.of_below (b:=b) hb)
 have h4:w1.cell? ⟨b,4,none⟩=some (.string (Qad s.1.said)):=H1.out.at_.cell 4
 clear hb
 generalize hC:(Qdy (QcK er zs)) s.1.said=C
 have HC:=Qab hC
 clear hC
 by_cases hc:C=0
 rotate_left
 ·have HE:=Qab (QfZ (l:=t.data.toList) (chk:=(Qdy (QcK er zs))) HK.out (by rw [HC.out];exact hc))
  rw [HC.out] at HE
  have hc':((C:Int) == 0)=false:=by simp;omega
  clear hc
  go_wp2_with fail
  refine (Qbr b C _ _ t s.1 s.2 rv mc mt _ H1.out.at_ rfl rfl).mono ?_
  rintro e w2 ⟨⟨bb,hz,rfl,hcc⟩,hm⟩
  exact ⟨rfl,Qau.err HE.out (HB.out.trans (Mod.of_below hm)) ⟨bb,Nat.le_trans HB.out.size hz,rfl,hcc⟩⟩
 subst hc
 go_wp2_with fail
 refine (QaI b _ _ _ (by rfl)).mono ?_
 rintro e w' ⟨rfl,rfl⟩
 go_wp2_with fail
 refine (Qc1 b t s rv mc mt _ H1.out).mono ?_
 rintro e w2 (⟨y,hy,rfl,hc,hm⟩ | ⟨f,hf,⟨bb,hz,rfl,hcc⟩,hm⟩)
 ·go_wp2
  go_ret
  exact Qau.ok (Qft HK.out HC.out hy) (HB.out.trans hm) rfl hc
 ·exact ⟨rfl,Qau.err (Qet HK.out HC.out hf) (HB.out.trans hm) ⟨bb,Nat.le_trans HB.out.size hz,rfl,hcc⟩⟩
end
end Go.Proofs.YtbiclelojbfnbaaGreatDoor
