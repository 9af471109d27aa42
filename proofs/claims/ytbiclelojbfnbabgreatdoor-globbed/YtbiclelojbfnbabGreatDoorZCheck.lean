import Derived.Test.YtbiclelojbfnbabGreatDoorNext
import Derived.Test.YtbiclelojbfnbabGreatDoorZPlainSpace2
namespace Go.Proofs.YtbiclelojbfnbabGreatDoor
set_option linter.unusedVariables false
set_option linter.unusedSimpArgs false
set_option maxRecDepth 100000
set_option maxHeartbeats 4000000
section
open Go.RowKit
theorem QfO (zs:List (List UInt8)) (j:Nat) (h:j < zs.length):(zs.map Qag).getD j ByteArray.empty=Qag (zs.getD j []):=by
 simp [List.getD_eq_getElem?_getD,h]
theorem Qf8 (b g n c:Nat) (zs:List (List UInt8)) (t:ByteArray) (x:Wd) (p:Nat) (rv:Value) (mc mt:Nat) (w:World) (hr:RAt w b t x p rv mc mt) (hz:Qc6 w g zs) (hn:n=zs.length) (hl:zs.length≤1000) :
 Calls Tryz.prog 205 #[.pointer (some ⟨b,0,none⟩),.slice (some ⟨g,0,none⟩) n c] w fun e w'=>e=.returned (.int .i64 (whichL zs x.spelt))∧w'=w:=by
 have h3:w.cell? ⟨b,3,none⟩=some (.string (Qag x.spelt)):=hr.cell 3
 have hw:=QbM zs x.spelt
 have hi:=Tryz.slices_Index_string g 0 n c (zs.map Qag) (Qag x.spelt) w (by simp [hn]) (by omega) (fun j hj=>by
  have hj':j < zs.length:=by simpa using hj
  rw [Nat.zero_add,QfO _ _ hj'];exact hz j hj')
 rw [hn,List.take_of_length_le (by simp)] at hi
 have e:=Qkx zs x.spelt
 have e2:Lib.idxOfS (zs.map Qag) (Qag x.spelt)=(whichL zs x.spelt:Int) - 1:=by omega
 rw [e2] at hi
 clear e e2
 have HI:=Qaa hi
 clear hi
 subst hn
 go_enter Tryz.func205,Tryz.ntmps205
 go_wp2_with (go_at_call 61;refine HI.out.mono ?_;rintro e w' ⟨rfl,rfl⟩)
 go_ret
 exact ⟨Qcb (by omega),rfl⟩
theorem QaF (b:Nat) (B:Bool) (er:Int) (w:World) (hB:B=true) :
 Calls Tryz.prog 174 #[.pointer (some ⟨b,0,none⟩),.bool B,.int .i64 er] w fun e w'=>e=.returned (.tuple #[])∧w'=w:=by
 subst hB
 go_enter Tryz.func174,Tryz.ntmps174
 go_wp2
 go_end0
 exact ⟨rfl,rfl⟩
theorem Qbe (b er:Nat) (B:Bool) (E:Int) (t:ByteArray) (x:Wd) (p:Nat) (rv:Value) (mc mt:Nat) (w:World) (hr:RAt w b t x p rv mc mt) (hB:B=false) (hE:E=er) :
 Calls Tryz.prog 174 #[.pointer (some ⟨b,0,none⟩),.bool B,.int .i64 E] w fun e w'=>QcR ⟨er,x.pos⟩ w e w'∧Below w.heap.size w w':=by
 subst hB
 subst hE
 have h2:w.cell? ⟨b,2,none⟩=some (.int .i64 x.pos):=hr.cell 2
 clear hr
 go_enter Tryz.func174,Tryz.ntmps174
 go_wp2_with (go_at_call 64;refine (Qau _ _ _).mono ?_;rintro e w' ⟨rfl,rfl⟩)
 exact ⟨rfl,QaY er x.pos (Nat.le_refl _) rfl,(Below.refl _ _).alloc (Nat.le_refl _) _⟩
end
section
open Go.RowKit
structure RC (w:World) (b:Nat) (t:ByteArray) (s:PS) (rv:Value) (mc mt:Nat):Prop where
 at_:RAt w b t s.1 s.2 rv mc mt
 le:s.2≤t.size
 m:∃ m,w.cell? ⟨1,0,none⟩=some (.int .i64 m)
 b1:1 < b
 hs:t.size≤600
 sz:s.1.said.length≤600∧s.1.num≤2147483647
 e0:s.1.kind=0→s.1.spelt=[]
 nm:¬ s.1.kind=1→Qjj s.1.spelt
theorem RC.step {w w':World} {b:Nat} {t:ByteArray} {s s':PS} {rv rv':Value} {mc mt:Nat} (h:RC w b t s rv mc mt) (hm:Mod b w w') (ha:RAt w' b t s'.1 s'.2 rv' mc mt) (hl:s'.2≤t.size) (hz:s'.1.said.length≤600∧s'.1.num≤2147483647) (he:s'.1.kind=0→s'.1.spelt=[]) (hn:¬ s'.1.kind=1→Qjj s'.1.spelt):RC w' b t s' rv' mc mt:=by
 refine ⟨ha,hl,?_,h.b1,h.hs,hz,he,hn⟩
 obtain ⟨m,hm1⟩:=h.m
 have:=h.at_.lt
 exact ⟨m,by rw [hm.cell (p:=⟨1,0,none⟩) (by show 1 < _;have:=h.b1;omega) (by show 1≠b;have:=h.b1;omega)];exact hm1⟩
theorem RC.below {w w':World} {b:Nat} {t:ByteArray} {s:PS} {rv:Value} {mc mt:Nat} (h:RC w b t s rv mc mt) (hb:Below w.heap.size w w'):RC w' b t s rv mc mt:=
 h.step (Mod.of_below hb) (h.at_.mod hb) h.le h.sz h.e0 h.nm
theorem RC.alloc {w:World} {b:Nat} {t:ByteArray} {s:PS} {rv:Value} {mc mt:Nat} (h:RC w b t s rv mc mt) (o:Obj):RC (w.alloc o) b t s rv mc mt:=
 h.below ((Below.refl _ _).alloc (Nat.le_refl _) _)
theorem RC.drew {w:World} {b:Nat} {t:ByteArray} {s:PS} {rv:Value} {mc mt:Nat} (h:RC w b t s rv mc mt):RC w.drew b t s rv mc mt:=
 ⟨h.at_,h.le,h.m,h.b1,h.hs,h.sz,h.e0,h.nm⟩
def Qao {α:Type} (r:Except Flt (α×PS)) (b:Nat) (t:ByteArray) (rv:Value) (mc mt:Nat) (w:World) (val:α→World→Value→Prop) (e:Ending) (w':World):Prop:=
 Mod b w w'∧
 match r with
 | .ok y=>(∃ v,e=.returned v∧val y.1 w' v)∧RC w' b t y.2 rv mc mt
 | .error f=>QcR f w e w'
theorem Qao.cases {α:Type} {r:Except Flt (α×PS)} {b:Nat} {t:ByteArray} {rv:Value} {mc mt:Nat} {w w':World} {val:α→World→Value→Prop} {e:Ending} (h:Qao r b t rv mc mt w val e w') :
 (∃ y v,r=.ok y∧e=.returned v∧val y.1 w' v∧RC w' b t y.2 rv mc mt∧Mod b w w')∨(∃ f,r=.error f∧QcR f w e w'∧Mod b w w'):=by
 obtain ⟨hm,h⟩:=h
 cases r with
 | ok y=>obtain ⟨⟨v,he,hv⟩,hc⟩:=h;exact Or.inl ⟨y,v,rfl,he,hv,hc,hm⟩
 | error f=>exact Or.inr ⟨f,rfl,h,hm⟩
theorem Qao.ok {α:Type} {r:Except Flt (α×PS)} {b:Nat} {t:ByteArray} {rv:Value} {mc mt:Nat} {w w':World} {val:α→World→Value→Prop} {v:Value} {y:α×PS} (h:r=.ok y) (hm:Mod b w w') (hv:val y.1 w' v) (hc:RC w' b t y.2 rv mc mt):Qao r b t rv mc mt w val (.returned v) w':=by
 subst h;exact ⟨hm,⟨v,rfl,hv⟩,hc⟩
theorem Qao.err {α:Type} {r:Except Flt (α×PS)} {b:Nat} {t:ByteArray} {rv:Value} {mc mt:Nat} {w w':World} {val:α→World→Value→Prop} {e:Ending} {f:Flt} (h:r=.error f) (hm:Mod b w w') (ht:QcR f w e w'):Qao r b t rv mc mt w val e w':=by
 subst h;exact ⟨hm,ht⟩
theorem QcL.cases {r:Except Flt PS} {b:Nat} {t:ByteArray} {rv:Value} {mc mt:Nat} {w w':World} {e:Ending} (h:QcL r b t rv mc mt w e w') :
 (∃ y,r=.ok y∧e=.returned (.tuple #[])∧RAt w' b t y.1 y.2 rv mc mt∧Mod b w w')∨(∃ f,r=.error f∧QcR f w e w'∧Mod b w w'):=by
 obtain ⟨hm,h⟩:=h
 cases r with
 | ok y=>exact Or.inl ⟨y,rfl,h.1,h.2,hm⟩
 | error f=>exact Or.inr ⟨f,rfl,h,hm⟩
theorem QcJ (b:Nat) (t:ByteArray) (s:PS) (rv:Value) (mc mt:Nat) (w:World) (h:RC w b t s rv mc mt) :
 Calls Tryz.prog 121 #[.pointer (some ⟨b,0,none⟩)] w fun e w'=>
  (∃ y,nextL t.data.toList s.2=.ok y∧e=.returned (.tuple #[])∧RC w' b t y rv mc mt∧Mod b w w')∨(∃ f,nextL t.data.toList s.2=.error f∧QcR f w e w'∧Mod b w w'):=by
 obtain ⟨m,hm⟩:=h.m
 refine (QsA b t s.1 s.2 rv mc mt m w (by have:=h.hs;omega) h.le h.at_ hm).mono ?_
 intro e w' hp
 rcases hp.cases with ⟨y,hy,he,ha,hmod⟩ | hf
 ·refine Or.inl ⟨y,hy,he,h.step hmod ha ?_ ?_ (Qhf t.data.toList s.2 (by simpa using h.le) y hy).2.2.2.1 (QkC t.data.toList s.2 y hy),hmod⟩
  ·have:=(Qhf t.data.toList s.2 (by simpa using h.le) y hy).2.1
   simpa using this
  ·have h1:=Qmu t.data.toList s.2 y hy
   have h2:=h.hs
   have h3:t.data.toList.length=t.size:=by simp
   exact ⟨by omega,h1.2⟩
 ·exact Or.inr hf
theorem QtW {l:List UInt8} {zs:List (List UInt8)} {s:PS} (h:whichL zs s.1.spelt=0):mayL l zs s=.ok (0,s):=by unfold mayL;rw [if_pos h]
theorem Qts {l:List UInt8} {zs:List (List UInt8)} {s y:PS} (h:¬ whichL zs s.1.spelt=0) (hn:nextL l s.2=.ok y):mayL l zs s=.ok (whichL zs s.1.spelt,y):=by unfold mayL;rw [if_neg h,hn]
theorem Qsm {l:List UInt8} {zs:List (List UInt8)} {s:PS} {f:Flt} (h:¬ whichL zs s.1.spelt=0) (hn:nextL l s.2=.error f):mayL l zs s=.error f:=by unfold mayL;rw [if_neg h,hn]
theorem Qr3 {l:List UInt8} {zs:List (List UInt8)} {s:PS} (h:whichL zs s.1.spelt=0):passL l zs s=.error ⟨4,s.1.pos⟩:=by unfold passL;rw [if_pos h]
theorem QrK {l:List UInt8} {zs:List (List UInt8)} {s y:PS} (h:¬ whichL zs s.1.spelt=0) (hn:nextL l s.2=.ok y):passL l zs s=.ok (whichL zs s.1.spelt,y):=by unfold passL;rw [if_neg h,hn]
theorem Qri {l:List UInt8} {zs:List (List UInt8)} {s:PS} {f:Flt} (h:¬ whichL zs s.1.spelt=0) (hn:nextL l s.2=.error f):passL l zs s=.error f:=by unfold passL;rw [if_neg h,hn]
def Qi7 (i:Nat) (_:World) (v:Value):Prop:=v=.int .i64 i
theorem Qgw (b g n c:Nat) (zs:List (List UInt8)) (t:ByteArray) (s:PS) (rv:Value) (mc mt:Nat) (w:World) (h:RC w b t s rv mc mt) (hz:Qc6 w g zs) (hn:n=zs.length) (hl:zs.length≤1000) :
 Calls Tryz.prog 161 #[.pointer (some ⟨b,0,none⟩),.slice (some ⟨g,0,none⟩) n c] w (Qao (mayL t.data.toList zs s) b t rv mc mt w Qi7):=by
 have hw:=Qaa (Qf8 b g n c zs t s.1 s.2 rv mc mt w h.at_ hz hn hl)
 have hle:=QbM zs s.1.spelt
 have H:=Qaa h
 clear hz hn
 by_cases h0:whichL zs s.1.spelt=0
 ·have h0':¬ (0:Int) < (whichL zs s.1.spelt:Int):=by omega
  have HE:=Qaa (QtW (l:=t.data.toList) h0)
  have H0:=Qaa h0
  clear h0 h
  go_enter Tryz.func161,Tryz.ntmps161
  go_wp2_with (go_at_call 205;refine hw.out.mono ?_;rintro e w' ⟨rfl,rfl⟩)
  go_ret
  exact Qao.ok HE.out (Mod.refl _ _) (by unfold Qi7;rw [H0.out];rfl) H.out
 ·have h0':(0:Int) < (whichL zs s.1.spelt:Int):=by omega
  have H0:=Qaa h0
  clear h0 h
  go_enter Tryz.func161,Tryz.ntmps161
  go_wp2_with (go_at_call 205;refine hw.out.mono ?_;rintro e w' ⟨rfl,rfl⟩)
  refine (QcJ b t s rv mc mt _ H.out).mono ?_
  rintro e w1 (⟨y,hy,rfl,hc,hm⟩ | ⟨f,hf,⟨bb,hz,rfl,hcc⟩,hm⟩)
  ·go_wp2
   go_ret
   exact Qao.ok (Qts H0.out hy) hm rfl hc
  ·exact ⟨rfl,Qao.err (Qsm H0.out hf) hm ⟨bb,hz,rfl,hcc⟩⟩
theorem QcO (b g n c:Nat) (zs:List (List UInt8)) (t:ByteArray) (s:PS) (rv:Value) (mc mt:Nat) (w:World) (h:RC w b t s rv mc mt) (hz:Qc6 w g zs) (hn:n=zs.length) (hl:zs.length≤1000) :
 Calls Tryz.prog 158 #[.pointer (some ⟨b,0,none⟩),.slice (some ⟨g,0,none⟩) n c] w (Qao (passL t.data.toList zs s) b t rv mc mt w Qi7):=by
 have hw:=Qaa (Qf8 b g n c zs t s.1 s.2 rv mc mt w h.at_ hz hn hl)
 have hle:=QbM zs s.1.spelt
 have H:=Qaa h
 clear hz hn
 by_cases h0:whichL zs s.1.spelt=0
 ·have h0':¬ (0:Int) < (whichL zs s.1.spelt:Int):=by omega
  have HE:=Qaa (Qr3 (l:=t.data.toList) h0)
  have H0:=Qaa h0
  clear h0 h
  go_enter Tryz.func158,Tryz.ntmps158
  go_wp2_with (go_at_call 205;refine hw.out.mono ?_;rintro e w' ⟨rfl,rfl⟩)
  refine (Qbe b 4 _ _ t s.1 s.2 rv mc mt _ H.out.at_ (by simp;omega) rfl).mono ?_
  rintro e w1 ⟨⟨bb,hz,rfl,hcc⟩,hm⟩
  exact ⟨rfl,Qao.err HE.out (Mod.of_below hm) ⟨bb,hz,rfl,hcc⟩⟩
 ·have h0':(0:Int) < (whichL zs s.1.spelt:Int):=by omega
  have H0:=Qaa h0
  clear h0 h
  go_enter Tryz.func158,Tryz.ntmps158
  go_wp2_with (go_at_call 205;refine hw.out.mono ?_;rintro e w' ⟨rfl,rfl⟩)
  refine (QaF b _ _ _ (by simp;omega)).mono ?_
  rintro e w' ⟨rfl,rfl⟩
  go_wp2_with fail
  refine (QcJ b t s rv mc mt _ H.out).mono ?_
  rintro e w1 (⟨y,hy,rfl,hc,hm⟩ | ⟨f,hf,⟨bb,hz,rfl,hcc⟩,hm⟩)
  ·go_wp2
   go_ret
   exact Qao.ok (QrK H0.out hy) hm rfl hc
  ·exact ⟨rfl,Qao.err (Qri H0.out hf) hm ⟨bb,hz,rfl,hcc⟩⟩
end
section
open Go.RowKit
def QsR (_:List UInt8):Nat:=0
def Qeo (x:List UInt8):Nat:=if isNameL x then 0 else 7
def Qcs (er:Nat) (zs:List (List UInt8)) (x:List UInt8):Nat:=if 0 < whichL zs x then 0 else er
def Qdl (c:List UInt8→Nat) (x:List UInt8):Nat:=c (smallL x)
theorem Qqv (x:List UInt8):(Qag x).data.toList=x:=rfl
theorem Qk5 (s:ByteArray) (w:World):Calls Tryz.prog 114 #[.string s] w fun e w'=>e=.returned (.int .i64 0)∧w'=w:=by
 go_enter Tryz.func114,Tryz.ntmps114
 go_wp2
 go_ret
 exact ⟨rfl,rfl⟩
theorem QoC (x:List UInt8) (w:World) (hs:x.length≤1000) :
 Calls Tryz.prog 206 #[.string (Qag x)] w fun e w'=>e=.returned (.bool (isNameL x))∧w'=w:=by
 have hle:=Qdu x
 have hsz:(Qag x).size=x.length:=rfl
 have hL:=Qaa (QbP (Qag x) w (by rw [hsz];unfold maxLen;omega))
 by_cases h0:x.length=0
 ·have hx:x=[]:=List.eq_nil_of_length_eq_zero h0
  subst hx
  have h0':(Qag []).toList=[]:=QdM rfl
  have h0'':(Qag []).toList.isEmpty=true:=by rw [h0'];rfl
  go_enter Tryz.func206,Tryz.ntmps206
  go_wp2
  go_ret
  exact ⟨rfl,rfl⟩
 ·have h0':¬ (Qag x).toList=[]:=Qcr (by rw [hsz];exact h0)
  have h0'':(Qag x).toList.isEmpty=false:=by simpa using h0'
  go_enter Tryz.func206,Tryz.ntmps206
  go_wp2_with (go_at_call 210;refine hL.out.mono ?_;rintro e w' ⟨rfl,rfl⟩)
  go_ret
  refine ⟨QaU ?_,rfl⟩
  rw [Qqv]
  unfold isNameL
  have:x.isEmpty=false:=by
   cases x with
   | nil=>exact absurd rfl h0
   | cons a r=>rfl
  rw [this,Bool.eq_iff_iff]
  simp
  omega
theorem Qqg (x:List UInt8) (w:World) (hs:x.length≤1000) :
 Calls Tryz.prog 164 #[.string (Qag x)] w fun e w'=>e=.returned (.int .i64 (Qeo x))∧w'=w:=by
 have hN:=Qaa (QoC x w hs)
 cases h:isNameL x
 ·have HE:Hid (Qeo x=7):=by show _=_;unfold Qeo;rw [h];rfl
  go_enter Tryz.func164,Tryz.ntmps164
  go_wp2_with (go_at_call 206;refine hN.out.mono ?_;rintro e w' ⟨rfl,rfl⟩)
  go_ret
  exact ⟨Qcb (by rw [HE.out];rfl),rfl⟩
 ·have HE:Hid (Qeo x=0):=by show _=_;unfold Qeo;rw [h];rfl
  go_enter Tryz.func164,Tryz.ntmps164
  go_wp2_with (go_at_call 206;refine hN.out.mono ?_;rintro e w' ⟨rfl,rfl⟩)
  go_ret
  exact ⟨Qcb (by rw [HE.out];rfl),rfl⟩
theorem QgI (g n c:Nat) (zs:List (List UInt8)) (x:List UInt8) (w:World) (hz:Qc6 w g zs) (hn:n=zs.length) (hl:zs.length≤1000) :
 Calls Tryz.prog 37 #[.slice (some ⟨g,0,none⟩) n c,.string (Qag x)] w fun e w'=>e=.returned (.bool (decide (0 < whichL zs x)))∧w'=w:=by
 have hi:=Tryz.slices_Contains_string g 0 n c (zs.map Qag) (Qag x) w (by simp [hn]) (by omega) (fun j hj=>by
  have hj':j < zs.length:=by simpa using hj
  rw [Nat.zero_add,QfO _ _ hj'];exact hz j hj')
 rw [hn,List.take_of_length_le (by simp),Qix] at hi
 rw [hn]
 exact hi
def QhJ (w:World) (p1 p2 g n c er:Nat) (zs:List (List UInt8)):Prop:=
 w.cell? ⟨p1,0,none⟩=some (.slice (some ⟨g,0,none⟩) n c)∧w.cell? ⟨p2,0,none⟩=some (.int .i64 er)∧Qc6 w g zs∧n=zs.length∧zs.length≤1000
theorem QiO (p1 p2 g n c er:Nat) (zs:List (List UInt8)) (x:List UInt8) (w:World) (h:QhJ w p1 p2 g n c er zs) :
 Calls Tryz.prog 172 #[.string (Qag x),.pointer (some ⟨p1,0,none⟩),.pointer (some ⟨p2,0,none⟩)] w fun e w'=>e=.returned (.int .i64 (Qcs er zs x))∧w'=w:=by
 obtain ⟨h1,h2,hz,hn,hl⟩:=h
 have hC:=Qaa (QgI g n c zs x w hz hn hl)
 clear hz hn
 by_cases h:0 < whichL zs x
 ·have HE:Hid (Qcs er zs x=0):=by show _=_;unfold Qcs;rw [if_pos h]
  have hd:decide (0 < whichL zs x)=true:=by simpa using h
  rw [hd] at hC
  go_enter Tryz.func172,Tryz.ntmps172
  go_wp2_with (go_at_call 37;refine hC.out.mono ?_;rintro e w' ⟨rfl,rfl⟩)
  go_ret
  exact ⟨Qcb (by rw [HE.out];rfl),rfl⟩
 ·have HE:Hid (Qcs er zs x=er):=by show _=_;unfold Qcs;rw [if_neg h]
  have hd:decide (0 < whichL zs x)=false:=by simpa using h
  rw [hd] at hC
  go_enter Tryz.func172,Tryz.ntmps172
  go_wp2_with (go_at_call 37;refine hC.out.mono ?_;rintro e w' ⟨rfl,rfl⟩)
  go_ret
  exact ⟨Qcb (by rw [HE.out]),rfl⟩
theorem Qhr (er:Int) (g n c:Nat) (w:World) :
 Calls Tryz.prog 117 #[.int .i64 er,.slice (some ⟨g,0,none⟩) n c] w fun e w'=>e=.returned (.func (.func 172) #[] #[.pointer (some ⟨w.heap.size+1,0,none⟩),.pointer (some ⟨w.heap.size,0,none⟩)])∧w'=(w.alloc (.cells #[.int .i64 er] 30)).alloc (.cells #[.slice (some ⟨g,0,none⟩) n c] 89):=by
 have hmf:∀ (fn:Fn) (first cap:Array Value) (w:World),(Instr.makeFunc fn first cap).run Tryz.prog w=.ok (.func fn first cap) w:=fun _ _ _ _=>rfl
 go_enter Tryz.func117,Tryz.ntmps117
 go_wp2
 go_ret
 exact ⟨rfl,rfl⟩
theorem Qmx (f:Nat) (a1 a2:Value) (w:World) :
 Calls Tryz.prog 116 #[.func (.func f) #[] #[a1,a2]] w fun e w'=>e=.returned (.func (.func 171) #[] #[.pointer (some ⟨w.heap.size,0,none⟩)])∧w'=w.alloc (.cells #[.func (.func f) #[] #[a1,a2]] 213):=by
 have hmf:∀ (fn:Fn) (first cap:Array Value) (w:World),(Instr.makeFunc fn first cap).run Tryz.prog w=.ok (.func fn first cap) w:=fun _ _ _ _=>rfl
 go_enter Tryz.func116,Tryz.ntmps116
 go_wp2
 go_ret
 exact ⟨rfl,rfl⟩
def Qgq (w:World) (q p1 p2 g n c er:Nat) (zs:List (List UInt8)):Prop:=
 w.cell? ⟨q,0,none⟩=some (.func (.func 172) #[] #[.pointer (some ⟨p1,0,none⟩),.pointer (some ⟨p2,0,none⟩)])∧QhJ w p1 p2 g n c er zs
theorem Qc6.below {w w':World} {g:Nat} {zs:List (List UInt8)} (h:Qc6 w g zs) (hb:Below w.heap.size w w'):Qc6 w' g zs:=fun j hj=>by
 have:=h j hj
 rw [hb.cell (p:=⟨g,j,none⟩) (Qay this)];exact this
theorem QhJ.below {w w':World} {p1 p2 g n c er:Nat} {zs:List (List UInt8)} (h:QhJ w p1 p2 g n c er zs) (hb:Below w.heap.size w w'):QhJ w' p1 p2 g n c er zs:=by
 obtain ⟨h1,h2,h3,h4,h5⟩:=h
 exact ⟨by rw [hb.cell (p:=⟨p1,0,none⟩) (Qay h1)];exact h1,by rw [hb.cell (p:=⟨p2,0,none⟩) (Qay h2)];exact h2,h3.below hb,h4,h5⟩
theorem QkI (q p1 p2 g n c er:Nat) (zs:List (List UInt8)) (x:List UInt8) (w:World) (h:Qgq w q p1 p2 g n c er zs) (hx:x.length≤1000) :
 Calls Tryz.prog 171 #[.string (Qag x),.pointer (some ⟨q,0,none⟩)] w fun e w'=>e=.returned (.int .i64 (Qdl (Qcs er zs) x))∧Below w.heap.size w w':=by
 obtain ⟨hq,hO⟩:=h
 have HO:=Qaa hO
 have HQ:=Qaa hq
 clear hO
 have hs:=Qaa (fun W=>QeJ (Qag x) W (by rw [QaD];omega))
 go_enter Tryz.func171,Tryz.ntmps171
 go_wp2_with fail
 go_region_with (first | (go_at_call 163;refine (hs.out _).mono ?_;rintro e w1 ⟨rfl,hb⟩;have hq1:=(hb.cell (p:=⟨q,0,none⟩) (Qay HQ.out)).trans HQ.out;skip) | (go_at_call 172;refine (QiO p1 p2 g n c er zs (smallL x) _ (HO.out.below (QaS hb))).mono ?_;rintro e w2 ⟨rfl,rfl⟩;skip))
 all_goals go_wp2
 all_goals go_ret
 all_goals exact ⟨rfl,QaS hb⟩
end
end Go.Proofs.YtbiclelojbfnbabGreatDoor
