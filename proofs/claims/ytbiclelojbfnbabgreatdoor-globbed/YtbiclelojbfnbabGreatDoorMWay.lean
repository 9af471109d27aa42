import Derived.Lib.IndexMore
import Derived.Test.YtbiclelojbfnbabGreatDoorZCIns
import Derived.Test.YtbiclelojbfnbabGreatDoorZPlainSpace2
import Derived.Test.YtbiclelojbfnbabGreatDoorZSAsk
import Derived.Test.YtbiclelojbfnbabGreatDoorZSText
import Derived.Test.YtbiclelojbfnbabGreatDoorShelf
namespace Go.Proofs.YtbiclelojbfnbabGreatDoor
set_option linter.unusedVariables false
set_option linter.unusedSimpArgs false
set_option maxRecDepth 100000
set_option maxHeartbeats 4000000
open Go.RowKit
attribute [local go_sem ↓] Go.wp_at_zero Go.wp_at_succ
theorem QgB (v k:List UInt8):Lib.contains v k=Quq k v:=by
 unfold Lib.contains
 induction v with
 | nil=>
  cases k with
  | nil=>rfl
  | cons c r=>rfl
 | cons c v ih=>
  rw [Lib.index,Quq]
  by_cases h:k.isPrefixOf (c :: v)=true
  ·rw [if_pos h,h];rfl
  ·rw [if_neg h,Bool.eq_false_iff.2 h,Bool.false_or,← ih]
   split
   ·next h1=>have h2:=eq_of_beq h1;rw [h2]
   ·next h1=>
    have h2:Lib.index v k≠-1:=fun e=>h1 (by rw [e];rfl)
    have h3:=Lib.index_ge v k
    rw [Bool.eq_iff_iff]
    simp
    omega
def Qkq (oct:Bool):Value:=if oct then .func (.func 243) #[] #[] else .func (.func 163) #[] #[]
theorem QgA (s:ByteArray) (w:World):Calls Tryz.prog 243 #[.string s] w fun e w'=>e=.returned (.string s)∧w'=w:=by
 go_enter Tryz.func243,Tryz.ntmps243
 go_wp2
 go_ret
 exact ⟨rfl,rfl⟩
theorem Qip (oct:Bool) (w:World):Calls Tryz.prog 218 #[.bool oct] w fun e w'=>e=.returned (Qkq oct)∧w'=w:=by
 cases oct <;>
 (go_enter Tryz.func218,Tryz.ntmps218
  go_wp2
  go_ret
  exact ⟨rfl,rfl⟩)
theorem Qoj (x y:List UInt8) (w:World):Calls Tryz.prog 220 #[.string (Qag x),.string (Qag y)] w fun e w'=>e=.returned (.bool (decide (x=y)))∧w'=w:=by
 have e1:((Qag x).toList == (Qag y).toList)=decide (x=y):=by
  rw [show (Qag y).toList=y by rw [ByteArray.toList_eq];rfl]
  exact Qc1 x y
 go_enter Tryz.func220,Tryz.ntmps220
 go_wp2
 go_ret
 exact ⟨QaU (by rw [← e1]),rfl⟩
theorem Qgp (x:List UInt8) (w:World) (h:x.length≤1000000):Calls Tryz.prog 163 #[.string (Qag x)] w fun e w'=>e=.returned (.string (Qag (smallL x)))∧Below w.heap.size w w':=
 QeJ (Qag x) w (by rw [QaD];omega)
def WayV (w:World) (tag:Int) (oct:Bool) (wv:Value):Prop:=
 (tag=3∧∃ p,wv=.func (.func 222) #[] #[.pointer (some ⟨p,0,none⟩)]∧w.cell? ⟨p,0,none⟩=some (Qkq oct))∨
 (∃ p q,wv=.func (.func 244) #[] #[.pointer (some ⟨p,0,none⟩),.pointer (some ⟨q,0,none⟩)]∧w.cell? ⟨q,0,none⟩=some (Qkq oct)∧
   ((tag=1∧w.cell? ⟨p,0,none⟩=some (.func (.func 220) #[] #[]))∨(tag=2∧w.cell? ⟨p,0,none⟩=some (.func (.func 221) #[] #[]))))
def QeD (tag:Int) (oct:Bool) (v k:List UInt8) (W:World) (e:Ending) (W':World):Prop:=
 Below W.heap.size W W'∧
 ((Qp0 tag oct v k=false∧e=.returned (.tuple #[.slice none 0 0,.bool false]))∨
  (Qp0 tag oct v k=true∧wayT tag oct v k=none∧e=.returned (.tuple #[.slice none 0 0,.bool true]))∨
  (Qp0 tag oct v k=true∧∃ t g c,wayT tag oct v k=some t∧e=.returned (.tuple #[.slice (some ⟨g,0,none⟩) t.length c,.bool true])∧W.heap.size≤g∧Qs8 W' g t))
theorem Qe5 (tag:Int) (oct:Bool) (v k:List UInt8) (h3:tag≠3) (w w':World) (hb:Below w.heap.size w w'):QeD tag oct v k w (.returned (.tuple #[.slice none 0 0,.bool (Qp0 tag oct v k)])) w':=by
 refine ⟨hb,?_⟩
 have ht:wayT tag oct v k=none:=by unfold wayT;rw [if_neg h3]
 cases h:Qp0 tag oct v k
 ·exact Or.inl ⟨rfl,rfl⟩
 ·exact Or.inr (Or.inl ⟨rfl,ht,rfl⟩)
theorem Qj3 (oct:Bool) (p q:Nat) (v k:List UInt8) (w:World) (hv:v.length≤1000000) (hk:k.length≤1000000) (hq:w.cell? ⟨q,0,none⟩=some (Qkq oct)) (hp:w.cell? ⟨p,0,none⟩=some (.func (.func 220) #[] #[])) :
 Calls Tryz.prog 244 #[.string (Qag v),.string (Qag k),.pointer (some ⟨p,0,none⟩),.pointer (some ⟨q,0,none⟩)] w (QeD 1 oct v k w):=by
 have hql:q < w.heap.size:=Qay hq
 have hpl:p < w.heap.size:=Qay hp
 have hsv:(smallL v).length≤1000000:=by simp [smallL];omega
 cases oct
 ·have hq':w.cell? ⟨q,0,none⟩=some (.func (.func 163) #[] #[]):=hq
  have HA:=Qaa (Qe5 1 false v k (by decide))
  clear hq
  go_enter Tryz.func244,Tryz.ntmps244
  go_wp2_with fail
  go_region_held3 (fun w'=>w'.cell? ⟨q,0,none⟩=some (.func (.func 163) #[] #[])∧w'.cell? ⟨p,0,none⟩=some (.func (.func 220) #[] #[])) (first | go_keep) (first
   | (go_at_call 163;refine (Qgp _ _ (by first | exact hv | exact hk)).mono ?_;rintro e wn ⟨rfl,hb⟩;have HBn:Hid (Below w.heap.size w wn):=(by first | exact HBn.out.trans (hb.mono HBn.out.size) | exact QaS hb);have d1:wn.cell? ⟨q,0,none⟩=some (.func (.func 163) #[] #[]):=(HBn.out.cell (p:=⟨q,0,none⟩) hql).trans hq';have d2:wn.cell? ⟨p,0,none⟩=some (.func (.func 220) #[] #[]):=(HBn.out.cell (p:=⟨p,0,none⟩) hpl).trans hp;clear hb;skip)
   | (go_at_call 220;refine (Qoj _ _ _).mono ?_;rintro e w3 ⟨rfl,rfl⟩;skip))
  all_goals go_wp2
  all_goals go_ret2
  all_goals exact HA.out _ _ HBn.out
 ·have hq':w.cell? ⟨q,0,none⟩=some (.func (.func 243) #[] #[]):=hq
  have HA:=Qaa (Qe5 1 true v k (by decide))
  clear hq
  go_enter Tryz.func244,Tryz.ntmps244
  go_wp2_with fail
  go_region_held3 (fun w'=>w'.cell? ⟨q,0,none⟩=some (.func (.func 243) #[] #[])∧w'.cell? ⟨p,0,none⟩=some (.func (.func 220) #[] #[])) (first | go_keep) (first
   | (go_at_call 243;refine (QgA _ _).mono ?_;rintro e w1 ⟨rfl,rfl⟩;skip)
   | (go_at_call 220;refine (Qoj _ _ _).mono ?_;rintro e w3 ⟨rfl,rfl⟩;skip))
  all_goals go_wp2
  all_goals go_ret2
  all_goals exact HA.out _ _ (Qar (Below.refl _ _))
theorem Qiq (oct:Bool) (p q:Nat) (v k:List UInt8) (w:World) (hv:v.length≤1000000) (hk:k.length≤1000000) (hq:w.cell? ⟨q,0,none⟩=some (Qkq oct)) (hp:w.cell? ⟨p,0,none⟩=some (.func (.func 221) #[] #[])) (m:Int) (hm:w.cell? ⟨1,0,none⟩=some (.int .i64 m)) :
 Calls Tryz.prog 244 #[.string (Qag v),.string (Qag k),.pointer (some ⟨p,0,none⟩),.pointer (some ⟨q,0,none⟩)] w (QeD 2 oct v k w):=by
 have hql:q < w.heap.size:=Qay hq
 have hpl:p < w.heap.size:=Qay hp
 have hml:1 < w.heap.size:=Qay hm
 have hsv:(smallL v).length≤1000000:=by simp [smallL];omega
 cases oct
 ·have hq':w.cell? ⟨q,0,none⟩=some (.func (.func 163) #[] #[]):=hq
  have HA:=Qaa (Qe5 2 false v k (by decide))
  clear hq
  go_enter Tryz.func244,Tryz.ntmps244
  go_wp2_with fail
  go_region_held3 (fun w'=>w'.cell? ⟨q,0,none⟩=some (.func (.func 163) #[] #[])∧w'.cell? ⟨p,0,none⟩=some (.func (.func 221) #[] #[])∧w'.cell? ⟨1,0,none⟩=some (.int .i64 m)) (first | go_keep) (first
   | (go_at_call 163;refine (Qgp _ _ (by first | exact hv | exact hk)).mono ?_;rintro e wn ⟨rfl,hb⟩;have HBn:Hid (Below w.heap.size w wn):=(by first | exact HBn.out.trans (hb.mono HBn.out.size) | exact QaS hb);have d1:wn.cell? ⟨q,0,none⟩=some (.func (.func 163) #[] #[]):=(HBn.out.cell (p:=⟨q,0,none⟩) hql).trans hq';have d2:wn.cell? ⟨p,0,none⟩=some (.func (.func 221) #[] #[]):=(HBn.out.cell (p:=⟨p,0,none⟩) hpl).trans hp;have d3:wn.cell? ⟨1,0,none⟩=some (.int .i64 m):=(HBn.out.cell (p:=⟨1,0,none⟩) hml).trans hm;clear hb;skip)
   | (go_at_call 221;refine (Tryz.strings_Contains (Qag (smallL v)) (Qag (smallL k)) m _ (by show (smallL v).length < _;omega) d3).mono ?_;rintro e w3 ⟨rfl,rfl⟩;rw [QgB];skip))
  all_goals go_wp2
  all_goals go_ret2
  all_goals exact HA.out _ _ HBn.out
 ·have hq':w.cell? ⟨q,0,none⟩=some (.func (.func 243) #[] #[]):=hq
  have HA:=Qaa (Qe5 2 true v k (by decide))
  clear hq
  go_enter Tryz.func244,Tryz.ntmps244
  go_wp2_with fail
  go_region_held3 (fun w'=>w'.cell? ⟨q,0,none⟩=some (.func (.func 243) #[] #[])∧w'.cell? ⟨p,0,none⟩=some (.func (.func 221) #[] #[])∧w'.cell? ⟨1,0,none⟩=some (.int .i64 m)) (first | go_keep) (first
   | (go_at_call 243;refine (QgA _ _).mono ?_;rintro e w1 ⟨rfl,rfl⟩;skip)
   | (go_at_call 221;refine (Tryz.strings_Contains (Qag v) (Qag k) m w.drew (by show v.length < _;omega) hm).mono ?_;rintro e w3 ⟨rfl,rfl⟩;rw [QgB];skip))
  all_goals go_wp2
  all_goals go_ret2
  all_goals exact HA.out _ _ (Qar (Below.refl _ _))
theorem QeM:∀ l:List UInt8,(piecesL l).length≤l.length
 | []=>Nat.le_refl _
 | [c]=>Nat.le_refl _
 | c :: d :: r=>by
  have h1:=QeM (d :: r)
  have h2:=QeM r
  rw [piecesL]
  split
  ·simpa using h1
  ·split
   ·simpa using h1
   ·split
    ·simp;omega
    ·simpa using h1
theorem Qf7 (oct:Bool) (x:List UInt8):(lookL oct x).length=x.length:=by
 unfold lookL;split
 ·rfl
 ·simp [smallL]
def Qux (oct:Bool):Nat:=if oct then 243 else 163
theorem QfX (oct:Bool) (x:List UInt8) (w:World) (h:x.length≤1000000):Calls Tryz.prog (Qux oct) #[.string (Qag x)] w fun e w'=>e=.returned (.string (Qag (lookL oct x)))∧Below w.heap.size w w':=by
 cases oct
 ·exact Qgp x w h
 ·exact (QgA (Qag x) w).mono fun e w' he=>⟨he.1,by rw [he.2];exact Below.refl _ _⟩
theorem Qfb {w w':World} {base:Nat} {e:TypeId} {size:Nat} {v:Value} {n:Nat} {xs:List Value} (h:w.ownsRow base e size v n xs) (hb:Below w.heap.size w w'):w'.ownsRow base e size v n xs:=by
 obtain ⟨h1,h2⟩:=h
 refine ⟨h1,?_⟩
 rcases h2 with h2 | ⟨g,cap,cur,hv,hg,hh,r⟩
 ·exact Or.inl h2
 ·exact Or.inr ⟨g,cap,cur,hv,hg,by rw [hb.block g (QaM hh)];exact hh,r⟩
theorem Qk0 {w:World} {base:Nat} {e:TypeId} {size:Nat} {v:Value} {n:Nat} {xs:List Value} (h:w.ownsRow base e size v n xs) (hn:n≠0):∃ g c,v=.slice (some ⟨g,0,none⟩) n c∧base≤g∧g < w.heap.size:=by
 rcases h.2 with ⟨_,h0⟩ | ⟨g,cap,cur,hv,hg,hh,_⟩
 ·exact absurd h0 hn
 ·exact ⟨g,cap,hv,hg,QaM hh⟩
theorem QqQ (q:Nat) (v k:List UInt8) (w:World) (hv:v.length≤1000000) (hk:k.length≤1000000) (hq:w.cell? ⟨q,0,none⟩=some (Qkq false)) :
 Calls Tryz.prog 222 #[.string (Qag v),.string (Qag k),.pointer (some ⟨q,0,none⟩)] w (QeD 3 false v k w):=by
 have hql:q < w.heap.size:=Qay hq
 have hq':w.cell? ⟨q,0,none⟩=some (.func (.func 163) #[] #[]):=hq
 have hlk:=Qf7 false k
 have hlv:=Qf7 false v
 have hpl:=QeM (lookL false k)
 obtain ⟨x,hx⟩:∃ x,lookL false k=x:=⟨_,rfl⟩
 obtain ⟨y,hy⟩:∃ y,lookL false v=y:=⟨_,rfl⟩
 have HX:=Qaa hx
 have HY:=Qaa hy
 rw [hx] at hlk hpl
 rw [hy] at hlv
 have HTW:Hid (∀ k',piecesL x=k'→Qp0 3 false v k=QaJ k' y∧wayT 3 false v k=some (toldTo v k' (placesL k' y 0) k'.length)):=by
  intro k' hk'
  unfold Qp0 wayT
  rw [if_neg (by decide),if_neg (by decide),if_pos rfl,HX.out,HY.out,hk']
  exact ⟨rfl,rfl⟩
 have HP2:Hid (∀ k',piecesL x=k'→∀ j (hj:j < k'.length),k'[j].1=2→k'[j]=(2,0)):=fun k' hk' j hj h=>Qds x _ (by rw [hk'];exact List.getElem_mem hj) h
 clear hq hx hy
 go_enter Tryz.func222,Tryz.ntmps222
 go_wp2_with fail
 refine (QfX false k _ hk).mono ?_
 rintro e w1 ⟨rfl,hb1⟩
 rw [HX.out]
 have c1:w1.cell? ⟨q,0,none⟩=some (.func (.func 163) #[] #[]):=(hb1.cell (p:=⟨q,0,none⟩) hql).trans hq'
 have HB1:=Qaa hb1
 clear hb1 hq'
 go_wp2_with fail
 refine (Qhp (Qag x) w1 (by rw [QaD];omega)).mono ?_
 rintro e w2 ⟨lv,rfl,ho2,hb2⟩
 rw [show (Qag x).data.toList=x from rfl] at ho2
 obtain ⟨pc,hpc⟩:∃ pc,piecesL x=pc:=⟨_,rfl⟩
 have HTW':=Qaa (HTW.out pc hpc)
 have HP2':=Qaa (HP2.out pc hpc)
 rw [hpc] at ho2 hpl
 have c2:w2.cell? ⟨q,0,none⟩=some (.func (.func 163) #[] #[]):=(hb2.cell (p:=⟨q,0,none⟩) (Qay c1)).trans c1
 have HB2:=Qaa (HB1.out.trans (hb2.mono HB1.out.size))
 have HO2:=Qaa ho2
 clear ho2 hb2 c1 hpc HTW HP2
 go_wp2_with fail
 refine (QfX false v _ hv).mono ?_
 rintro e w3 ⟨rfl,hb3⟩
 rw [HY.out]
 have HB3:=Qaa (HB2.out.trans (hb3.mono HB2.out.size))
 have HO3:=Qaa (Qfb HO2.out hb3)
 clear hb3 c2
 go_wp2_with fail
 refine (Qq3 (Qag y) pc lv w1.heap.size w3 (by rw [QaD];omega) (by omega) HO3.out HP2'.out).mono ?_
 rintro e w4 ⟨hf,hb4⟩
 have HB4:=Qaa (HB3.out.trans (hb4.mono HB3.out.size))
 have HO4:=Qaa (Qfb HO3.out hb4)
 clear hb4
 rcases hf with ⟨hm,g,hg,rfl,hbk⟩ | ⟨hm,rfl⟩
 ·have HBK:=Qaa hbk
  have HM:=Qaa hm
  clear hbk hm
  go_wp2_with fail
  refine (Qld (Qag v) pc lv w1.heap.size g (placesL pc y 0) w4 (by rw [QaD];omega) (by omega) HO4.out HBK.out (Qe1 pc y 0) (fun i hi=>?_)).mono ?_
  ·obtain ⟨a,b,h1,h2,h3,h4,h5⟩:=Qic pc y 0 HM.out i hi
   rw [List.getD_eq_getElem?_getD,List.getD_eq_getElem?_getD,h1,h2,QaD]
   exact ⟨h4,by show b≤_;omega⟩
  rintro e w5 ⟨tv,rfl,ho5,hb5⟩
  have HB5:=Qaa (HB4.out.trans (hb5.mono HB4.out.size))
  obtain ⟨r,hr⟩:=Qfo v pc (placesL pc y 0) pc.length
  have hs4:=HB4.out.size
  obtain ⟨g5,c5,htv,hg5,hl5⟩:=Qk0 ho5 (by rw [show (Qag v).data.toList=v from rfl,hr];simp)
  subst htv
  have HT5:=Qaa (Qs8.of_owns ho5)
  have HTT:=HTW'.out.2
  have HTT':=Qaa HTT
  rw [show (Qag v).data.toList=v from rfl] at HT5 ⊢
  obtain ⟨n5,hn5⟩:∃ n,(toldTo v pc (placesL pc y 0) pc.length).length=n:=⟨_,rfl⟩
  have HN:=Qaa hn5
  rw [hn5]
  clear hn5 hr HTT ho5
  go_wp2
  go_ret2
  exact ⟨HB5.out,Or.inr (Or.inr ⟨HTW'.out.1.trans HM.out,_,g5,c5,HTT'.out,by rw [HN.out];rfl,by omega,HT5.out⟩)⟩
 ·have HM:=Qaa hm
  clear hm
  go_wp2
  go_ret2
  exact ⟨HB4.out,Or.inl ⟨HTW'.out.1.trans HM.out,rfl⟩⟩
theorem QtS (q:Nat) (v k:List UInt8) (w:World) (hv:v.length≤1000000) (hk:k.length≤1000000) (hq:w.cell? ⟨q,0,none⟩=some (Qkq true)) :
 Calls Tryz.prog 222 #[.string (Qag v),.string (Qag k),.pointer (some ⟨q,0,none⟩)] w (QeD 3 true v k w):=by
 have hql:q < w.heap.size:=Qay hq
 have hq':w.cell? ⟨q,0,none⟩=some (.func (.func 243) #[] #[]):=hq
 have hlk:=Qf7 true k
 have hlv:=Qf7 true v
 have hpl:=QeM (lookL true k)
 obtain ⟨x,hx⟩:∃ x,lookL true k=x:=⟨_,rfl⟩
 obtain ⟨y,hy⟩:∃ y,lookL true v=y:=⟨_,rfl⟩
 have HX:=Qaa hx
 have HY:=Qaa hy
 rw [hx] at hlk hpl
 rw [hy] at hlv
 have HTW:Hid (∀ k',piecesL x=k'→Qp0 3 true v k=QaJ k' y∧wayT 3 true v k=some (toldTo v k' (placesL k' y 0) k'.length)):=by
  intro k' hk'
  unfold Qp0 wayT
  rw [if_neg (by decide),if_neg (by decide),if_pos rfl,HX.out,HY.out,hk']
  exact ⟨rfl,rfl⟩
 have HP2:Hid (∀ k',piecesL x=k'→∀ j (hj:j < k'.length),k'[j].1=2→k'[j]=(2,0)):=fun k' hk' j hj h=>Qds x _ (by rw [hk'];exact List.getElem_mem hj) h
 clear hq hx hy
 go_enter Tryz.func222,Tryz.ntmps222
 go_wp2_with fail
 refine (QfX true k _ hk).mono ?_
 rintro e w1 ⟨rfl,hb1⟩
 rw [HX.out]
 have c1:w1.cell? ⟨q,0,none⟩=some (.func (.func 243) #[] #[]):=(hb1.cell (p:=⟨q,0,none⟩) hql).trans hq'
 have HB1:=Qaa hb1
 clear hb1 hq'
 go_wp2_with fail
 refine (Qhp (Qag x) w1 (by rw [QaD];omega)).mono ?_
 rintro e w2 ⟨lv,rfl,ho2,hb2⟩
 rw [show (Qag x).data.toList=x from rfl] at ho2
 obtain ⟨pc,hpc⟩:∃ pc,piecesL x=pc:=⟨_,rfl⟩
 have HTW':=Qaa (HTW.out pc hpc)
 have HP2':=Qaa (HP2.out pc hpc)
 rw [hpc] at ho2 hpl
 have c2:w2.cell? ⟨q,0,none⟩=some (.func (.func 243) #[] #[]):=(hb2.cell (p:=⟨q,0,none⟩) (Qay c1)).trans c1
 have HB2:=Qaa (HB1.out.trans (hb2.mono HB1.out.size))
 have HO2:=Qaa ho2
 clear ho2 hb2 c1 hpc HTW HP2
 go_wp2_with fail
 refine (QfX true v _ hv).mono ?_
 rintro e w3 ⟨rfl,hb3⟩
 rw [HY.out]
 have HB3:=Qaa (HB2.out.trans (hb3.mono HB2.out.size))
 have HO3:=Qaa (Qfb HO2.out hb3)
 clear hb3 c2
 go_wp2_with fail
 refine (Qq3 (Qag y) pc lv w1.heap.size w3 (by rw [QaD];omega) (by omega) HO3.out HP2'.out).mono ?_
 rintro e w4 ⟨hf,hb4⟩
 have HB4:=Qaa (HB3.out.trans (hb4.mono HB3.out.size))
 have HO4:=Qaa (Qfb HO3.out hb4)
 clear hb4
 rcases hf with ⟨hm,g,hg,rfl,hbk⟩ | ⟨hm,rfl⟩
 ·have HBK:=Qaa hbk
  have HM:=Qaa hm
  clear hbk hm
  go_wp2_with fail
  refine (Qld (Qag v) pc lv w1.heap.size g (placesL pc y 0) w4 (by rw [QaD];omega) (by omega) HO4.out HBK.out (Qe1 pc y 0) (fun i hi=>?_)).mono ?_
  ·obtain ⟨a,b,h1,h2,h3,h4,h5⟩:=Qic pc y 0 HM.out i hi
   rw [List.getD_eq_getElem?_getD,List.getD_eq_getElem?_getD,h1,h2,QaD]
   exact ⟨h4,by show b≤_;omega⟩
  rintro e w5 ⟨tv,rfl,ho5,hb5⟩
  have HB5:=Qaa (HB4.out.trans (hb5.mono HB4.out.size))
  obtain ⟨r,hr⟩:=Qfo v pc (placesL pc y 0) pc.length
  have hs4:=HB4.out.size
  obtain ⟨g5,c5,htv,hg5,hl5⟩:=Qk0 ho5 (by rw [show (Qag v).data.toList=v from rfl,hr];simp)
  subst htv
  have HT5:=Qaa (Qs8.of_owns ho5)
  have HTT:=HTW'.out.2
  have HTT':=Qaa HTT
  rw [show (Qag v).data.toList=v from rfl] at HT5 ⊢
  obtain ⟨n5,hn5⟩:∃ n,(toldTo v pc (placesL pc y 0) pc.length).length=n:=⟨_,rfl⟩
  have HN:=Qaa hn5
  rw [hn5]
  clear hn5 hr HTT ho5
  go_wp2
  go_ret2
  exact ⟨HB5.out,Or.inr (Or.inr ⟨HTW'.out.1.trans HM.out,_,g5,c5,HTT'.out,by rw [HN.out];rfl,by omega,HT5.out⟩)⟩
 ·have HM:=Qaa hm
  clear hm
  go_wp2
  go_ret2
  exact ⟨HB4.out,Or.inl ⟨HTW'.out.1.trans HM.out,rfl⟩⟩
theorem Qq8 (v:List UInt8) (key:List (Nat×UInt8)) (pl:List Nat) (k:Nat):∀ x∈toldTo v key pl k,x.length≤v.length:=by
 induction k with
 | zero=>intro x hx;rw [toldTo] at hx;simp at hx;rw [hx];exact Nat.le_refl _
 | succ k ih=>
  intro x hx
  rw [toldTo,List.mem_append] at hx
  rcases hx with hx | hx
  ·exact ih x hx
  ·split at hx
   ·cases hx
   ·simp at hx;rw [hx];simp;omega
theorem Qqb {tag:Int} {oct:Bool} {v k:List UInt8} {t:List (List UInt8)} (h:wayT tag oct v k=some t):(∀ x∈t,x.length≤v.length)∧t.length≤k.length+1:=by
 unfold wayT at h
 split at h
 ·cases h
  refine ⟨Qq8 _ _ _ _,?_⟩
  have h1:=Qje v (piecesL (lookL oct k)) (placesL (piecesL (lookL oct k)) (lookL oct v) 0) (piecesL (lookL oct k)).length
  have h2:=QeM (lookL oct k)
  rw [Qf7] at h2
  omega
 ·cases h
theorem QtH (oct:Bool) (q:Nat) (v k:List UInt8) (w:World) (hv:v.length≤1000000) (hk:k.length≤1000000) (hq:w.cell? ⟨q,0,none⟩=some (Qkq oct)) :
 Calls Tryz.prog 222 #[.string (Qag v),.string (Qag k),.pointer (some ⟨q,0,none⟩)] w (QeD 3 oct v k w):=by
 cases oct
 ·exact QqQ q v k w hv hk hq
 ·exact QtS q v k w hv hk hq
end Go.Proofs.YtbiclelojbfnbabGreatDoor
