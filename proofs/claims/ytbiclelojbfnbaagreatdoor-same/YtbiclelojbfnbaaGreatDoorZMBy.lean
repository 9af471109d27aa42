import Derived.Lib.IndexMore
import Derived.Laws.EntriesVeiled
import Derived.Test.YtbiclelojbfnbaaGreatDoorZCLand
import Derived.Test.YtbiclelojbfnbaaGreatDoorZCapital
import Derived.Test.YtbiclelojbfnbaaGreatDoorZPlainParse
import Derived.Test.YtbiclelojbfnbaaGreatDoorZReaderD
import Derived.Test.YtbiclelojbfnbaaGreatDoorZSExists
import Derived.Test.YtbiclelojbfnbaaGreatDoorZSTexts
import Derived.Test.YtbiclelojbfnbaaGreatDoorShelf
import Derived.Test.YtbiclelojbfnbaaGreatDoorZTake
namespace Go.Proofs.YtbiclelojbfnbaaGreatDoor
set_option linter.unusedVariables false
set_option linter.unusedSimpArgs false
set_option maxRecDepth 100000
set_option maxHeartbeats 4000000
section
open Go.RowKit
attribute [local go_sem ↓] Go.wp_at_zero Go.wp_at_succ
theorem Qhx (v k:List UInt8):Lib.contains v k=Qvt k v:=by
 unfold Lib.contains
 induction v with
 | nil=>
  cases k with
  | nil=>rfl
  | cons c r=>rfl
 | cons c v ih=>
  rw [Lib.index,Qvt]
  by_cases h:k.isPrefixOf (c :: v)=true
  ·rw [if_pos h,h];rfl
  ·rw [if_neg h,Bool.eq_false_iff.2 h,Bool.false_or,← ih]
   split
   ·next h1=>have h2:=eq_of_beq h1;rw [h2]
   ·next h1=>
    have h2:Lib.index v k≠-1:=fun e=>h1 (by rw [e];rfl)
    have h3:=Lib.index_ge v k
    rw [Bool.eq_iff_iff]
    simp
    omega
def QkU (oct:Bool):Value:=if oct then .func (.func 353) #[] #[] else .func (.func 247) #[] #[]
theorem Qg5 (s:ByteArray) (w:World):Calls Tryz.prog 353 #[.string s] w fun e w'=>e=.returned (.string s)∧w'=w:=by
 go_enter Tryz.func353,Tryz.ntmps353
 go_wp2
 go_ret
 exact ⟨rfl,rfl⟩
theorem Qjq (oct:Bool) (w:World):Calls Tryz.prog 321 #[.bool oct] w fun e w'=>e=.returned (QkU oct)∧w'=w:=by
 cases oct <;>
 (go_enter Tryz.func321,Tryz.ntmps321
  go_wp2
  go_ret
  exact ⟨rfl,rfl⟩)
theorem Qpg (x y:List UInt8) (w:World):Calls Tryz.prog 323 #[.string (Qad x),.string (Qad y)] w fun e w'=>e=.returned (.bool (decide (x=y)))∧w'=w:=by
 have e1:((Qad x).toList == (Qad y).toList)=decide (x=y):=by
  rw [show (Qad y).toList=y by rw [ByteArray.toList_eq];rfl]
  exact Qdc x y
 go_enter Tryz.func323,Tryz.ntmps323
 go_wp2
 go_ret
 exact ⟨QaW (by rw [← e1]),rfl⟩
theorem Qg1 (x:List UInt8) (w:World) (h:x.length≤1000000):Calls Tryz.prog 247 #[.string (Qad x)] w fun e w'=>e=.returned (.string (Qad (smallL x)))∧Below w.heap.size w w':=
 Qe8 (Qad x) w (by rw [Qat];omega)
def WayV (w:World) (tag:Int) (oct:Bool) (wv:Value):Prop:=
 (tag=3∧∃ p,wv=.func (.func 325) #[] #[.pointer (some ⟨p,0,none⟩)]∧w.cell? ⟨p,0,none⟩=some (QkU oct))∨
 (∃ p q,wv=.func (.func 354) #[] #[.pointer (some ⟨p,0,none⟩),.pointer (some ⟨q,0,none⟩)]∧w.cell? ⟨q,0,none⟩=some (QkU oct)∧
   ((tag=1∧w.cell? ⟨p,0,none⟩=some (.func (.func 323) #[] #[]))∨(tag=2∧w.cell? ⟨p,0,none⟩=some (.func (.func 324) #[] #[]))))
def Qfj (tag:Int) (oct:Bool) (v k:List UInt8) (W:World) (e:Ending) (W':World):Prop:=
 Below W.heap.size W W'∧
 ((QrR tag oct v k=false∧e=.returned (.tuple #[.slice none 0 0,.bool false]))∨
  (QrR tag oct v k=true∧wayT tag oct v k=none∧e=.returned (.tuple #[.slice none 0 0,.bool true]))∨
  (QrR tag oct v k=true∧∃ t g c,wayT tag oct v k=some t∧e=.returned (.tuple #[.slice (some ⟨g,0,none⟩) t.length c,.bool true])∧W.heap.size≤g∧QtP W' g t))
theorem Qfp (tag:Int) (oct:Bool) (v k:List UInt8) (h3:tag≠3) (w w':World) (hb:Below w.heap.size w w'):Qfj tag oct v k w (.returned (.tuple #[.slice none 0 0,.bool (QrR tag oct v k)])) w':=by
 refine ⟨hb,?_⟩
 have ht:wayT tag oct v k=none:=by unfold wayT;rw [if_neg h3]
 cases h:QrR tag oct v k
 ·exact Or.inl ⟨rfl,rfl⟩
 ·exact Or.inr (Or.inl ⟨rfl,ht,rfl⟩)
theorem QkP (oct:Bool) (p q:Nat) (v k:List UInt8) (w:World) (hv:v.length≤1000000) (hk:k.length≤1000000) (hq:w.cell? ⟨q,0,none⟩=some (QkU oct)) (hp:w.cell? ⟨p,0,none⟩=some (.func (.func 323) #[] #[])) :
 Calls Tryz.prog 354 #[.string (Qad v),.string (Qad k),.pointer (some ⟨p,0,none⟩),.pointer (some ⟨q,0,none⟩)] w (Qfj 1 oct v k w):=by
 have hql:q < w.heap.size:=Qax hq
 have hpl:p < w.heap.size:=Qax hp
 have hsv:(smallL v).length≤1000000:=by simp [smallL];omega
 cases oct
 ·have hq':w.cell? ⟨q,0,none⟩=some (.func (.func 247) #[] #[]):=hq
  have HA:=Qab (Qfp 1 false v k (by decide))
  clear hq
  go_enter Tryz.func354,Tryz.ntmps354
  go_wp2_with fail
  go_region_held3 (fun w'=>w'.cell? ⟨q,0,none⟩=some (.func (.func 247) #[] #[])∧w'.cell? ⟨p,0,none⟩=some (.func (.func 323) #[] #[])) (first | go_keep) (first
   | (go_at_call 247;refine (Qg1 _ _ (by first | exact hv | exact hk)).mono ?_;rintro e wn ⟨rfl,hb⟩;have HBn:Hid (Below w.heap.size w wn):=(by first | exact HBn.out.trans (hb.mono HBn.out.size) | exact Qa4 hb);have d1:wn.cell? ⟨q,0,none⟩=some (.func (.func 247) #[] #[]):=(HBn.out.cell (p:=⟨q,0,none⟩) hql).trans hq';have d2:wn.cell? ⟨p,0,none⟩=some (.func (.func 323) #[] #[]):=(HBn.out.cell (p:=⟨p,0,none⟩) hpl).trans hp;clear hb;skip)
   | (go_at_call 323;refine (Qpg _ _ _).mono ?_;rintro e w3 ⟨rfl,rfl⟩;skip))
  all_goals go_wp2
  all_goals go_ret2
  all_goals exact HA.out _ _ HBn.out
 ·have hq':w.cell? ⟨q,0,none⟩=some (.func (.func 353) #[] #[]):=hq
  have HA:=Qab (Qfp 1 true v k (by decide))
  clear hq
  go_enter Tryz.func354,Tryz.ntmps354
  go_wp2_with fail
  go_region_held3 (fun w'=>w'.cell? ⟨q,0,none⟩=some (.func (.func 353) #[] #[])∧w'.cell? ⟨p,0,none⟩=some (.func (.func 323) #[] #[])) (first | go_keep) (first
   | (go_at_call 353;refine (Qg5 _ _).mono ?_;rintro e w1 ⟨rfl,rfl⟩;skip)
   | (go_at_call 323;refine (Qpg _ _ _).mono ?_;rintro e w3 ⟨rfl,rfl⟩;skip))
  all_goals go_wp2
  all_goals go_ret2
  all_goals exact HA.out _ _ (Qaz (Below.refl _ _))
theorem Qje (oct:Bool) (p q:Nat) (v k:List UInt8) (w:World) (hv:v.length≤1000000) (hk:k.length≤1000000) (hq:w.cell? ⟨q,0,none⟩=some (QkU oct)) (hp:w.cell? ⟨p,0,none⟩=some (.func (.func 324) #[] #[])) (m:Int) (hm:w.cell? ⟨1,0,none⟩=some (.int .i64 m)) :
 Calls Tryz.prog 354 #[.string (Qad v),.string (Qad k),.pointer (some ⟨p,0,none⟩),.pointer (some ⟨q,0,none⟩)] w (Qfj 2 oct v k w):=by
 have hql:q < w.heap.size:=Qax hq
 have hpl:p < w.heap.size:=Qax hp
 have hml:1 < w.heap.size:=Qax hm
 have hsv:(smallL v).length≤1000000:=by simp [smallL];omega
 cases oct
 ·have hq':w.cell? ⟨q,0,none⟩=some (.func (.func 247) #[] #[]):=hq
  have HA:=Qab (Qfp 2 false v k (by decide))
  clear hq
  go_enter Tryz.func354,Tryz.ntmps354
  go_wp2_with fail
  go_region_held3 (fun w'=>w'.cell? ⟨q,0,none⟩=some (.func (.func 247) #[] #[])∧w'.cell? ⟨p,0,none⟩=some (.func (.func 324) #[] #[])∧w'.cell? ⟨1,0,none⟩=some (.int .i64 m)) (first | go_keep) (first
   | (go_at_call 247;refine (Qg1 _ _ (by first | exact hv | exact hk)).mono ?_;rintro e wn ⟨rfl,hb⟩;have HBn:Hid (Below w.heap.size w wn):=(by first | exact HBn.out.trans (hb.mono HBn.out.size) | exact Qa4 hb);have d1:wn.cell? ⟨q,0,none⟩=some (.func (.func 247) #[] #[]):=(HBn.out.cell (p:=⟨q,0,none⟩) hql).trans hq';have d2:wn.cell? ⟨p,0,none⟩=some (.func (.func 324) #[] #[]):=(HBn.out.cell (p:=⟨p,0,none⟩) hpl).trans hp;have d3:wn.cell? ⟨1,0,none⟩=some (.int .i64 m):=(HBn.out.cell (p:=⟨1,0,none⟩) hml).trans hm;clear hb;skip)
   | (go_at_call 324;refine (Tryz.strings_Contains (Qad (smallL v)) (Qad (smallL k)) m _ (by show (smallL v).length < _;omega) d3).mono ?_;rintro e w3 ⟨rfl,rfl⟩;rw [Qhx];skip))
  all_goals go_wp2
  all_goals go_ret2
  all_goals exact HA.out _ _ HBn.out
 ·have hq':w.cell? ⟨q,0,none⟩=some (.func (.func 353) #[] #[]):=hq
  have HA:=Qab (Qfp 2 true v k (by decide))
  clear hq
  go_enter Tryz.func354,Tryz.ntmps354
  go_wp2_with fail
  go_region_held3 (fun w'=>w'.cell? ⟨q,0,none⟩=some (.func (.func 353) #[] #[])∧w'.cell? ⟨p,0,none⟩=some (.func (.func 324) #[] #[])∧w'.cell? ⟨1,0,none⟩=some (.int .i64 m)) (first | go_keep) (first
   | (go_at_call 353;refine (Qg5 _ _).mono ?_;rintro e w1 ⟨rfl,rfl⟩;skip)
   | (go_at_call 324;refine (Tryz.strings_Contains (Qad v) (Qad k) m w.drew (by show v.length < _;omega) hm).mono ?_;rintro e w3 ⟨rfl,rfl⟩;rw [Qhx];skip))
  all_goals go_wp2
  all_goals go_ret2
  all_goals exact HA.out _ _ (Qaz (Below.refl _ _))
theorem Qe1:∀ l:List UInt8,(piecesL l).length≤l.length
 | []=>Nat.le_refl _
 | [c]=>Nat.le_refl _
 | c :: d :: r=>by
  have h1:=Qe1 (d :: r)
  have h2:=Qe1 r
  rw [piecesL]
  split
  ·simpa using h1
  ·split
   ·simpa using h1
   ·split
    ·simp;omega
    ·simpa using h1
theorem Qgs (oct:Bool) (x:List UInt8):(lookL oct x).length=x.length:=by
 unfold lookL;split
 ·rfl
 ·simp [smallL]
def QvD (oct:Bool):Nat:=if oct then 353 else 247
theorem Qgq (oct:Bool) (x:List UInt8) (w:World) (h:x.length≤1000000):Calls Tryz.prog (QvD oct) #[.string (Qad x)] w fun e w'=>e=.returned (.string (Qad (lookL oct x)))∧Below w.heap.size w w':=by
 cases oct
 ·exact Qg1 x w h
 ·exact (Qg5 (Qad x) w).mono fun e w' he=>⟨he.1,by rw [he.2];exact Below.refl _ _⟩
theorem Qfw {w w':World} {base:Nat} {e:TypeId} {size:Nat} {v:Value} {n:Nat} {xs:List Value} (h:w.ownsRow base e size v n xs) (hb:Below w.heap.size w w'):w'.ownsRow base e size v n xs:=by
 obtain ⟨h1,h2⟩:=h
 refine ⟨h1,?_⟩
 rcases h2 with h2 | ⟨g,cap,cur,hv,hg,hh,r⟩
 ·exact Or.inl h2
 ·exact Or.inr ⟨g,cap,cur,hv,hg,by rw [hb.block g (QaH hh)];exact hh,r⟩
theorem QmF {w:World} {base:Nat} {e:TypeId} {size:Nat} {v:Value} {n:Nat} {xs:List Value} (h:w.ownsRow base e size v n xs) (hn:n≠0):∃ g c,v=.slice (some ⟨g,0,none⟩) n c∧base≤g∧g < w.heap.size:=by
 rcases h.2 with ⟨_,h0⟩ | ⟨g,cap,cur,hv,hg,hh,_⟩
 ·exact absurd h0 hn
 ·exact ⟨g,cap,hv,hg,QaH hh⟩
theorem QsB (q:Nat) (v k:List UInt8) (w:World) (hv:v.length≤1000000) (hk:k.length≤1000000) (hq:w.cell? ⟨q,0,none⟩=some (QkU false)) :
 Calls Tryz.prog 325 #[.string (Qad v),.string (Qad k),.pointer (some ⟨q,0,none⟩)] w (Qfj 3 false v k w):=by
 have hql:q < w.heap.size:=Qax hq
 have hq':w.cell? ⟨q,0,none⟩=some (.func (.func 247) #[] #[]):=hq
 have hlk:=Qgs false k
 have hlv:=Qgs false v
 have hpl:=Qe1 (lookL false k)
 obtain ⟨x,hx⟩:∃ x,lookL false k=x:=⟨_,rfl⟩
 obtain ⟨y,hy⟩:∃ y,lookL false v=y:=⟨_,rfl⟩
 have HX:=Qab hx
 have HY:=Qab hy
 rw [hx] at hlk hpl
 rw [hy] at hlv
 have HTW:Hid (∀ k',piecesL x=k'→QrR 3 false v k=QaU k' y∧wayT 3 false v k=some (toldTo v k' (placesL k' y 0) k'.length)):=by
  intro k' hk'
  unfold QrR wayT
  rw [if_neg (by decide),if_neg (by decide),if_pos rfl,HX.out,HY.out,hk']
  exact ⟨rfl,rfl⟩
 have HP2:Hid (∀ k',piecesL x=k'→∀ j (hj:j < k'.length),k'[j].1=2→k'[j]=(2,0)):=fun k' hk' j hj h=>QdG x _ (by rw [hk'];exact List.getElem_mem hj) h
 clear hq hx hy
 go_enter Tryz.func325,Tryz.ntmps325
 go_wp2_with fail
 refine (Qgq false k _ hk).mono ?_
 rintro e w1 ⟨rfl,hb1⟩
 rw [HX.out]
 have c1:w1.cell? ⟨q,0,none⟩=some (.func (.func 247) #[] #[]):=(hb1.cell (p:=⟨q,0,none⟩) hql).trans hq'
 have HB1:=Qab hb1
 clear hb1 hq'
 go_wp2_with fail
 refine (QiC (Qad x) w1 (by rw [Qat];omega)).mono ?_
 rintro e w2 ⟨lv,rfl,ho2,hb2⟩
 rw [show (Qad x).data.toList=x from rfl] at ho2
 obtain ⟨pc,hpc⟩:∃ pc,piecesL x=pc:=⟨_,rfl⟩
 have HTW':=Qab (HTW.out pc hpc)
 have HP2':=Qab (HP2.out pc hpc)
 rw [hpc] at ho2 hpl
 have c2:w2.cell? ⟨q,0,none⟩=some (.func (.func 247) #[] #[]):=(hb2.cell (p:=⟨q,0,none⟩) (Qax c1)).trans c1
 have HB2:=Qab (HB1.out.trans (hb2.mono HB1.out.size))
 have HO2:=Qab ho2
 clear ho2 hb2 c1 hpc HTW HP2
 go_wp2_with fail
 refine (Qgq false v _ hv).mono ?_
 rintro e w3 ⟨rfl,hb3⟩
 rw [HY.out]
 have HB3:=Qab (HB2.out.trans (hb3.mono HB2.out.size))
 have HO3:=Qab (Qfw HO2.out hb3)
 clear hb3 c2
 go_wp2_with fail
 refine (QsA (Qad y) pc lv w1.heap.size w3 (by rw [Qat];omega) (by omega) HO3.out HP2'.out).mono ?_
 rintro e w4 ⟨hf,hb4⟩
 have HB4:=Qab (HB3.out.trans (hb4.mono HB3.out.size))
 have HO4:=Qab (Qfw HO3.out hb4)
 clear hb4
 rcases hf with ⟨hm,g,hg,rfl,hbk⟩ | ⟨hm,rfl⟩
 ·have HBK:=Qab hbk
  have HM:=Qab hm
  clear hbk hm
  go_wp2_with fail
  refine (Qls (Qad v) pc lv w1.heap.size g (placesL pc y 0) w4 (by rw [Qat];omega) (by omega) HO4.out HBK.out (Qfq pc y 0) (fun i hi=>?_)).mono ?_
  ·obtain ⟨a,b,h1,h2,h3,h4,h5⟩:=Qia pc y 0 HM.out i hi
   rw [List.getD_eq_getElem?_getD,List.getD_eq_getElem?_getD,h1,h2,Qat]
   exact ⟨h4,by show b≤_;omega⟩
  rintro e w5 ⟨tv,rfl,ho5,hb5⟩
  have HB5:=Qab (HB4.out.trans (hb5.mono HB4.out.size))
  obtain ⟨r,hr⟩:=Qi5 v pc (placesL pc y 0) pc.length
  have hs4:=HB4.out.size
  obtain ⟨g5,c5,htv,hg5,hl5⟩:=QmF ho5 (by rw [show (Qad v).data.toList=v from rfl,hr];simp)
  subst htv
  have HT5:=Qab (QtP.of_owns ho5)
  have HTT:=HTW'.out.2
  have HTT':=Qab HTT
  rw [show (Qad v).data.toList=v from rfl] at HT5 ⊢
  obtain ⟨n5,hn5⟩:∃ n,(toldTo v pc (placesL pc y 0) pc.length).length=n:=⟨_,rfl⟩
  have HN:=Qab hn5
  rw [hn5]
  clear hn5 hr HTT ho5
  go_wp2
  go_ret2
  exact ⟨HB5.out,Or.inr (Or.inr ⟨HTW'.out.1.trans HM.out,_,g5,c5,HTT'.out,by rw [HN.out];rfl,by omega,HT5.out⟩)⟩
 ·have HM:=Qab hm
  clear hm
  go_wp2
  go_ret2
  exact ⟨HB4.out,Or.inl ⟨HTW'.out.1.trans HM.out,rfl⟩⟩
theorem QuA (q:Nat) (v k:List UInt8) (w:World) (hv:v.length≤1000000) (hk:k.length≤1000000) (hq:w.cell? ⟨q,0,none⟩=some (QkU true)) :
 Calls Tryz.prog 325 #[.string (Qad v),.string (Qad k),.pointer (some ⟨q,0,none⟩)] w (Qfj 3 true v k w):=by
 have hql:q < w.heap.size:=Qax hq
 have hq':w.cell? ⟨q,0,none⟩=some (.func (.func 353) #[] #[]):=hq
 have hlk:=Qgs true k
 have hlv:=Qgs true v
 have hpl:=Qe1 (lookL true k)
 obtain ⟨x,hx⟩:∃ x,lookL true k=x:=⟨_,rfl⟩
 obtain ⟨y,hy⟩:∃ y,lookL true v=y:=⟨_,rfl⟩
 have HX:=Qab hx
 have HY:=Qab hy
 rw [hx] at hlk hpl
 rw [hy] at hlv
 have HTW:Hid (∀ k',piecesL x=k'→QrR 3 true v k=QaU k' y∧wayT 3 true v k=some (toldTo v k' (placesL k' y 0) k'.length)):=by
  intro k' hk'
  unfold QrR wayT
  rw [if_neg (by decide),if_neg (by decide),if_pos rfl,HX.out,HY.out,hk']
  exact ⟨rfl,rfl⟩
 have HP2:Hid (∀ k',piecesL x=k'→∀ j (hj:j < k'.length),k'[j].1=2→k'[j]=(2,0)):=fun k' hk' j hj h=>QdG x _ (by rw [hk'];exact List.getElem_mem hj) h
 clear hq hx hy
 go_enter Tryz.func325,Tryz.ntmps325
 go_wp2_with fail
 refine (Qgq true k _ hk).mono ?_
 rintro e w1 ⟨rfl,hb1⟩
 rw [HX.out]
 have c1:w1.cell? ⟨q,0,none⟩=some (.func (.func 353) #[] #[]):=(hb1.cell (p:=⟨q,0,none⟩) hql).trans hq'
 have HB1:=Qab hb1
 clear hb1 hq'
 go_wp2_with fail
 refine (QiC (Qad x) w1 (by rw [Qat];omega)).mono ?_
 rintro e w2 ⟨lv,rfl,ho2,hb2⟩
 rw [show (Qad x).data.toList=x from rfl] at ho2
 obtain ⟨pc,hpc⟩:∃ pc,piecesL x=pc:=⟨_,rfl⟩
 have HTW':=Qab (HTW.out pc hpc)
 have HP2':=Qab (HP2.out pc hpc)
 rw [hpc] at ho2 hpl
 have c2:w2.cell? ⟨q,0,none⟩=some (.func (.func 353) #[] #[]):=(hb2.cell (p:=⟨q,0,none⟩) (Qax c1)).trans c1
 have HB2:=Qab (HB1.out.trans (hb2.mono HB1.out.size))
 have HO2:=Qab ho2
 clear ho2 hb2 c1 hpc HTW HP2
 go_wp2_with fail
 refine (Qgq true v _ hv).mono ?_
 rintro e w3 ⟨rfl,hb3⟩
 rw [HY.out]
 have HB3:=Qab (HB2.out.trans (hb3.mono HB2.out.size))
 have HO3:=Qab (Qfw HO2.out hb3)
 clear hb3 c2
 go_wp2_with fail
 refine (QsA (Qad y) pc lv w1.heap.size w3 (by rw [Qat];omega) (by omega) HO3.out HP2'.out).mono ?_
 rintro e w4 ⟨hf,hb4⟩
 have HB4:=Qab (HB3.out.trans (hb4.mono HB3.out.size))
 have HO4:=Qab (Qfw HO3.out hb4)
 clear hb4
 rcases hf with ⟨hm,g,hg,rfl,hbk⟩ | ⟨hm,rfl⟩
 ·have HBK:=Qab hbk
  have HM:=Qab hm
  clear hbk hm
  go_wp2_with fail
  refine (Qls (Qad v) pc lv w1.heap.size g (placesL pc y 0) w4 (by rw [Qat];omega) (by omega) HO4.out HBK.out (Qfq pc y 0) (fun i hi=>?_)).mono ?_
  ·obtain ⟨a,b,h1,h2,h3,h4,h5⟩:=Qia pc y 0 HM.out i hi
   rw [List.getD_eq_getElem?_getD,List.getD_eq_getElem?_getD,h1,h2,Qat]
   exact ⟨h4,by show b≤_;omega⟩
  rintro e w5 ⟨tv,rfl,ho5,hb5⟩
  have HB5:=Qab (HB4.out.trans (hb5.mono HB4.out.size))
  obtain ⟨r,hr⟩:=Qi5 v pc (placesL pc y 0) pc.length
  have hs4:=HB4.out.size
  obtain ⟨g5,c5,htv,hg5,hl5⟩:=QmF ho5 (by rw [show (Qad v).data.toList=v from rfl,hr];simp)
  subst htv
  have HT5:=Qab (QtP.of_owns ho5)
  have HTT:=HTW'.out.2
  have HTT':=Qab HTT
  rw [show (Qad v).data.toList=v from rfl] at HT5 ⊢
  obtain ⟨n5,hn5⟩:∃ n,(toldTo v pc (placesL pc y 0) pc.length).length=n:=⟨_,rfl⟩
  have HN:=Qab hn5
  rw [hn5]
  clear hn5 hr HTT ho5
  go_wp2
  go_ret2
  exact ⟨HB5.out,Or.inr (Or.inr ⟨HTW'.out.1.trans HM.out,_,g5,c5,HTT'.out,by rw [HN.out];rfl,by omega,HT5.out⟩)⟩
 ·have HM:=Qab hm
  clear hm
  go_wp2
  go_ret2
  exact ⟨HB4.out,Or.inl ⟨HTW'.out.1.trans HM.out,rfl⟩⟩
theorem Qsd (v:List UInt8) (key:List (Nat×UInt8)) (pl:List Nat) (k:Nat):∀ x∈toldTo v key pl k,x.length≤v.length:=by
 induction k with
 | zero=>intro x hx;rw [toldTo] at hx;simp at hx;rw [hx];exact Nat.le_refl _
 | succ k ih=>
  intro x hx
  rw [toldTo,List.mem_append] at hx
  rcases hx with hx | hx
  ·exact ih x hx
  ·split at hx
   ·cases hx
   ·simp at hx;rw [hx];simp;omega
theorem Qrl {tag:Int} {oct:Bool} {v k:List UInt8} {t:List (List UInt8)} (h:wayT tag oct v k=some t):(∀ x∈t,x.length≤v.length)∧t.length≤k.length+1:=by
 unfold wayT at h
 split at h
 ·cases h
  refine ⟨Qsd _ _ _ _,?_⟩
  have h1:=QjX v (piecesL (lookL oct k)) (placesL (piecesL (lookL oct k)) (lookL oct v) 0) (piecesL (lookL oct k)).length
  have h2:=Qe1 (lookL oct k)
  rw [Qgs] at h2
  omega
 ·cases h
theorem Que (oct:Bool) (q:Nat) (v k:List UInt8) (w:World) (hv:v.length≤1000000) (hk:k.length≤1000000) (hq:w.cell? ⟨q,0,none⟩=some (QkU oct)) :
 Calls Tryz.prog 325 #[.string (Qad v),.string (Qad k),.pointer (some ⟨q,0,none⟩)] w (Qfj 3 oct v k w):=by
 cases oct
 ·exact QsB q v k w hv hk hq
 ·exact QuA q v k w hv hk hq
end
section
open Go.RowKit
attribute [local go_sem ↓] Go.wp_at_zero Go.wp_at_succ
def QgF (r:Bool×SS) (B sb:Nat) (M:Msg) (w:World) (e:Ending) (w':World):Prop:=
 e=.returned (.bool r.1)∧SAt w' B sb M r.2∧Fr (PSt B) w w'
theorem SBd.told' {M:Msg} {s:SS} (b:SBd M s) (t:List (List UInt8)) (h1:∀ x∈t,x.length≤100000) (h2:t.length≤1000000):SBd M (Qty s t):=⟨b.fr,b.to,b.hl,b.hd,h1,h2,b.vals,b.met⟩
theorem SI.setTold {w:World} {B sb:Nat} {M:Msg} {s:SS} {hv:Value} {mb:Nat} {tv mv:Value} (h:SI w B sb M s hv mb tv mv) (t:List (List UInt8)) (v:Value) (ht:SlT w v t) (h1:∀ x∈t,x.length≤100000) (h2:t.length≤1000000):SI (w.setCell ⟨sb,6,none⟩ v) B sb M (Qty s t) hv mb v mv:=by
 have hf:Fr (fun k _=>k=sb) w (w.setCell ⟨sb,6,none⟩ v):=(Fr.refl _ w).set h.blk rfl 6 v
 have hne:∀ (k:Nat) (o:Obj),w.heap[k]?=some o→(∀ cs,o≠.cells cs 323)→k≠sb:=fun k o hk ho e=>by
  subst e;rw [h.blk] at hk;cases hk;exact ho _ rfl
 obtain ⟨es,c,hm,hu⟩:=h.mp
 obtain ⟨m,h7⟩:=h.m1
 refine ⟨h.bs,h.bm,h.b1,⟨m,?_⟩,?_,?_,⟨es,c,hf.block _ _ hm (hne _ _ hm (fun cs e=>by cases e)),hu⟩,?_,?_,h.mn,h.bd.told' t h1 h2⟩
 ·have:(1:Nat)≠sb:=by have:=h.b1;have:=h.bs;omega
  rw [World.cell?_of_block (a:=⟨1,0,none⟩) (Below.heap_setCell _ _ _ _ this)];exact h7
 ·exact Qah _ _ _ _ _ _ h.blk
 ·rcases h.hd with h' | ⟨g,c,cs,hv',hb,hc⟩
  ·exact Or.inl h'
  ·exact Or.inr ⟨g,c,cs,hv',hf.block _ _ hb (hne _ _ hb (fun cs e=>by injection e with e1 e2;exact absurd e2 (by decide))),hc⟩
 ·rcases ht with h' | ⟨g,c,hv',cs,hb,hc⟩
  ·exact Or.inl h'
  ·exact Or.inr ⟨g,c,hv',cs,hf.block _ _ hb (hne _ _ hb (fun cs e=>by injection e with e1 e2;exact absurd e2 (by decide))),hc⟩
 ·obtain ⟨h1,h2⟩:=h.met
  refine ⟨h1,?_⟩
  rcases h2 with h2 | ⟨g,cap,cur,hv',hg,hh,r⟩
  ·exact Or.inl h2
  ·exact Or.inr ⟨g,cap,cur,hv',hg,hf.block _ _ hh (hne _ _ hh (fun cs e=>by injection e with e1 e2;exact absurd e2 (by decide))),r⟩
theorem QmH {tag:Int} {oct:Bool} {v:List UInt8} (ks:List (List UInt8)) (j:Nat) (hj:j < ks.length):Qr9 tag oct v (ks.drop j)=if QrR tag oct v ks[j] then some ks[j] else Qr9 tag oct v (ks.drop (j+1)):=by
 rw [List.drop_eq_getElem_cons hj];rfl
theorem Qm2 {tag:Int} {oct:Bool} {ks:List (List UInt8)} (vs:List (List UInt8)) (i:Nat) (hi:i < vs.length):Qo6 tag oct ks (vs.drop i)=match Qr9 tag oct vs[i] ks with | some k=>some (vs[i],k) | none=>Qo6 tag oct ks (vs.drop (i+1)):=by
 rw [List.drop_eq_getElem_cons hi];rfl
theorem QlY {tag:Int} {oct:Bool} {ks:List (List UInt8)} {vs:List (List UInt8)} {i:Nat} {hi:i < vs.length} (h:Qr9 tag oct vs[i] ks=none):Qo6 tag oct ks (vs.drop i)=Qo6 tag oct ks (vs.drop (i+1)):=by
 rw [Qm2 vs i hi,h]
theorem Qgr {tag:Int} {oct:Bool} {ks:List (List UInt8)} {vs:List (List UInt8)} {i:Nat} {hi:i < vs.length} {k:List UInt8} (h:Qr9 tag oct vs[i] ks=some k):Qo6 tag oct ks (vs.drop i)=some (vs[i],k):=by
 rw [Qm2 vs i hi,h]
theorem QmY {s:SS} {tag:Int} {oct:Bool} {vals keys:List (List UInt8)} (h:Qo6 tag oct (keys.map (expL s)) vals=none):askL s tag oct vals keys=(false,s):=by unfold askL;rw [h]
theorem Qsx {s:SS} {tag:Int} {oct:Bool} {vals keys:List (List UInt8)} {v k:List UInt8} (h:Qo6 tag oct (keys.map (expL s)) vals=some (v,k)) (ht:wayT tag oct v k=none):askL s tag oct vals keys=(true,s):=by unfold askL;rw [h];dsimp only;rw [ht]
theorem QlX {s:SS} {tag:Int} {oct:Bool} {vals keys:List (List UInt8)} {v k:List UInt8} {t:List (List UInt8)} (h:Qo6 tag oct (keys.map (expL s)) vals=some (v,k)) (ht:wayT tag oct v k=some t):askL s tag oct vals keys=(true,Qty s t):=by unfold askL;rw [h];dsimp only;rw [ht]
theorem QoK (tag:Int) (oct:Bool) (p:Nat) (B sb:Nat) (M:Msg) (s:SS) (vals keys:List (List UInt8)) (vv kv:Value) (w:World)
 (hw:∀ W v k,Below w.heap.size w W→v.length≤100000→k.length≤100000→Calls Tryz.prog 325 #[.string (Qad v),.string (Qad k),.pointer (some ⟨p,0,none⟩)] W (Qfj tag oct v k W))
 (h:SAt w B sb M s) (hvv:SlT w vv vals) (hkv:SlT w kv keys) (hvl:∀ z∈vals,z.length≤100000) (hkl:∀ z∈keys,z.length≤100000) (hvn:vals.length≤1000000000000) (hkn:keys.length≤1000000) :
 Calls Tryz.prog 273 #[.pointer (some ⟨sb,0,none⟩),.func (.func 325) #[] #[.pointer (some ⟨p,0,none⟩)],vv,kv] w (QgF (askL s tag oct vals keys) B sb M w):=by
 obtain ⟨va,vc,hvv'⟩:=hvv.len
 subst hvv'
 have HVV:=Qab hvv
 have HS:=Qab h
 have HW:=Qab hw
 have HVL:=Qab hvl
 go_enter Tryz.func273,Tryz.ntmps273
 go_wp2_with fail
 refine (QeY B sb M s keys _ w h hkv (fun z hz=>Nat.le_trans (hkl z hz) (by decide)) hkn).mono ?_
 rintro e w1 ⟨v1,rfl,ho1,hb1⟩
 have HT:=Qab (SlT.of_owns ho1 (by simp))
 have HB1:=Qab hb1
 obtain ⟨ta,tc,htv⟩:=QaL ho1
 subst htv
 have hyl:∀ y∈keys.map (expL s),y.length≤100000:=Qgj s keys _ hkl (by decide)
 have hzl:keys.length=(keys.map (expL s)).length:=by simp
 obtain ⟨ks,hks⟩:∃ ks,keys.map (expL s)=ks:=⟨_,rfl⟩
 have HKS:=Qab hks
 have HYL:=Qab hyl
 rw [hks] at HT HYL hzl
 rw [hzl] at hkn HT
 rw [hzl]
 clear ho1 hyl hzl hb1 hkv hkl h hvv hvl hw hks
 go_wp2_with fail
 go_loopw [10,12,13,14,20] (fun _ _ _ _ i wr=>∃ (a:Nat),a≤vals.length∧i=.int .i64 (a:Int)∧Below w.heap.size w wr∧Below w1.heap.size w1 wr∧Qo6 tag oct ks vals=Qo6 tag oct ks (vals.drop a)) (fun _ _ _ _ i _=>vals.length - (intOf i).toNat)
 case atStart=>exact ⟨0,Nat.zero_le _,rfl,HB1.out,Below.refl _ _,rfl⟩
 case round=>
  obtain ⟨a,ha,rfl,hB,hBB,hhit⟩:=hrel
  have HB:=Qab hB
  have HBB:=Qab hBB
  have HA:=Qab hhit
  clear hB hBB hhit
  by_cases hlt:a < vals.length
  rotate_left
  ·have hk':¬ (a:Int) < (vals.length:Int):=by omega
   have HD:=Qab (Qew vals a hlt)
   go_wp2
   go_ret
   have hm:=QmY (s:=s) (tag:=tag) (oct:=oct) (vals:=vals) (keys:=keys) (by rw [HKS.out,HA.out,HD.out];rfl)
   rw [hm]
   exact ⟨rfl,HS.out.below HB.out,Fr.of_below HB.out⟩
  have hk':(a:Int) < (vals.length:Int):=by omega
  obtain ⟨g,hla,hgl,hc1⟩:=HVV.out.get' a hlt
  subst hla
  have c1:wr.cell? ⟨g,a,none⟩=some (.string (Qad vals[a])):=by rw [HB.out.cell (p:=⟨g,a,none⟩) hgl];exact hc1
  have hvk:=HVL.out _ (List.getElem_mem hlt)
  obtain ⟨v,hv⟩:∃ v,vals[a]=v:=⟨_,rfl⟩
  have HV:=Qab hv
  rw [hv] at c1 hvk
  clear hv hc1
  go_wp2_with fail
  go_loopw [12,13,14,26] (fun _ _ _ i wr=>∃ (j:Nat),j≤ks.length∧i=.int .i64 (j:Int)∧Below w.heap.size w wr∧Below w1.heap.size w1 wr∧Qr9 tag oct v ks=Qr9 tag oct v (ks.drop j)) (fun _ _ _ i _=>ks.length - (intOf i).toNat)
  case atStart=>exact ⟨0,Nat.zero_le _,rfl,HB.out,HBB.out,rfl⟩
  case round=>
   obtain ⟨j,hj,rfl,hB2,hBB2,hkey⟩:=hrel
   have HB2:=Qab hB2
   have HBB2:=Qab hBB2
   have HK:=Qab hkey
   clear hB2 hBB2 hkey
   by_cases hjl:j < ks.length
   rotate_left
   ·have hj':¬ (j:Int) < (ks.length:Int):=by omega
    have HD:=Qab (Qew ks j hjl)
    go_wp2
    refine ⟨⟨a+1,by omega,by go_num,HB2.out,HBB2.out,?_⟩,by simp [intOf];omega⟩
    rw [HA.out]
    exact QlY (hi:=hlt) (by rw [HV.out,HK.out,HD.out];rfl)
   have hj':(j:Int) < (ks.length:Int):=by omega
   obtain ⟨g2,hla2,hgl2,hc2⟩:=HT.out.get' j hjl
   subst hla2
   have c2:wr.cell? ⟨g2,j,none⟩=some (.string (Qad ks[j])):=by rw [HBB2.out.cell (p:=⟨g2,j,none⟩) hgl2];exact hc2
   have hkk:=HYL.out _ (List.getElem_mem hjl)
   have HKT:=Qab (QmH (tag:=tag) (oct:=oct) (v:=v) ks j hjl)
   generalize ks[j]=k at *
   clear hc2
   go_wp2_with fail
   refine (HW.out _ v k HB2.out hvk hkk).mono ?_
   rintro e w3 ⟨hb3,hcase⟩
   have HB3:=Qab (HB2.out.trans (hb3.mono HB2.out.size))
   have HBB3:=Qab (HBB2.out.trans (hb3.mono HBB2.out.size))
   clear hb3
   rcases hcase with ⟨hwb,rfl⟩ | ⟨hwb,hwt,rfl⟩ | ⟨hwb,t,g3,c3,hwt,rfl,hg3,htx⟩
   ·rw [hwb] at HKT
    clear hwb
    go_wp2
    refine ⟨⟨j+1,by omega,by go_num,HB3.out,HBB3.out,?_⟩,by simp [intOf];omega⟩
    rw [HK.out,HKT.out]
    rfl
   ·rw [hwb] at HKT
    have HWT:=Qab hwt
    clear hwb hwt
    go_wp2
    go_ret
    have hm:=Qsx (s:=s) (tag:=tag) (oct:=oct) (vals:=vals) (keys:=keys) (v:=v) (k:=k) (by rw [HKS.out,HA.out,Qgr (hi:=hlt) (k:=k) (by rw [HV.out,HK.out,HKT.out];rfl),HV.out]) HWT.out
    rw [hm]
    exact ⟨rfl,HS.out.below HB3.out,Fr.of_below HB3.out⟩
   ·rw [hwb] at HKT
    have HWT:=Qab hwt
    have hbd:=Qrl hwt
    obtain ⟨hv',mb,tv,mv,hSI⟩:=HS.out.below HB3.out
    have HSI:=Qab hSI
    have cc6:w3.cell? ⟨sb,6,none⟩=some tv:=hSI.cell 6
    have ff6:=hSI.frozen 6
    have HTX:=Qab htx
    have htl:=hbd.2
    have HT1:=Qab hbd.1
    clear hwb hwt hSI htx hbd
    go_wp2
    go_ret
    have hm:=QlX (s:=s) (tag:=tag) (oct:=oct) (vals:=vals) (keys:=keys) (v:=v) (k:=k) (t:=t) (by rw [HKS.out,HA.out,Qgr (hi:=hlt) (k:=k) (by rw [HV.out,HK.out,HKT.out];rfl),HV.out]) HWT.out
    rw [hm]
    refine ⟨rfl,⟨hv',mb,_,mv,HSI.out.setTold t _ (Or.inr ⟨g3,c3,rfl,HTX.out⟩) (fun x hx=>Nat.le_trans (HT1.out x hx) hvk) (by omega)⟩,?_⟩
    exact (Fr.of_below HB3.out).set HSI.out.blk HSI.out.ps _ _
theorem QpL (tag:Int) (oct:Bool) (p q:Nat) (B sb:Nat) (M:Msg) (s:SS) (vals keys:List (List UInt8)) (vv kv:Value) (w:World)
 (hw:∀ W v k,Below w.heap.size w W→v.length≤100000→k.length≤100000→Calls Tryz.prog 354 #[.string (Qad v),.string (Qad k),.pointer (some ⟨p,0,none⟩),.pointer (some ⟨q,0,none⟩)] W (Qfj tag oct v k W))
 (h:SAt w B sb M s) (hvv:SlT w vv vals) (hkv:SlT w kv keys) (hvl:∀ z∈vals,z.length≤100000) (hkl:∀ z∈keys,z.length≤100000) (hvn:vals.length≤1000000000000) (hkn:keys.length≤1000000) :
 Calls Tryz.prog 273 #[.pointer (some ⟨sb,0,none⟩),.func (.func 354) #[] #[.pointer (some ⟨p,0,none⟩),.pointer (some ⟨q,0,none⟩)],vv,kv] w (QgF (askL s tag oct vals keys) B sb M w):=by
 obtain ⟨va,vc,hvv'⟩:=hvv.len
 subst hvv'
 have HVV:=Qab hvv
 have HS:=Qab h
 have HW:=Qab hw
 have HVL:=Qab hvl
 go_enter Tryz.func273,Tryz.ntmps273
 go_wp2_with fail
 refine (QeY B sb M s keys _ w h hkv (fun z hz=>Nat.le_trans (hkl z hz) (by decide)) hkn).mono ?_
 rintro e w1 ⟨v1,rfl,ho1,hb1⟩
 have HT:=Qab (SlT.of_owns ho1 (by simp))
 have HB1:=Qab hb1
 obtain ⟨ta,tc,htv⟩:=QaL ho1
 subst htv
 have hyl:∀ y∈keys.map (expL s),y.length≤100000:=Qgj s keys _ hkl (by decide)
 have hzl:keys.length=(keys.map (expL s)).length:=by simp
 obtain ⟨ks,hks⟩:∃ ks,keys.map (expL s)=ks:=⟨_,rfl⟩
 have HKS:=Qab hks
 have HYL:=Qab hyl
 rw [hks] at HT HYL hzl
 rw [hzl] at hkn HT
 rw [hzl]
 clear ho1 hyl hzl hb1 hkv hkl h hvv hvl hw hks
 go_wp2_with fail
 go_loopw [10,12,13,14,20] (fun _ _ _ _ i wr=>∃ (a:Nat),a≤vals.length∧i=.int .i64 (a:Int)∧Below w.heap.size w wr∧Below w1.heap.size w1 wr∧Qo6 tag oct ks vals=Qo6 tag oct ks (vals.drop a)) (fun _ _ _ _ i _=>vals.length - (intOf i).toNat)
 case atStart=>exact ⟨0,Nat.zero_le _,rfl,HB1.out,Below.refl _ _,rfl⟩
 case round=>
  obtain ⟨a,ha,rfl,hB,hBB,hhit⟩:=hrel
  have HB:=Qab hB
  have HBB:=Qab hBB
  have HA:=Qab hhit
  clear hB hBB hhit
  by_cases hlt:a < vals.length
  rotate_left
  ·have hk':¬ (a:Int) < (vals.length:Int):=by omega
   have HD:=Qab (Qew vals a hlt)
   go_wp2
   go_ret
   have hm:=QmY (s:=s) (tag:=tag) (oct:=oct) (vals:=vals) (keys:=keys) (by rw [HKS.out,HA.out,HD.out];rfl)
   rw [hm]
   exact ⟨rfl,HS.out.below HB.out,Fr.of_below HB.out⟩
  have hk':(a:Int) < (vals.length:Int):=by omega
  obtain ⟨g,hla,hgl,hc1⟩:=HVV.out.get' a hlt
  subst hla
  have c1:wr.cell? ⟨g,a,none⟩=some (.string (Qad vals[a])):=by rw [HB.out.cell (p:=⟨g,a,none⟩) hgl];exact hc1
  have hvk:=HVL.out _ (List.getElem_mem hlt)
  obtain ⟨v,hv⟩:∃ v,vals[a]=v:=⟨_,rfl⟩
  have HV:=Qab hv
  rw [hv] at c1 hvk
  clear hv hc1
  go_wp2_with fail
  go_loopw [12,13,14,26] (fun _ _ _ i wr=>∃ (j:Nat),j≤ks.length∧i=.int .i64 (j:Int)∧Below w.heap.size w wr∧Below w1.heap.size w1 wr∧Qr9 tag oct v ks=Qr9 tag oct v (ks.drop j)) (fun _ _ _ i _=>ks.length - (intOf i).toNat)
  case atStart=>exact ⟨0,Nat.zero_le _,rfl,HB.out,HBB.out,rfl⟩
  case round=>
   obtain ⟨j,hj,rfl,hB2,hBB2,hkey⟩:=hrel
   have HB2:=Qab hB2
   have HBB2:=Qab hBB2
   have HK:=Qab hkey
   clear hB2 hBB2 hkey
   by_cases hjl:j < ks.length
   rotate_left
   ·have hj':¬ (j:Int) < (ks.length:Int):=by omega
    have HD:=Qab (Qew ks j hjl)
    go_wp2
    refine ⟨⟨a+1,by omega,by go_num,HB2.out,HBB2.out,?_⟩,by simp [intOf];omega⟩
    rw [HA.out]
    exact QlY (hi:=hlt) (by rw [HV.out,HK.out,HD.out];rfl)
   have hj':(j:Int) < (ks.length:Int):=by omega
   obtain ⟨g2,hla2,hgl2,hc2⟩:=HT.out.get' j hjl
   subst hla2
   have c2:wr.cell? ⟨g2,j,none⟩=some (.string (Qad ks[j])):=by rw [HBB2.out.cell (p:=⟨g2,j,none⟩) hgl2];exact hc2
   have hkk:=HYL.out _ (List.getElem_mem hjl)
   have HKT:=Qab (QmH (tag:=tag) (oct:=oct) (v:=v) ks j hjl)
   generalize ks[j]=k at *
   clear hc2
   go_wp2_with fail
   refine (HW.out _ v k HB2.out hvk hkk).mono ?_
   rintro e w3 ⟨hb3,hcase⟩
   have HB3:=Qab (HB2.out.trans (hb3.mono HB2.out.size))
   have HBB3:=Qab (HBB2.out.trans (hb3.mono HBB2.out.size))
   clear hb3
   rcases hcase with ⟨hwb,rfl⟩ | ⟨hwb,hwt,rfl⟩ | ⟨hwb,t,g3,c3,hwt,rfl,hg3,htx⟩
   ·rw [hwb] at HKT
    clear hwb
    go_wp2
    refine ⟨⟨j+1,by omega,by go_num,HB3.out,HBB3.out,?_⟩,by simp [intOf];omega⟩
    rw [HK.out,HKT.out]
    rfl
   ·rw [hwb] at HKT
    have HWT:=Qab hwt
    clear hwb hwt
    go_wp2
    go_ret
    have hm:=Qsx (s:=s) (tag:=tag) (oct:=oct) (vals:=vals) (keys:=keys) (v:=v) (k:=k) (by rw [HKS.out,HA.out,Qgr (hi:=hlt) (k:=k) (by rw [HV.out,HK.out,HKT.out];rfl),HV.out]) HWT.out
    rw [hm]
    exact ⟨rfl,HS.out.below HB3.out,Fr.of_below HB3.out⟩
   ·rw [hwb] at HKT
    have HWT:=Qab hwt
    have hbd:=Qrl hwt
    obtain ⟨hv',mb,tv,mv,hSI⟩:=HS.out.below HB3.out
    have HSI:=Qab hSI
    have cc6:w3.cell? ⟨sb,6,none⟩=some tv:=hSI.cell 6
    have ff6:=hSI.frozen 6
    have HTX:=Qab htx
    have htl:=hbd.2
    have HT1:=Qab hbd.1
    clear hwb hwt hSI htx hbd
    go_wp2
    go_ret
    have hm:=QlX (s:=s) (tag:=tag) (oct:=oct) (vals:=vals) (keys:=keys) (v:=v) (k:=k) (t:=t) (by rw [HKS.out,HA.out,Qgr (hi:=hlt) (k:=k) (by rw [HV.out,HK.out,HKT.out];rfl),HV.out]) HWT.out
    rw [hm]
    refine ⟨rfl,⟨hv',mb,_,mv,HSI.out.setTold t _ (Or.inr ⟨g3,c3,rfl,HTX.out⟩) (fun x hx=>Nat.le_trans (HT1.out x hx) hvk) (by omega)⟩,?_⟩
    exact (Fr.of_below HB3.out).set HSI.out.blk HSI.out.ps _ _
theorem QfN (tag:Int) (oct:Bool) (B sb:Nat) (M:Msg) (s:SS) (vals keys:List (List UInt8)) (wv vv kv:Value) (w:World) (hw:WayV w tag oct wv)
 (h:SAt w B sb M s) (hvv:SlT w vv vals) (hkv:SlT w kv keys) (hvl:∀ z∈vals,z.length≤100000) (hkl:∀ z∈keys,z.length≤100000) (hvn:vals.length≤1000000000000) (hkn:keys.length≤1000000) :
 Calls Tryz.prog 273 #[.pointer (some ⟨sb,0,none⟩),wv,vv,kv] w (QgF (askL s tag oct vals keys) B sb M w):=by
 rcases hw with ⟨rfl,p,rfl,hp⟩ | ⟨p,q,rfl,hq,hh⟩
 ·refine QoK 3 oct p B sb M s vals keys vv kv w (fun W v k hW h1 h2=>?_) h hvv hkv hvl hkl hvn hkn
  exact Que oct p v k W (by omega) (by omega) ((hW.cell (p:=⟨p,0,none⟩) (Qax hp)).trans hp)
 ·refine QpL tag oct p q B sb M s vals keys vv kv w (fun W v k hW h1 h2=>?_) h hvv hkv hvl hkl hvn hkn
  have hq':=(hW.cell (p:=⟨q,0,none⟩) (Qax hq)).trans hq
  rcases hh with ⟨rfl,hp⟩ | ⟨rfl,hp⟩
  ·exact QkP oct p q v k W (by omega) (by omega) hq' ((hW.cell (p:=⟨p,0,none⟩) (Qax hp)).trans hp)
  ·obtain ⟨hv,mb,tv,mv,hS⟩:=h
   obtain ⟨m,hm⟩:=hS.m1
   exact Qje oct p q v k W (by omega) (by omega) hq' ((hW.cell (p:=⟨p,0,none⟩) (Qax hp)).trans hp) m ((hW.cell (p:=⟨1,0,none⟩) (Qax hm)).trans hm)
end
section
open Go.RowKit
attribute [local go_sem ↓] Go.wp_at_zero Go.wp_at_succ
def Qdn (es:Array MapEntry) (f:Int→Option Value):Prop:=
 (∀ e∈es.toList,∃ x,e.key=.int .i64 x∧f x=some e.val)∧∀ x v,f x=some v→∃ e∈es.toList,e.key=.int .i64 x
theorem Qdn.keys {es:Array MapEntry} {f:Int→Option Value} (h:Qdn es f):∀ e∈es.toList,MapKept.IsKey (.int .i64) e.key:=fun e he=>by
 obtain ⟨x,hx,_⟩:=h.1 e he
 rw [hx];rfl
theorem Qdn.empty:Qdn #[] (fun _=>none):=⟨fun e he=>by simp at he,fun x v h=>by cases h⟩
theorem Qdn.push {es:Array MapEntry} {f g:Int→Option Value} (h:Qdn es f) {x:Int} {v:Value} {c:Nat} (hn:f x=none) (hx:g x=some v) (hg:∀ z,z≠x→g z=f z):Qdn (es.push ⟨.int .i64 x,v,c⟩) g:=by
 refine ⟨fun e he=>?_,fun z u hz=>?_⟩
 ·simp only [Array.toList_push,List.mem_append,List.mem_singleton] at he
  rcases he with he | he
  ·obtain ⟨z,h1,h2⟩:=h.1 e he
   have:z≠x:=fun e=>by rw [e,hn] at h2;cases h2
   exact ⟨z,h1,by rw [hg z this];exact h2⟩
  ·subst he;exact ⟨x,rfl,hx⟩
 ·by_cases e:z=x
  ·exact ⟨⟨.int .i64 x,v,c⟩,by simp,by rw [e]⟩
  ·rw [hg z e] at hz
   obtain ⟨y,hy,hk⟩:=h.2 z u hz
   exact ⟨y,by simp [hy],hk⟩
theorem Qdn.congr {es:Array MapEntry} {f g:Int→Option Value} (h:Qdn es f) (e:∀ x,f x=g x):Qdn es g:=by
 have:f=g:=funext e
 rw [← this];exact h
theorem QfO {T K E:TypeId} (hT:Tryz.prog.underlying T=some (.map K E)) (hK:Tryz.prog.underlying K=some (.int .i64)) {w:World} {m:Nat} {es:Array MapEntry} {c:Nat} {f:Int→Option Value} {x:Int} (hm:w.heap[m]?=some (.map es c)) (hf:Qdn es f) (hx:f x=none) (v:Value) :
 (Instr.mapUpdate T (.map (some m)) (.int .i64 x) v).run Tryz.prog w=.ok () (QaQ w m (.map (es.push ⟨.int .i64 x,v,c⟩) (c+1))):=by
 have hk:MapKept.IsKey (.int .i64) (.int .i64 x):=rfl
 rcases MapKept.findNow_spec hk es.toList 0 hf.keys with ⟨h1,_⟩ | ⟨j,e,h1,h2,h3⟩
 ·simp [Instr.mapUpdate,run_underlying hT,MapKept.run_getObj_map hm,MapKept.run_checkKey hK hk,MapKept.run_findKey hK h1,MapKept.run_setObj_map _ hm,Result.andThen,QaQ]
 ·obtain ⟨z,hz,hz2⟩:=hf.1 e (List.mem_of_getElem? h2)
  rw [h3] at hz
  have:x=z:=by simpa using hz
  subst this
  rw [hx] at hz2;cases hz2
theorem QrI {T K E:TypeId} (hT:Tryz.prog.underlying T=some (.map K E)) (hK:Tryz.prog.underlying K=some (.int .i64)) (hE:∀ W,(zeroValue E).run Tryz.prog W=.ok .nilFunc W) {w:World} {m:Nat} {es:Array MapEntry} {c:Nat} {f:Int→Option Value} (hm:w.heap[m]?=some (.map es c)) (hf:Qdn es f) (x:Int) :
 (Instr.lookup T (.map (some m)) (.int .i64 x) false).run Tryz.prog w=.ok ((f x).getD .nilFunc) w:=by
 have hk:MapKept.IsKey (.int .i64) (.int .i64 x):=rfl
 rcases MapKept.findNow_spec hk es.toList 0 hf.keys with ⟨h1,h2⟩ | ⟨j,e,h1,h2,h3⟩
 ·have hn:f x=none:=by
   cases hfx:f x with
   | none=>rfl
   | some v=>
    obtain ⟨e,he,hke⟩:=hf.2 x v hfx
    exact absurd hke (h2 e he)
  rw [hn]
  simp [Instr.lookup,run_underlying hT,MapKept.run_getObj_map hm,MapKept.run_checkKey hK hk,MapKept.run_findKey hK h1,hE,Result.andThen]
 ·obtain ⟨z,hz,hz2⟩:=hf.1 e (List.mem_of_getElem? h2)
  rw [h3] at hz
  have:x=z:=by simpa using hz
  subst this
  rw [hz2]
  simp [Instr.lookup,run_underlying hT,MapKept.run_getObj_map hm,MapKept.run_checkKey hK hk,MapKept.run_findKey hK h1,Result.andThen]
def Qvh (w:World) (B:Nat) (lk:Value) (hf:Nat) (v:Value):Prop:=
 ∃ p q,v=.func (.func 354) #[] #[.pointer (some ⟨p,0,none⟩),.pointer (some ⟨q,0,none⟩)]∧B≤p∧B≤q∧w.heap[q]?=some (.cells #[lk] 198)∧w.heap[p]?=some (.cells #[.func (.func hf) #[] #[]] 417)
theorem Qvh.keep {w w':World} {B hf:Nat} {lk v:Value} (h:Qvh w B lk hf v) (hk:∀ k cs ty,B≤k→w.heap[k]?=some (.cells cs ty)→w'.heap[k]?=some (.cells cs ty)):Qvh w' B lk hf v:=by
 obtain ⟨p,q,hv,hp,hq,h1,h2⟩:=h
 exact ⟨p,q,hv,hp,hq,hk q _ _ hq h1,hk p _ _ hp h2⟩
def QqX (b:Nat):Value:=.func (.func 325) #[] #[.pointer (some ⟨b,0,none⟩)]
def fB (b:Nat) (L:Nat→Bool) (u11 u13:Value) (k:Int):Option Value:=
 if k=1 then (if L 3 then some u11 else none) else if k=2 then (if L 6 then some u13 else none) else if k=3 then (if L 8 then some (QqX b) else none) else none
structure JB (lk:Value) (b:Nat) (W:World) (L:Nat→Bool) (u6 u9 u11 u13 u15:Value) (w:World):Prop where
 bl:Below W.heap.size W w
 c3:L 3=true→L 2=true
 c6:L 6=true→L 5=true
 c30:L 3=true→L 0=true
 c60:L 6=true→L 0=true
 c80:L 8=true→L 0=true
 a2:L 2=true→Qvh w W.heap.size lk 323 u11
 a5:L 5=true→Qvh w W.heap.size lk 324 u13
 mp:L 0=true→∃ m es c,u9=.map (some m)∧W.heap.size≤m∧w.heap[m]?=some (.map es c)∧Qdn es (fB b L u11 u13)
 m9:L 9=true→u15=u9∧L 0=true∧L 3=true∧L 6=true∧L 8=true∧L 2=true∧L 5=true
 m10:L 10=true→u6=u15∧L 9=true
theorem QeZ {B m:Nat} {W w:World} {o:Obj} (h:Below B W w) (hm:B≤m):Below B W (QaQ w m o):=
 ⟨h.os,h.tape,h.output,by rw [QiG];exact h.size,fun k hk=>by rw [Qaq (by omega)];exact h.block k hk⟩
theorem QiQ {a b:Bool} (h:a=true→b=true) (hb:b=false):a=false:=by
 cases a with
 | false=>rfl
 | true=>rw [h rfl] at hb;cases hb
section
variable {lk:Value} {b:Nat} {W:World} {L:Nat→Bool} {u6 u9 u11 u13 u15:Value} {w:World}
theorem Qr6 (i:Nat) (h:i≠3∧i≠6∧i≠8) (k:Int):fB b (up L i) u11 u13 k=fB b L u11 u13 k:=by
 unfold fB
 rw [Qag L (Ne.symm h.1),Qag L (Ne.symm h.2.1),Qag L (Ne.symm h.2.2)]
theorem JB.s0 (J:JB lk b W L u6 u9 u11 u13 u15 w) (h0:L 0=false):JB lk b W (up L 0) u6 (.map (some w.heap.size)) u11 u13 u15 (w.alloc (Obj.map #[] 0)):=by
 have hk:∀ k cs ty,W.heap.size≤k→w.heap[k]?=some (.cells cs ty)→(w.alloc (Obj.map #[] 0)).heap[k]?=some (.cells cs ty):=fun k cs ty _ h=>Qac h
 have n3:=QiQ J.c30 h0
 have n6:=QiQ J.c60 h0
 have n8:=QiQ J.c80 h0
 have hz:=J.bl.size
 exact ⟨J.bl.alloc hz _,
  fun h=>Qan _ (J.c3 (by rwa [Qag L (by decide)] at h)),
  fun h=>Qan _ (J.c6 (by rwa [Qag L (by decide)] at h)),
  fun h=>absurd (by rwa [Qag L (by decide)] at h:L 3=true) (by rw [n3];decide),
  fun h=>absurd (by rwa [Qag L (by decide)] at h:L 6=true) (by rw [n6];decide),
  fun h=>absurd (by rwa [Qag L (by decide)] at h:L 8=true) (by rw [n8];decide),
  fun h=>(J.a2 (by rwa [Qag L (by decide)] at h)).keep hk,
  fun h=>(J.a5 (by rwa [Qag L (by decide)] at h)).keep hk,
  fun _=>⟨w.heap.size,#[],0,rfl,hz,Qay _ _,Qdn.empty.congr (fun k=>by rw [Qr6 0 (by decide)];unfold fB;simp only [n3,n6,n8];simp)⟩,
  fun h=>absurd (J.m9 (by rwa [Qag L (by decide)] at h)).2.1 (by rw [h0];decide),
  fun h=>absurd (J.m9 (J.m10 (by rwa [Qag L (by decide)] at h)).2).2.1 (by rw [h0];decide)⟩
theorem JB.s2 (J:JB lk b W L u6 u9 u11 u13 u15 w) (h0:L 2=false):JB lk b W (up L 2) u6 u9 (.func (.func 354) #[] #[.pointer (some ⟨w.heap.size+1,0,none⟩),.pointer (some ⟨w.heap.size,0,none⟩)]) u13 u15 ((w.alloc (.cells #[lk] 198)).alloc (.cells #[.func (.func 323) #[] #[]] 417)):=by
 have hk:∀ k cs ty,W.heap.size≤k→w.heap[k]?=some (.cells cs ty)→((w.alloc (.cells #[lk] 198)).alloc (.cells #[.func (.func 323) #[] #[]] 417)).heap[k]?=some (.cells cs ty):=fun k cs ty _ h=>Qac (Qac h)
 have hkm:∀ (m:Nat) (es:Array MapEntry) (c:Nat),w.heap[m]?=some (Obj.map es c)→((w.alloc (.cells #[lk] 198)).alloc (.cells #[.func (.func 323) #[] #[]] 417)).heap[m]?=some (Obj.map es c):=fun m es c h=>Qac (Qac h)
 have nn:=QiQ J.c3 h0
 have hz:=J.bl.size
 have hfe:∀ v k,fB b (up L 2) v u13 k=fB b L u11 u13 k:=fun v k=>by
  rw [Qr6 2 (by decide)]
  unfold fB
  simp only [nn,Bool.false_eq_true,if_false]
 exact ⟨(J.bl.alloc hz _).alloc (by simp;omega) _,
  fun h=>absurd (by rwa [Qag L (by decide)] at h:L 3=true) (by rw [nn];decide),
  fun h=>Qan _ (J.c6 (by rwa [Qag L (by decide)] at h)),
  fun h=>Qan _ (J.c30 (by rwa [Qag L (by decide)] at h)),
  fun h=>Qan _ (J.c60 (by rwa [Qag L (by decide)] at h)),
  fun h=>Qan _ (J.c80 (by rwa [Qag L (by decide)] at h)),
  fun _=>⟨w.heap.size+1,w.heap.size,rfl,by omega,hz,Qac (Qay _ _),QaD (by simp)⟩,
  fun h=>(J.a5 (by rwa [Qag L (by decide)] at h)).keep hk,
  fun h=>by obtain ⟨m,es,c,e1,e2,e3,e4⟩:=J.mp (by rwa [Qag L (by decide)] at h);exact ⟨m,es,c,e1,e2,hkm m es c e3,e4.congr (fun k=>(hfe _ k).symm)⟩,
  fun h=>by obtain ⟨e1,e2,e3,e4,e5,e6,e7⟩:=J.m9 (by rwa [Qag L (by decide)] at h);exact ⟨e1,Qan _ e2,Qan _ e3,Qan _ e4,Qan _ e5,Qan _ e6,Qan _ e7⟩,
  fun h=>by obtain ⟨e1,e2⟩:=J.m10 (by rwa [Qag L (by decide)] at h);exact ⟨e1,Qan _ e2⟩⟩
theorem JB.s5 (J:JB lk b W L u6 u9 u11 u13 u15 w) (h0:L 5=false):JB lk b W (up L 5) u6 u9 u11 (.func (.func 354) #[] #[.pointer (some ⟨w.heap.size+1,0,none⟩),.pointer (some ⟨w.heap.size,0,none⟩)]) u15 ((w.alloc (.cells #[lk] 198)).alloc (.cells #[.func (.func 324) #[] #[]] 417)):=by
 have hk:∀ k cs ty,W.heap.size≤k→w.heap[k]?=some (.cells cs ty)→((w.alloc (.cells #[lk] 198)).alloc (.cells #[.func (.func 324) #[] #[]] 417)).heap[k]?=some (.cells cs ty):=fun k cs ty _ h=>Qac (Qac h)
 have hkm:∀ (m:Nat) (es:Array MapEntry) (c:Nat),w.heap[m]?=some (Obj.map es c)→((w.alloc (.cells #[lk] 198)).alloc (.cells #[.func (.func 324) #[] #[]] 417)).heap[m]?=some (Obj.map es c):=fun m es c h=>Qac (Qac h)
 have nn:=QiQ J.c6 h0
 have hz:=J.bl.size
 have hfe:∀ v k,fB b (up L 5) u11 v k=fB b L u11 u13 k:=fun v k=>by
  rw [Qr6 5 (by decide)]
  unfold fB
  simp only [nn,Bool.false_eq_true,if_false]
 exact ⟨(J.bl.alloc hz _).alloc (by simp;omega) _,
  fun h=>Qan _ (J.c3 (by rwa [Qag L (by decide)] at h)),
  fun h=>absurd (by rwa [Qag L (by decide)] at h:L 6=true) (by rw [nn];decide),
  fun h=>Qan _ (J.c30 (by rwa [Qag L (by decide)] at h)),
  fun h=>Qan _ (J.c60 (by rwa [Qag L (by decide)] at h)),
  fun h=>Qan _ (J.c80 (by rwa [Qag L (by decide)] at h)),
  fun h=>(J.a2 (by rwa [Qag L (by decide)] at h)).keep hk,
  fun _=>⟨w.heap.size+1,w.heap.size,rfl,by omega,hz,Qac (Qay _ _),QaD (by simp)⟩,
  fun h=>by obtain ⟨m,es,c,e1,e2,e3,e4⟩:=J.mp (by rwa [Qag L (by decide)] at h);exact ⟨m,es,c,e1,e2,hkm m es c e3,e4.congr (fun k=>(hfe _ k).symm)⟩,
  fun h=>by obtain ⟨e1,e2,e3,e4,e5,e6,e7⟩:=J.m9 (by rwa [Qag L (by decide)] at h);exact ⟨e1,Qan _ e2,Qan _ e3,Qan _ e4,Qan _ e5,Qan _ e6,Qan _ e7⟩,
  fun h=>by obtain ⟨e1,e2⟩:=J.m10 (by rwa [Qag L (by decide)] at h);exact ⟨e1,Qan _ e2⟩⟩
theorem JB.s3 (J:JB lk b W L u6 u9 u11 u13 u15 w) (h0:L 3=false) (h1:L 0=true) (h2:L 2=true):∃ m es c,u9=.map (some m)∧w.heap[m]?=some (.map es c)∧Qdn es (fB b L u11 u13)∧fB b L u11 u13 1=none∧JB lk b W (up L 3) u6 u9 u11 u13 u15 (QaQ w m (.map (es.push ⟨.int .i64 1,u11,c⟩) (c+1))):=by
 obtain ⟨m,es,c,h3,h4,h5,h6⟩:=J.mp h1
 have hn:fB b L u11 u13 1=none:=by unfold fB;simp [h0]
 have hx:fB b (up L 3) u11 u13 1=some u11:=by unfold fB;simp [QbP]
 have hg:∀ z,z≠1→fB b (up L 3) u11 u13 z=fB b L u11 u13 z:=fun z hz=>by
  unfold fB
  simp only [if_neg hz,Qag L (show (3:Nat)≠99 by decide),Qag L (show (6:Nat)≠3 by decide),Qag L (show (8:Nat)≠3 by decide)]
 have hk:∀ k cs ty,W.heap.size≤k→w.heap[k]?=some (.cells cs ty)→(QaQ w m (.map (es.push ⟨.int .i64 1,u11,c⟩) (c+1))).heap[k]?=some (.cells cs ty):=fun k cs ty _ h=>by
  rw [Qaq (fun e=>by rw [e,h5] at h;cases h)];exact h
 refine ⟨m,es,c,h3,h5,h6,hn,?_⟩
 exact ⟨QeZ J.bl h4,
  fun _=>Qan _ h2,
  fun h=>Qan _ (J.c6 (by rwa [Qag L (by decide)] at h)),
  fun _=>Qan _ h1,
  fun h=>Qan _ (J.c60 (by rwa [Qag L (by decide)] at h)),
  fun h=>Qan _ (J.c80 (by rwa [Qag L (by decide)] at h)),
  fun h=>(J.a2 (by rwa [Qag L (by decide)] at h)).keep hk,
  fun h=>(J.a5 (by rwa [Qag L (by decide)] at h)).keep hk,
  fun _=>⟨m,_,_,h3,h4,Qa2 h5,h6.push hn hx hg⟩,
  fun h=>by obtain ⟨e1,e2,e3,e4,e5,e6,e7⟩:=J.m9 (by rwa [Qag L (by decide)] at h);exact ⟨e1,Qan _ e2,Qan _ e3,Qan _ e4,Qan _ e5,Qan _ e6,Qan _ e7⟩,
  fun h=>by obtain ⟨e1,e2⟩:=J.m10 (by rwa [Qag L (by decide)] at h);exact ⟨e1,Qan _ e2⟩⟩
theorem JB.s6 (J:JB lk b W L u6 u9 u11 u13 u15 w) (h0:L 6=false) (h1:L 0=true) (h2:L 5=true):∃ m es c,u9=.map (some m)∧w.heap[m]?=some (.map es c)∧Qdn es (fB b L u11 u13)∧fB b L u11 u13 2=none∧JB lk b W (up L 6) u6 u9 u11 u13 u15 (QaQ w m (.map (es.push ⟨.int .i64 2,u13,c⟩) (c+1))):=by
 obtain ⟨m,es,c,h3,h4,h5,h6⟩:=J.mp h1
 have hn:fB b L u11 u13 2=none:=by unfold fB;simp [h0]
 have hx:fB b (up L 6) u11 u13 2=some u13:=by unfold fB;simp [QbP]
 have hg:∀ z,z≠2→fB b (up L 6) u11 u13 z=fB b L u11 u13 z:=fun z hz=>by
  unfold fB
  simp only [if_neg hz,Qag L (show (3:Nat)≠6 by decide),Qag L (show (6:Nat)≠99 by decide),Qag L (show (8:Nat)≠6 by decide)]
 have hk:∀ k cs ty,W.heap.size≤k→w.heap[k]?=some (.cells cs ty)→(QaQ w m (.map (es.push ⟨.int .i64 2,u13,c⟩) (c+1))).heap[k]?=some (.cells cs ty):=fun k cs ty _ h=>by
  rw [Qaq (fun e=>by rw [e,h5] at h;cases h)];exact h
 refine ⟨m,es,c,h3,h5,h6,hn,?_⟩
 exact ⟨QeZ J.bl h4,
  fun h=>Qan _ (J.c3 (by rwa [Qag L (by decide)] at h)),
  fun _=>Qan _ h2,
  fun h=>Qan _ (J.c30 (by rwa [Qag L (by decide)] at h)),
  fun _=>Qan _ h1,
  fun h=>Qan _ (J.c80 (by rwa [Qag L (by decide)] at h)),
  fun h=>(J.a2 (by rwa [Qag L (by decide)] at h)).keep hk,
  fun h=>(J.a5 (by rwa [Qag L (by decide)] at h)).keep hk,
  fun _=>⟨m,_,_,h3,h4,Qa2 h5,h6.push hn hx hg⟩,
  fun h=>by obtain ⟨e1,e2,e3,e4,e5,e6,e7⟩:=J.m9 (by rwa [Qag L (by decide)] at h);exact ⟨e1,Qan _ e2,Qan _ e3,Qan _ e4,Qan _ e5,Qan _ e6,Qan _ e7⟩,
  fun h=>by obtain ⟨e1,e2⟩:=J.m10 (by rwa [Qag L (by decide)] at h);exact ⟨e1,Qan _ e2⟩⟩
theorem JB.s8 (J:JB lk b W L u6 u9 u11 u13 u15 w) (h0:L 8=false) (h1:L 0=true) :∃ m es c,u9=.map (some m)∧w.heap[m]?=some (.map es c)∧Qdn es (fB b L u11 u13)∧fB b L u11 u13 3=none∧JB lk b W (up L 8) u6 u9 u11 u13 u15 (QaQ w m (.map (es.push ⟨.int .i64 3,(QqX b),c⟩) (c+1))):=by
 obtain ⟨m,es,c,h3,h4,h5,h6⟩:=J.mp h1
 have hn:fB b L u11 u13 3=none:=by unfold fB;simp [h0]
 have hx:fB b (up L 8) u11 u13 3=some (QqX b):=by unfold fB;simp [QbP]
 have hg:∀ z,z≠3→fB b (up L 8) u11 u13 z=fB b L u11 u13 z:=fun z hz=>by
  unfold fB
  simp only [if_neg hz,Qag L (show (3:Nat)≠8 by decide),Qag L (show (6:Nat)≠8 by decide),Qag L (show (8:Nat)≠99 by decide)]
 have hk:∀ k cs ty,W.heap.size≤k→w.heap[k]?=some (.cells cs ty)→(QaQ w m (.map (es.push ⟨.int .i64 3,(QqX b),c⟩) (c+1))).heap[k]?=some (.cells cs ty):=fun k cs ty _ h=>by
  rw [Qaq (fun e=>by rw [e,h5] at h;cases h)];exact h
 refine ⟨m,es,c,h3,h5,h6,hn,?_⟩
 exact ⟨QeZ J.bl h4,
  fun h=>Qan _ (J.c3 (by rwa [Qag L (by decide)] at h)),
  fun h=>Qan _ (J.c6 (by rwa [Qag L (by decide)] at h)),
  fun h=>Qan _ (J.c30 (by rwa [Qag L (by decide)] at h)),
  fun h=>Qan _ (J.c60 (by rwa [Qag L (by decide)] at h)),
  fun _=>Qan _ h1,
  fun h=>(J.a2 (by rwa [Qag L (by decide)] at h)).keep hk,
  fun h=>(J.a5 (by rwa [Qag L (by decide)] at h)).keep hk,
  fun _=>⟨m,_,_,h3,h4,Qa2 h5,h6.push hn hx hg⟩,
  fun h=>by obtain ⟨e1,e2,e3,e4,e5,e6,e7⟩:=J.m9 (by rwa [Qag L (by decide)] at h);exact ⟨e1,Qan _ e2,Qan _ e3,Qan _ e4,Qan _ e5,Qan _ e6,Qan _ e7⟩,
  fun h=>by obtain ⟨e1,e2⟩:=J.m10 (by rwa [Qag L (by decide)] at h);exact ⟨e1,Qan _ e2⟩⟩
theorem JB.s9 (J:JB lk b W L u6 u9 u11 u13 u15 w) (h0:L 9=false) (i0:L 0=true) (i3:L 3=true) (i6:L 6=true) (i8:L 8=true) (i2:L 2=true) (i5:L 5=true):JB lk b W (up L 9) u6 u9 u11 u13 u9 w:=by
 have hk:∀ k cs ty,W.heap.size≤k→w.heap[k]?=some (.cells cs ty)→w.heap[k]?=some (.cells cs ty):=fun k cs ty _ h=>h
 have hkm:∀ (m:Nat) (es:Array MapEntry) (c:Nat),w.heap[m]?=some (Obj.map es c)→w.heap[m]?=some (Obj.map es c):=fun m es c h=>h
 exact ⟨J.bl,
  fun h=>Qan _ (J.c3 (by rwa [Qag L (by decide)] at h)),
  fun h=>Qan _ (J.c6 (by rwa [Qag L (by decide)] at h)),
  fun h=>Qan _ (J.c30 (by rwa [Qag L (by decide)] at h)),
  fun h=>Qan _ (J.c60 (by rwa [Qag L (by decide)] at h)),
  fun h=>Qan _ (J.c80 (by rwa [Qag L (by decide)] at h)),
  fun h=>(J.a2 (by rwa [Qag L (by decide)] at h)).keep hk,
  fun h=>(J.a5 (by rwa [Qag L (by decide)] at h)).keep hk,
  fun h=>by obtain ⟨m,es,c,e1,e2,e3,e4⟩:=J.mp (by rwa [Qag L (by decide)] at h);exact ⟨m,es,c,e1,e2,hkm m es c e3,e4.congr (fun k=>(Qr6 9 (by decide) k).symm)⟩,
  fun _=>⟨rfl,Qan _ i0,Qan _ i3,Qan _ i6,Qan _ i8,Qan _ i2,Qan _ i5⟩,
  fun h=>absurd (J.m10 (by rwa [Qag L (by decide)] at h)).2 (by rw [h0];decide)⟩
theorem JB.s10 (J:JB lk b W L u6 u9 u11 u13 u15 w) (h0:L 10=false) (i9:L 9=true):JB lk b W (up L 10) u15 u9 u11 u13 u15 w:=by
 have hk:∀ k cs ty,W.heap.size≤k→w.heap[k]?=some (.cells cs ty)→w.heap[k]?=some (.cells cs ty):=fun k cs ty _ h=>h
 have hkm:∀ (m:Nat) (es:Array MapEntry) (c:Nat),w.heap[m]?=some (Obj.map es c)→w.heap[m]?=some (Obj.map es c):=fun m es c h=>h
 exact ⟨J.bl,
  fun h=>Qan _ (J.c3 (by rwa [Qag L (by decide)] at h)),
  fun h=>Qan _ (J.c6 (by rwa [Qag L (by decide)] at h)),
  fun h=>Qan _ (J.c30 (by rwa [Qag L (by decide)] at h)),
  fun h=>Qan _ (J.c60 (by rwa [Qag L (by decide)] at h)),
  fun h=>Qan _ (J.c80 (by rwa [Qag L (by decide)] at h)),
  fun h=>(J.a2 (by rwa [Qag L (by decide)] at h)).keep hk,
  fun h=>(J.a5 (by rwa [Qag L (by decide)] at h)).keep hk,
  fun h=>by obtain ⟨m,es,c,e1,e2,e3,e4⟩:=J.mp (by rwa [Qag L (by decide)] at h);exact ⟨m,es,c,e1,e2,hkm m es c e3,e4.congr (fun k=>(Qr6 10 (by decide) k).symm)⟩,
  fun h=>by obtain ⟨e1,e2,e3,e4,e5,e6,e7⟩:=J.m9 (by rwa [Qag L (by decide)] at h);exact ⟨e1,Qan _ e2,Qan _ e3,Qan _ e4,Qan _ e5,Qan _ e6,Qan _ e7⟩,
  fun _=>⟨rfl,Qan _ i9⟩⟩
end
theorem Tryz.zeroWay:∀ W,(zeroValue 392).run Tryz.prog W=.ok .nilFunc W:=fun W=>by kernel_rfl
theorem QrJ (fl:FuncId) (hf:Nat) (w:World) :
 Calls Tryz.prog 322 #[(.func (.func fl) #[] #[]),.func (.func hf) #[] #[]] w fun e w'=>e=.returned (.func (.func 354) #[] #[.pointer (some ⟨w.heap.size+1,0,none⟩),.pointer (some ⟨w.heap.size,0,none⟩)])∧w'=(w.alloc (.cells #[(.func (.func fl) #[] #[])] 198)).alloc (.cells #[.func (.func hf) #[] #[]] 417):=by
 have hmf:∀ (fn:Fn) (first cap:Array Value) (w:World),(Instr.makeFunc fn first cap).run Tryz.prog w=.ok (.func fn first cap) w:=fun _ _ _ _=>rfl
 go_enter Tryz.func322,Tryz.ntmps322
 go_wp2
 go_ret
 exact ⟨rfl,rfl⟩
def QrE (u:Bool) (fl:FuncId) (tag:Int) (b:Nat) (u6 u9 u11 u13 u15:Value):Act:=
 { tmps:=#[.int .i64 tag,.bool u,undef,undef,.nilFunc,.pointer (some ⟨b,0,none⟩),u6,.bool u,(.func (.func fl) #[] #[]),u9,(.func (.func fl) #[] #[]),u11,(.func (.func fl) #[] #[]),u13,QqX b,u15,undef,undef,undef],defers:=[] }
def Qsg (u:Bool) (fl:FuncId) (tag:Int) (b:Nat) (W:World) (l:Array Bool) (a:Act) (w:World):Prop:=
 l.size=11∧(∀ i∈[1,4,7],l.getD i false=true)∧∃ u6 u9 u11 u13 u15,a=QrE u fl tag b u6 u9 u11 u13 u15∧JB (.func (.func fl) #[] #[]) b W (fun j=>l.getD j false) u6 u9 u11 u13 u15 w
theorem Qsg.next {u:Bool} {fl:FuncId} {tag:Int} {b:Nat} {W:World} {l:Array Bool} {i:Nat} {u6 u9 u11 u13 u15:Value} {w:World} (hl:l.size=11) (ht:∀ i∈[1,4,7],l.getD i false=true) (hi:i < 11) (J:JB (.func (.func fl) #[] #[]) b W (up (fun j=>l.getD j false) i) u6 u9 u11 u13 u15 w):Qsg u fl tag b W (l.setIfInBounds i true) (QrE u fl tag b u6 u9 u11 u13 u15) w:=
 ⟨by simp [hl],fun k hk=>getD_set_true (ht k hk),u6,u9,u11,u13,u15,rfl,by rw [QoB (by omega)];exact J⟩
theorem Qt3 (u:Bool) (fl:FuncId) (hlv:QkU u=.func (.func fl) #[] #[]) (tag:Int) (w:World) :
 Calls Tryz.prog 270 #[.int .i64 tag,.bool u] w fun e w'=>(∃ wv,e=.returned wv∧((1≤tag∧tag≤3∧WayV w' tag u wv)∨(¬ (1≤tag∧tag≤3)∧wv=.nilFunc)))∧Below w.heap.size w w':=by
 have hmf:∀ (fn:Fn) (first cap:Array Value) (w:World),(Instr.makeFunc fn first cap).run Tryz.prog w=.ok (.func fn first cap) w:=fun _ _ _ _=>rfl
 have hmm:∀ (w:World),(Instr.makeMap 438 none).run Tryz.prog w=.ok (.map (some w.heap.size)) (w.alloc (Obj.map #[] 0)):=fun _=>rfl
 go_enter Tryz.func270,Tryz.ntmps270
 go_wp2_with (go_at_call 321;refine (Qjq u _).mono ?_;rw [hlv];rintro e w' ⟨rfl,hww⟩;subst w')
 obtain ⟨W,hW⟩:∃ W,W=w.alloc (.cells #[(.func (.func fl) #[] #[])] 198):=⟨_,rfl⟩
 have hWb:W.heap[w.heap.size]?=some (.cells #[(.func (.func fl) #[] #[])] 198):=by rw [hW];exact Qay _ _
 have hWB:Below w.heap.size w W:=by rw [hW];exact (Below.refl _ _).alloc (Nat.le_refl _) _
 have hWl:=QaH hWb
 rw [← hW]
 clear hW
 refine wp_region_held (S:=fun w'=>w'.cell? ⟨w.heap.size,0,none⟩=some (.func (.func fl) #[] #[])) (by kernel_rfl) ?_
 have hS:({ W with drawn:=W.drawn+1 }:World).cell? ⟨w.heap.size,0,none⟩=some (.func (.func fl) #[] #[]):=Qaa (w:={ W with drawn:=W.drawn+1 }) hWb 0
 refine QaE 1 10 ((.func (.func fl) #[] #[])) rfl hS (fun w' hSw=>by (try dsimp only at hSw);(try unfold QqX);go_simp) ?_
 simp only [pt,List.set_cons_zero,List.set_cons_succ]
 refine QaE 4 12 ((.func (.func fl) #[] #[])) rfl hS (fun w' hSw=>by (try dsimp only at hSw);(try unfold QqX);go_simp) ?_
 simp only [pt,List.set_cons_zero,List.set_cons_succ]
 refine QaE 7 14 ((QqX w.heap.size)) rfl hS (fun w' hSw=>by (try dsimp only at hSw);(try unfold QqX);go_simp) ?_
 simp only [pt,List.set_cons_zero,List.set_cons_succ]
 refine Qfx (Qsg u fl tag w.heap.size W) (fun l a w' h=>by rw [h.1];rfl) (fun l a w' h=>?hSS) (fun l a w' i h hi=>?hstep) (fun l a w' h hr=>?hdone) _ _ _ _ (by decide) ?hinit
 case hSS=>
  obtain ⟨_,_,_,_,_,_,_,_,J⟩:=h
  exact Qaa (Qal hWb J.bl) 0
 case hinit=>
  refine ⟨rfl,by decide,undef,undef,undef,undef,undef,rfl,?_⟩
  exact ⟨Qaz (Below.refl _ _),fun h=>absurd h (by decide),fun h=>absurd h (by decide),fun h=>absurd h (by decide),fun h=>absurd h (by decide),fun h=>absurd h (by decide),fun h=>absurd h (by decide),fun h=>absurd h (by decide),fun h=>absurd h (by decide),fun h=>absurd h (by decide),fun h=>absurd h (by decide)⟩
 case hdone=>
  obtain ⟨hl,htk,u6,u9,u11,u13,u15,rfl,J⟩:=h
  have hal:=Qel hl (by kernel_rfl) hr
  obtain ⟨e10,_⟩:=J.m10 (hal 10 (by decide))
  obtain ⟨e9,h0,h3,h6,h8,h2,h5⟩:=J.m9 (hal 9 (by decide))
  obtain ⟨m,es,c,e1,hm1,hm2,hf⟩:=J.mp h0
  subst e10 e9 e1
  have hlk:=QrI Tryz.underlying438 Tryz.underlying3 Tryz.zeroWay hm2 hf tag
  have HB:=Qab (hWB.trans (J.bl.mono hWB.size))
  have HA2:=Qab (J.a2 h2)
  have HA5:=Qab (J.a5 h5)
  have HWc:Hid (w'.cell? ⟨w.heap.size,0,none⟩=some (.func (.func fl) #[] #[])):=Qaa (Qal hWb J.bl) 0
  have hfv:fB w.heap.size (fun j=>l.getD j false) u11 u13 tag=if tag=1 then some u11 else if tag=2 then some u13 else if tag=3 then some (QqX w.heap.size) else none:=by
   unfold fB
   rw [if_pos h3,if_pos h6,if_pos h8]
  rw [hfv] at hlk
  clear J hal hr htk hl hS hm2 hf h0 h3 h6 h8 h2 h5 hfv
  unfold QrE
  by_cases t1:tag=1
  ·subst t1
   rw [if_pos rfl] at hlk
   obtain ⟨p,q,rfl,hp,hq,b1,b2⟩:=HA2.out
   have HV:Hid (WayV w' 1 u (.func (.func 354) #[] #[.pointer (some ⟨p,0,none⟩),.pointer (some ⟨q,0,none⟩)])):=Or.inr ⟨p,q,rfl,by rw [hlv];exact Qaa b1 0,Or.inl ⟨rfl,Qaa b2 0⟩⟩
   clear b1 b2
   simp only [Option.getD_some] at hlk
   go_wp2
   go_ret
   exact ⟨⟨_,rfl,Or.inl ⟨by decide,by decide,HV.out⟩⟩,HB.out⟩
  by_cases t2:tag=2
  ·subst t2
   rw [if_neg t1,if_pos rfl] at hlk
   obtain ⟨p,q,rfl,hp,hq,b1,b2⟩:=HA5.out
   have HV:Hid (WayV w' 2 u (.func (.func 354) #[] #[.pointer (some ⟨p,0,none⟩),.pointer (some ⟨q,0,none⟩)])):=Or.inr ⟨p,q,rfl,by rw [hlv];exact Qaa b1 0,Or.inr ⟨rfl,Qaa b2 0⟩⟩
   clear b1 b2
   simp only [Option.getD_some] at hlk
   go_wp2
   go_ret
   exact ⟨⟨_,rfl,Or.inl ⟨by decide,by decide,HV.out⟩⟩,HB.out⟩
  by_cases t3:tag=3
  ·subst t3
   rw [if_neg t1,if_neg t2,if_pos rfl] at hlk
   have HV:Hid (WayV w' 3 u (QqX w.heap.size)):=Or.inl ⟨rfl,w.heap.size,rfl,by rw [hlv];exact HWc.out⟩
   simp only [Option.getD_some] at hlk
   unfold QqX at hlk HV ⊢
   go_wp2
   go_ret
   exact ⟨⟨_,rfl,Or.inl ⟨by decide,by decide,HV.out⟩⟩,HB.out⟩
  ·rw [if_neg t1,if_neg t2,if_neg t3] at hlk
   simp only [Option.getD_none] at hlk
   have hno:¬ (1≤tag∧tag≤3):=by omega
   clear t1 t2 t3
   go_wp2
   go_ret
   exact ⟨⟨_,rfl,Or.inr ⟨hno,rfl⟩⟩,HB.out⟩
 case hstep=>
  obtain ⟨hl,htk,u6,u9,u11,u13,u15,rfl,J⟩:=h
  obtain ⟨h0,o,ho,hall⟩:=mem_ready.1 hi
  have hi11:i < 11:=(Array.getElem?_eq_some_iff.1 ho).1
  have h0':l.getD i false=false:=by
   have:i < l.size:=by omega
   simp [this] at h0 ⊢
   exact h0
  clear h0
  rcases (by omega:i=0∨i=1∨i=2∨i=3∨i=4∨i=5∨i=6∨i=7∨i=8∨i=9∨i=10) with hh | hh | hh | hh | hh | hh | hh | hh | hh | hh | hh <;> subst hh
  ·clear ho hall hi
   refine QaO rfl (by rfl) ?_
   unfold QrE
   go_simp
   exact Qsg.next hl htk (by decide) (J.s0 h0')
  ·rw [htk 1 (by decide)] at h0';cases h0'
  ·clear ho hall hi
   refine QaO rfl (by rfl) ?_
   unfold QrE
   go_simp
   refine (QrJ _ _ _).mono ?_
   rintro e w2 ⟨rfl,rfl⟩
   exact Qsg.next hl htk (by decide) (J.s2 h0')
  ·have ho2:=Option.some.inj (show some _=some o from ho)
   subst ho2
   have h1:=hall { on:=0,ground:=.data } (by simp) rfl
   have h2:=hall { on:=2,ground:=.data } (by simp) rfl
   clear ho hall hi
   obtain ⟨m,es,c,rfl,hm,hf,hn,J'⟩:=J.s3 h0' h1 h2
   have hrun:(Instr.mapUpdate 438 (.map (some m)) (.int .i64 1) u11).run Tryz.prog w'=.ok () _:=QfO Tryz.underlying438 Tryz.underlying3 hm hf hn _
   refine QaO rfl (by rfl) ?_
   unfold QrE
   go_simp
   exact Qsg.next hl htk (by decide) J'
  ·rw [htk 4 (by decide)] at h0';cases h0'
  ·clear ho hall hi
   refine QaO rfl (by rfl) ?_
   unfold QrE
   go_simp
   refine (QrJ _ _ _).mono ?_
   rintro e w2 ⟨rfl,rfl⟩
   exact Qsg.next hl htk (by decide) (J.s5 h0')
  ·have ho2:=Option.some.inj (show some _=some o from ho)
   subst ho2
   have h1:=hall { on:=0,ground:=.data } (by simp) rfl
   have h2:=hall { on:=5,ground:=.data } (by simp) rfl
   clear ho hall hi
   obtain ⟨m,es,c,rfl,hm,hf,hn,J'⟩:=J.s6 h0' h1 h2
   have hrun:(Instr.mapUpdate 438 (.map (some m)) (.int .i64 2) u13).run Tryz.prog w'=.ok () _:=QfO Tryz.underlying438 Tryz.underlying3 hm hf hn _
   refine QaO rfl (by rfl) ?_
   unfold QrE
   go_simp
   exact Qsg.next hl htk (by decide) J'
  ·rw [htk 7 (by decide)] at h0';cases h0'
  ·have ho2:=Option.some.inj (show some _=some o from ho)
   subst ho2
   have h1:=hall { on:=0,ground:=.data } (by simp) rfl
   clear ho hall hi
   obtain ⟨m,es,c,rfl,hm,hf,hn,J'⟩:=J.s8 h0' h1
   have hrun:(Instr.mapUpdate 438 (.map (some m)) (.int .i64 3) (QqX w.heap.size)).run Tryz.prog w'=.ok () _:=QfO Tryz.underlying438 Tryz.underlying3 hm hf hn _
   refine QaO rfl (by rfl) ?_
   unfold QrE
   go_simp
   exact Qsg.next hl htk (by decide) J'
  ·have ho2:=Option.some.inj (show some _=some o from ho)
   subst ho2
   have i0:=hall { on:=0,ground:=.data } (by simp) rfl
   have i2:=hall { on:=2,ground:=.data } (by simp) rfl
   have i3:=hall { on:=3,ground:=.data } (by simp) rfl
   have i5:=hall { on:=5,ground:=.data } (by simp) rfl
   have i6:=hall { on:=6,ground:=.data } (by simp) rfl
   have i8:=hall { on:=8,ground:=.data } (by simp) rfl
   clear ho hall hi
   refine QaO rfl (by rfl) ?_
   unfold QrE
   go_simp
   exact Qsg.next hl htk (by decide) (J.s9 h0' i0 i3 i6 i8 i2 i5)
  ·have ho2:=Option.some.inj (show some _=some o from ho)
   subst ho2
   have i9:=hall { on:=9,ground:=.data } (by simp) rfl
   clear ho hall hi
   refine QaO rfl (by rfl) ?_
   unfold QrE
   go_simp
   exact Qsg.next hl htk (by decide) (J.s10 h0' i9)
end
end Go.Proofs.YtbiclelojbfnbaaGreatDoor
