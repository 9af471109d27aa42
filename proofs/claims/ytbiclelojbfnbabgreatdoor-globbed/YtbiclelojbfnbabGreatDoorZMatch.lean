import Derived.Test.YtbiclelojbfnbabGreatDoorZPlainSpace2
import Derived.Test.YtbiclelojbfnbabGreatDoorStr
namespace Go.Proofs.YtbiclelojbfnbabGreatDoor
set_option linter.unusedVariables false
set_option linter.unusedSimpArgs false
set_option maxRecDepth 100000
set_option maxHeartbeats 4000000
section
open Go.RowKit
def muW (w:World) (b n:Nat):Nat:=
 match w.heap[b]? with
 | some (.cells cs _ _)=>2*(n - (intOf (cs.getD 6 undef)).toNat)+(if intOf (cs.getD 1 undef)=0 then 0 else 1)
 | _=>0
theorem RC.muEq {w:World} {b:Nat} {t:ByteArray} {s:PS} {rv:Value} {mc mt:Nat} (h:RC w b t s rv mc mt):muW w b t.size=mu t.size s:=by
 unfold muW
 rw [h.at_]
 simp [QjM,intOf,mu]
theorem Qbj {w w':World} {base b:Nat} {e:TypeId} {size:Nat} {v:Value} {n:Nat} {xs:List Value} (h:w.ownsRow base e size v n xs) (hm:Mod b w w') (hb:b < base):w'.ownsRow base e size v n xs:=by
 obtain ⟨h1,h2⟩:=h
 refine ⟨h1,?_⟩
 rcases h2 with h2 | ⟨g,cap,cur,hv,hg,hh,r⟩
 ·exact Or.inl h2
 ·have hlt:g < w.heap.size:=by
   rcases Nat.lt_or_ge g w.heap.size with h' | h'
   ·exact h'
   ·rw [Array.getElem?_eq_none h'] at hh;cases hh
  exact Or.inr ⟨g,cap,cur,hv,hg,by rw [hm.block g hlt (by omega)];exact hh,r⟩
theorem Mod.grown {b:Nat} {u w w':World} {row:Option Nat} (h:Mod b u w) (hg:w.grownBy w' row) (hr:∀ k,row=some k→u.heap.size≤k):Mod b u w':=
 ⟨hg.os.trans h.os,hg.tape.trans h.tape,hg.output.trans h.output,Nat.le_trans h.size hg.size,fun k hk hn=>
  (hg.block k (Nat.lt_of_lt_of_le hk h.size) (fun e=>by have:=hr k e.symm;omega)).trans (h.block k hk hn)⟩
theorem RC.grown {w w':World} {b:Nat} {t:ByteArray} {s:PS} {rv:Value} {mc mt:Nat} {row:Option Nat} (h:RC w b t s rv mc mt) (hg:w.grownBy w' row) (hr:∀ k,row=some k→b < k):RC w' b t s rv mc mt:=by
 have hb:=h.at_.lt
 have h1:=h.b1
 have hblk:∀ k,k≤b→w'.heap[k]?=w.heap[k]?:=fun k hk=>hg.block k (by omega) (fun e=>by have:=hr k e.symm;omega)
 refine ⟨by unfold RAt;rw [hblk b (Nat.le_refl _)];exact h.at_,h.le,?_,h.b1,h.hs,h.sz,h.e0,h.nm⟩
 obtain ⟨m,hm⟩:=h.m
 exact ⟨m,by rw [World.cell?_of_block (a:=⟨1,0,none⟩) (hblk 1 (by omega))];exact hm⟩
def Abv (B:Nat) (w w':World):Prop:=∀ k,B≤k→k < w.heap.size→w'.heap[k]?=w.heap[k]?
theorem Mod.abv {b B:Nat} {w w':World} (h:Mod b w w') (hb:b < B):Abv B w w':=fun k hB hk=>h.block k hk (by omega)
theorem Abv.set {B g:Nat} {w:World} (hg:g < B) (o:Nat) (v:Value):Abv B w (w.setCell ⟨g,o,none⟩ v):=fun k hB _=>Below.heap_setCell _ _ _ _ (by show k≠g;omega)
def slB (B:Nat) (xs:List (List UInt8)) (w:World) (v:Value):Prop:=
 ∃ g c,v=.slice (some ⟨g,0,none⟩) xs.length c∧B≤g∧Qc6 w g xs∧xs≠[]
theorem slB.of_owns {w:World} {base n:Nat} {v:Value} {xs:List (List UInt8)} (h:w.ownsRow base 9 1 v n (QaV xs)) (hn:n=xs.length) (hx:xs≠[]):slB base xs w v:=by
 subst hn
 obtain ⟨h1,h2⟩:=h
 rcases h2 with ⟨_,h3⟩ | ⟨g,cap,cur,hv,hg,r⟩
 ·exact absurd (List.eq_nil_of_length_eq_zero h3) hx
 ·subst hv
  exact ⟨g,cap,rfl,hg,Qc6.of_owns (base:=base) ⟨h1,Or.inr ⟨g,cap,cur,rfl,hg,r⟩⟩,hx⟩
theorem slB.keep {B:Nat} {xs:List (List UInt8)} {w w':World} {v:Value} (h:slB B xs w v) (hk:Abv B w w'):slB B xs w' v:=by
 obtain ⟨g,c,hv,hg,ht,hx⟩:=h
 refine ⟨g,c,hv,hg,fun j hj=>?_,hx⟩
 have:=ht j hj
 rw [World.cell?_of_block (w:=w) (a:=⟨g,j,none⟩) (hk g hg (Qay this))]
 exact this
theorem slB.weak {B B':Nat} {xs:List (List UInt8)} {w:World} {v:Value} (h:slB B xs w v) (hB:B'≤B):slB B' xs w v:=by
 obtain ⟨g,c,hv,hg,r⟩:=h
 exact ⟨g,c,hv,by omega,r⟩
theorem slB.form {B:Nat} {xs:List (List UInt8)} {w:World} {v:Value} (h:slB B xs w v):∃ g n c,v=.slice (some ⟨g,0,none⟩) n c:=by
 obtain ⟨g,c,hv,_⟩:=h;exact ⟨g,_,c,hv⟩
def Qir (w:World) (b:Nat) (t:ByteArray) (rv:Value) (mc mt:Nat) (cv:Value) (chk:List UInt8→Nat):Prop:=
 ∀ (W:World) (s:PS),Mod b w W→RC W b t s rv mc mt→Calls Tryz.prog 160 #[.pointer (some ⟨b,0,none⟩),cv] W (Qao (stringL t.data.toList chk s) b t rv mc mt W Qp1)
theorem Qht {l:List UInt8} {chk:List UInt8→Nat} {F:Nat} {s:PS} {f:Flt} (h:mayL l [[91]] s=.error f):stringsL l chk F s=.error f:=by unfold stringsL;rw [h]
theorem QeU {l:List UInt8} {chk:List UInt8→Nat} {F:Nat} {s:PS} {f:Flt} {y:Nat×PS} (h:mayL l [[91]] s=.ok y) (h2:stringL l chk y.2=.error f):stringsL l chk F s=.error f:=by unfold stringsL;rw [h];dsimp only;rw [h2]
theorem QlM {l:List UInt8} {chk:List UInt8→Nat} {F:Nat} {s:PS} {y:Nat×PS} {z:List UInt8×PS} (h:mayL l [[91]] s=.ok y) (h2:stringL l chk y.2=.ok z) (h0:y.1=0):stringsL l chk F s=.ok ([z.1],z.2):=by unfold stringsL;rw [h];dsimp only;rw [h2];dsimp only;rw [if_pos h0]
theorem QjN {l:List UInt8} {chk:List UInt8→Nat} {F:Nat} {s:PS} {y:Nat×PS} {z:List UInt8×PS} (h:mayL l [[91]] s=.ok y) (h2:stringL l chk y.2=.ok z) (h0:¬ y.1=0):stringsL l chk F s=moreL l chk F [z.1] z.2:=by unfold stringsL;rw [h];dsimp only;rw [h2];dsimp only;rw [if_neg h0]
theorem Qj8 {l:List UInt8} {chk:List UInt8→Nat} {f:Nat} {acc:List (List UInt8)} {s:PS} {e:Flt} (h:passL l [[44],[93]] s=.error e):moreL l chk (f+1) acc s=.error e:=by rw [moreL,h]
theorem Qp7 {l:List UInt8} {chk:List UInt8→Nat} {f:Nat} {acc:List (List UInt8)} {s:PS} {y:Nat×PS} (h:passL l [[44],[93]] s=.ok y) (h1:¬ y.1=1):moreL l chk (f+1) acc s=.ok (acc,y.2):=by rw [moreL,h];dsimp only;rw [if_neg h1]
theorem Qlu {l:List UInt8} {chk:List UInt8→Nat} {f:Nat} {acc:List (List UInt8)} {s:PS} {y:Nat×PS} {e:Flt} (h:passL l [[44],[93]] s=.ok y) (h1:y.1=1) (h2:stringL l chk y.2=.error e):moreL l chk (f+1) acc s=.error e:=by rw [moreL,h];dsimp only;rw [if_pos h1,h2]
theorem Qsr {l:List UInt8} {chk:List UInt8→Nat} {f:Nat} {acc:List (List UInt8)} {s:PS} {y:Nat×PS} {z:List UInt8×PS} (h:passL l [[44],[93]] s=.ok y) (h1:y.1=1) (h2:stringL l chk y.2=.ok z):moreL l chk (f+1) acc s=moreL l chk f (acc++[z.1]) z.2:=by rw [moreL,h];dsimp only;rw [if_pos h1,h2]
theorem RC.mu_le {w:World} {b:Nat} {t:ByteArray} {s:PS} {rv:Value} {mc mt:Nat} (h:RC w b t s rv mc mt):mu t.size s≤1201:=by
 have:=h.hs
 unfold mu
 split <;> omega
theorem bal (t:ByteArray):t.data.toList.length=t.size:=by simp
theorem QrS:∀ z∈([[44],[93]]:List (List UInt8)),z≠[]:=by decide
theorem Qd5 (cv:Value) (chk:List UInt8→Nat) (b F:Nat) (t:ByteArray) (s:PS) (rv:Value) (mc mt:Nat) (w:World) (h:RC w b t s rv mc mt) (ho:Qir w b t rv mc mt cv chk) (hF:mu t.size s < F) :
 Calls Tryz.prog 170 #[.pointer (some ⟨b,0,none⟩),cv] w (Qao (stringsL t.data.toList chk F s) b t rv mc mt w (slB w.heap.size)):=by
 have H:=Qaa h
 have HO:=Qaa ho
 have hlt:=h.at_.lt
 clear h ho
 go_enter Tryz.func170,Tryz.ntmps170
 go_wp2_with fail
 refine (Qgw b w.heap.size 1 1 [[91]] t s rv mc mt _ (H.out.alloc _) (QbN w [[91]] _ _ rfl) rfl (by decide)).mono ?_
 intro e w1 h1
 rcases h1.cases with ⟨y,v,hy,rfl,hv,hc,hm⟩ | ⟨f,hf,⟨bb,hz,rfl,hcc⟩,hm⟩
 rotate_left
 ·exact ⟨rfl,Qao.err (Qht hf) (((Mod.refl b w).alloc _).trans hm) ⟨bb,by simp at hz;omega,rfl,hcc⟩⟩
 have HM:=Qaa (((Mod.refl b w).alloc _).trans hm)
 have HY:=Qaa hy
 have HC:=Qaa hc
 unfold Qi7 at hv
 subst hv
 clear h1 hy hc hm
 by_cases h0:y.1=0
 ·have H0:=Qaa h0
  have h0':((y.1:Int) == 0)=true:=by simp;omega
  clear h0
  go_wp2_with fail
  refine (HO.out _ y.2 HM.out HC.out).mono ?_
  intro e w2 h2
  rcases h2.cases with ⟨z,v,hy2,rfl,hv,hc,hm⟩ | ⟨f,hf,⟨bb,hz,rfl,hcc⟩,hm⟩
  rotate_left
  ·exact ⟨rfl,Qao.err (QeU HY.out hf) (HM.out.trans hm) ⟨bb,Nat.le_trans HM.out.size hz,rfl,hcc⟩⟩
  unfold Qp1 at hv
  subst hv
  have H2:=Qaa hy2
  have HC2:=Qaa hc
  have HM2:=Qaa hm
  clear h2 hy2 hc hm
  go_wp2
  go_ret
  refine Qao.ok (QlM HY.out H2.out H0.out) ((HM.out.trans HM2.out).alloc _) ?_ (HC2.out.alloc _)
  have h1:=HM.out.size
  have h2:=HM2.out.size
  exact ⟨w2.heap.size,1,rfl,by omega,QbN w2 [z.1] _ _ rfl,by simp⟩
 ·have H0:=Qaa h0
  have h0':((y.1:Int) == 0)=false:=by simp;omega
  clear h0
  go_wp2_with fail
  refine (HO.out _ y.2 HM.out HC.out).mono ?_
  intro e w2 h2
  rcases h2.cases with ⟨z,v,hy2,rfl,hv,hc,hm⟩ | ⟨f,hf,⟨bb,hz,rfl,hcc⟩,hm⟩
  rotate_left
  ·exact ⟨rfl,Qao.err (QeU HY.out hf) (HM.out.trans hm) ⟨bb,Nat.le_trans HM.out.size hz,rfl,hcc⟩⟩
  unfold Qp1 at hv
  subst hv
  have H2:=Qaa hy2
  have HC2:=Qaa hc
  have HM2:=Qaa hm
  clear h2 hy2 hc hm
  obtain ⟨i0,hi,hz0,hz1,hz2⟩:=info_parts Tryz.infoStr
  have hmu2:=QdV (l:=t.data.toList) (by simpa using HC.out.le) H2.out
  have hmu1:=QhK (l:=t.data.toList) (zs:=[[91]]) (by simpa using H.out.le) H.out.e0 (by decide) HY.out
  rw [bal] at hmu1 hmu2
  replace hmu1:=hmu1.1
  replace hmu2:=hmu2.1
  have hmuL:=HC2.out.mu_le
  have hwz:w.heap.size≤w2.heap.size:=Nat.le_trans HM.out.size HM2.out.size
  go_wp2_with fail
  go_loopw [5] (fun v wr=>∃ (s':PS) (acc:List (List UInt8)) (f:Nat),wr.ownsRow w.heap.size 9 1 v acc.length (QaV acc)∧acc≠[]∧RC wr b t s' rv mc mt∧Mod b w wr∧mu t.size s' < f∧acc.length+mu t.size s'≤1300∧stringsL t.data.toList chk F s=moreL t.data.toList chk f acc s') (fun _ wr=>muW wr b t.size)
  case atStart=>
   refine ⟨z.2,[z.1],F,?_,by simp,HC2.out.alloc _,(HM.out.trans HM2.out).alloc _,by omega,by simp;omega,QjN HY.out H2.out H0.out⟩
   exact World.ownsRow_lit (e:=9) (size:=1) w2 #[.string (Qag z.1)] 1 hwz (by unfold maxLen;omega) rfl
  case round=>
   obtain ⟨s',acc,f,hown,hne,hrc,hmod,hf,hbd,hsp⟩:=hrel
   obtain ⟨f,rfl⟩:∃ g,f=g+1:=⟨f - 1,by omega⟩
   have HR:=Qaa hrc
   have HMr:=Qaa hmod
   have HSP:=Qaa hsp
   have HOW:=Qaa hown
   have hwr:w.heap.size≤wr.heap.size:=hmod.size
   clear hrc hmod hsp hown HC HC2 HY H2 hmu1 hmu2 hmuL
   go_wp2_with fail
   refine (QcO b wr.heap.size 2 2 [[44],[93]] t s' rv mc mt _ (HR.out.alloc _) (QbN wr [[44],[93]] _ _ rfl) rfl (by decide)).mono ?_
   intro e w3 h3
   rcases h3.cases with ⟨y3,v3,hy3,rfl,hv3,hc3,hm3⟩ | ⟨f3,hf3,⟨bb,hz,rfl,hcc⟩,hm3⟩
   rotate_left
   ·exact ⟨rfl,Qao.err (HSP.out.trans (Qj8 hf3)) ((HMr.out.alloc _).trans hm3) ⟨bb,by simp at hz;omega,rfl,hcc⟩⟩
   have hmu3:=Qg7 (l:=t.data.toList) (by simpa using HR.out.le) HR.out.e0 QrS hy3
   rw [bal] at hmu3
   replace hmu3:=hmu3.1
   have HM3:=Qaa ((HMr.out.alloc _).trans hm3)
   have HY3:=Qaa hy3
   have HC3:=Qaa hc3
   have HO3:=Qaa (Qbj (HOW.out.alloc _) hm3 hlt)
   unfold Qi7 at hv3
   subst hv3
   clear h3 hy3 hc3 hm3
   by_cases h1:y3.1=1
   rotate_left
   ·have h1':((y3.1:Int) == 1)=false:=by simp;omega
    have H1:=Qaa h1
    clear h1
    go_wp2
    go_ret
    exact Qao.ok (HSP.out.trans (Qp7 HY3.out H1.out)) HM3.out (slB.of_owns HO3.out rfl hne) HC3.out
   have h1':((y3.1:Int) == 1)=true:=by simp;omega
   have H1:=Qaa h1
   clear h1
   go_wp2_with fail
   refine (HO.out _ y3.2 HM3.out HC3.out).mono ?_
   intro e w4 h4
   rcases h4.cases with ⟨z4,v4,hy4,rfl,hv4,hc4,hm4⟩ | ⟨f4,hf4,⟨bb,hz,rfl,hcc⟩,hm4⟩
   rotate_left
   ·exact ⟨rfl,Qao.err (HSP.out.trans (Qlu HY3.out H1.out hf4)) (HM3.out.trans hm4) ⟨bb,Nat.le_trans HM3.out.size hz,rfl,hcc⟩⟩
   have hmu4:=QdV (l:=t.data.toList) (by simpa using HC3.out.le) hy4
   rw [bal] at hmu4
   replace hmu4:=hmu4.1
   unfold Qp1 at hv4
   subst hv4
   have HM4:=Qaa (HM3.out.trans hm4)
   have HY4:=Qaa hy4
   have HC4:=Qaa hc4
   have hown4:=Qbj HO3.out hm4 hlt
   have hw4:w.heap.size≤w4.heap.size:=HM4.out.size
   clear h4 hy4 hc4 hm4
   go_wp2_with (at_builtin;refine wpList_append_own _ rfl _ _ 89 rfl w.heap.size 9 i0 (.string ⟨#[]⟩) 1 16 Tryz.underlying89 hi hz0 hz1 hz2 rfl (by decide) _ _ _ rfl (hown4.alloc _) ⟨w4.heap.size,0,none⟩ 1 1 [.string (Qag z4.1)] rfl rfl ?c1 ?c2 ?c3 ?c4 ?c5 ?_)
   case c1=>
    intro j u hj
    match j,hj with
    | 0,hj=>simp at hj;subst hj;simp [Addr.add]
   case c2=>intro u hu;simp at hu;subst hu;rfl
   case c3=>unfold maxLen;omega
   case c4=>omega
   case c5=>simp;omega
   ·intro v' w5 hown5 hgrow _
    have hrow:∀ k,(u5).ownBlock=some k→w.heap.size≤k:=fun k hk=>(hown4.lt k hk).1
    have HM5:=Qaa ((HM4.out.alloc (Obj.cells #[.string (Qag z4.1)] 9)).grown hgrow hrow)
    have HC5:=Qaa ((HC4.out.alloc (Obj.cells #[.string (Qag z4.1)] 9)).grown hgrow (fun k hk=>by have:=hrow k hk;omega))
    rw [Qcx] at hown5
    have HO5:=Qaa hown5
    have hmw:muW w5 b t.size < muW wr b t.size:=by rw [HC5.out.muEq,HR.out.muEq];omega
    have HMW:=Qaa hmw
    clear hown5 hgrow hown4 hrow hmw
    go_wp2
    go_roundw
    case rel=>exact ⟨z4.2,acc++[z4.1],f,by simpa using HO5.out,by simp,HC5.out,HM5.out,by omega,by simp;omega,HSP.out.trans (Qsr HY3.out H1.out HY4.out)⟩
    case measure=>exact HMW.out
end
section
open Go.RowKit
theorem QaP {w w':World} {b g:Nat} {o:Obj} (h:w.heap[g]?=some o) (hm:Mod b w w') (hn:g≠b):w'.heap[g]?=some o:=by
 rw [hm.block g (QaM h) hn];exact h
theorem Qkp (w:World):Calls Tryz.prog 208 #[] w fun e w'=>e=.returned (.slice (some ⟨w.heap.size,0,none⟩) 3 3)∧w'=w.alloc (.cells (QaV [tIs,Qas,Qax]).toArray 9):=by
 go_enter Tryz.func208,Tryz.ntmps208
 go_wp2
 go_ret
 exact ⟨rfl,rfl⟩
theorem QkV (w:World):Calls Tryz.prog 162 #[] w fun e w'=>e=.returned (.slice (some ⟨w.heap.size,0,none⟩) 3 3)∧w'=w.alloc (.cells (QaV [Qdi,Qdg,Qcn]).toArray 9):=by
 go_enter Tryz.func162,Tryz.ntmps162
 go_wp2
 go_ret
 exact ⟨rfl,rfl⟩
theorem Qk2 (w:World):Calls Tryz.prog 173 #[] w fun e w'=>e=.returned (.slice (some ⟨w.heap.size,0,none⟩) 2 2)∧w'=w.alloc (.cells (QaV [QfB,Qdx]).toArray 9):=by
 go_enter Tryz.func173,Tryz.ntmps173
 go_wp2
 go_ret
 exact ⟨rfl,rfl⟩
theorem Mod.setNew {b:Nat} {u w:World} (h:Mod b u w) {g:Nat} (hg:u.heap.size≤g) (o:Nat) (v:Value):Mod b u (w.setCell ⟨g,o,none⟩ v):=
 ⟨h.os,h.tape,h.output,by have:=h.size;simpa [World.setCell] using this,fun k hk hn=>(Below.heap_setCell _ _ _ _ (by show k≠g;omega)).trans (h.block k hk hn)⟩
theorem RC.setNew {w:World} {b:Nat} {t:ByteArray} {s:PS} {rv:Value} {mc mt:Nat} (h:RC w b t s rv mc mt) {g:Nat} (hg:b < g) (o:Nat) (v:Value):RC (w.setCell ⟨g,o,none⟩ v) b t s rv mc mt:=by
 have h1:=h.b1
 refine ⟨?_,h.le,?_,h.b1,h.hs,h.sz,h.e0,h.nm⟩
 ·unfold RAt;rw [Below.heap_setCell _ _ _ _ (by show b≠g;omega)];exact h.at_
 ·obtain ⟨m,hm⟩:=h.m
  exact ⟨m,by rw [World.cell?_of_block (w:=w) (a:=⟨1,0,none⟩) (Below.heap_setCell _ _ _ _ (by show 1≠g;omega))];exact hm⟩
theorem QeC {w:World} {g g':Nat} {o:Obj} (h:w.heap[g]?=some o) (hn:g≠g') (k:Nat) (v:Value):(w.setCell ⟨g',k,none⟩ v).heap[g]?=some o:=by
 rw [Below.heap_setCell _ _ _ _ hn];exact h
theorem QmC {l:List UInt8} {f tag:Nat} {oct cmp:Bool} {s:PS} (h:¬ whichL [tIs,Qas,Qax] s.1.spelt=0) (ht:¬ tag=0):QdJ l (f+1) tag oct cmp s=.error ⟨7,s.1.pos⟩:=by
 rw [QdJ,if_neg h,if_neg ht]
theorem Qlv {l:List UInt8} {f tag:Nat} {oct cmp:Bool} {s:PS} {e:Flt} (h:¬ whichL [tIs,Qas,Qax] s.1.spelt=0) (ht:tag=0) (hn:nextL l s.2=.error e):QdJ l (f+1) tag oct cmp s=.error e:=by
 rw [QdJ,if_neg h,if_pos ht,Qce,hn]
theorem Qsj {l:List UInt8} {f tag:Nat} {oct cmp:Bool} {s y:PS} (h:¬ whichL [tIs,Qas,Qax] s.1.spelt=0) (ht:tag=0) (hn:nextL l s.2=.ok y):QdJ l (f+1) tag oct cmp s=QdJ l f (whichL [tIs,Qas,Qax] s.1.spelt) oct cmp y:=by
 rw [QdJ,if_neg h,if_pos ht,Qce,hn]
theorem Qss {l:List UInt8} {f tag:Nat} {oct cmp:Bool} {s:PS} (h:whichL [tIs,Qas,Qax] s.1.spelt=0) (h2:whichL [Qaz] s.1.spelt=0):QdJ l (f+1) tag oct cmp s=.ok ((max tag 1,oct),s):=by
 rw [QdJ,if_pos h,if_pos h2]
theorem QnG {l:List UInt8} {f tag:Nat} {oct:Bool} {s:PS} (h:whichL [tIs,Qas,Qax] s.1.spelt=0) (h2:¬ whichL [Qaz] s.1.spelt=0):QdJ l (f+1) tag oct true s=.error ⟨7,s.1.pos⟩:=by
 rw [QdJ,if_pos h,if_neg h2,if_pos rfl]
theorem Qk9 {l:List UInt8} {f tag:Nat} {oct:Bool} {s:PS} {e:Flt} (h:whichL [tIs,Qas,Qax] s.1.spelt=0) (h2:¬ whichL [Qaz] s.1.spelt=0) (hn:nextL l s.2=.error e):QdJ l (f+1) tag oct false s=.error e:=by
 rw [QdJ,if_pos h,if_neg h2,if_neg (by decide),Qce,hn]
theorem QnH {l:List UInt8} {f tag:Nat} {oct:Bool} {s y:PS} {e:Flt} (h:whichL [tIs,Qas,Qax] s.1.spelt=0) (h2:¬ whichL [Qaz] s.1.spelt=0) (hn:nextL l s.2=.ok y) (hs:stringL l (Qcs 7 [Qb3,Qdp]) y=.error e):QdJ l (f+1) tag oct false s=.error e:=by
 rw [QdJ,if_pos h,if_neg h2,if_neg (by decide),QaX hn];exact Qae hs
theorem QrU {l:List UInt8} {f tag:Nat} {oct:Bool} {s y:PS} {z:List UInt8×PS} (h:whichL [tIs,Qas,Qax] s.1.spelt=0) (h2:¬ whichL [Qaz] s.1.spelt=0) (hn:nextL l s.2=.ok y) (hs:stringL l (Qcs 7 [Qb3,Qdp]) y=.ok z):QdJ l (f+1) tag oct false s=QdJ l f tag (decide (z.1=Qb3)) true z.2:=by
 rw [QdJ,if_pos h,if_neg h2,if_neg (by decide),QaX hn];exact Qac hs
theorem QsB:∀ z∈[tIs,Qas,Qax],z≠[]:=by decide
theorem Qtb:∀ z∈[Qaz],z≠[]:=by decide
theorem QfZ {zs:List (List UInt8)} {s:PS} (hz:∀ z∈zs,z≠[]) (he:s.1.kind=0→s.1.spelt=[]) (h:¬ whichL zs s.1.spelt=0):¬ s.1.kind=0:=fun e=>h (by rw [he e];exact Qd0 zs hz)
def QgH (hw:List UInt8) (hp tag:Nat) (oct:Bool):Array Value:=#[.string (Qag hw),.int .i64 hp,.int .i64 tag,.bool oct,.slice none 0 0,.slice none 0 0]
def QuB (hw:List UInt8) (hp:Nat) (o:Nat×Bool) (_:World) (v:Value):Prop:=v=.agg (QgH hw hp o.1 o.2)
theorem Qmq (hw:List UInt8) (hp:Nat) (b F:Nat) (t:ByteArray) (s:PS) (rv:Value) (mc mt:Nat) (w:World) (h:RC w b t s rv mc mt) (hF:mu t.size s < F) :
 Calls Tryz.prog 169 #[.pointer (some ⟨b,0,none⟩),.agg #[.string (Qag hw),.int .i64 hp]] w (Qao (QdJ t.data.toList F 0 false false s) b t rv mc mt w (QuB hw hp)):=by
 have H:=Qaa h
 have hlt:=h.at_.lt
 clear h
 go_enter Tryz.func169,Tryz.ntmps169
 go_wp2_with fail
 go_loopw [6,7] (fun c6 _ wr=>∃ (s':PS) (tag:Nat) (oct cmp:Bool) (f:Nat),c6=.bool cmp∧wr.heap[w.heap.size+1+1]?=some (.cells (QgH hw hp tag oct) 211)∧wr.heap[w.heap.size+1]?=some (.cells #[.string ⟨#[]⟩,.int .i64 0,.int .i64 0,.bool false,.slice none 0 0,.slice none 0 0] 211)∧RC wr b t s' rv mc mt∧Mod b w wr∧mu t.size s' < f∧tag≤3∧QdJ t.data.toList F 0 false false s=QdJ t.data.toList f tag oct cmp s') (fun _ _ wr=>muW wr b t.size)
 case atStart=>
  refine ⟨s,0,false,false,F,rfl,?_,?_,((H.out.alloc _).alloc _).alloc _,(((Mod.refl b w).alloc _).alloc _).alloc _,hF,by omega,rfl⟩
  ·exact Qaw (by simp)
  ·exact Qad (Qaw (by simp))
 case round=>
  obtain ⟨s',tag,oct,cmp,f,rfl,hM,hR,hrc,hmod,hf,htag,hsp⟩:=hrel
  obtain ⟨f,rfl⟩:∃ g,f=g+1:=⟨f - 1,by omega⟩
  have HR:=Qaa hrc
  have HMr:=Qaa hmod
  have HSP:=Qaa hsp
  have HM:=Qaa hM
  have HRR:=Qaa hR
  have hwr:w.heap.size+1+1 < wr.heap.size:=QaM hM
  have hw1:=Qaa (Qf8 b wr.heap.size 3 3 [tIs,Qas,Qax] t s'.1 s'.2 rv mc mt _ (hrc.alloc (.cells (QaV [tIs,Qas,Qax]).toArray 9)).at_ (QbN wr [tIs,Qas,Qax] _ _ rfl) rfl (by decide))
  have hle1:=QbM [tIs,Qas,Qax] s'.1.spelt
  have HW1:=Qaa (QfZ (zs:=[tIs,Qas,Qax]) (s:=s') QsB hrc.e0)
  have HW2:=Qaa (QfZ (zs:=[Qaz]) (s:=s') Qtb hrc.e0)
  clear hrc hmod hsp hM hR
  go_wp2_with (go_at_call 208;refine (Qkp _).mono ?_;rintro e w' ⟨rfl,rfl⟩)
  refine hw1.out.mono ?_
  rintro e w' ⟨rfl,rfl⟩
  by_cases h1:whichL [tIs,Qas,Qax] s'.1.spelt=0
  ·have H1:=Qaa h1
   have h1':¬ (0:Int) < (whichL [tIs,Qas,Qax] s'.1.spelt:Int):=by omega
   obtain ⟨W,hW⟩:∃ W,W=wr.alloc (.cells (QaV [tIs,Qas,Qax]).toArray 9):=⟨_,rfl⟩
   rw [← hW]
   have HRW:Hid (RC W b t s' rv mc mt):=by rw [hW];exact HR.out.alloc _
   have HMW:Hid (Mod b w W):=by rw [hW];exact HMr.out.alloc _
   have HMM:Hid (W.heap[w.heap.size+1+1]?=some (.cells (QgH hw hp tag oct) 211)):=by rw [hW];exact Qad HM.out
   have HRM:Hid (W.heap[w.heap.size+1]?=some (.cells #[.string ⟨#[]⟩,.int .i64 0,.int .i64 0,.bool false,.slice none 0 0,.slice none 0 0] 211)):=by rw [hW];exact Qad HRR.out
   have hzW:w.heap.size+1+1 < W.heap.size:=QaM HMM.out
   have hw2:=Qaa (Qf8 b W.heap.size 1 1 [Qaz] t s'.1 s'.2 rv mc mt _ (HRW.out.alloc (.cells (QaV [Qaz]).toArray 9)).at_ (QbN W [Qaz] _ _ rfl) rfl (by decide))
   have hle2:=QbM [Qaz] s'.1.spelt
   clear h1 hw1 hW hle1
   go_wp2_with fail
   refine hw2.out.mono ?_
   rintro e w' ⟨rfl,hww⟩
   subst hww
   obtain ⟨V,hV⟩:∃ V,V=W.alloc (.cells (QaV [Qaz]).toArray 9):=⟨_,rfl⟩
   rw [← hV]
   have HRV:Hid (RC V b t s' rv mc mt):=by rw [hV];exact HRW.out.alloc _
   have HMV:Hid (Mod b w V):=by rw [hV];exact HMW.out.alloc _
   have HVM:Hid (V.heap[w.heap.size+1+1]?=some (.cells (QgH hw hp tag oct) 211)):=by rw [hV];exact Qad HMM.out
   have HVR:Hid (V.heap[w.heap.size+1]?=some (.cells #[.string ⟨#[]⟩,.int .i64 0,.int .i64 0,.bool false,.slice none 0 0,.slice none 0 0] 211)):=by rw [hV];exact Qad HRM.out
   have hzV:w.heap.size+1+1 < V.heap.size:=QaM HVM.out
   clear hV hw2
   by_cases h2:whichL [Qaz] s'.1.spelt=0
   ·have H2:=Qaa h2
    have h2':¬ (0:Int) < (whichL [Qaz] s'.1.spelt:Int):=by omega
    have m0:V.cell? ⟨w.heap.size+1+1,0,none⟩=some (.string (Qag hw)):=Qab HVM.out 0
    have m1:V.cell? ⟨w.heap.size+1+1,1,none⟩=some (.int .i64 hp):=Qab HVM.out 1
    have m2:V.cell? ⟨w.heap.size+1+1,2,none⟩=some (.int .i64 tag):=Qab HVM.out 2
    have m3:V.cell? ⟨w.heap.size+1+1,3,none⟩=some (.bool oct):=Qab HVM.out 3
    have m4:V.cell? ⟨w.heap.size+1+1,4,none⟩=some (.slice none 0 0):=Qab HVM.out 4
    have m5:V.cell? ⟨w.heap.size+1+1,5,none⟩=some (.slice none 0 0):=Qab HVM.out 5
    have mf:=Qam HVM.out
    have r0:V.cell? ⟨w.heap.size+1,0,none⟩=some (.string ⟨#[]⟩):=Qab HVR.out 0
    have r1:V.cell? ⟨w.heap.size+1,1,none⟩=some (.int .i64 0):=Qab HVR.out 1
    have r2:V.cell? ⟨w.heap.size+1,2,none⟩=some (.int .i64 0):=Qab HVR.out 2
    have r3:V.cell? ⟨w.heap.size+1,3,none⟩=some (.bool false):=Qab HVR.out 3
    have r4:V.cell? ⟨w.heap.size+1,4,none⟩=some (.slice none 0 0):=Qab HVR.out 4
    have r5:V.cell? ⟨w.heap.size+1,5,none⟩=some (.slice none 0 0):=Qab HVR.out 5
    have rf:=Qam HVR.out
    clear h2
    go_wp2
    have hbz1:b < w.heap.size+1:=by omega
    have hbz2:b < w.heap.size+1+1:=by omega
    have hg1:w.heap.size≤w.heap.size+1:=by omega
    have hg2:w.heap.size≤w.heap.size+1+1:=by omega
    refine bodyPost_ret (v:=.agg #[.string (Qag hw),.int .i64 hp,.int .i64 (max (tag:Int) 1),.bool oct,.slice none 0 0,.slice none 0 0]) (by simp [results,Tryz.results169,go_sem,r0,r1,r2,r3,r4,r5]) rfl (Qao.ok (HSP.out.trans (Qss H1.out H2.out)) (((((((HMV.out.setNew hg2 _ _).setNew hg1 _ _).setNew hg1 _ _).setNew hg1 _ _).setNew hg1 _ _).setNew hg1 _ _).setNew hg1 _ _) ?_ (((((((HRV.out.setNew hbz2 _ _).setNew hbz1 _ _).setNew hbz1 _ _).setNew hbz1 _ _).setNew hbz1 _ _).setNew hbz1 _ _).setNew hbz1 _ _))
    unfold QuB QgH
    have:(max (tag:Int) 1)=((max tag 1:Nat):Int):=by omega
    rw [this]
   ·have H2:=Qaa h2
    have h2':(0:Int) < (whichL [Qaz] s'.1.spelt:Int):=by omega
    clear h2
    cases cmp
    rotate_left
    ·go_wp2_with fail
     refine (Qbe b 7 _ _ t s'.1 s'.2 rv mc mt _ HRV.out.at_ rfl rfl).mono ?_
     rintro e w1 ⟨⟨bb,hz,rfl,hcc⟩,hm⟩
     exact ⟨rfl,Qao.err (HSP.out.trans (QnG H1.out H2.out)) (HMV.out.trans (Mod.of_below hm)) ⟨bb,Nat.le_trans HMV.out.size hz,rfl,hcc⟩⟩
    go_wp2_with fail
    refine (QaF b _ _ _ rfl).mono ?_
    rintro e w' ⟨rfl,hww⟩
    subst hww
    go_wp2_with fail
    refine (QcJ b t s' rv mc mt _ HRV.out).mono ?_
    rintro e w2 (⟨y,hy,rfl,hc,hm⟩ | ⟨f2,hf2,⟨bb,hz,rfl,hcc⟩,hm⟩)
    rotate_left
    ·exact ⟨rfl,Qao.err (HSP.out.trans (Qk9 H1.out H2.out hf2)) (HMV.out.trans hm) ⟨bb,Nat.le_trans HMV.out.size hz,rfl,hcc⟩⟩
    have hmu:=Qem (l:=t.data.toList) (s:=s') (by simpa using HRV.out.le) (HW2.out H2.out) hy
    rw [bal] at hmu
    have HM2:=Qaa (HMV.out.trans hm)
    have HC2:=Qaa hc
    have HB2:=Qaa (QaP HVM.out hm (by omega))
    have HB3:=Qaa (QaP HVR.out hm (by omega))
    have hz2:w.heap.size+1+1 < w2.heap.size:=QaM HB2.out
    have HY:=Qaa hy
    clear hc hm hy
    go_wp2_with (go_at_call 117;refine (Qhr _ _ _ _ _).mono ?_;rintro e w' ⟨rfl,rfl⟩)
    obtain ⟨U,hU⟩:∃ U,U=((w2.alloc (.cells #[.string ⟨#[105,59,111,99,116,101,116]⟩,.string ⟨#[105,59,97,115,99,105,105,45,99,97,115,101,109,97,112]⟩] 9)).alloc (.cells #[.int .i64 7] 30)).alloc (.cells #[.slice (some ⟨w2.heap.size,0,none⟩) 2 2] 89):=⟨_,rfl⟩
    have HOU:Hid (QhJ U (w2.heap.size+1+1) (w2.heap.size+1) w2.heap.size 2 2 7 [Qb3,Qdp]):=by
     rw [hU]
     refine ⟨?_,?_,?_,rfl,by decide⟩
     ·exact Qab (Qaw (by simp)) 0
     ·exact Qab (Qad (Qaw (by simp))) 0
     ·exact ((QbN w2 [Qb3,Qdp] _ _ rfl).below ((Below.refl _ _).alloc (Nat.le_refl _) _)).below ((Below.refl _ _).alloc (Nat.le_refl _) _)
    have HRU:Hid (RC U b t y rv mc mt):=by rw [hU];exact ((HC2.out.alloc _).alloc _).alloc _
    have HMU:Hid (Mod b w U):=by rw [hU];exact ((HM2.out.alloc _).alloc _).alloc _
    have HUM:Hid (U.heap[w.heap.size+1+1]?=some (.cells (QgH hw hp tag oct) 211)):=by rw [hU];exact Qad (Qad (Qad HB2.out))
    have HUR:Hid (U.heap[w.heap.size+1]?=some (.cells #[.string ⟨#[]⟩,.int .i64 0,.int .i64 0,.bool false,.slice none 0 0,.slice none 0 0] 211)):=by rw [hU];exact Qad (Qad (Qad HB3.out))
    rw [← hU]
    clear hU
    refine (QgN (w2.heap.size+1+1) (w2.heap.size+1) w2.heap.size 2 2 7 [Qb3,Qdp] b t y rv mc mt _ HRU.out HOU.out).mono ?_
    intro e w3 h3
    rcases h3.cases with ⟨z,v,hy3,rfl,hv,hc3,hm3⟩ | ⟨f3,hf3,⟨bb,hz,rfl,hcc⟩,hm3⟩
    rotate_left
    ·exact ⟨rfl,Qao.err (HSP.out.trans (QnH H1.out H2.out HY.out hf3)) (HMU.out.trans hm3) ⟨bb,Nat.le_trans HMU.out.size hz,rfl,hcc⟩⟩
    unfold Qp1 at hv
    subst hv
    have hmu3:=QdV (l:=t.data.toList) (by simpa using HRU.out.le) hy3
    rw [bal] at hmu3
    replace hmu3:=hmu3.1
    have HM3:=Qaa (HMU.out.trans hm3)
    have HC3:=Qaa hc3
    have HB4:=Qaa (QaP HUM.out hm3 (by omega))
    have HB5:=Qaa (QaP HUR.out hm3 (by omega))
    have HY3:=Qaa hy3
    have m3:w3.cell? ⟨w.heap.size+1+1,3,none⟩=some (.bool oct):=Qab HB4.out 3
    have mf:=Qam HB4.out
    clear h3 hy3 hc3 hm3
    have hbz2:b < w.heap.size+1+1:=by omega
    go_wp2
    have hoct:((Qag z.1).toList == [105,59,111,99,116,101,116])=decide (z.1=Qb3):=Qc1 z.1 Qb3
    rw [hoct]
    have hrc4:=HC3.out.setNew hbz2 3 (.bool (decide (z.1=Qb3)))
    refine ⟨⟨z.2,tag,decide (z.1=Qb3),true,f,rfl,Qah _ _ _ _ _ _ HB4.out,QeC HB5.out (by omega) _ _,hrc4,HM3.out.setNew (by omega) _ _,by omega,htag,HSP.out.trans (QrU H1.out H2.out HY.out HY3.out)⟩,?_⟩
    rw [hrc4.muEq,HR.out.muEq]
    omega
  ·have H1:=Qaa h1
   have h1':(0:Int) < (whichL [tIs,Qas,Qax] s'.1.spelt:Int):=by omega
   have hc2:(wr.alloc (.cells (QaV [tIs,Qas,Qax]).toArray 9)).cell? ⟨w.heap.size+1+1,2,none⟩=some (.int .i64 tag):=Qab (Qad HM.out) 2
   have hf2:(wr.alloc (.cells (QaV [tIs,Qas,Qax]).toArray 9)).frozen? ⟨w.heap.size+1+1,2,none⟩=false:=Qam (Qad HM.out) 2
   have hle:(whichL [tIs,Qas,Qax] s'.1.spelt)≤3:=hle1
   obtain ⟨W,hW⟩:∃ W,W=wr.alloc (.cells (QaV [tIs,Qas,Qax]).toArray 9):=⟨_,rfl⟩
   rw [← hW] at hc2 hf2 ⊢
   have HRW:Hid (RC W b t s' rv mc mt):=by rw [hW];exact HR.out.alloc _
   have HMW:Hid (Mod b w W):=by rw [hW];exact HMr.out.alloc _
   have HMM:Hid (W.heap[w.heap.size+1+1]?=some (.cells (QgH hw hp tag oct) 211)):=by rw [hW];exact Qad HM.out
   have HRM:Hid (W.heap[w.heap.size+1]?=some (.cells #[.string ⟨#[]⟩,.int .i64 0,.int .i64 0,.bool false,.slice none 0 0,.slice none 0 0] 211)):=by rw [hW];exact Qad HRR.out
   have HZ:Hid (w.heap.size≤W.heap.size):=HMW.out.size
   clear h1 hw1 hW hle1
   by_cases ht:tag=0
   ·have ht':((tag:Int) == 0)=true:=by simp;omega
    have HT:=Qaa ht
    clear ht
    go_wp2_with fail
    refine (QaF b _ _ _ rfl).mono ?_
    rintro e w' ⟨rfl,rfl⟩
    go_wp2_with fail
    have hbz:b < w.heap.size+1+1:=by omega
    have hsz:=HMW.out.size
    refine (QcJ b t s' rv mc mt _ (HRW.out.setNew hbz _ _)).mono ?_
    rintro e w2 (⟨y,hy,rfl,hc,hm⟩ | ⟨f2,hf2,⟨bb,hz,rfl,hcc⟩,hm⟩)
    rotate_left
    ·exact ⟨rfl,Qao.err (HSP.out.trans (Qlv H1.out HT.out hf2)) ((HMW.out.setNew (by omega) _ _).trans hm) ⟨bb,Nat.le_trans (HMW.out.setNew (by omega) _ _).size hz,rfl,hcc⟩⟩
    have hmu:=Qem (l:=t.data.toList) (s:=s') (by simpa using HRW.out.le) (HW1.out H1.out) hy
    rw [bal] at hmu
    have hmw:muW w2 b t.size < muW wr b t.size:=by rw [hc.muEq,HR.out.muEq];exact hmu
    have HMW2:=Qaa hmw
    have HC2:=Qaa hc
    have HM2:=Qaa ((HMW.out.setNew (g:=w.heap.size+1+1) (by omega) 2 (.int .i64 (whichL [tIs,Qas,Qax] s'.1.spelt))).trans hm)
    have HB2:=Qaa (QaP (b:=b) (g:=w.heap.size+1+1) (Qah _ (w.heap.size+1+1) 2 (.int .i64 (whichL [tIs,Qas,Qax] s'.1.spelt)) _ _ HMM.out) hm (by omega))
    have HB3:=Qaa (QaP (QeC HRM.out (by omega:w.heap.size+1≠w.heap.size+1+1) 2 (.int .i64 (whichL [tIs,Qas,Qax] s'.1.spelt))) hm (by omega))
    have HY:=Qaa hy
    clear hc hm hmw hy
    go_wp2
    go_roundw
    case rel=>exact ⟨y,whichL [tIs,Qas,Qax] s'.1.spelt,oct,cmp,f,rfl,HB2.out,HB3.out,HC2.out,HM2.out,by omega,hle,HSP.out.trans (Qsj H1.out HT.out HY.out)⟩
    case measure=>exact HMW2.out
   ·have ht':((tag:Int) == 0)=false:=by simp;omega
    have HT:=Qaa ht
    clear ht
    go_wp2_with fail
    refine (Qbe b 7 _ _ t s'.1 s'.2 rv mc mt _ HRW.out.at_ rfl rfl).mono ?_
    rintro e w1 ⟨⟨bb,hz,rfl,hcc⟩,hm⟩
    exact ⟨rfl,Qao.err (HSP.out.trans (QmC H1.out HT.out)) (HMW.out.trans (Mod.of_below hm)) ⟨bb,Nat.le_trans HZ.out hz,rfl,hcc⟩⟩
end
section
open Go.RowKit
theorem Qir.mod {w w':World} {b:Nat} {t:ByteArray} {rv:Value} {mc mt:Nat} {cv:Value} {chk:List UInt8→Nat} (h:Qir w b t rv mc mt cv chk) (hm:Mod b w w'):Qir w' b t rv mc mt cv chk:=
 fun W s hW hr=>h W s (hm.trans hW) hr
theorem QfF (w:World) (b:Nat) (t:ByteArray) (rv:Value) (mc mt:Nat):Qir w b t rv mc mt (.func (.func 114) #[] #[]) (fun _=>0):=
 fun W s _ hr=>Qdv b t s rv mc mt W hr
def mtV (B:Nat) (hw:List UInt8) (x:QdG) (w:World) (v:Value):Prop:=
 ∃ fv kv,v=.agg #[.string (Qag hw),.int .i64 x.pos,.int .i64 x.tag,.bool x.octet,fv,kv]∧slB B x.fr w fv∧slB B x.keys w kv
theorem RC.mu_lt {w:World} {b:Nat} {t:ByteArray} {s:PS} {rv:Value} {mc mt:Nat} (h:RC w b t s rv mc mt) {F:Nat} (hF:2*t.size+1 < F):mu t.size s < F:=by
 unfold mu
 split <;> omega
theorem QhB (cv:Value) (chk:List UInt8→Nat) (k:Nat) (hw:List UInt8) (hp:Nat) (b F:Nat) (t:ByteArray) (s:PS) (rv:Value) (mc mt:Nat) (w:World) (h:RC w b t s rv mc mt) (ho:Qir w b t rv mc mt cv chk) (hF:2*t.size+1 < F) :
 Calls Tryz.prog 113 #[.pointer (some ⟨b,0,none⟩),.agg #[.string (Qag hw),.int .i64 hp],cv] w (Qao (QbR t.data.toList F chk k hp s) b t rv mc mt w (mtV w.heap.size hw)):=by
 have H:=Qaa h
 have HO:=Qaa ho
 have hlt:=h.at_.lt
 clear h ho
 go_enter Tryz.func113,Tryz.ntmps113
 go_wp2_with fail
 have HM0:=Qaa (((Mod.refl b w).alloc (.cells #[.string (Qag hw),.int .i64 hp] 200)).alloc (.cells #[.string ⟨#[]⟩,.int .i64 0,.int .i64 0,.bool false,.slice none 0 0,.slice none 0 0] 211))
 refine (Qmq hw hp b F t s rv mc mt _ ((H.out.alloc _).alloc _) (H.out.mu_lt hF)).mono ?_
 intro e w1 h1
 rcases h1.cases with ⟨o,v,hy,rfl,hv,hc,hm⟩ | ⟨f,hf,⟨bb,hz,rfl,hcc⟩,hm⟩
 rotate_left
 ·exact ⟨rfl,Qao.err (Qae hf) (HM0.out.trans hm) ⟨bb,Nat.le_trans HM0.out.size hz,rfl,hcc⟩⟩
 unfold QuB QgH at hv
 subst hv
 have HY:=Qaa hy
 have HC:=Qaa hc
 have HM1:=Qaa (HM0.out.trans hm)
 have HR1:=Qaa (QaP (g:=w.heap.size+1) (o:=.cells #[.string ⟨#[]⟩,.int .i64 0,.int .i64 0,.bool false,.slice none 0 0,.slice none 0 0] 211) (Qaw (by simp)) hm (by omega))
 have hz1:w.heap.size+1 < w1.heap.size:=QaM HR1.out
 clear h1 hy hc hm
 go_wp2_with fail
 obtain ⟨V,hV⟩:∃ V,V=w1.alloc (.cells #[.string (Qag hw),.int .i64 hp,.int .i64 o.1.1,.bool o.1.2,.slice none 0 0,.slice none 0 0] 211):=⟨_,rfl⟩
 have HRV:Hid (RC V b t o.2 rv mc mt):=by rw [hV];exact HC.out.alloc _
 have HMV:Hid (Mod b w V):=by rw [hV];exact HM1.out.alloc _
 have HVR:Hid (V.heap[w.heap.size+1]?=some (.cells #[.string ⟨#[]⟩,.int .i64 0,.int .i64 0,.bool false,.slice none 0 0,.slice none 0 0] 211)):=by rw [hV];exact Qad HR1.out
 have HVM:Hid (V.heap[w1.heap.size]?=some (.cells #[.string (Qag hw),.int .i64 hp,.int .i64 o.1.1,.bool o.1.2,.slice none 0 0,.slice none 0 0] 211)):=by rw [hV];exact QaB _ _
 rw [← hV]
 have hzM:w1.heap.size < V.heap.size:=QaM HVM.out
 generalize w1.heap.size=M at *
 clear hV HC HM1 HR1
 refine (Qd5 cv chk b F t o.2 rv mc mt V HRV.out (HO.out.mod HMV.out) (HRV.out.mu_lt hF)).mono ?_
 intro e w2 h2
 rcases h2.cases with ⟨y2,v2,hy2,rfl,hv2,hc2,hm2⟩ | ⟨f,hf,⟨bb,hz,rfl,hcc⟩,hm2⟩
 rotate_left
 ·exact ⟨rfl,Qao.err ((Qac HY.out).trans (Qae hf)) (HMV.out.trans hm2) ⟨bb,Nat.le_trans HMV.out.size hz,rfl,hcc⟩⟩
 have hs2:=hv2
 obtain ⟨g2,n2,c2,rfl⟩:=hs2.form
 have HS2:=Qaa hs2
 have HY2:=Qaa hy2
 have HC2:=Qaa hc2
 have HM2:=Qaa (HMV.out.trans hm2)
 have HR2:=Qaa (QaP HVR.out hm2 (by omega))
 have HMM2:=Qaa (QaP HVM.out hm2 (by omega))
 have hzM2:M < w2.heap.size:=QaM HMM2.out
 have m4:w2.cell? ⟨M,4,none⟩=some (.slice none 0 0):=Qab HMM2.out 4
 have mf:=Qam HMM2.out
 have hbM:b < M:=by omega
 have hwM:w.heap.size+1 < M:=by omega
 clear h2 hy2 hc2 hm2 hs2 hv2
 go_wp2_with fail
 obtain ⟨U,hU⟩:∃ U,U=w2.setCell ⟨M,4,none⟩ (.slice (some ⟨g2,0,none⟩) n2 c2):=⟨_,rfl⟩
 have HRU:Hid (RC U b t y2.2 rv mc mt):=by rw [hU];exact HC2.out.setNew hbM _ _
 have HMU:Hid (Mod b w U):=by rw [hU];exact HM2.out.setNew (by omega) _ _
 have HUR:Hid (U.heap[w.heap.size+1]?=some (.cells #[.string ⟨#[]⟩,.int .i64 0,.int .i64 0,.bool false,.slice none 0 0,.slice none 0 0] 211)):=by rw [hU];exact QeC HR2.out (by omega) _ _
 have HUM:Hid (U.heap[M]?=some (.cells #[.string (Qag hw),.int .i64 hp,.int .i64 o.1.1,.bool o.1.2,.slice (some ⟨g2,0,none⟩) n2 c2,.slice none 0 0] 211)):=by rw [hU];exact Qah _ _ _ _ _ _ HMM2.out
 have HSU:Hid (slB V.heap.size y2.1 U (.slice (some ⟨g2,0,none⟩) n2 c2)):=by
  rw [hU]
  exact HS2.out.keep (Abv.set hzM _ _)
 rw [← hU]
 clear hU mf m4
 have hzU:M < U.heap.size:=QaM HUM.out
 refine (Qd5 (.func (.func 114) #[] #[]) (fun _=>0) b F t y2.2 rv mc mt U HRU.out (QfF _ _ _ _ _ _) (HRU.out.mu_lt hF)).mono ?_
 intro e w3 h3
 rcases h3.cases with ⟨y3,v3,hy3,rfl,hv3,hc3,hm3⟩ | ⟨f,hf,⟨bb,hz,rfl,hcc⟩,hm3⟩
 rotate_left
 ·exact ⟨rfl,Qao.err ((Qac HY.out).trans ((Qac HY2.out).trans (Qae hf))) (HMU.out.trans hm3) ⟨bb,Nat.le_trans HMU.out.size hz,rfl,hcc⟩⟩
 have hs3:=hv3
 obtain ⟨g3,n3,c3,rfl⟩:=hs3.form
 have HS3:=Qaa hs3
 have HS2':=Qaa (HSU.out.keep (hm3.abv (by omega)))
 have HY3:=Qaa hy3
 have HC3:=Qaa hc3
 have HM3:=Qaa (HMU.out.trans hm3)
 have HR3:=Qaa (QaP HUR.out hm3 (by omega))
 have HMM3:=Qaa (QaP HUM.out hm3 (by omega))
 have m0:w3.cell? ⟨M,0,none⟩=some (.string (Qag hw)):=Qab HMM3.out 0
 have m1:w3.cell? ⟨M,1,none⟩=some (.int .i64 hp):=Qab HMM3.out 1
 have m2:w3.cell? ⟨M,2,none⟩=some (.int .i64 o.1.1):=Qab HMM3.out 2
 have m3:w3.cell? ⟨M,3,none⟩=some (.bool o.1.2):=Qab HMM3.out 3
 have m4:w3.cell? ⟨M,4,none⟩=some (.slice (some ⟨g2,0,none⟩) n2 c2):=Qab HMM3.out 4
 have m5:w3.cell? ⟨M,5,none⟩=some (.slice none 0 0):=Qab HMM3.out 5
 have mf:=Qam HMM3.out
 have r0:w3.cell? ⟨w.heap.size+1,0,none⟩=some (.string ⟨#[]⟩):=Qab HR3.out 0
 have r1:w3.cell? ⟨w.heap.size+1,1,none⟩=some (.int .i64 0):=Qab HR3.out 1
 have r2:w3.cell? ⟨w.heap.size+1,2,none⟩=some (.int .i64 0):=Qab HR3.out 2
 have r3:w3.cell? ⟨w.heap.size+1,3,none⟩=some (.bool false):=Qab HR3.out 3
 have r4:w3.cell? ⟨w.heap.size+1,4,none⟩=some (.slice none 0 0):=Qab HR3.out 4
 have r5:w3.cell? ⟨w.heap.size+1,5,none⟩=some (.slice none 0 0):=Qab HR3.out 5
 have rf:=Qam HR3.out
 have hne:¬ M=w.heap.size+1:=by omega
 have hne':¬ w.heap.size+1=M:=by omega
 clear h3 hy3 hc3 hm3 hs3 hv3
 go_wp2
 have hb1:b < w.heap.size+1:=by omega
 have hw1:w.heap.size≤w.heap.size+1:=by omega
 have hwM':w.heap.size≤M:=by omega
 have hV1:w.heap.size+1 < V.heap.size:=by omega
 have hU1:w.heap.size+1 < U.heap.size:=by omega
 refine bodyPost_ret (v:=.agg #[.string (Qag hw),.int .i64 hp,.int .i64 o.1.1,.bool o.1.2,.slice (some ⟨g2,0,none⟩) n2 c2,.slice (some ⟨g3,0,none⟩) n3 c3]) (by simp [results,Tryz.results113,go_sem,r0,r1,r2,r3,r4,r5]) rfl (Qao.ok ((Qac HY.out).trans ((Qac HY2.out).trans (Qac HY3.out))) (((((((HM3.out.setNew hwM' _ _).setNew hw1 _ _).setNew hw1 _ _).setNew hw1 _ _).setNew hw1 _ _).setNew hw1 _ _).setNew hw1 _ _) ⟨_,_,rfl,?_,?_⟩ (((((((HC3.out.setNew hbM _ _).setNew hb1 _ _).setNew hb1 _ _).setNew hb1 _ _).setNew hb1 _ _).setNew hb1 _ _).setNew hb1 _ _))
 ·exact (((((((HS2'.out.keep (Abv.set hzM _ _)).keep (Abv.set hV1 _ _)).keep (Abv.set hV1 _ _)).keep (Abv.set hV1 _ _)).keep (Abv.set hV1 _ _)).keep (Abv.set hV1 _ _)).keep (Abv.set hV1 _ _)).weak (by omega)
 ·exact (((((((HS3.out.keep (Abv.set hzU _ _)).keep (Abv.set hU1 _ _)).keep (Abv.set hU1 _ _)).keep (Abv.set hU1 _ _)).keep (Abv.set hU1 _ _)).keep (Abv.set hU1 _ _)).keep (Abv.set hU1 _ _)).weak (by omega)
end
end Go.Proofs.YtbiclelojbfnbabGreatDoor
