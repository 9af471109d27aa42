import Derived.Deep.DeepCutAuto
import Derived.Maps.AppendAt
import Derived.Test.YtgnkjijocdmniaaGreatDoorZPlainQ3
import Derived.Test.YtgnkjijocdmniaaGreatDoorZStr
namespace Go.Proofs.YtgnkjijocdmniaaGreatDoor
set_option linter.unusedVariables false
set_option linter.unusedSimpArgs false
set_option maxRecDepth 100000
set_option maxHeartbeats 4000000
section
open Go.RowKit
def muW (w:World) (b n:Nat):Nat:=
 match w.heap[b]? with
 | some (.cells cs _ _)=>2*(n - (intOf (cs.getD 6 undef)).toNat)+(if intOf (cs.getD 1 undef)=0 then 0 else 1)
 | _=>0
theorem RC.muEq {w:World} {b:Nat} {t:ByteArray} {s:PS} {rv:Value} {mc mt:Nat} (h:RC w b t s rv mc mt):muW w b t.size=mu t.size s:=by
 unfold muW
 rw [h.at_]
 simp [rdCells,intOf,mu]
theorem ownsRow_mod {w w':World} {base b:Nat} {e:TypeId} {size:Nat} {v:Value} {n:Nat} {xs:List Value} (h:w.ownsRow base e size v n xs) (hm:Mod b w w') (hb:b < base):w'.ownsRow base e size v n xs:=by
 obtain ⟨h1,h2⟩:=h
 refine ⟨h1,?_⟩
 rcases h2 with h2 | ⟨g,cap,cur,hv,hg,hh,r⟩
 ·exact Or.inl h2
 ·have hlt:g < w.heap.size:=by
   rcases Nat.lt_or_ge g w.heap.size with h' | h'
   ·exact h'
   ·rw [Array.getElem?_eq_none h'] at hh;cases hh
  exact Or.inr ⟨g,cap,cur,hv,hg,by rw [hm.block g hlt (by omega)];exact hh,r⟩
theorem Mod.grown {b:Nat} {u w w':World} {row:Option Nat} (h:Mod b u w) (hg:w.grownBy w' row) (hr:∀ k,row=some k→u.heap.size≤k):Mod b u w':=
 ⟨hg.os.trans h.os,hg.tape.trans h.tape,hg.output.trans h.output,Nat.le_trans h.size hg.size,fun k hk hn=>
  (hg.block k (Nat.lt_of_lt_of_le hk h.size) (fun e=>by have:=hr k e.symm;omega)).trans (h.block k hk hn)⟩
theorem RC.grown {w w':World} {b:Nat} {t:ByteArray} {s:PS} {rv:Value} {mc mt:Nat} {row:Option Nat} (h:RC w b t s rv mc mt) (hg:w.grownBy w' row) (hr:∀ k,row=some k→b < k):RC w' b t s rv mc mt:=by
 have hb:=h.at_.lt
 have h1:=h.b1
 have hblk:∀ k,k≤b→w'.heap[k]?=w.heap[k]?:=fun k hk=>hg.block k (by omega) (fun e=>by have:=hr k e.symm;omega)
 refine ⟨by unfold RAt;rw [hblk b (Nat.le_refl _)];exact h.at_,h.le,?_,h.b1,h.hs,h.sz,h.e0,h.nm⟩
 obtain ⟨m,hm⟩:=h.m
 exact ⟨m,by rw [World.cell?_of_block (a:=⟨1,0,none⟩) (hblk 1 (by omega))];exact hm⟩
def Abv (B:Nat) (w w':World):Prop:=∀ k,B≤k→k < w.heap.size→w'.heap[k]?=w.heap[k]?
theorem Mod.abv {b B:Nat} {w w':World} (h:Mod b w w') (hb:b < B):Abv B w w':=fun k hB hk=>h.block k hk (by omega)
theorem Abv.set {B g:Nat} {w:World} (hg:g < B) (o:Nat) (v:Value):Abv B w (w.setCell ⟨g,o,none⟩ v):=fun k hB _=>Below.heap_setCell _ _ _ _ (by show k≠g;omega)
def slB (B:Nat) (xs:List (List UInt8)) (w:World) (v:Value):Prop:=
 ∃ g c,v=.slice (some ⟨g,0,none⟩) xs.length c∧B≤g∧TxtAt w g xs∧xs≠[]
theorem slB.of_owns {w:World} {base n:Nat} {v:Value} {xs:List (List UInt8)} (h:w.ownsRow base 9 1 v n (tcells xs)) (hn:n=xs.length) (hx:xs≠[]):slB base xs w v:=by
 subst hn
 obtain ⟨h1,h2⟩:=h
 rcases h2 with ⟨_,h3⟩ | ⟨g,cap,cur,hv,hg,r⟩
 ·exact absurd (List.eq_nil_of_length_eq_zero h3) hx
 ·subst hv
  exact ⟨g,cap,rfl,hg,TxtAt.of_owns (base:=base) ⟨h1,Or.inr ⟨g,cap,cur,rfl,hg,r⟩⟩,hx⟩
theorem slB.keep {B:Nat} {xs:List (List UInt8)} {w w':World} {v:Value} (h:slB B xs w v) (hk:Abv B w w'):slB B xs w' v:=by
 obtain ⟨g,c,hv,hg,ht,hx⟩:=h
 refine ⟨g,c,hv,hg,fun j hj=>?_,hx⟩
 have:=ht j hj
 rw [World.cell?_of_block (w:=w) (a:=⟨g,j,none⟩) (hk g hg (cell_lt this))]
 exact this
theorem slB.weak {B B':Nat} {xs:List (List UInt8)} {w:World} {v:Value} (h:slB B xs w v) (hB:B'≤B):slB B' xs w v:=by
 obtain ⟨g,c,hv,hg,r⟩:=h
 exact ⟨g,c,hv,by omega,r⟩
theorem slB.form {B:Nat} {xs:List (List UInt8)} {w:World} {v:Value} (h:slB B xs w v):∃ g n c,v=.slice (some ⟨g,0,none⟩) n c:=by
 obtain ⟨g,c,hv,_⟩:=h;exact ⟨g,_,c,hv⟩
def StrOk (w:World) (b:Nat) (t:ByteArray) (rv:Value) (mc mt:Nat) (cv:Value) (chk:List UInt8→Nat):Prop:=
 ∀ (W:World) (s:PS),Mod b w W→RC W b t s rv mc mt→Calls Tryz.prog 179 #[.pointer (some ⟨b,0,none⟩),cv] W (RPost (stringL t.data.toList chk s) b t rv mc mt W strV)
theorem stringsL_mayErr {l:List UInt8} {chk:List UInt8→Nat} {F:Nat} {s:PS} {f:Flt} (h:mayL l [[91]] s=.error f):stringsL l chk F s=.error f:=by unfold stringsL;rw [h]
theorem stringsL_strErr {l:List UInt8} {chk:List UInt8→Nat} {F:Nat} {s:PS} {f:Flt} {y:Nat×PS} (h:mayL l [[91]] s=.ok y) (h2:stringL l chk y.2=.error f):stringsL l chk F s=.error f:=by unfold stringsL;rw [h];dsimp only;rw [h2]
theorem stringsL_one {l:List UInt8} {chk:List UInt8→Nat} {F:Nat} {s:PS} {y:Nat×PS} {z:List UInt8×PS} (h:mayL l [[91]] s=.ok y) (h2:stringL l chk y.2=.ok z) (h0:y.1=0):stringsL l chk F s=.ok ([z.1],z.2):=by unfold stringsL;rw [h];dsimp only;rw [h2];dsimp only;rw [if_pos h0]
theorem stringsL_more {l:List UInt8} {chk:List UInt8→Nat} {F:Nat} {s:PS} {y:Nat×PS} {z:List UInt8×PS} (h:mayL l [[91]] s=.ok y) (h2:stringL l chk y.2=.ok z) (h0:¬ y.1=0):stringsL l chk F s=moreL l chk F [z.1] z.2:=by unfold stringsL;rw [h];dsimp only;rw [h2];dsimp only;rw [if_neg h0]
theorem moreL_passErr {l:List UInt8} {chk:List UInt8→Nat} {f:Nat} {acc:List (List UInt8)} {s:PS} {e:Flt} (h:passL l [[44],[93]] s=.error e):moreL l chk (f+1) acc s=.error e:=by rw [moreL,h]
theorem moreL_end {l:List UInt8} {chk:List UInt8→Nat} {f:Nat} {acc:List (List UInt8)} {s:PS} {y:Nat×PS} (h:passL l [[44],[93]] s=.ok y) (h1:¬ y.1=1):moreL l chk (f+1) acc s=.ok (acc,y.2):=by rw [moreL,h];dsimp only;rw [if_neg h1]
theorem moreL_strErr {l:List UInt8} {chk:List UInt8→Nat} {f:Nat} {acc:List (List UInt8)} {s:PS} {y:Nat×PS} {e:Flt} (h:passL l [[44],[93]] s=.ok y) (h1:y.1=1) (h2:stringL l chk y.2=.error e):moreL l chk (f+1) acc s=.error e:=by rw [moreL,h];dsimp only;rw [if_pos h1,h2]
theorem moreL_go {l:List UInt8} {chk:List UInt8→Nat} {f:Nat} {acc:List (List UInt8)} {s:PS} {y:Nat×PS} {z:List UInt8×PS} (h:passL l [[44],[93]] s=.ok y) (h1:y.1=1) (h2:stringL l chk y.2=.ok z):moreL l chk (f+1) acc s=moreL l chk f (acc++[z.1]) z.2:=by rw [moreL,h];dsimp only;rw [if_pos h1,h2]
theorem RC.mu_le {w:World} {b:Nat} {t:ByteArray} {s:PS} {rv:Value} {mc mt:Nat} (h:RC w b t s rv mc mt):mu t.size s≤1201:=by
 have:=h.hs
 unfold mu
 split <;> omega
theorem bal (t:ByteArray):t.data.toList.length=t.size:=by simp
theorem comma_ne:∀ z∈([[44],[93]]:List (List UInt8)),z≠[]:=by decide
theorem strings_any (cv:Value) (chk:List UInt8→Nat) (b F:Nat) (t:ByteArray) (s:PS) (rv:Value) (mc mt:Nat) (w:World) (h:RC w b t s rv mc mt) (ho:StrOk w b t rv mc mt cv chk) (hF:mu t.size s < F) :
 Calls Tryz.prog 188 #[.pointer (some ⟨b,0,none⟩),cv] w (RPost (stringsL t.data.toList chk F s) b t rv mc mt w (slB w.heap.size)):=by
 have H:=hide h
 have HO:=hide ho
 have hlt:=h.at_.lt
 clear h ho
 go_enter Tryz.func188,Tryz.ntmps188
 go_wp2_with fail
 refine (may_any b w.heap.size 1 1 [[91]] t s rv mc mt _ (H.out.alloc _) (txt_alloc w [[91]] _ _ rfl) rfl (by decide)).mono ?_
 intro e w1 h1
 rcases h1.cases with ⟨y,v,hy,rfl,hv,hc,hm⟩ | ⟨f,hf,⟨bb,hz,rfl,hcc⟩,hm⟩
 rotate_left
 ·exact ⟨rfl,RPost.err (stringsL_mayErr hf) (((Mod.refl b w).alloc _).trans hm) ⟨bb,by simp at hz;omega,rfl,hcc⟩⟩
 have HM:=hide (((Mod.refl b w).alloc _).trans hm)
 have HY:=hide hy
 have HC:=hide hc
 unfold numV at hv
 subst hv
 clear h1 hy hc hm
 by_cases h0:y.1=0
 ·have H0:=hide h0
  have h0':((y.1:Int) == 0)=true:=by simp;omega
  clear h0
  go_wp2_with fail
  refine (HO.out _ y.2 HM.out HC.out).mono ?_
  intro e w2 h2
  rcases h2.cases with ⟨z,v,hy2,rfl,hv,hc,hm⟩ | ⟨f,hf,⟨bb,hz,rfl,hcc⟩,hm⟩
  rotate_left
  ·exact ⟨rfl,RPost.err (stringsL_strErr HY.out hf) (HM.out.trans hm) ⟨bb,Nat.le_trans HM.out.size hz,rfl,hcc⟩⟩
  unfold strV at hv
  subst hv
  have H2:=hide hy2
  have HC2:=hide hc
  have HM2:=hide hm
  clear h2 hy2 hc hm
  go_wp2
  go_ret
  refine RPost.ok (stringsL_one HY.out H2.out H0.out) ((HM.out.trans HM2.out).alloc _) ?_ (HC2.out.alloc _)
  have h1:=HM.out.size
  have h2:=HM2.out.size
  exact ⟨w2.heap.size,1,rfl,by omega,txt_alloc w2 [z.1] _ _ rfl,by simp⟩
 ·have H0:=hide h0
  have h0':((y.1:Int) == 0)=false:=by simp;omega
  clear h0
  go_wp2_with fail
  refine (HO.out _ y.2 HM.out HC.out).mono ?_
  intro e w2 h2
  rcases h2.cases with ⟨z,v,hy2,rfl,hv,hc,hm⟩ | ⟨f,hf,⟨bb,hz,rfl,hcc⟩,hm⟩
  rotate_left
  ·exact ⟨rfl,RPost.err (stringsL_strErr HY.out hf) (HM.out.trans hm) ⟨bb,Nat.le_trans HM.out.size hz,rfl,hcc⟩⟩
  unfold strV at hv
  subst hv
  have H2:=hide hy2
  have HC2:=hide hc
  have HM2:=hide hm
  clear h2 hy2 hc hm
  obtain ⟨i0,hi,hz0,hz1,hz2⟩:=info_parts Tryz.infoStr
  have hmu2:=stringL_mu (l:=t.data.toList) (by simpa using HC.out.le) H2.out
  have hmu1:=mayL_mu (l:=t.data.toList) (zs:=[[91]]) (by simpa using H.out.le) H.out.e0 (by decide) HY.out
  rw [bal] at hmu1 hmu2
  replace hmu1:=hmu1.1
  replace hmu2:=hmu2.1
  have hmuL:=HC2.out.mu_le
  have hwz:w.heap.size≤w2.heap.size:=Nat.le_trans HM.out.size HM2.out.size
  go_wp2_with fail
  go_loopw [5] (fun v wr=>∃ (s':PS) (acc:List (List UInt8)) (f:Nat),wr.ownsRow w.heap.size 9 1 v acc.length (tcells acc)∧acc≠[]∧RC wr b t s' rv mc mt∧Mod b w wr∧mu t.size s' < f∧acc.length+mu t.size s'≤1300∧stringsL t.data.toList chk F s=moreL t.data.toList chk f acc s') (fun _ wr=>muW wr b t.size)
  case atStart=>
   refine ⟨z.2,[z.1],F,?_,by simp,HC2.out.alloc _,(HM.out.trans HM2.out).alloc _,by omega,by simp;omega,stringsL_more HY.out H2.out H0.out⟩
   exact World.ownsRow_lit (e:=9) (size:=1) w2 #[.string (strA z.1)] 1 hwz (by unfold maxLen;omega) rfl
  case round=>
   obtain ⟨s',acc,f,hown,hne,hrc,hmod,hf,hbd,hsp⟩:=hrel
   obtain ⟨f,rfl⟩:∃ g,f=g+1:=⟨f - 1,by omega⟩
   have HR:=hide hrc
   have HMr:=hide hmod
   have HSP:=hide hsp
   have HOW:=hide hown
   have hwr:w.heap.size≤wr.heap.size:=hmod.size
   clear hrc hmod hsp hown HC HC2 HY H2 hmu1 hmu2 hmuL
   go_wp2_with fail
   refine (pass_any b wr.heap.size 2 2 [[44],[93]] t s' rv mc mt _ (HR.out.alloc _) (txt_alloc wr [[44],[93]] _ _ rfl) rfl (by decide)).mono ?_
   intro e w3 h3
   rcases h3.cases with ⟨y3,v3,hy3,rfl,hv3,hc3,hm3⟩ | ⟨f3,hf3,⟨bb,hz,rfl,hcc⟩,hm3⟩
   rotate_left
   ·exact ⟨rfl,RPost.err (HSP.out.trans (moreL_passErr hf3)) ((HMr.out.alloc _).trans hm3) ⟨bb,by simp at hz;omega,rfl,hcc⟩⟩
   have hmu3:=passL_mu (l:=t.data.toList) (by simpa using HR.out.le) HR.out.e0 comma_ne hy3
   rw [bal] at hmu3
   replace hmu3:=hmu3.1
   have HM3:=hide ((HMr.out.alloc _).trans hm3)
   have HY3:=hide hy3
   have HC3:=hide hc3
   have HO3:=hide (ownsRow_mod (HOW.out.alloc _) hm3 hlt)
   unfold numV at hv3
   subst hv3
   clear h3 hy3 hc3 hm3
   by_cases h1:y3.1=1
   rotate_left
   ·have h1':((y3.1:Int) == 1)=false:=by simp;omega
    have H1:=hide h1
    clear h1
    go_wp2
    go_ret
    exact RPost.ok (HSP.out.trans (moreL_end HY3.out H1.out)) HM3.out (slB.of_owns HO3.out rfl hne) HC3.out
   have h1':((y3.1:Int) == 1)=true:=by simp;omega
   have H1:=hide h1
   clear h1
   go_wp2_with fail
   refine (HO.out _ y3.2 HM3.out HC3.out).mono ?_
   intro e w4 h4
   rcases h4.cases with ⟨z4,v4,hy4,rfl,hv4,hc4,hm4⟩ | ⟨f4,hf4,⟨bb,hz,rfl,hcc⟩,hm4⟩
   rotate_left
   ·exact ⟨rfl,RPost.err (HSP.out.trans (moreL_strErr HY3.out H1.out hf4)) (HM3.out.trans hm4) ⟨bb,Nat.le_trans HM3.out.size hz,rfl,hcc⟩⟩
   have hmu4:=stringL_mu (l:=t.data.toList) (by simpa using HC3.out.le) hy4
   rw [bal] at hmu4
   replace hmu4:=hmu4.1
   unfold strV at hv4
   subst hv4
   have HM4:=hide (HM3.out.trans hm4)
   have HY4:=hide hy4
   have HC4:=hide hc4
   have hown4:=ownsRow_mod HO3.out hm4 hlt
   have hw4:w.heap.size≤w4.heap.size:=HM4.out.size
   clear h4 hy4 hc4 hm4
   go_wp2_with (at_builtin;refine wpList_append_own _ rfl _ _ 61 rfl w.heap.size 9 i0 (.string ⟨#[]⟩) 1 16 Tryz.underlying61 hi hz0 hz1 hz2 rfl (by decide) _ _ _ rfl (hown4.alloc _) ⟨w4.heap.size,0,none⟩ 1 1 [.string (strA z4.1)] rfl rfl ?c1 ?c2 ?c3 ?c4 ?c5 ?_)
   case c1=>
    intro j u hj
    match j,hj with
    | 0,hj=>simp at hj;subst hj;simp [Addr.add]
   case c2=>intro u hu;simp at hu;subst hu;rfl
   case c3=>unfold maxLen;omega
   case c4=>omega
   case c5=>simp;omega
   ·intro v' w5 hown5 hgrow _
    have hrow:∀ k,(u5).ownBlock=some k→w.heap.size≤k:=fun k hk=>(hown4.lt k hk).1
    have HM5:=hide ((HM4.out.alloc (Obj.cells #[.string (strA z4.1)] 9)).grown hgrow hrow)
    have HC5:=hide ((HC4.out.alloc (Obj.cells #[.string (strA z4.1)] 9)).grown hgrow (fun k hk=>by have:=hrow k hk;omega))
    rw [tcells_snoc] at hown5
    have HO5:=hide hown5
    have hmw:muW w5 b t.size < muW wr b t.size:=by rw [HC5.out.muEq,HR.out.muEq];omega
    have HMW:=hide hmw
    clear hown5 hgrow hown4 hrow hmw
    go_wp2
    go_roundw
    case rel=>exact ⟨z4.2,acc++[z4.1],f,by simpa using HO5.out,by simp,HC5.out,HM5.out,by omega,by simp;omega,HSP.out.trans (moreL_go HY3.out H1.out HY4.out)⟩
    case measure=>exact HMW.out
end
section
open Go.RowKit
theorem blk_mod {w w':World} {b g:Nat} {o:Obj} (h:w.heap[g]?=some o) (hm:Mod b w w') (hn:g≠b):w'.heap[g]?=some o:=by
 rw [hm.block g (blk_lt h) hn];exact h
theorem matchTags_any (w:World):Calls Tryz.prog 223 #[] w fun e w'=>e=.returned (.slice (some ⟨w.heap.size,0,none⟩) 3 3)∧w'=w.alloc (.cells (tcells [tIs,tContains,tMatches]).toArray 9):=by
 go_enter Tryz.func223,Tryz.ntmps223
 go_wp2
 go_ret
 exact ⟨rfl,rfl⟩
theorem turnTags_any (w:World):Calls Tryz.prog 152 #[] w fun e w'=>e=.returned (.slice (some ⟨w.heap.size,0,none⟩) 3 3)∧w'=w.alloc (.cells (tcells [tLower,tUpper,tLength]).toArray 9):=by
 go_enter Tryz.func152,Tryz.ntmps152
 go_wp2
 go_ret
 exact ⟨rfl,rfl⟩
theorem sizeTags_any (w:World):Calls Tryz.prog 191 #[] w fun e w'=>e=.returned (.slice (some ⟨w.heap.size,0,none⟩) 2 2)∧w'=w.alloc (.cells (tcells [tOver,tUnder]).toArray 9):=by
 go_enter Tryz.func191,Tryz.ntmps191
 go_wp2
 go_ret
 exact ⟨rfl,rfl⟩
theorem Mod.setNew {b:Nat} {u w:World} (h:Mod b u w) {g:Nat} (hg:u.heap.size≤g) (o:Nat) (v:Value):Mod b u (w.setCell ⟨g,o,none⟩ v):=
 ⟨h.os,h.tape,h.output,by have:=h.size;simpa [World.setCell] using this,fun k hk hn=>(Below.heap_setCell _ _ _ _ (by show k≠g;omega)).trans (h.block k hk hn)⟩
theorem RC.setNew {w:World} {b:Nat} {t:ByteArray} {s:PS} {rv:Value} {mc mt:Nat} (h:RC w b t s rv mc mt) {g:Nat} (hg:b < g) (o:Nat) (v:Value):RC (w.setCell ⟨g,o,none⟩ v) b t s rv mc mt:=by
 have h1:=h.b1
 refine ⟨?_,h.le,?_,h.b1,h.hs,h.sz,h.e0,h.nm⟩
 ·unfold RAt;rw [Below.heap_setCell _ _ _ _ (by show b≠g;omega)];exact h.at_
 ·obtain ⟨m,hm⟩:=h.m
  exact ⟨m,by rw [World.cell?_of_block (w:=w) (a:=⟨1,0,none⟩) (Below.heap_setCell _ _ _ _ (by show 1≠g;omega))];exact hm⟩
theorem blk_setOther {w:World} {g g':Nat} {o:Obj} (h:w.heap[g]?=some o) (hn:g≠g') (k:Nat) (v:Value):(w.setCell ⟨g',k,none⟩ v).heap[g]?=some o:=by
 rw [Below.heap_setCell _ _ _ _ hn];exact h
theorem optL_tagErr {l:List UInt8} {f tag:Nat} {oct cmp:Bool} {s:PS} (h:¬ whichL [tIs,tContains,tMatches] s.1.spelt=0) (ht:¬ tag=0):optL l (f+1) tag oct cmp s=.error ⟨7,s.1.pos⟩:=by
 rw [optL,if_neg h,if_neg ht]
theorem optL_tagNext {l:List UInt8} {f tag:Nat} {oct cmp:Bool} {s:PS} {e:Flt} (h:¬ whichL [tIs,tContains,tMatches] s.1.spelt=0) (ht:tag=0) (hn:nextL l s.2=.error e):optL l (f+1) tag oct cmp s=.error e:=by
 rw [optL,if_neg h,if_pos ht,nextThen,hn]
theorem optL_tag {l:List UInt8} {f tag:Nat} {oct cmp:Bool} {s y:PS} (h:¬ whichL [tIs,tContains,tMatches] s.1.spelt=0) (ht:tag=0) (hn:nextL l s.2=.ok y):optL l (f+1) tag oct cmp s=optL l f (whichL [tIs,tContains,tMatches] s.1.spelt) oct cmp y:=by
 rw [optL,if_neg h,if_pos ht,nextThen,hn]
theorem optL_end {l:List UInt8} {f tag:Nat} {oct cmp:Bool} {s:PS} (h:whichL [tIs,tContains,tMatches] s.1.spelt=0) (h2:whichL [tComparator] s.1.spelt=0):optL l (f+1) tag oct cmp s=.ok ((max tag 1,oct),s):=by
 rw [optL,if_pos h,if_pos h2]
theorem optL_cmpErr {l:List UInt8} {f tag:Nat} {oct:Bool} {s:PS} (h:whichL [tIs,tContains,tMatches] s.1.spelt=0) (h2:¬ whichL [tComparator] s.1.spelt=0):optL l (f+1) tag oct true s=.error ⟨7,s.1.pos⟩:=by
 rw [optL,if_pos h,if_neg h2,if_pos rfl]
theorem optL_cmpNext {l:List UInt8} {f tag:Nat} {oct:Bool} {s:PS} {e:Flt} (h:whichL [tIs,tContains,tMatches] s.1.spelt=0) (h2:¬ whichL [tComparator] s.1.spelt=0) (hn:nextL l s.2=.error e):optL l (f+1) tag oct false s=.error e:=by
 rw [optL,if_pos h,if_neg h2,if_neg (by decide),nextThen,hn]
theorem optL_cmpStr {l:List UInt8} {f tag:Nat} {oct:Bool} {s y:PS} {e:Flt} (h:whichL [tIs,tContains,tMatches] s.1.spelt=0) (h2:¬ whichL [tComparator] s.1.spelt=0) (hn:nextL l s.2=.ok y) (hs:stringL l (chkOne 7 [cOctet,cCasemap]) y=.error e):optL l (f+1) tag oct false s=.error e:=by
 rw [optL,if_pos h,if_neg h2,if_neg (by decide),nextThen_ok hn];exact thenL_err hs
theorem optL_cmp {l:List UInt8} {f tag:Nat} {oct:Bool} {s y:PS} {z:List UInt8×PS} (h:whichL [tIs,tContains,tMatches] s.1.spelt=0) (h2:¬ whichL [tComparator] s.1.spelt=0) (hn:nextL l s.2=.ok y) (hs:stringL l (chkOne 7 [cOctet,cCasemap]) y=.ok z):optL l (f+1) tag oct false s=optL l f tag (decide (z.1=cOctet)) true z.2:=by
 rw [optL,if_pos h,if_neg h2,if_neg (by decide),nextThen_ok hn];exact thenL_ok hs
theorem mtags_ne:∀ z∈[tIs,tContains,tMatches],z≠[]:=by decide
theorem ctag_ne:∀ z∈[tComparator],z≠[]:=by decide
theorem kind_of_which {zs:List (List UInt8)} {s:PS} (hz:∀ z∈zs,z≠[]) (he:s.1.kind=0→s.1.spelt=[]) (h:¬ whichL zs s.1.spelt=0):¬ s.1.kind=0:=fun e=>h (by rw [he e];exact whichL_nil zs hz)
def mCells (hw:List UInt8) (hp tag:Nat) (oct:Bool):Array Value:=#[.string (strA hw),.int .i64 hp,.int .i64 tag,.bool oct,.slice none 0 0,.slice none 0 0]
def matV (hw:List UInt8) (hp:Nat) (o:Nat×Bool) (_:World) (v:Value):Prop:=v=.agg (mCells hw hp o.1 o.2)
theorem options_any (hw:List UInt8) (hp:Nat) (b F:Nat) (t:ByteArray) (s:PS) (rv:Value) (mc mt:Nat) (w:World) (h:RC w b t s rv mc mt) (hF:mu t.size s < F) :
 Calls Tryz.prog 187 #[.pointer (some ⟨b,0,none⟩),.agg #[.string (strA hw),.int .i64 hp]] w (RPost (optL t.data.toList F 0 false false s) b t rv mc mt w (matV hw hp)):=by
 have H:=hide h
 have hlt:=h.at_.lt
 clear h
 go_enter Tryz.func187,Tryz.ntmps187
 go_wp2_with fail
 go_loopw [6,7] (fun c6 _ wr=>∃ (s':PS) (tag:Nat) (oct cmp:Bool) (f:Nat),c6=.bool cmp∧wr.heap[w.heap.size+1+1]?=some (.cells (mCells hw hp tag oct) 227)∧wr.heap[w.heap.size+1]?=some (.cells #[.string ⟨#[]⟩,.int .i64 0,.int .i64 0,.bool false,.slice none 0 0,.slice none 0 0] 227)∧RC wr b t s' rv mc mt∧Mod b w wr∧mu t.size s' < f∧tag≤3∧optL t.data.toList F 0 false false s=optL t.data.toList f tag oct cmp s') (fun _ _ wr=>muW wr b t.size)
 case atStart=>
  refine ⟨s,0,false,false,F,rfl,?_,?_,((H.out.alloc _).alloc _).alloc _,(((Mod.refl b w).alloc _).alloc _).alloc _,hF,by omega,rfl⟩
  ·exact blk_newAt (by simp)
  ·exact blk_alloc (blk_newAt (by simp))
 case round=>
  obtain ⟨s',tag,oct,cmp,f,rfl,hM,hR,hrc,hmod,hf,htag,hsp⟩:=hrel
  obtain ⟨f,rfl⟩:∃ g,f=g+1:=⟨f - 1,by omega⟩
  have HR:=hide hrc
  have HMr:=hide hmod
  have HSP:=hide hsp
  have HM:=hide hM
  have HRR:=hide hR
  have hwr:w.heap.size+1+1 < wr.heap.size:=blk_lt hM
  have hw1:=hide (which_any b wr.heap.size 3 3 [tIs,tContains,tMatches] t s'.1 s'.2 rv mc mt _ (hrc.alloc (.cells (tcells [tIs,tContains,tMatches]).toArray 9)).at_ (txt_alloc wr [tIs,tContains,tMatches] _ _ rfl) rfl (by decide))
  have hle1:=whichL_le [tIs,tContains,tMatches] s'.1.spelt
  have HW1:=hide (kind_of_which (zs:=[tIs,tContains,tMatches]) (s:=s') mtags_ne hrc.e0)
  have HW2:=hide (kind_of_which (zs:=[tComparator]) (s:=s') ctag_ne hrc.e0)
  clear hrc hmod hsp hM hR
  go_wp2_with (go_at_call 223;refine (matchTags_any _).mono ?_;rintro e w' ⟨rfl,rfl⟩)
  refine hw1.out.mono ?_
  rintro e w' ⟨rfl,rfl⟩
  by_cases h1:whichL [tIs,tContains,tMatches] s'.1.spelt=0
  ·have H1:=hide h1
   have h1':¬ (0:Int) < (whichL [tIs,tContains,tMatches] s'.1.spelt:Int):=by omega
   obtain ⟨W,hW⟩:∃ W,W=wr.alloc (.cells (tcells [tIs,tContains,tMatches]).toArray 9):=⟨_,rfl⟩
   rw [← hW]
   have HRW:Hid (RC W b t s' rv mc mt):=by rw [hW];exact HR.out.alloc _
   have HMW:Hid (Mod b w W):=by rw [hW];exact HMr.out.alloc _
   have HMM:Hid (W.heap[w.heap.size+1+1]?=some (.cells (mCells hw hp tag oct) 227)):=by rw [hW];exact blk_alloc HM.out
   have HRM:Hid (W.heap[w.heap.size+1]?=some (.cells #[.string ⟨#[]⟩,.int .i64 0,.int .i64 0,.bool false,.slice none 0 0,.slice none 0 0] 227)):=by rw [hW];exact blk_alloc HRR.out
   have hzW:w.heap.size+1+1 < W.heap.size:=blk_lt HMM.out
   have hw2:=hide (which_any b W.heap.size 1 1 [tComparator] t s'.1 s'.2 rv mc mt _ (HRW.out.alloc (.cells (tcells [tComparator]).toArray 9)).at_ (txt_alloc W [tComparator] _ _ rfl) rfl (by decide))
   have hle2:=whichL_le [tComparator] s'.1.spelt
   clear h1 hw1 hW hle1
   go_wp2_with fail
   refine hw2.out.mono ?_
   rintro e w' ⟨rfl,hww⟩
   subst hww
   obtain ⟨V,hV⟩:∃ V,V=W.alloc (.cells (tcells [tComparator]).toArray 9):=⟨_,rfl⟩
   rw [← hV]
   have HRV:Hid (RC V b t s' rv mc mt):=by rw [hV];exact HRW.out.alloc _
   have HMV:Hid (Mod b w V):=by rw [hV];exact HMW.out.alloc _
   have HVM:Hid (V.heap[w.heap.size+1+1]?=some (.cells (mCells hw hp tag oct) 227)):=by rw [hV];exact blk_alloc HMM.out
   have HVR:Hid (V.heap[w.heap.size+1]?=some (.cells #[.string ⟨#[]⟩,.int .i64 0,.int .i64 0,.bool false,.slice none 0 0,.slice none 0 0] 227)):=by rw [hV];exact blk_alloc HRM.out
   have hzV:w.heap.size+1+1 < V.heap.size:=blk_lt HVM.out
   clear hV hw2
   by_cases h2:whichL [tComparator] s'.1.spelt=0
   ·have H2:=hide h2
    have h2':¬ (0:Int) < (whichL [tComparator] s'.1.spelt:Int):=by omega
    have m0:V.cell? ⟨w.heap.size+1+1,0,none⟩=some (.string (strA hw)):=blk_cell HVM.out 0
    have m1:V.cell? ⟨w.heap.size+1+1,1,none⟩=some (.int .i64 hp):=blk_cell HVM.out 1
    have m2:V.cell? ⟨w.heap.size+1+1,2,none⟩=some (.int .i64 tag):=blk_cell HVM.out 2
    have m3:V.cell? ⟨w.heap.size+1+1,3,none⟩=some (.bool oct):=blk_cell HVM.out 3
    have m4:V.cell? ⟨w.heap.size+1+1,4,none⟩=some (.slice none 0 0):=blk_cell HVM.out 4
    have m5:V.cell? ⟨w.heap.size+1+1,5,none⟩=some (.slice none 0 0):=blk_cell HVM.out 5
    have mf:=blk_frozen HVM.out
    have r0:V.cell? ⟨w.heap.size+1,0,none⟩=some (.string ⟨#[]⟩):=blk_cell HVR.out 0
    have r1:V.cell? ⟨w.heap.size+1,1,none⟩=some (.int .i64 0):=blk_cell HVR.out 1
    have r2:V.cell? ⟨w.heap.size+1,2,none⟩=some (.int .i64 0):=blk_cell HVR.out 2
    have r3:V.cell? ⟨w.heap.size+1,3,none⟩=some (.bool false):=blk_cell HVR.out 3
    have r4:V.cell? ⟨w.heap.size+1,4,none⟩=some (.slice none 0 0):=blk_cell HVR.out 4
    have r5:V.cell? ⟨w.heap.size+1,5,none⟩=some (.slice none 0 0):=blk_cell HVR.out 5
    have rf:=blk_frozen HVR.out
    clear h2
    go_wp2
    have hbz1:b < w.heap.size+1:=by omega
    have hbz2:b < w.heap.size+1+1:=by omega
    have hg1:w.heap.size≤w.heap.size+1:=by omega
    have hg2:w.heap.size≤w.heap.size+1+1:=by omega
    refine bodyPost_ret (v:=.agg #[.string (strA hw),.int .i64 hp,.int .i64 (max (tag:Int) 1),.bool oct,.slice none 0 0,.slice none 0 0]) (by simp [results,Tryz.results187,go_sem,r0,r1,r2,r3,r4,r5]) rfl (RPost.ok (HSP.out.trans (optL_end H1.out H2.out)) (((((((HMV.out.setNew hg2 _ _).setNew hg1 _ _).setNew hg1 _ _).setNew hg1 _ _).setNew hg1 _ _).setNew hg1 _ _).setNew hg1 _ _) ?_ (((((((HRV.out.setNew hbz2 _ _).setNew hbz1 _ _).setNew hbz1 _ _).setNew hbz1 _ _).setNew hbz1 _ _).setNew hbz1 _ _).setNew hbz1 _ _))
    unfold matV mCells
    have:(max (tag:Int) 1)=((max tag 1:Nat):Int):=by omega
    rw [this]
   ·have H2:=hide h2
    have h2':(0:Int) < (whichL [tComparator] s'.1.spelt:Int):=by omega
    clear h2
    cases cmp
    rotate_left
    ·go_wp2_with fail
     refine (demand_no b 7 _ _ t s'.1 s'.2 rv mc mt _ HRV.out.at_ rfl rfl).mono ?_
     rintro e w1 ⟨⟨bb,hz,rfl,hcc⟩,hm⟩
     exact ⟨rfl,RPost.err (HSP.out.trans (optL_cmpErr H1.out H2.out)) (HMV.out.trans (Mod.of_below hm)) ⟨bb,Nat.le_trans HMV.out.size hz,rfl,hcc⟩⟩
    go_wp2_with fail
    refine (demand_yes b _ _ _ rfl).mono ?_
    rintro e w' ⟨rfl,hww⟩
    subst hww
    go_wp2_with fail
    refine (next_rc b t s' rv mc mt _ HRV.out).mono ?_
    rintro e w2 (⟨y,hy,rfl,hc,hm⟩ | ⟨f2,hf2,⟨bb,hz,rfl,hcc⟩,hm⟩)
    rotate_left
    ·exact ⟨rfl,RPost.err (HSP.out.trans (optL_cmpNext H1.out H2.out hf2)) (HMV.out.trans hm) ⟨bb,Nat.le_trans HMV.out.size hz,rfl,hcc⟩⟩
    have hmu:=nextL_mu (l:=t.data.toList) (s:=s') (by simpa using HRV.out.le) (HW2.out H2.out) hy
    rw [bal] at hmu
    have HM2:=hide (HMV.out.trans hm)
    have HC2:=hide hc
    have HB2:=hide (blk_mod HVM.out hm (by omega))
    have HB3:=hide (blk_mod HVR.out hm (by omega))
    have hz2:w.heap.size+1+1 < w2.heap.size:=blk_lt HB2.out
    have HY:=hide hy
    clear hc hm hy
    go_wp2_with (go_at_call 137;refine (oneOf_any _ _ _ _ _).mono ?_;rintro e w' ⟨rfl,rfl⟩)
    obtain ⟨U,hU⟩:∃ U,U=((w2.alloc (.cells #[.string ⟨#[105,59,111,99,116,101,116]⟩,.string ⟨#[105,59,97,115,99,105,105,45,99,97,115,101,109,97,112]⟩] 9)).alloc (.cells #[.int .i64 7] 33)).alloc (.cells #[.slice (some ⟨w2.heap.size,0,none⟩) 2 2] 61):=⟨_,rfl⟩
    have HOU:Hid (OneAt U (w2.heap.size+1+1) (w2.heap.size+1) w2.heap.size 2 2 7 [cOctet,cCasemap]):=by
     rw [hU]
     refine ⟨?_,?_,?_,rfl,by decide⟩
     ·exact blk_cell (blk_newAt (by simp)) 0
     ·exact blk_cell (blk_alloc (blk_newAt (by simp))) 0
     ·exact ((txt_alloc w2 [cOctet,cCasemap] _ _ rfl).below ((Below.refl _ _).alloc (Nat.le_refl _) _)).below ((Below.refl _ _).alloc (Nat.le_refl _) _)
    have HRU:Hid (RC U b t y rv mc mt):=by rw [hU];exact ((HC2.out.alloc _).alloc _).alloc _
    have HMU:Hid (Mod b w U):=by rw [hU];exact ((HM2.out.alloc _).alloc _).alloc _
    have HUM:Hid (U.heap[w.heap.size+1+1]?=some (.cells (mCells hw hp tag oct) 227)):=by rw [hU];exact blk_alloc (blk_alloc (blk_alloc HB2.out))
    have HUR:Hid (U.heap[w.heap.size+1]?=some (.cells #[.string ⟨#[]⟩,.int .i64 0,.int .i64 0,.bool false,.slice none 0 0,.slice none 0 0] 227)):=by rw [hU];exact blk_alloc (blk_alloc (blk_alloc HB3.out))
    rw [← hU]
    clear hU
    refine (string_oneOf (w2.heap.size+1+1) (w2.heap.size+1) w2.heap.size 2 2 7 [cOctet,cCasemap] b t y rv mc mt _ HRU.out HOU.out).mono ?_
    intro e w3 h3
    rcases h3.cases with ⟨z,v,hy3,rfl,hv,hc3,hm3⟩ | ⟨f3,hf3,⟨bb,hz,rfl,hcc⟩,hm3⟩
    rotate_left
    ·exact ⟨rfl,RPost.err (HSP.out.trans (optL_cmpStr H1.out H2.out HY.out hf3)) (HMU.out.trans hm3) ⟨bb,Nat.le_trans HMU.out.size hz,rfl,hcc⟩⟩
    unfold strV at hv
    subst hv
    have hmu3:=stringL_mu (l:=t.data.toList) (by simpa using HRU.out.le) hy3
    rw [bal] at hmu3
    replace hmu3:=hmu3.1
    have HM3:=hide (HMU.out.trans hm3)
    have HC3:=hide hc3
    have HB4:=hide (blk_mod HUM.out hm3 (by omega))
    have HB5:=hide (blk_mod HUR.out hm3 (by omega))
    have HY3:=hide hy3
    have m3:w3.cell? ⟨w.heap.size+1+1,3,none⟩=some (.bool oct):=blk_cell HB4.out 3
    have mf:=blk_frozen HB4.out
    clear h3 hy3 hc3 hm3
    have hbz2:b < w.heap.size+1+1:=by omega
    go_wp2
    have hoct:((strA z.1).toList == [105,59,111,99,116,101,116])=decide (z.1=cOctet):=strA_beq z.1 cOctet
    rw [hoct]
    have hrc4:=HC3.out.setNew hbz2 3 (.bool (decide (z.1=cOctet)))
    refine ⟨⟨z.2,tag,decide (z.1=cOctet),true,f,rfl,heap_setCell_at _ _ _ _ _ _ HB4.out,blk_setOther HB5.out (by omega) _ _,hrc4,HM3.out.setNew (by omega) _ _,by omega,htag,HSP.out.trans (optL_cmp H1.out H2.out HY.out HY3.out)⟩,?_⟩
    rw [hrc4.muEq,HR.out.muEq]
    omega
  ·have H1:=hide h1
   have h1':(0:Int) < (whichL [tIs,tContains,tMatches] s'.1.spelt:Int):=by omega
   have hc2:(wr.alloc (.cells (tcells [tIs,tContains,tMatches]).toArray 9)).cell? ⟨w.heap.size+1+1,2,none⟩=some (.int .i64 tag):=blk_cell (blk_alloc HM.out) 2
   have hf2:(wr.alloc (.cells (tcells [tIs,tContains,tMatches]).toArray 9)).frozen? ⟨w.heap.size+1+1,2,none⟩=false:=blk_frozen (blk_alloc HM.out) 2
   have hle:(whichL [tIs,tContains,tMatches] s'.1.spelt)≤3:=hle1
   obtain ⟨W,hW⟩:∃ W,W=wr.alloc (.cells (tcells [tIs,tContains,tMatches]).toArray 9):=⟨_,rfl⟩
   rw [← hW] at hc2 hf2 ⊢
   have HRW:Hid (RC W b t s' rv mc mt):=by rw [hW];exact HR.out.alloc _
   have HMW:Hid (Mod b w W):=by rw [hW];exact HMr.out.alloc _
   have HMM:Hid (W.heap[w.heap.size+1+1]?=some (.cells (mCells hw hp tag oct) 227)):=by rw [hW];exact blk_alloc HM.out
   have HRM:Hid (W.heap[w.heap.size+1]?=some (.cells #[.string ⟨#[]⟩,.int .i64 0,.int .i64 0,.bool false,.slice none 0 0,.slice none 0 0] 227)):=by rw [hW];exact blk_alloc HRR.out
   have HZ:Hid (w.heap.size≤W.heap.size):=HMW.out.size
   clear h1 hw1 hW hle1
   by_cases ht:tag=0
   ·have ht':((tag:Int) == 0)=true:=by simp;omega
    have HT:=hide ht
    clear ht
    go_wp2_with fail
    refine (demand_yes b _ _ _ rfl).mono ?_
    rintro e w' ⟨rfl,rfl⟩
    go_wp2_with fail
    have hbz:b < w.heap.size+1+1:=by omega
    have hsz:=HMW.out.size
    refine (next_rc b t s' rv mc mt _ (HRW.out.setNew hbz _ _)).mono ?_
    rintro e w2 (⟨y,hy,rfl,hc,hm⟩ | ⟨f2,hf2,⟨bb,hz,rfl,hcc⟩,hm⟩)
    rotate_left
    ·exact ⟨rfl,RPost.err (HSP.out.trans (optL_tagNext H1.out HT.out hf2)) ((HMW.out.setNew (by omega) _ _).trans hm) ⟨bb,Nat.le_trans (HMW.out.setNew (by omega) _ _).size hz,rfl,hcc⟩⟩
    have hmu:=nextL_mu (l:=t.data.toList) (s:=s') (by simpa using HRW.out.le) (HW1.out H1.out) hy
    rw [bal] at hmu
    have hmw:muW w2 b t.size < muW wr b t.size:=by rw [hc.muEq,HR.out.muEq];exact hmu
    have HMW2:=hide hmw
    have HC2:=hide hc
    have HM2:=hide ((HMW.out.setNew (g:=w.heap.size+1+1) (by omega) 2 (.int .i64 (whichL [tIs,tContains,tMatches] s'.1.spelt))).trans hm)
    have HB2:=hide (blk_mod (b:=b) (g:=w.heap.size+1+1) (heap_setCell_at _ (w.heap.size+1+1) 2 (.int .i64 (whichL [tIs,tContains,tMatches] s'.1.spelt)) _ _ HMM.out) hm (by omega))
    have HB3:=hide (blk_mod (blk_setOther HRM.out (by omega:w.heap.size+1≠w.heap.size+1+1) 2 (.int .i64 (whichL [tIs,tContains,tMatches] s'.1.spelt))) hm (by omega))
    have HY:=hide hy
    clear hc hm hmw hy
    go_wp2
    go_roundw
    case rel=>exact ⟨y,whichL [tIs,tContains,tMatches] s'.1.spelt,oct,cmp,f,rfl,HB2.out,HB3.out,HC2.out,HM2.out,by omega,hle,HSP.out.trans (optL_tag H1.out HT.out HY.out)⟩
    case measure=>exact HMW2.out
   ·have ht':((tag:Int) == 0)=false:=by simp;omega
    have HT:=hide ht
    clear ht
    go_wp2_with fail
    refine (demand_no b 7 _ _ t s'.1 s'.2 rv mc mt _ HRW.out.at_ rfl rfl).mono ?_
    rintro e w1 ⟨⟨bb,hz,rfl,hcc⟩,hm⟩
    exact ⟨rfl,RPost.err (HSP.out.trans (optL_tagErr H1.out HT.out)) (HMW.out.trans (Mod.of_below hm)) ⟨bb,Nat.le_trans HZ.out hz,rfl,hcc⟩⟩
end
section
open Go.RowKit
theorem StrOk.mod {w w':World} {b:Nat} {t:ByteArray} {rv:Value} {mc mt:Nat} {cv:Value} {chk:List UInt8→Nat} (h:StrOk w b t rv mc mt cv chk) (hm:Mod b w w'):StrOk w' b t rv mc mt cv chk:=
 fun W s hW hr=>h W s (hm.trans hW) hr
theorem strOk_any (w:World) (b:Nat) (t:ByteArray) (rv:Value) (mc mt:Nat):StrOk w b t rv mc mt (.func (.func 134) #[] #[]) (fun _=>0):=
 fun W s _ hr=>string_anything b t s rv mc mt W hr
def mtV (B:Nat) (hw:List UInt8) (x:TLab) (w:World) (v:Value):Prop:=
 ∃ fv kv,v=.agg #[.string (strA hw),.int .i64 x.pos,.int .i64 x.tag,.bool x.octet,fv,kv]∧slB B x.fr w fv∧slB B x.keys w kv
theorem RC.mu_lt {w:World} {b:Nat} {t:ByteArray} {s:PS} {rv:Value} {mc mt:Nat} (h:RC w b t s rv mc mt) {F:Nat} (hF:2*t.size+1 < F):mu t.size s < F:=by
 unfold mu
 split <;> omega
theorem match_any (cv:Value) (chk:List UInt8→Nat) (k:Nat) (hw:List UInt8) (hp:Nat) (b F:Nat) (t:ByteArray) (s:PS) (rv:Value) (mc mt:Nat) (w:World) (h:RC w b t s rv mc mt) (ho:StrOk w b t rv mc mt cv chk) (hF:2*t.size+1 < F) :
 Calls Tryz.prog 133 #[.pointer (some ⟨b,0,none⟩),.agg #[.string (strA hw),.int .i64 hp],cv] w (RPost (matchL t.data.toList F chk k hp s) b t rv mc mt w (mtV w.heap.size hw)):=by
 have H:=hide h
 have HO:=hide ho
 have hlt:=h.at_.lt
 clear h ho
 go_enter Tryz.func133,Tryz.ntmps133
 go_wp2_with fail
 have HM0:=hide (((Mod.refl b w).alloc (.cells #[.string (strA hw),.int .i64 hp] 216)).alloc (.cells #[.string ⟨#[]⟩,.int .i64 0,.int .i64 0,.bool false,.slice none 0 0,.slice none 0 0] 227))
 refine (options_any hw hp b F t s rv mc mt _ ((H.out.alloc _).alloc _) (H.out.mu_lt hF)).mono ?_
 intro e w1 h1
 rcases h1.cases with ⟨o,v,hy,rfl,hv,hc,hm⟩ | ⟨f,hf,⟨bb,hz,rfl,hcc⟩,hm⟩
 rotate_left
 ·exact ⟨rfl,RPost.err (thenL_err hf) (HM0.out.trans hm) ⟨bb,Nat.le_trans HM0.out.size hz,rfl,hcc⟩⟩
 unfold matV mCells at hv
 subst hv
 have HY:=hide hy
 have HC:=hide hc
 have HM1:=hide (HM0.out.trans hm)
 have HR1:=hide (blk_mod (g:=w.heap.size+1) (o:=.cells #[.string ⟨#[]⟩,.int .i64 0,.int .i64 0,.bool false,.slice none 0 0,.slice none 0 0] 227) (blk_newAt (by simp)) hm (by omega))
 have hz1:w.heap.size+1 < w1.heap.size:=blk_lt HR1.out
 clear h1 hy hc hm
 go_wp2_with fail
 obtain ⟨V,hV⟩:∃ V,V=w1.alloc (.cells #[.string (strA hw),.int .i64 hp,.int .i64 o.1.1,.bool o.1.2,.slice none 0 0,.slice none 0 0] 227):=⟨_,rfl⟩
 have HRV:Hid (RC V b t o.2 rv mc mt):=by rw [hV];exact HC.out.alloc _
 have HMV:Hid (Mod b w V):=by rw [hV];exact HM1.out.alloc _
 have HVR:Hid (V.heap[w.heap.size+1]?=some (.cells #[.string ⟨#[]⟩,.int .i64 0,.int .i64 0,.bool false,.slice none 0 0,.slice none 0 0] 227)):=by rw [hV];exact blk_alloc HR1.out
 have HVM:Hid (V.heap[w1.heap.size]?=some (.cells #[.string (strA hw),.int .i64 hp,.int .i64 o.1.1,.bool o.1.2,.slice none 0 0,.slice none 0 0] 227)):=by rw [hV];exact blk_new _ _
 rw [← hV]
 have hzM:w1.heap.size < V.heap.size:=blk_lt HVM.out
 generalize w1.heap.size=M at *
 clear hV HC HM1 HR1
 refine (strings_any cv chk b F t o.2 rv mc mt V HRV.out (HO.out.mod HMV.out) (HRV.out.mu_lt hF)).mono ?_
 intro e w2 h2
 rcases h2.cases with ⟨y2,v2,hy2,rfl,hv2,hc2,hm2⟩ | ⟨f,hf,⟨bb,hz,rfl,hcc⟩,hm2⟩
 rotate_left
 ·exact ⟨rfl,RPost.err ((thenL_ok HY.out).trans (thenL_err hf)) (HMV.out.trans hm2) ⟨bb,Nat.le_trans HMV.out.size hz,rfl,hcc⟩⟩
 have hs2:=hv2
 obtain ⟨g2,n2,c2,rfl⟩:=hs2.form
 have HS2:=hide hs2
 have HY2:=hide hy2
 have HC2:=hide hc2
 have HM2:=hide (HMV.out.trans hm2)
 have HR2:=hide (blk_mod HVR.out hm2 (by omega))
 have HMM2:=hide (blk_mod HVM.out hm2 (by omega))
 have hzM2:M < w2.heap.size:=blk_lt HMM2.out
 have m4:w2.cell? ⟨M,4,none⟩=some (.slice none 0 0):=blk_cell HMM2.out 4
 have mf:=blk_frozen HMM2.out
 have hbM:b < M:=by omega
 have hwM:w.heap.size+1 < M:=by omega
 clear h2 hy2 hc2 hm2 hs2 hv2
 go_wp2_with fail
 obtain ⟨U,hU⟩:∃ U,U=w2.setCell ⟨M,4,none⟩ (.slice (some ⟨g2,0,none⟩) n2 c2):=⟨_,rfl⟩
 have HRU:Hid (RC U b t y2.2 rv mc mt):=by rw [hU];exact HC2.out.setNew hbM _ _
 have HMU:Hid (Mod b w U):=by rw [hU];exact HM2.out.setNew (by omega) _ _
 have HUR:Hid (U.heap[w.heap.size+1]?=some (.cells #[.string ⟨#[]⟩,.int .i64 0,.int .i64 0,.bool false,.slice none 0 0,.slice none 0 0] 227)):=by rw [hU];exact blk_setOther HR2.out (by omega) _ _
 have HUM:Hid (U.heap[M]?=some (.cells #[.string (strA hw),.int .i64 hp,.int .i64 o.1.1,.bool o.1.2,.slice (some ⟨g2,0,none⟩) n2 c2,.slice none 0 0] 227)):=by rw [hU];exact heap_setCell_at _ _ _ _ _ _ HMM2.out
 have HSU:Hid (slB V.heap.size y2.1 U (.slice (some ⟨g2,0,none⟩) n2 c2)):=by
  rw [hU]
  exact HS2.out.keep (Abv.set hzM _ _)
 rw [← hU]
 clear hU mf m4
 have hzU:M < U.heap.size:=blk_lt HUM.out
 refine (strings_any (.func (.func 134) #[] #[]) (fun _=>0) b F t y2.2 rv mc mt U HRU.out (strOk_any _ _ _ _ _ _) (HRU.out.mu_lt hF)).mono ?_
 intro e w3 h3
 rcases h3.cases with ⟨y3,v3,hy3,rfl,hv3,hc3,hm3⟩ | ⟨f,hf,⟨bb,hz,rfl,hcc⟩,hm3⟩
 rotate_left
 ·exact ⟨rfl,RPost.err ((thenL_ok HY.out).trans ((thenL_ok HY2.out).trans (thenL_err hf))) (HMU.out.trans hm3) ⟨bb,Nat.le_trans HMU.out.size hz,rfl,hcc⟩⟩
 have hs3:=hv3
 obtain ⟨g3,n3,c3,rfl⟩:=hs3.form
 have HS3:=hide hs3
 have HS2':=hide (HSU.out.keep (hm3.abv (by omega)))
 have HY3:=hide hy3
 have HC3:=hide hc3
 have HM3:=hide (HMU.out.trans hm3)
 have HR3:=hide (blk_mod HUR.out hm3 (by omega))
 have HMM3:=hide (blk_mod HUM.out hm3 (by omega))
 have m0:w3.cell? ⟨M,0,none⟩=some (.string (strA hw)):=blk_cell HMM3.out 0
 have m1:w3.cell? ⟨M,1,none⟩=some (.int .i64 hp):=blk_cell HMM3.out 1
 have m2:w3.cell? ⟨M,2,none⟩=some (.int .i64 o.1.1):=blk_cell HMM3.out 2
 have m3:w3.cell? ⟨M,3,none⟩=some (.bool o.1.2):=blk_cell HMM3.out 3
 have m4:w3.cell? ⟨M,4,none⟩=some (.slice (some ⟨g2,0,none⟩) n2 c2):=blk_cell HMM3.out 4
 have m5:w3.cell? ⟨M,5,none⟩=some (.slice none 0 0):=blk_cell HMM3.out 5
 have mf:=blk_frozen HMM3.out
 have r0:w3.cell? ⟨w.heap.size+1,0,none⟩=some (.string ⟨#[]⟩):=blk_cell HR3.out 0
 have r1:w3.cell? ⟨w.heap.size+1,1,none⟩=some (.int .i64 0):=blk_cell HR3.out 1
 have r2:w3.cell? ⟨w.heap.size+1,2,none⟩=some (.int .i64 0):=blk_cell HR3.out 2
 have r3:w3.cell? ⟨w.heap.size+1,3,none⟩=some (.bool false):=blk_cell HR3.out 3
 have r4:w3.cell? ⟨w.heap.size+1,4,none⟩=some (.slice none 0 0):=blk_cell HR3.out 4
 have r5:w3.cell? ⟨w.heap.size+1,5,none⟩=some (.slice none 0 0):=blk_cell HR3.out 5
 have rf:=blk_frozen HR3.out
 have hne:¬ M=w.heap.size+1:=by omega
 have hne':¬ w.heap.size+1=M:=by omega
 clear h3 hy3 hc3 hm3 hs3 hv3
 go_wp2
 have hb1:b < w.heap.size+1:=by omega
 have hw1:w.heap.size≤w.heap.size+1:=by omega
 have hwM':w.heap.size≤M:=by omega
 have hV1:w.heap.size+1 < V.heap.size:=by omega
 have hU1:w.heap.size+1 < U.heap.size:=by omega
 refine bodyPost_ret (v:=.agg #[.string (strA hw),.int .i64 hp,.int .i64 o.1.1,.bool o.1.2,.slice (some ⟨g2,0,none⟩) n2 c2,.slice (some ⟨g3,0,none⟩) n3 c3]) (by simp [results,Tryz.results133,go_sem,r0,r1,r2,r3,r4,r5]) rfl (RPost.ok ((thenL_ok HY.out).trans ((thenL_ok HY2.out).trans (thenL_ok HY3.out))) (((((((HM3.out.setNew hwM' _ _).setNew hw1 _ _).setNew hw1 _ _).setNew hw1 _ _).setNew hw1 _ _).setNew hw1 _ _).setNew hw1 _ _) ⟨_,_,rfl,?_,?_⟩ (((((((HC3.out.setNew hbM _ _).setNew hb1 _ _).setNew hb1 _ _).setNew hb1 _ _).setNew hb1 _ _).setNew hb1 _ _).setNew hb1 _ _))
 ·exact (((((((HS2'.out.keep (Abv.set hzM _ _)).keep (Abv.set hV1 _ _)).keep (Abv.set hV1 _ _)).keep (Abv.set hV1 _ _)).keep (Abv.set hV1 _ _)).keep (Abv.set hV1 _ _)).keep (Abv.set hV1 _ _)).weak (by omega)
 ·exact (((((((HS3.out.keep (Abv.set hzU _ _)).keep (Abv.set hU1 _ _)).keep (Abv.set hU1 _ _)).keep (Abv.set hU1 _ _)).keep (Abv.set hU1 _ _)).keep (Abv.set hU1 _ _)).keep (Abv.set hU1 _ _)).weak (by omega)
end
section
open Go.RowKit
attribute [local go_sem ↓] Go.wp_at_zero Go.wp_at_succ
def headV (hw:List UInt8) (hp:Nat):Value:=.agg #[.string (strA hw),.int .i64 hp]
def PrAt (w:World) (pr b:Nat):Prop:=w.cell? ⟨pr,0,none⟩=some (.pointer (some ⟨b,0,none⟩))∧pr≠b
theorem PrAt.mod {w w':World} {pr b:Nat} (h:PrAt w pr b) (hm:Mod b w w'):PrAt w' pr b:=
 ⟨by rw [hm.cell (p:=⟨pr,0,none⟩) (cell_lt h.1) h.2];exact h.1,h.2⟩
theorem PrAt.lt {w:World} {pr b:Nat} (h:PrAt w pr b):pr < w.heap.size:=cell_lt (a:=⟨pr,0,none⟩) h.1
theorem truth1_any (hw:List UInt8) (hp:Nat) (d:Int) (pt:Nat) (B:Bool) (w:World) (h:w.cell? ⟨pt,0,none⟩=some (.bool B)) :
 Calls Tryz.prog 185 #[headV hw hp,.int .i64 d,.pointer (some ⟨pt,0,none⟩)] w fun e w'=>e=.returned (.iface 302 (.agg #[.string (strA hw),.int .i64 hp,.bool B]))∧Below w.heap.size w w':=by
 have hlt:=cell_lt h
 have h':(w.alloc (.cells #[.string (strA hw),.int .i64 hp] 216)).cell? ⟨pt,0,none⟩=some (.bool B):=by rw [World.cell?_alloc_past _ _ _ hlt];exact h
 unfold headV
 go_enter Tryz.func185,Tryz.ntmps185
 go_wp2
 go_ret
 exact ⟨rfl,(Below.refl _ _).alloc (Nat.le_refl _) _⟩
theorem header_any (hw:List UInt8) (hp:Nat) (d:Int) (pr:Nat) (b F:Nat) (t:ByteArray) (s:PS) (rv:Value) (mc mt:Nat) (w:World) (h:RC w b t s rv mc mt) (hpr:PrAt w pr b) (hF:2*t.size+1 < F) :
 Calls Tryz.prog 132 #[headV hw hp,.int .i64 d,.pointer (some ⟨pr,0,none⟩)] w (RPost (matchL t.data.toList F (fun _=>0) 5 hp s) b t rv mc mt w (fun x w' v=>∃ u,v=.iface 231 u∧mtV w.heap.size hw x w' u)):=by
 have hlt:=hpr.lt
 have h':(w.alloc (.cells #[.string (strA hw),.int .i64 hp] 216)).cell? ⟨pr,0,none⟩=some (.pointer (some ⟨b,0,none⟩)):=by rw [World.cell?_alloc_past _ _ _ hlt];exact hpr.1
 have H:=hide h
 clear h hpr
 unfold headV
 go_enter Tryz.func132,Tryz.ntmps132
 go_wp2_with fail
 refine (match_any _ (fun _=>0) 5 hw hp b F t s rv mc mt _ (H.out.alloc _) (strOk_any _ _ _ _ _ _) hF).mono ?_
 intro e w1 h1
 rcases h1.cases with ⟨y,v,hy,rfl,⟨fv,kv,rfl,hf1,hk1⟩,hc,hm⟩ | ⟨f,hf,⟨bb,hz,rfl,hcc⟩,hm⟩
 rotate_left
 ·exact ⟨rfl,RPost.err hf (((Mod.refl b w).alloc _).trans hm) ⟨bb,by simp at hz;omega,rfl,hcc⟩⟩
 have HY:=hide hy
 have HC:=hide hc
 have HM:=hide (((Mod.refl b w).alloc _).trans hm)
 have HF1:=hide (hf1.weak (B':=w.heap.size) (by simp))
 have HK1:=hide (hk1.weak (B':=w.heap.size) (by simp))
 clear h1 hy hc hm
 obtain ⟨g1,n1,c1,rfl⟩:=hf1.form
 obtain ⟨g2,n2,c2,rfl⟩:=hk1.form
 clear hf1 hk1
 go_wp2
 go_ret
 exact RPost.ok HY.out HM.out ⟨_,rfl,_,_,rfl,HF1.out,HK1.out⟩ HC.out
theorem stringt_any (hw:List UInt8) (hp:Nat) (d:Int) (pr:Nat) (b F:Nat) (t:ByteArray) (s:PS) (rv:Value) (mc mt:Nat) (w:World) (h:RC w b t s rv mc mt) (hpr:PrAt w pr b) (hF:2*t.size+1 < F) :
 Calls Tryz.prog 138 #[headV hw hp,.int .i64 d,.pointer (some ⟨pr,0,none⟩)] w (RPost (matchL t.data.toList F (fun _=>0) 7 hp s) b t rv mc mt w (fun x w' v=>∃ u,v=.iface 235 u∧mtV w.heap.size hw x w' u)):=by
 have hlt:=hpr.lt
 have h':(w.alloc (.cells #[.string (strA hw),.int .i64 hp] 216)).cell? ⟨pr,0,none⟩=some (.pointer (some ⟨b,0,none⟩)):=by rw [World.cell?_alloc_past _ _ _ hlt];exact hpr.1
 have H:=hide h
 clear h hpr
 unfold headV
 go_enter Tryz.func138,Tryz.ntmps138
 go_wp2_with fail
 refine (match_any _ (fun _=>0) 7 hw hp b F t s rv mc mt _ (H.out.alloc _) (strOk_any _ _ _ _ _ _) hF).mono ?_
 intro e w1 h1
 rcases h1.cases with ⟨y,v,hy,rfl,⟨fv,kv,rfl,hf1,hk1⟩,hc,hm⟩ | ⟨f,hf,⟨bb,hz,rfl,hcc⟩,hm⟩
 rotate_left
 ·exact ⟨rfl,RPost.err hf (((Mod.refl b w).alloc _).trans hm) ⟨bb,by simp at hz;omega,rfl,hcc⟩⟩
 have HY:=hide hy
 have HC:=hide hc
 have HM:=hide (((Mod.refl b w).alloc _).trans hm)
 have HF1:=hide (hf1.weak (B':=w.heap.size) (by simp))
 have HK1:=hide (hk1.weak (B':=w.heap.size) (by simp))
 clear h1 hy hc hm
 obtain ⟨g1,n1,c1,rfl⟩:=hf1.form
 obtain ⟨g2,n2,c2,rfl⟩:=hk1.form
 clear hf1 hk1
 go_wp2
 go_ret
 exact RPost.ok HY.out HM.out ⟨_,rfl,_,_,rfl,HF1.out,HK1.out⟩ HC.out
end
section
open Go.RowKit
attribute [local go_sem ↓] Go.wp_at_zero Go.wp_at_succ
theorem mod_drew {b:Nat} {w w':World} (h:Mod b w.drew w'):Mod b w w':=⟨h.os,h.tape,h.output,h.size,h.block⟩
theorem head_cells {w w1:World} {b:Nat} (hw:List UInt8) (hp:Nat) (hm:Mod b (w.alloc (.cells #[.string (strA hw),.int .i64 hp] 216)) w1) (hb:b < w.heap.size) :
 w1.cell? ⟨w.heap.size,0,none⟩=some (.string (strA hw))∧w1.cell? ⟨w.heap.size,1,none⟩=some (.int .i64 hp):=by
 have h:=blk_mod (g:=w.heap.size) (blk_new w (.cells #[.string (strA hw),.int .i64 hp] 216)) hm (by omega)
 exact ⟨blk_cell h 0,blk_cell h 1⟩
theorem exists_any (hw:List UInt8) (hp:Nat) (d:Int) (b F:Nat) (t:ByteArray) (s:PS) (rv:Value) (mc mt:Nat) (w:World) (h:RC w b t s rv mc mt) (hF:2*t.size+1 < F) :
 Calls Tryz.prog 139 #[.pointer (some ⟨b,0,none⟩),headV hw hp,.int .i64 d] w (RPost (stringsL t.data.toList (fun _=>0) F s) b t rv mc mt w (fun xs w' v=>∃ u,v=.iface 309 (.agg #[.string (strA hw),.int .i64 hp,u])∧slB w.heap.size xs w' u)):=by
 have H:=hide h
 have hlt:=h.at_.lt
 clear h
 unfold headV
 go_enter Tryz.func139,Tryz.ntmps139
 go_wp2_with fail
 go_region_with (first | (go_at_call 188;refine (strings_any _ (fun _=>0) b F t s rv mc mt _ ((H.out.alloc _).drew) (strOk_any _ _ _ _ _ _) (H.out.mu_lt hF)).mono ?_;intro e w1 h1;rcases h1.cases with ⟨y,v,hy,rfl,hs1,hc,hm⟩ | ⟨f,hf,⟨bb,hz,rfl,hcc⟩,hm⟩;rotate_left;exact ⟨rfl,RPost.err hf (((Mod.refl b w).alloc _).trans (mod_drew hm)) ⟨bb,by simp at hz;omega,rfl,hcc⟩⟩;obtain ⟨hh0,hh1⟩:=head_cells hw hp (mod_drew hm) hlt;have HY:=hide hy;have HC:=hide hc;have HM:=hide (((Mod.refl b w).alloc (.cells #[.string (strA hw),.int .i64 hp] 216)).trans (mod_drew hm));have HS:=hide (hs1.weak (B':=w.heap.size) (by simp));obtain ⟨g1,n1,c1,rfl⟩:=hs1.form;clear h1 hy hc hm hs1;skip))
 all_goals go_wp2
 all_goals go_ret
 all_goals exact RPost.ok HY.out HM.out ⟨_,rfl,HS.out⟩ HC.out
end
section
open Go.RowKit
attribute [local go_sem ↓] Go.wp_at_zero Go.wp_at_succ
def AbvX (X:Nat→Prop) (w w':World):Prop:=∀ k,X k→k < w.heap.size→w'.heap[k]?=w.heap[k]?
def fromB (B:Nat) (k:Nat):Prop:=B≤k
theorem Mod.abvX {b:Nat} {w w':World} (h:Mod b w w') {X:Nat→Prop} (hX:¬ X b):AbvX X w w':=fun k hk hz=>h.block k hz (fun e=>hX (e ▸ hk))
theorem AbvX.set {X:Nat→Prop} {g:Nat} {w:World} (hX:¬ X g) (o:Nat) (v:Value):AbvX X w (w.setCell ⟨g,o,none⟩ v):=fun k hk _=>Below.heap_setCell _ _ _ _ (fun e=>hX (by have e':k=g:=e;rw [← e'];exact hk))
def SubOk {α:Type} (fn:Nat) (w:World) (b:Nat) (t:ByteArray) (rv:Value) (mc mt:Nat) (d:Int) (sub:PS→Except Flt (α×PS)) (P:(Nat→Prop)→α→World→Value→Prop):Prop:=
 ∀ (W:World) (s:PS),Mod b w W→RC W b t s rv mc mt→Calls Tryz.prog fn #[.pointer (some ⟨b,0,none⟩),.int .i64 d] W (RPost (sub s) b t rv mc mt W (P (fromB W.heap.size)))
theorem SubOk.mod {α:Type} {fn:Nat} {w w':World} {b:Nat} {t:ByteArray} {rv:Value} {mc mt:Nat} {d:Int} {sub:PS→Except Flt (α×PS)} {P:(Nat→Prop)→α→World→Value→Prop} (h:SubOk fn w b t rv mc mt d sub P) (hm:Mod b w w'):SubOk fn w' b t rv mc mt d sub P:=
 fun W s hW hr=>h W s (hm.trans hW) hr
structure TreeP {α:Type} (P:(Nat→Prop)→α→World→Value→Prop):Prop where
 form:∀ X a w v,P X a w v→∃ ty x,v=.iface ty x
 keep:∀ X a w w' v,P X a w v→AbvX X w w'→P X a w' v
 weak:∀ X Y a w v,P X a w v→(∀ k,X k→k < w.heap.size→Y k)→P Y a w v
theorem wrap_small (d:Int) (h0:0≤d) (h1:d≤100):IntKind.i64.wrap (d+1)=d+1:=by
 rw [IntKind.wrap_i64]
 omega
theorem not_any {α:Type} (sub:PS→Except Flt (α×PS)) (P:(Nat→Prop)→α→World→Value→Prop) (hw:List UInt8) (hp:Nat) (d:Int) (b:Nat) (t:ByteArray) (s:PS) (rv:Value) (mc mt:Nat) (w:World) (h:RC w b t s rv mc mt) (hd0:0≤d) (hd1:d≤100) (hP:TreeP P) (ho:SubOk 186 w b t rv mc mt (d+1) sub P) :
 Calls Tryz.prog 128 #[.pointer (some ⟨b,0,none⟩),headV hw hp,.int .i64 d] w (RPost (sub s) b t rv mc mt w (fun a w' v=>∃ u,v=.iface 305 (.agg #[.string (strA hw),.int .i64 hp,u])∧P (fromB w.heap.size) a w' u)):=by
 have H:=hide h
 have HO:=hide ho
 have HP:=hide hP
 have hlt:=h.at_.lt
 have hwr:=wrap_small d hd0 hd1
 clear h ho hP
 unfold headV
 go_enter Tryz.func128,Tryz.ntmps128
 go_wp2_with fail
 go_region_with (first | (go_at_call 186;refine (HO.out _ s (((Mod.refl b w).alloc _).drew) ((H.out.alloc _).drew)).mono ?_;intro e w1 h1;rcases h1.cases with ⟨y,v,hy,rfl,hv,hc,hm⟩ | ⟨f,hf,⟨bb,hz,rfl,hcc⟩,hm⟩;rotate_left;exact ⟨rfl,RPost.err hf (((Mod.refl b w).alloc _).trans (mod_drew hm)) ⟨bb,by simp at hz;omega,rfl,hcc⟩⟩;obtain ⟨hh0,hh1⟩:=head_cells hw hp (mod_drew hm) hlt;have HY:=hide hy;have HC:=hide hc;have HM:=hide (((Mod.refl b w).alloc (.cells #[.string (strA hw),.int .i64 hp] 216)).trans (mod_drew hm));have HV:=hide (HP.out.weak _ (fromB w.heap.size) _ _ _ hv (fun k hk _=>Nat.le_trans (by simp) hk));obtain ⟨ty,x,rfl⟩:=HP.out.form _ _ _ _ hv;clear h1 hy hc hm hv;skip))
 all_goals go_wp2
 all_goals go_ret
 all_goals exact RPost.ok HY.out HM.out ⟨_,rfl,HV.out⟩ HC.out
def trX {α:Type} (X:Nat→Prop) (P:(Nat→Prop)→α→World→Value→Prop) (xs:List α) (w:World) (v:Value):Prop:=
 ∃ g c,v=.slice (some ⟨g,0,none⟩) xs.length c∧X g∧∀ j (hj:j < xs.length),∃ u,w.cell? ⟨g,j,none⟩=some u∧P X xs[j] w u
theorem trX.keep {α:Type} {X:Nat→Prop} {P:(Nat→Prop)→α→World→Value→Prop} (hP:TreeP P) {xs:List α} {w w':World} {v:Value} (h:trX X P xs w v) (hm:AbvX X w w'):trX X P xs w' v:=by
 obtain ⟨g,c,hv,hg,hx⟩:=h
 refine ⟨g,c,hv,hg,fun j hj=>?_⟩
 obtain ⟨u,hu,hp⟩:=hx j hj
 refine ⟨u,?_,hP.keep _ _ _ _ _ hp hm⟩
 rw [World.cell?_of_block (w:=w) (a:=⟨g,j,none⟩) (hm g hg (cell_lt hu))]
 exact hu
theorem trX.weak {α:Type} {X Y:Nat→Prop} {P:(Nat→Prop)→α→World→Value→Prop} (hP:TreeP P) {xs:List α} {w:World} {v:Value} (hne:xs≠[]) (h:trX X P xs w v) (hB:∀ k,X k→k < w.heap.size→Y k):trX Y P xs w v:=by
 obtain ⟨g,c,hv,hg,hx⟩:=h
 refine ⟨g,c,hv,?_,fun j hj=>?_⟩
 ·obtain ⟨u,hu,_⟩:=hx 0 (List.length_pos_iff.2 hne)
  exact hB g hg (cell_lt hu)
 ·obtain ⟨u,hu,hp⟩:=hx j hj
  exact ⟨u,hu,hP.weak _ _ _ _ _ hp hB⟩
theorem trX.form {α:Type} {X:Nat→Prop} {P:(Nat→Prop)→α→World→Value→Prop} {xs:List α} {w:World} {v:Value} (h:trX X P xs w v):∃ g n c,v=.slice (some ⟨g,0,none⟩) n c:=by
 obtain ⟨g,c,hv,_⟩:=h;exact ⟨g,_,c,hv⟩
def RowP {α:Type} (P:α→Value→Prop):List α→List Value→Prop
 | [],[]=>True
 | a :: xs,v :: vs=>P a v∧RowP P xs vs
 | _,_=>False
theorem RowP.imp {α:Type} {P Q:α→Value→Prop} (h:∀ a v,P a v→Q a v):∀ {xs:List α} {vs:List Value},RowP P xs vs→RowP Q xs vs
 | [],[],_=>trivial
 | a :: xs,v :: vs,hr=>⟨h _ _ hr.1,RowP.imp h hr.2⟩
 | [],_ :: _,hr=>hr.elim
 | _ :: _,[],hr=>hr.elim
theorem RowP.snoc {α:Type} {P:α→Value→Prop} {a:α} {v:Value} (h:P a v):∀ {xs:List α} {vs:List Value},RowP P xs vs→RowP P (xs++[a]) (vs++[v])
 | [],[],_=>⟨h,trivial⟩
 | a' :: xs,v' :: vs,hr=>⟨hr.1,RowP.snoc h hr.2⟩
 | [],_ :: _,hr=>hr.elim
 | _ :: _,[],hr=>hr.elim
theorem RowP.at {α:Type} {P:α→Value→Prop}:∀ {xs:List α} {vs:List Value},RowP P xs vs→∀ j (hj:j < xs.length),∃ u,vs[j]?=some u∧P xs[j] u
 | [],[],_,j,hj=>absurd hj (Nat.not_lt_zero _)
 | a :: xs,v :: vs,h,0,_=>⟨v,rfl,h.1⟩
 | a :: xs,v :: vs,h,j+1,hj=>by
  obtain ⟨u,h1,h2⟩:=RowP.at h.2 j (by simpa using hj)
  exact ⟨u,by simpa using h1,by simpa using h2⟩
 | [],_ :: _,h,_,_=>h.elim
 | _ :: _,[],h,_,_=>h.elim
def Gath {α:Type} (P:(Nat→Prop)→α→World→Value→Prop) (base:Nat) (w:World) (v:Value) (a:α) (u:Value):Prop:=
 ∃ X,P X a w u∧(∀ k,X k→base≤k∧k < w.heap.size)∧∀ g,v.ownBlock=some g→¬ X g
theorem Gath.mod {α:Type} {P:(Nat→Prop)→α→World→Value→Prop} (hP:TreeP P) {base b:Nat} {w w':World} {v:Value} {a:α} {u:Value} (h:Gath P base w v a u) (hm:Mod b w w') (hb:b < base):Gath P base w' v a u:=by
 obtain ⟨X,h1,h2,h3⟩:=h
 exact ⟨X,hP.keep _ _ _ _ _ h1 (hm.abvX (fun e=>by have:=(h2 b e).1;omega)),fun k hk=>⟨(h2 k hk).1,Nat.lt_of_lt_of_le (h2 k hk).2 hm.size⟩,h3⟩
theorem Gath.grown {α:Type} {P:(Nat→Prop)→α→World→Value→Prop} (hP:TreeP P) {base:Nat} {w w':World} {v v':Value} {a:α} {u:Value} {o:Obj} (h:Gath P base w v a u) (hg:(w.alloc o).grownBy w' v.ownBlock) (hv:v'.ownBlock=v.ownBlock∨v'.ownBlock=some (w.heap.size+1)):Gath P base w' v' a u:=by
 obtain ⟨X,h1,h2,h3⟩:=h
 have hA:AbvX X w w':=fun k hk hz=>by
  rw [hg.block k (by simp;omega) (fun e=>h3 k e.symm hk)]
  exact Below.heap_alloc _ _ _ hz
 refine ⟨X,hP.keep _ _ _ _ _ h1 hA,fun k hk=>⟨(h2 k hk).1,?_⟩,fun g hgb hX=>?_⟩
 ·have:=(h2 k hk).2;have:=hg.size;simp at this;omega
 ·rcases hv with hv | hv
  ·exact h3 g (hv ▸ hgb) hX
  ·rw [hv] at hgb
   have:=(h2 g hX).2
   simp at hgb
   omega
theorem Gath.new {α:Type} {P:(Nat→Prop)→α→World→Value→Prop} (hP:TreeP P) {base B:Nat} {w:World} {v:Value} {a:α} {u:Value} (h:P (fromB B) a w u) (hB:base≤B) (hv:∀ g,v.ownBlock=some g→g < B):Gath P base w v a u:=
 ⟨fun k=>B≤k∧k < w.heap.size,hP.weak _ _ _ _ _ h (fun k hk hz=>⟨hk,hz⟩),fun k hk=>⟨Nat.le_trans hB hk.1,hk.2⟩,fun g hg hX=>by have:=hv g hg;omega⟩
theorem trX.of_owns {α:Type} {P:(Nat→Prop)→α→World→Value→Prop} (hP:TreeP P) {w:World} {base n:Nat} {e:TypeId} {v:Value} {xs:List α} {vs:List Value} (h:w.ownsRow base e 1 v n vs) (hn:n=xs.length) (hx:xs≠[]) (hr:RowP (fun a u=>Gath P base w v a u) xs vs):trX (fromB base) P xs w v:=by
 subst hn
 have hc:=fun g (hg:v.ownBlock=some g)=>h.cells hg
 obtain ⟨h1,h2⟩:=h
 rcases h2 with ⟨_,h3⟩ | ⟨g,cap,cur,hv,hg,r⟩
 ·exact absurd (List.eq_nil_of_length_eq_zero h3) hx
 ·refine ⟨g,cap,hv,hg,fun j hj=>?_⟩
  obtain ⟨u,hu,X,hp,hX,_⟩:=hr.at j hj
  have:=hc g (by rw [hv];rfl) j u hu
  rw [addr_add0] at this
  exact ⟨u,this,hP.weak _ _ _ _ _ hp (fun k hk _=>(hX k hk).1)⟩
end
section
open Go.RowKit
theorem Tryz.infoTest:(Tryz.prog.info? 218).map (fun i=>(i.zero,i.size,i.bytes))=some (some .nilIface,1,16):=by kernel_rfl
theorem groupMore_passErr {α:Type} {l:List UInt8} {sub:PS→Except Flt (α×PS)} {f:Nat} {acc:List α} {s:PS} {e:Flt} (h:passL l [[44],[41]] s=.error e):groupMore l sub (f+1) acc s=.error e:=by rw [groupMore];exact thenL_err h
theorem groupMore_end {α:Type} {l:List UInt8} {sub:PS→Except Flt (α×PS)} {f:Nat} {acc:List α} {s:PS} {y:Nat×PS} (h:passL l [[44],[41]] s=.ok y) (h1:¬ y.1=1):groupMore l sub (f+1) acc s=.ok (acc,y.2):=by rw [groupMore,thenL_ok h,if_neg h1]
theorem groupMore_subErr {α:Type} {l:List UInt8} {sub:PS→Except Flt (α×PS)} {f:Nat} {acc:List α} {s:PS} {y:Nat×PS} {e:Flt} (h:passL l [[44],[41]] s=.ok y) (h1:y.1=1) (h2:sub y.2=.error e):groupMore l sub (f+1) acc s=.error e:=by rw [groupMore,thenL_ok h,if_pos h1];exact thenL_err h2
theorem groupMore_go {α:Type} {l:List UInt8} {sub:PS→Except Flt (α×PS)} {f:Nat} {acc:List α} {s:PS} {y:Nat×PS} {z:α×PS} (h:passL l [[44],[41]] s=.ok y) (h1:y.1=1) (h2:sub y.2=.ok z):groupMore l sub (f+1) acc s=groupMore l sub f (acc++[z.1]) z.2:=by rw [groupMore,thenL_ok h,if_pos h1];exact thenL_ok h2
theorem paren_ne:∀ z∈([[44],[41]]:List (List UInt8)),z≠[]:=by decide
def SubMu {α:Type} (n:Nat) (sub:PS→Except Flt (α×PS)):Prop:=∀ s y,s.2≤n→(s.1.kind=0→s.1.spelt=[])→sub s=.ok y→mu n y.2 < mu n s
theorem group_any {α:Type} (sub:PS→Except Flt (α×PS)) (P:(Nat→Prop)→α→World→Value→Prop) (hw:List UInt8) (hp:Nat) (d:Int) (b F:Nat) (t:ByteArray) (s:PS) (rv:Value) (mc mt:Nat) (w:World) (h:RC w b t s rv mc mt) (hF:2*t.size+1 < F) (hd0:0≤d) (hd1:d≤100) (hP:TreeP P) (hS:SubMu t.size sub) (ho:SubOk 186 w b t rv mc mt (d+1) sub P) :
 Calls Tryz.prog 130 #[.pointer (some ⟨b,0,none⟩),headV hw hp,.int .i64 d] w (RPost (groupL t.data.toList F sub s) b t rv mc mt w (fun xs w' v=>∃ u,v=.agg #[.string (strA hw),.int .i64 hp,u]∧trX (fromB w.heap.size) P xs w' u∧xs≠[])):=by
 have H:=hide h
 have HO:=hide ho
 have HP:=hide hP
 have HSM:=hide hS
 have hlt:=h.at_.lt
 clear h ho hP hS
 unfold headV
 obtain ⟨i0,hi,hz0,hz1,hz2⟩:=info_parts Tryz.infoTest
 go_enter Tryz.func130,Tryz.ntmps130
 go_wp2_with fail
 obtain ⟨V,hV⟩:∃ V,V=(w.alloc (.cells #[.string (strA hw),.int .i64 hp] 216)).alloc (.cells #[.string ⟨#[]⟩,.int .i64 0,.slice none 0 0] 221):=⟨_,rfl⟩
 have HRV:Hid (RC V b t s rv mc mt):=by rw [hV];exact (H.out.alloc _).alloc _
 have HMV:Hid (Mod b w V):=by rw [hV];exact ((Mod.refl b w).alloc _).alloc _
 have HVH:Hid (V.heap[w.heap.size]?=some (.cells #[.string (strA hw),.int .i64 hp] 216)):=by rw [hV];exact blk_alloc (blk_new _ _)
 have HVR:Hid (V.heap[w.heap.size+1]?=some (.cells #[.string ⟨#[]⟩,.int .i64 0,.slice none 0 0] 221)):=by rw [hV];exact blk_newAt (by simp)
 have hzV:V.heap.size=w.heap.size+1+1:=by rw [hV];simp
 have hp1:=hide (pass_any b V.heap.size 1 1 [[40]] t s rv mc mt _ (HRV.out.alloc (.cells (tcells [[40]]).toArray 9)) (txt_alloc V [[40]] _ _ rfl) rfl (by decide))
 rw [hV] at hp1
 rw [show ((w.alloc (.cells #[.string (strA hw),.int .i64 hp] 216)).alloc (.cells #[.string ⟨#[]⟩,.int .i64 0,.slice none 0 0] 221)).heap.size=w.heap.size+1+1 from by simp] at hp1
 refine hp1.out.mono ?_
 rw [← hV]
 intro e w1 h1
 rcases h1.cases with ⟨y,v,hy,rfl,hv,hc,hm⟩ | ⟨f,hf,⟨bb,hz,rfl,hcc⟩,hm⟩
 rotate_left
 ·exact ⟨rfl,RPost.err (thenL_err hf) ((HMV.out.alloc _).trans hm) ⟨bb,by simp at hz;omega,rfl,hcc⟩⟩
 unfold numV at hv
 subst hv
 have HY:=hide hy
 have HC:=hide hc
 have HM1:=hide ((HMV.out.alloc (.cells (tcells [[40]]).toArray 9)).trans hm)
 have HH1:=hide (blk_mod (blk_alloc HVH.out) hm (by omega))
 have HR1:=hide (blk_mod (blk_alloc HVR.out) hm (by omega))
 clear h1 hy hc hm hV hp1
 go_wp2_with fail
 refine (HO.out _ y.2 HM1.out HC.out).mono ?_
 intro e w2 h2
 rcases h2.cases with ⟨z,v,hy2,rfl,hv,hc,hm⟩ | ⟨f,hf,⟨bb,hz,rfl,hcc⟩,hm⟩
 rotate_left
 ·exact ⟨rfl,RPost.err ((thenL_ok HY.out).trans (thenL_err hf)) (HM1.out.trans hm) ⟨bb,Nat.le_trans HM1.out.size hz,rfl,hcc⟩⟩
 have hz1':w.heap.size+1 < w1.heap.size:=blk_lt HR1.out
 have HV2:=hide hv
 obtain ⟨ty,x,rfl⟩:=HP.out.form _ _ _ _ hv
 have HY2:=hide hy2
 have HC2:=hide hc
 have HM2:=hide (HM1.out.trans hm)
 have HH2:=hide (blk_mod HH1.out hm (by omega))
 have HR2:=hide (blk_mod HR1.out hm (by omega))
 have hwz:w.heap.size+1 < w2.heap.size:=blk_lt HR2.out
 have hmuL:=HC2.out.mu_le
 have hmuF:=HC2.out.mu_lt hF
 clear h2 hy2 hc hm hv
 go_wp2_with fail
 go_loopw [7] (fun v wr=>∃ (s':PS) (acc:List α) (vs:List Value) (f:Nat),wr.ownsRow (w.heap.size+1+1) 218 1 v acc.length vs∧RowP (fun a u=>Gath P (w.heap.size+1+1) wr v a u) acc vs∧acc≠[]∧RC wr b t s' rv mc mt∧Mod b w wr∧wr.heap[w.heap.size]?=some (.cells #[.string (strA hw),.int .i64 hp] 216)∧wr.heap[w.heap.size+1]?=some (.cells #[.string ⟨#[]⟩,.int .i64 0,.slice none 0 0] 221)∧mu t.size s' < f∧acc.length+mu t.size s'≤1300∧groupL t.data.toList F sub s=groupMore t.data.toList sub f acc s') (fun _ wr=>muW wr b t.size)
 case atStart=>
  have hA:Mod b w2 (w2.alloc (.cells #[.iface ty x] 218)):=(Mod.refl b w2).alloc _
  have hG:Gath P (w.heap.size+1+1) w2 (.slice (some ⟨w2.heap.size,0,none⟩) 1 1) z.1 (.iface ty x):=⟨fun k=>w1.heap.size≤k∧k < w2.heap.size,HP.out.weak _ _ _ _ _ HV2.out (fun k hk hz=>⟨hk,hz⟩),fun k hk=>⟨by omega,hk.2⟩,fun g hg hX=>by
   have:w2.heap.size=g:=by simpa [Value.ownBlock] using hg
   omega⟩
  refine ⟨z.2,[z.1],[.iface ty x],F,?_,⟨hG.mod HP.out hA (by omega),trivial⟩,by simp,HC2.out.alloc _,HM2.out.alloc _,blk_alloc HH2.out,blk_alloc HR2.out,hmuF,by simp;omega,(thenL_ok HY.out).trans (thenL_ok HY2.out)⟩
  exact World.ownsRow_lit (e:=218) (size:=1) w2 #[.iface ty x] 1 hwz (by unfold maxLen;omega) rfl
 case round=>
  obtain ⟨s',acc,vs,f,hown,hrow,hne,hrc,hmod,hbh,hbr,hf,hbd,hsp⟩:=hrel
  obtain ⟨f,rfl⟩:∃ g,f=g+1:=⟨f - 1,by omega⟩
  have HR:=hide hrc
  have HMr:=hide hmod
  have HSP:=hide hsp
  have HOW:=hide hown
  have HRW:=hide hrow
  have HBH:=hide hbh
  have HBR:=hide hbr
  have hwr:w.heap.size+1 < wr.heap.size:=blk_lt hbr
  clear hrc hmod hsp hown hrow hbh hbr HC HC2 HY HY2 hmuL hmuF
  go_wp2_with fail
  refine (pass_any b wr.heap.size 2 2 [[44],[41]] t s' rv mc mt _ (HR.out.alloc _) (txt_alloc wr [[44],[41]] _ _ rfl) rfl (by decide)).mono ?_
  intro e w3 h3
  rcases h3.cases with ⟨y3,v3,hy3,rfl,hv3,hc3,hm3⟩ | ⟨f3,hf3,⟨bb,hz,rfl,hcc⟩,hm3⟩
  rotate_left
  ·exact ⟨rfl,RPost.err (HSP.out.trans (groupMore_passErr hf3)) ((HMr.out.alloc _).trans hm3) ⟨bb,by simp at hz;omega,rfl,hcc⟩⟩
  have hmu3:=passL_mu (l:=t.data.toList) (by simpa using HR.out.le) HR.out.e0 paren_ne hy3
  rw [bal] at hmu3
  replace hmu3:=hmu3.1
  have hA3:=((Mod.refl b wr).alloc (.cells #[.string ⟨#[44]⟩,.string ⟨#[41]⟩] 9)).trans hm3
  have HM3:=hide (HMr.out.trans hA3)
  have HY3:=hide hy3
  have HC3:=hide hc3
  have HO3:=hide (ownsRow_mod (b:=b) HOW.out hA3 (by omega))
  have HW3:=hide (HRW.out.imp (fun a u hu=>Gath.mod HP.out (b:=b) (w':=w3) hu hA3 (by omega)))
  have HH3:=hide (blk_mod HBH.out hA3 (by omega))
  have HR3:=hide (blk_mod HBR.out hA3 (by omega))
  unfold numV at hv3
  subst hv3
  clear h3 hy3 hc3 hm3 hA3
  by_cases h1:y3.1=1
  rotate_left
  ·have h1':((y3.1:Int) == 1)=false:=by simp;omega
   have H1:=hide h1
   have HT:=hide (trX.of_owns HP.out HO3.out rfl hne HW3.out)
   obtain ⟨gg,nn,cc,rfl⟩:=HT.out.form
   have k0:w3.cell? ⟨w.heap.size,0,none⟩=some (.string (strA hw)):=blk_cell HH3.out 0
   have k1:w3.cell? ⟨w.heap.size,1,none⟩=some (.int .i64 hp):=blk_cell HH3.out 1
   have r0:w3.cell? ⟨w.heap.size+1,0,none⟩=some (.string ⟨#[]⟩):=blk_cell HR3.out 0
   have r1:w3.cell? ⟨w.heap.size+1,1,none⟩=some (.int .i64 0):=blk_cell HR3.out 1
   have r2:w3.cell? ⟨w.heap.size+1,2,none⟩=some (.slice none 0 0):=blk_cell HR3.out 2
   have rf:=blk_frozen HR3.out
   clear h1
   go_wp2
   have hb1:b < w.heap.size+1:=by omega
   have hw1:w.heap.size≤w.heap.size+1:=by omega
   have hq:¬ fromB (w.heap.size+1+1) (w.heap.size+1):=by unfold fromB;omega
   have hwk:∀ k,fromB (w.heap.size+1+1) k→fromB w.heap.size k:=fun k hk=>by unfold fromB at *;omega
   refine bodyPost_ret (v:=.agg #[.string (strA hw),.int .i64 hp,.slice (some ⟨gg,0,none⟩) nn cc]) (by simp [results,Tryz.results130,go_sem,r0,r1,r2]) rfl (RPost.ok (HSP.out.trans (groupMore_end HY3.out H1.out)) (((HM3.out.setNew hw1 _ _).setNew hw1 _ _).setNew hw1 _ _) ⟨_,rfl,?_,hne⟩ (((HC3.out.setNew hb1 _ _).setNew hb1 _ _).setNew hb1 _ _))
   exact trX.weak HP.out hne (((HT.out.keep HP.out (AbvX.set hq _ _)).keep HP.out (AbvX.set hq _ _)).keep HP.out (AbvX.set hq _ _)) (fun k hk _=>hwk k hk)
  have h1':((y3.1:Int) == 1)=true:=by simp;omega
  have H1:=hide h1
  clear h1
  go_wp2_with fail
  refine (HO.out _ y3.2 HM3.out HC3.out).mono ?_
  intro e w4 h4
  rcases h4.cases with ⟨z4,v4,hy4,rfl,hv4,hc4,hm4⟩ | ⟨f4,hf4,⟨bb,hz,rfl,hcc⟩,hm4⟩
  rotate_left
  ·exact ⟨rfl,RPost.err (HSP.out.trans (groupMore_subErr HY3.out H1.out hf4)) (HM3.out.trans hm4) ⟨bb,Nat.le_trans HM3.out.size hz,rfl,hcc⟩⟩
  have hmu4:=HSM.out y3.2 z4 HC3.out.le HC3.out.e0 hy4
  have hz3:w.heap.size+1 < w3.heap.size:=blk_lt HR3.out
  have HV4:=hide hv4
  obtain ⟨ty4,x4,rfl⟩:=HP.out.form _ _ _ _ hv4
  have HM4:=hide (HM3.out.trans hm4)
  have HY4:=hide hy4
  have HC4:=hide hc4
  have hown4:=ownsRow_mod (b:=b) HO3.out hm4 (by omega)
  have HW4:=hide (HW3.out.imp (fun a u hu=>Gath.mod HP.out (b:=b) (w':=w4) hu hm4 (by omega)))
  have hlt3:=hide (fun k hk=>(HO3.out.lt k hk).2)
  have HG4:=hide (Gath.new HP.out (base:=w.heap.size+1+1) HV4.out (by omega) hlt3.out)
  have HH4:=hide (blk_mod HH3.out hm4 (by omega))
  have HR4:=hide (blk_mod HR3.out hm4 (by omega))
  have hz4:w.heap.size+1 < w4.heap.size:=blk_lt HR4.out
  clear h4 hy4 hc4 hm4 hv4
  go_wp2_with (at_builtin;refine wpList_append_own_at _ rfl _ _ 219 rfl (w.heap.size+1+1) 218 i0 .nilIface 1 16 Tryz.underlying219 hi hz0 hz1 hz2 rfl (by decide) _ _ _ rfl (hown4.alloc _) ⟨w4.heap.size,0,none⟩ 1 1 [.iface ty4 x4] rfl rfl ?c1 ?c2 ?c3 ?c4 ?c5 ?_)
  case c1=>
   intro j u hj
   match j,hj with
   | 0,hj=>simp at hj;subst hj;simp [Addr.add]
  case c2=>intro u hu;simp at hu;subst hu;rfl
  case c3=>unfold maxLen;omega
  case c4=>omega
  case c5=>simp;omega
  ·intro v' w5 hown5 hgrow _ hat
   have hrow:∀ k,(u7).ownBlock=some k→w.heap.size+1+1≤k:=fun k hk=>(hown4.lt k hk).1
   have HM5:=hide ((HM4.out.alloc (Obj.cells #[.iface ty4 x4] 218)).grown hgrow (fun k hk=>by have:=hrow k hk;omega))
   have HC5:=hide ((HC4.out.alloc (Obj.cells #[.iface ty4 x4] 218)).grown hgrow (fun k hk=>by have:=hrow k hk;omega))
   have HO5:=hide hown5
   have HR5:=hide (RowP.snoc (P:=fun a u=>Gath P (w.heap.size+1+1) w5 v' a u) (HG4.out.grown HP.out hgrow hat) (HW4.out.imp (fun a u hu=>Gath.grown HP.out hu hgrow hat)))
   have hk5:∀ k,k < w.heap.size+1+1→w5.heap[k]?=w4.heap[k]?:=fun k hk=>by
    rw [hgrow.block k (by simp;omega) (fun e=>by have:=hrow k e.symm;omega)]
    exact Below.heap_alloc _ _ _ (by omega)
   have HH5:=hide ((hk5 w.heap.size (by omega)).trans HH4.out)
   have HR6:=hide ((hk5 (w.heap.size+1) (by omega)).trans HR4.out)
   have hmw:muW w5 b t.size < muW wr b t.size:=by rw [HC5.out.muEq,HR.out.muEq];omega
   have HMW:=hide hmw
   clear hown5 hgrow hmw hown4 hrow hk5 hat
   go_wp2
   go_roundw
   case rel=>exact ⟨z4.2,acc++[z4.1],vs++[.iface ty4 x4],f,by simpa using HO5.out,HR5.out,by simp,HC5.out,HM5.out,HH5.out,HR6.out,by omega,by simp;omega,HSP.out.trans (groupMore_go HY3.out H1.out HY4.out)⟩
   case measure=>exact HMW.out
end
end Go.Proofs.YtgnkjijocdmniaaGreatDoor
