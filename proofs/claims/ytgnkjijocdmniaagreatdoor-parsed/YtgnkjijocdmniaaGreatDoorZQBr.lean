import Derived.Test.YtgnkjijocdmniaaGreatDoorZQCmdL
import Derived.Test.YtgnkjijocdmniaaGreatDoorQTestG
namespace Go.Proofs.YtgnkjijocdmniaaGreatDoor
set_option linter.unusedVariables false
set_option linter.unusedSimpArgs false
set_option maxRecDepth 100000
set_option maxHeartbeats 4000000
section
open Go.RowKit
def Gat2 {α:Type} (P:(Nat→Prop)→α→World→Value→Prop) (base:Nat) (w:World) (v1 v2:Value) (a:α) (u:Value):Prop:=
 ∃ X,P X a w u∧(∀ k,X k→base≤k∧k < w.heap.size)∧∀ g,v1.ownBlock=some g∨v2.ownBlock=some g→¬ X g
section
variable {α:Type} {P:(Nat→Prop)→α→World→Value→Prop} {base:Nat} {w w':World} {v1 v2:Value} {a:α} {u:Value}
theorem Gat2.swap (h:Gat2 P base w v1 v2 a u):Gat2 P base w v2 v1 a u:=by
 obtain ⟨X,h1,h2,h3⟩:=h
 exact ⟨X,h1,h2,fun g hg=>h3 g hg.symm⟩
theorem Gat2.left (h:Gat2 P base w v1 v2 a u):Gath P base w v1 a u:=by
 obtain ⟨X,h1,h2,h3⟩:=h
 exact ⟨X,h1,h2,fun g hg=>h3 g (Or.inl hg)⟩
theorem Gat2.mod (hP:TreeQ P) {b:Nat} (h:Gat2 P base w v1 v2 a u) (hm:Mod b w w') (hb:b < base):Gat2 P base w' v1 v2 a u:=by
 obtain ⟨X,h1,h2,h3⟩:=h
 exact ⟨X,hP.keep _ _ _ _ _ h1 (hm.abvX (fun e=>by have:=(h2 b e).1;omega)),fun k hk=>⟨(h2 k hk).1,Nat.lt_of_lt_of_le (h2 k hk).2 hm.size⟩,h3⟩
theorem Gat2.grown (hP:TreeQ P) {v':Value} {o:Obj} (h:Gat2 P base w v1 v2 a u) (hg:(w.alloc o).grownBy w' v1.ownBlock) (hv:v'.ownBlock=v1.ownBlock∨v'.ownBlock=some (w.heap.size+1)):Gat2 P base w' v' v2 a u:=by
 obtain ⟨X,h1,h2,h3⟩:=h
 have hA:AbvX X w w':=fun k hk hz=>by
  rw [hg.block k (by simp;omega) (fun e=>h3 k (Or.inl e.symm) hk)]
  exact Below.heap_alloc _ _ _ hz
 refine ⟨X,hP.keep _ _ _ _ _ h1 hA,fun k hk=>⟨(h2 k hk).1,?_⟩,fun g hgb hX=>?_⟩
 ·have:=(h2 k hk).2;have:=hg.size;simp at this;omega
 ·rcases hgb with hgb | hgb
  ·rcases hv with hv | hv
   ·exact h3 g (Or.inl (hv ▸ hgb)) hX
   ·rw [hv] at hgb
    have:=(h2 g hX).2
    simp at hgb
    omega
  ·exact h3 g (Or.inr hgb) hX
theorem Gat2.set (hP:TreeQ P) {g:Nat} (h:Gat2 P base w v1 v2 a u) (hb:g < base) (o:Nat) (x:Value):Gat2 P base (w.setCell ⟨g,o,none⟩ x) v1 v2 a u:=by
 obtain ⟨X,h1,h2,h3⟩:=h
 exact ⟨X,hP.keep _ _ _ _ _ h1 (AbvX.set (fun e=>by have:=(h2 g e).1;omega) o x),fun k hk=>⟨(h2 k hk).1,by rw [World.size_setCell];exact (h2 k hk).2⟩,h3⟩
theorem Gat2.new (hP:TreeQ P) {B:Nat} (h:P (fromB B) a w u) (hB:base≤B) (hv1:∀ g,v1.ownBlock=some g→g < B) (hv2:∀ g,v2.ownBlock=some g→g < B):Gat2 P base w v1 v2 a u:=
 ⟨fun k=>B≤k∧k < w.heap.size,hP.weak _ _ _ _ _ h (fun k hk hz=>⟨hk,hz⟩),fun k hk=>⟨Nat.le_trans hB hk.1,hk.2⟩,fun g hg hX=>by rcases hg with hg | hg;have:=hv1 g hg;omega;have:=hv2 g hg;omega⟩
end
structure BrI (u:World) (tb gb:Nat) (nm:List UInt8) (pos:Nat) (w:World) (tv bv:Value) (vs1 vs2:List Value):Prop where
 nd:CNode w gb nm (.slice none 0 0) 0 tv bv pos
 o1:w.ownsRow (gb+1) 158 1 tv vs1.length vs1
 o2:w.ownsRow (gb+1) 113 1 bv vs2.length vs2
 od:∀ g,tv.ownBlock=some g→¬ bv.ownBlock=some g
 m:Mod tb u w
section
variable {u:World} {tb gb:Nat} {nm:List UInt8} {pos:Nat} {w w' w5:World} {tv bv v' x:Value} {vs1 vs2:List Value} {o:Obj}
theorem BrI.mod (h:BrI u tb gb nm pos w tv bv vs1 vs2) (hm:Mod tb w w') (hb:tb < gb):BrI u tb gb nm pos w' tv bv vs1 vs2:=
 ⟨blk_mod h.nd hm (by omega),ownsRow_mod (b:=tb) h.o1 hm (by omega),ownsRow_mod (b:=tb) h.o2 hm (by omega),h.od,h.m.trans hm⟩
theorem grown_low {ty:TypeId} {n:Nat} {xs:List Value} (h:w.ownsRow (gb+1) ty 1 tv n xs) (hz:gb < w.heap.size) (hg:(w.alloc o).grownBy w5 tv.ownBlock):∀ k,k < gb+1→w5.heap[k]?=w.heap[k]?:=fun k hk=>by
 rw [hg.block k (by simp;omega) (fun e=>by have:=(h.lt k e.symm).1;omega)]
 exact Below.heap_alloc _ _ _ (by omega)
theorem BrI.app1 (h:BrI u tb gb nm pos w tv bv vs1 vs2) (hgu:u.heap.size≤gb) (hg:(w.alloc o).grownBy w5 tv.ownBlock) (ho:w5.ownsRow (gb+1) 158 1 v' (vs1.length+1) (vs1++[x])) (hat:v'.ownBlock=tv.ownBlock∨v'.ownBlock=some (w.heap.size+1)):BrI u tb gb nm pos (w5.setCell ⟨gb,3,none⟩ v') v' bv (vs1++[x]) vs2:=by
 have hlow:=grown_low h.o1 (blk_lt h.nd) hg
 refine ⟨heap_setCell_at _ _ _ _ _ _ ((hlow gb (Nat.lt_succ_self _)).trans h.nd),ownsRow_setQ (by simpa using ho) (Nat.lt_succ_self _),ownsRow_setQ ((h.o2.alloc o).kept hg ?_) (Nat.lt_succ_self _),fun g hv hb=>?_,((h.m.alloc o).grown hg (fun k hk=>by have:=(h.o1.lt k hk).1;omega)).setNew hgu _ _⟩
 ·cases hb:bv.ownBlock with
  | none=>exact Or.inl rfl
  | some g=>exact Or.inr (fun e=>h.od g e.symm hb)
 ·rcases hat with hat | hat
  ·exact h.od g (hat ▸ hv) hb
  ·rw [hat] at hv
   have:=(h.o2.lt g hb).2
   simp at hv
   omega
theorem BrI.app2 (h:BrI u tb gb nm pos w tv bv vs1 vs2) (hgu:u.heap.size≤gb) (hg:(w.alloc o).grownBy w5 bv.ownBlock) (ho:w5.ownsRow (gb+1) 113 1 v' (vs2.length+1) (vs2++[x])) (hat:v'.ownBlock=bv.ownBlock∨v'.ownBlock=some (w.heap.size+1)):BrI u tb gb nm pos (w5.setCell ⟨gb,4,none⟩ v') tv v' vs1 (vs2++[x]):=by
 have hlow:=grown_low h.o2 (blk_lt h.nd) hg
 refine ⟨heap_setCell_at _ _ _ _ _ _ ((hlow gb (Nat.lt_succ_self _)).trans h.nd),ownsRow_setQ ((h.o1.alloc o).kept hg ?_) (Nat.lt_succ_self _),ownsRow_setQ (by simpa using ho) (Nat.lt_succ_self _),fun g hv hb=>?_,((h.m.alloc o).grown hg (fun k hk=>by have:=(h.o2.lt k hk).1;omega)).setNew hgu _ _⟩
 ·cases hb:tv.ownBlock with
  | none=>exact Or.inl rfl
  | some g=>exact Or.inr (fun e=>h.od g hb e.symm)
 ·rcases hat with hat | hat
  ·exact h.od g hv (hat ▸ hb)
  ·rw [hat] at hb
   have:=(h.o1.lt g hv).2
   simp at hb
   omega
end
structure BrR (n gb:Nat) (w:World) (tv bv:Value) (arms:List (TestT n×List (CmdT n))) (els:List (List (CmdT n))) (vs1 vs2:List Value):Prop where
 r1:RowP (fun a u=>Gat2 (RTest n) (gb+1) w tv bv a u) (arms.map Prod.fst) vs1
 r2:RowP (fun a u=>Gat2 (trY (RCmd n)) (gb+1) w tv bv a u) (arms.map Prod.snd++els) vs2
end
section
open Go.RowKit
attribute [local go_sem ↓] Go.wp_at_zero Go.wp_at_succ
theorem Tryz.infoSlCmd:(Tryz.prog.info? 113).map (fun i=>(i.zero,i.size,i.bytes))=some (some (.slice none 0 0),1,24):=by kernel_rfl
structure BPost (n:Nat) (M:Except Flt ((CLab×List (TestT n×List (CmdT n))×List (CmdT n))×PS)) (u:World) (tb gb:Nat) (l nm:List UInt8) (pos:Nat) (e:Ending) (w':World):Prop where
 e:e=.returned (.tuple #[])
 m:Mod tb u w'
 t:TSt w' tb l (stOf M)
 ok:∀ y,M=.ok y→∃ tv bv,CNode w' gb nm (.slice none 0 0) 0 tv bv pos∧trY (RTest n) (fromB u.heap.size) (y.1.2.1.map Prod.fst) w' tv∧trY (trY (RCmd n)) (fromB u.heap.size) (blocksL y.1) w' bv
theorem BrR.done {n gb:Nat} {u w:World} {tb:Nat} {nm:List UInt8} {pos:Nat} {tv bv:Value} {arms:List (TestT n×List (CmdT n))} {els:List (List (CmdT n))} {vs1 vs2:List Value} (hne:arms≠[]) (h:BrI u tb gb nm pos w tv bv vs1 vs2) (hu:u.heap.size≤gb) (hr:BrR n gb w tv bv arms els vs1 vs2):trY (RTest n) (fromB u.heap.size) (arms.map Prod.fst) w tv∧trY (trY (RCmd n)) (fromB u.heap.size) (arms.map Prod.snd++els) w bv:=by
 have h1:arms.map Prod.fst≠[]:=by simpa using hne
 have h2:arms.map Prod.snd++els≠[]:=by simp;exact fun e=>absurd e hne
 have l1:=row_len hr.r1
 have l2:=row_len hr.r2
 have o1:=h.o1
 have o2:=h.o2
 rw [← l1] at o1
 rw [← l2] at o2
 exact ⟨Or.inr ⟨h1,trX.weakQ (rtest_tree n) h1 (trX.of_ownsQ (rtest_tree n) o1 rfl h1 (hr.r1.imp (fun a u hu=>hu.left))) (fun k hk _=>Nat.le_trans (Nat.le_succ_of_le hu) hk)⟩,
  Or.inr ⟨h2,trX.weakQ (trY_tree (rcmd_tree n)) h2 (trX.of_ownsQ (trY_tree (rcmd_tree n)) o2 rfl h2 (hr.r2.imp (fun a u hu=>hu.swap.left))) (fun k hk _=>Nat.le_trans (Nat.le_succ_of_le hu) hk)⟩⟩
theorem qbranches_any (u:World) (rb tb gb:Nat) (nv:Value) (rq:List (List UInt8)) (l:List UInt8) (F n deep:Nat) (nm:List UInt8) (pos:Nat) (st:Except Flt PS) (w:World) (hr:RdI u rb tb nv rq) (hm:Mod tb u w) (hgu:u.heap.size≤gb) (htu:tb < u.heap.size) (hnode:CNode w gb nm (.slice none 0 0) 0 (.slice none 0 0) (.slice none 0 0) pos) (h:TSt w tb l st) (hl:l.length≤600) (hF:2*l.length+2≤F) (hd:deep≤6) (hT:TOk rb tb nv rq l F n (deep+1)) (hC:COk rb tb nv rq l F n (deep+1)) :
 Calls Tryz.prog 173 #[.pointer (some ⟨rb,0,none⟩),.pointer (some ⟨gb,0,none⟩),.int .i64 deep] w (BPost n (bindS st (cmdBody l F (testL l rq F n) (cmdL l rq F n) 7 pos)) u tb gb l nm pos):=by
 have hgt:gb≠tb:=by omega
 have hru:rb < u.heap.size:=blk_lt hr.r
 have hgr:gb≠rb:=by omega
 obtain ⟨R,hArm,hEnd⟩:=ite_is (w1:=w) (F:=F) (pos:=pos) (tst:=testL l rq F n) (sub:=cmdL l rq F n) h hl hF
 generalize bindS st (cmdBody l F (testL l rq F n) (cmdL l rq F n) 7 pos)=M at hEnd ⊢
 have HARM:=hide hArm
 have HEND:=hide hEnd
 have HR:=hide hr
 have HM:=hide hm
 have HND:=hide hnode
 have H:=hide h
 have HT:=hide hT
 have HC:=hide hC
 have HDT:=hide (fun s hs=>test_dn (l:=l) (req:=rq) (F:=F) n s hs)
 have HDC:=hide (fun s hs=>cmd_dn (l:=l) (req:=rq) (F:=F) n s hs)
 have hms:=muS_le h hl
 obtain ⟨i0,hi,hz0,hz1,hz2⟩:=info_parts Tryz.infoPtrTest
 obtain ⟨j0,hj,hy0,hy1,hy2⟩:=info_parts Tryz.infoSlCmd
 clear hArm hEnd hr hm hnode h hT hC
 go_enter Tryz.func173,Tryz.ntmps173
 go_upto_block 0 with fail
 go_cut [] (fun wx=>∃ (st1:Except Flt PS) (tv bv:Value) (vs1 vs2:List Value),BrI u tb gb nm pos wx tv bv vs1 vs2∧TSt wx tb l st1∧stOf R=st1∧vs2.length≤1301∧∀ y,R=.ok y→y.1≠[]∧BrR n gb wx tv bv y.1 [] vs1 vs2)
 case first=>
  go_wp2_with fail
  go_loopg [6,7] (muS l st) (fun k _ _ wr=>∃ (st1:Except Flt PS) (acc:List (TestT n×List (CmdT n))) (tv bv:Value) (vs1 vs2:List Value),k=muS l st1∧BrI u tb gb nm pos wr tv bv vs1 vs2∧TSt wr tb l st1∧ArmI R l F (testL l rq F n) (cmdL l rq F n) st1 acc∧vs1.length+muS l st1≤1300∧vs2.length+muS l st1≤1300∧∀ s,st1=.ok s→BrR n gb wr tv bv acc [] vs1 vs2)
  case atStart=>exact ⟨st,[],_,_,[],[],rfl,⟨HND.out,World.ownsRow_nil _ _ _ _,World.ownsRow_nil _ _ _ _,fun g h=>(by cases h),HM.out⟩,H.out,HARM.out,by simp;omega,by simp;omega,fun _ _=>⟨trivial,trivial⟩⟩
  case round=>
   obtain ⟨st1,acc,tv,bv,vs1,vs2,rfl,hbi,ht,hj',hlen1,hlen2,hrow⟩:=hrel
   have HBI:=hide hbi
   have HTR:=hide ht
   have HJR:=hide hj'
   have HRW:=hide hrow
   have hwr:gb < wr.heap.size:=blk_lt hbi.nd
   have HCA:=hide (HT.out st1 wr (HR.out.mod hbi.m) ht)
   clear hbi ht hj' hrow hms HND H HM
   go_wp2_with fail
   refine HCA.out.mono ?_
   rintro e w2 h2
   obtain ⟨hm2,ht2,v,rfl,⟨g2,rfl⟩,hv2⟩:=h2.st
   have hbi2:=HBI.out.mod hm2 (by omega)
   have HBI2:=hide hbi2
   have HT2:=hide ht2
   have hown2:=hbi2.o1
   have hw2:gb < w2.heap.size:=blk_lt hbi2.nd
   have t1:w2.cell? ⟨gb,3,none⟩=some tv:=blk_cell hbi2.nd 3
   have HRW2:Hid (∀ z,bindS st1 (testL l rq F n)=.ok z→RowP (fun a u=>Gat2 (RTest n) (gb+1) w2 tv bv a u) ((acc.map Prod.fst)++[z.1]) (vs1++[.pointer (some ⟨g2,0,none⟩)])∧RowP (fun a u=>Gat2 (trY (RCmd n)) (gb+1) w2 tv bv a u) (acc.map Prod.snd++[]) vs2):=by
    intro z hz
    obtain ⟨s,hs⟩:∃ s,st1=.ok s:=by
     cases st1 with
     | ok s=>exact ⟨s,rfl⟩
     | error f=>cases hz
    exact ⟨RowP.snoc (P:=fun a u=>Gat2 (RTest n) (gb+1) w2 tv bv a u) (Gat2.new (rtest_tree n) (hv2 z hz) hwr (fun k hk=>(HBI.out.o1.lt k hk).2) (fun k hk=>(HBI.out.o2.lt k hk).2)) ((HRW.out s hs).r1.imp (fun a u hu=>Gat2.mod (rtest_tree n) (b:=tb) hu hm2 (by omega))),(HRW.out s hs).r2.imp (fun a u hu=>Gat2.mod (trY_tree (rcmd_tree n)) (b:=tb) hu hm2 (by omega))⟩
   clear h2 hm2 ht2 hv2 hbi2 HBI HCA
   go_wp2_with (at_builtin;refine wpList_append_own_at _ rfl _ _ 152 rfl (gb+1) 158 i0 (.pointer none) 1 8 Tryz.underlying152 hi hz0 hz1 hz2 rfl (by decide) _ _ _ rfl (hown2.alloc _) ⟨w2.heap.size,0,none⟩ 1 1 [.pointer (some ⟨g2,0,none⟩)] rfl rfl ?c1 ?c2 ?c3 ?c4 ?c5 ?_)
   case c1=>
    intro j u hj
    match j,hj with
    | 0,hj=>simp at hj;subst hj;simp [Addr.add]
   case c2=>intro u hu;simp at hu;subst hu;rfl
   case c3=>unfold maxLen;omega
   case c4=>omega
   case c5=>simp;omega
   ·intro v' w5 hown5 hgrow _ hat
    have hk5:=grown_low (gb:=gb) hown2 hw2 hgrow
    have hn5:=(hk5 gb (Nat.lt_succ_self _)).trans HBI2.out.nd
    obtain ⟨p5,m5,c5',rfl⟩:=own_form hown5
    obtain ⟨W6,hW6⟩:∃ W6,W6=w5.setCell ⟨gb,3,none⟩ (.slice p5 m5 c5'):=⟨_,rfl⟩
    have HW6:=hide hW6
    have hbi6:=HBI2.out.app1 hgu hgrow hown5 hat
    rw [← hW6] at hbi6
    have HBI6:=hide hbi6
    have HT6:Hid (TSt W6 tb l (stOf (bindS st1 (testL l rq F n)))):=by
     show TSt _ _ _ _
     rw [hW6]
     exact (HT2.out.block (hk5 tb (by omega))).block (Below.heap_setCell _ _ _ _ (Ne.symm hgt))
    have HRW6:Hid (∀ z,bindS st1 (testL l rq F n)=.ok z→RowP (fun a u=>Gat2 (RTest n) (gb+1) W6 (.slice p5 m5 c5') bv a u) ((acc.map Prod.fst)++[z.1]) (vs1++[.pointer (some ⟨g2,0,none⟩)])∧RowP (fun a u=>Gat2 (trY (RCmd n)) (gb+1) W6 (.slice p5 m5 c5') bv a u) (acc.map Prod.snd++[]) vs2):=by
     intro z hz
     rw [hW6]
     exact ⟨(HRW2.out z hz).1.imp (fun a u hu=>Gat2.set (rtest_tree n) (Gat2.grown (rtest_tree n) hu hgrow hat) (Nat.lt_succ_self _) _ _),(HRW2.out z hz).2.imp (fun a u hu=>Gat2.set (trY_tree (rcmd_tree n)) (Gat2.grown (trY_tree (rcmd_tree n)) hu hgrow hat) (Nat.lt_succ_self _) _ _)⟩
    have f5:=fun o=>blk_frozen hn5 o
    have t5:w5.cell? ⟨gb,3,none⟩=some tv:=blk_cell hn5 3
    have hl5:gb < w5.heap.size:=blk_lt hn5
    have hl6:gb < W6.heap.size:=blk_lt hbi6.nd
    have HBL:=hide (qblock_any rb tb nv rq l F n deep _ W6 (HR.out.mod hbi6.m) HT6.out hl hF hd HC.out)
    clear hown5 hgrow hown2 hat hk5 hn5 hW6 hbi6 HBI2 HT2 HRW2 HRW
    go_wp2_with (rw [← HW6.out])
    go_wp2_with fail
    refine HBL.out.mono ?_
    rintro e w7 h7
    obtain ⟨hm7,ht7,v,rfl,⟨p7,m7,c7,rfl⟩,hv7⟩:=h7.st
    have HAS:=hide (arm_step HDT.out HDC.out HJR.out HTR.out rfl ht7)
    have hbi7:=HBI6.out.mod hm7 (by omega)
    have HBI7:=hide hbi7
    have HT7:=hide ht7
    have hown7:=hbi7.o2
    have hw7:gb < w7.heap.size:=blk_lt hbi7.nd
    have t7:w7.cell? ⟨gb,4,none⟩=some bv:=blk_cell hbi7.nd 4
    have HRW7:Hid (∀ z x,bindS st1 (testL l rq F n)=.ok z→bindS (stOf (bindS st1 (testL l rq F n))) (blockL l F (cmdL l rq F n))=.ok x→RowP (fun a u=>Gat2 (RTest n) (gb+1) w7 (.slice p5 m5 c5') bv a u) ((acc.map Prod.fst)++[z.1]) (vs1++[.pointer (some ⟨g2,0,none⟩)])∧RowP (fun a u=>Gat2 (trY (RCmd n)) (gb+1) w7 (.slice p5 m5 c5') bv a u) ((acc.map Prod.snd++[])++[x.1]) (vs2++[.slice p7 m7 c7])):=by
     intro z x hz hx
     exact ⟨(HRW6.out z hz).1.imp (fun a u hu=>Gat2.mod (rtest_tree n) (b:=tb) hu hm7 (by omega)),RowP.snoc (P:=fun a u=>Gat2 (trY (RCmd n)) (gb+1) w7 (.slice p5 m5 c5') bv a u) (Gat2.new (trY_tree (rcmd_tree n)) (hv7 x hx) hl6 (fun k hk=>(HBI6.out.o1.lt k hk).2) (fun k hk=>(HBI6.out.o2.lt k hk).2)) ((HRW6.out z hz).2.imp (fun a u hu=>Gat2.mod (trY_tree (rcmd_tree n)) (b:=tb) hu hm7 (by omega)))⟩
    obtain ⟨st3,hst3⟩:∃ st3,stOf (bindS (stOf (bindS st1 (testL l rq F n))) (blockL l F (cmdL l rq F n)))=st3:=⟨_,rfl⟩
    rw [hst3] at HAS HT7
    clear h7 hm7 ht7 hv7 hbi7 HBI6 HBL HT6 HRW6 hst3 HTR HJR
    go_wp2_with (at_builtin;refine wpList_append_own_at _ rfl _ _ 153 rfl (gb+1) 113 j0 (.slice none 0 0) 1 24 Tryz.underlying153 hj hy0 hy1 hy2 rfl (by decide) _ _ _ rfl (hown7.alloc _) ⟨w7.heap.size,0,none⟩ 1 1 [.slice p7 m7 c7] rfl rfl ?c1 ?c2 ?c3 ?c4 ?c5 ?_)
    case c1=>
     intro j u hj
     match j,hj with
     | 0,hj=>simp at hj;subst hj;simp [Addr.add]
    case c2=>intro u hu;simp at hu;subst hu;rfl
    case c3=>unfold maxLen;omega
    case c4=>omega
    case c5=>simp;omega
    ·intro v'' w8 hown8 hgrow _ hat
     have hk8:=grown_low (gb:=gb) hown7 hw7 hgrow
     have hn8:=(hk8 gb (Nat.lt_succ_self _)).trans HBI7.out.nd
     obtain ⟨p8,m8,c8,rfl⟩:=own_form hown8
     obtain ⟨W9,hW9⟩:∃ W9,W9=w8.setCell ⟨gb,4,none⟩ (.slice p8 m8 c8):=⟨_,rfl⟩
     have HW9:=hide hW9
     have hbi9:=HBI7.out.app2 hgu hgrow hown8 hat
     rw [← hW9] at hbi9
     have HBI9:=hide hbi9
     have HT9:Hid (TSt W9 tb l st3):=by
      show TSt _ _ _ _
      rw [hW9]
      exact (HT7.out.block (hk8 tb (by omega))).block (Below.heap_setCell _ _ _ _ (Ne.symm hgt))
     have HRW9:Hid (∀ z x,bindS st1 (testL l rq F n)=.ok z→bindS (stOf (bindS st1 (testL l rq F n))) (blockL l F (cmdL l rq F n))=.ok x→BrR n gb W9 (.slice p5 m5 c5') (.slice p8 m8 c8) (acc++[(z.1,x.1)]) [] (vs1++[.pointer (some ⟨g2,0,none⟩)]) (vs2++[.slice p7 m7 c7])):=by
      intro z x hz hx
      rw [hW9]
      refine ⟨?_,?_⟩
      ·rw [List.map_append]
       exact (HRW7.out z x hz hx).1.imp (fun a u hu=>Gat2.set (rtest_tree n) (Gat2.grown (rtest_tree n) hu.swap hgrow hat).swap (Nat.lt_succ_self _) _ _)
      ·rw [List.map_append,List.append_nil]
       have:=(HRW7.out z x hz hx).2
       rw [List.append_nil] at this
       exact this.imp (fun a u hu=>Gat2.set (trY_tree (rcmd_tree n)) (Gat2.grown (trY_tree (rcmd_tree n)) hu.swap hgrow hat).swap (Nat.lt_succ_self _) _ _)
     have f8:=fun o=>blk_frozen hn8 o
     have t8:w8.cell? ⟨gb,4,none⟩=some bv:=blk_cell hn8 4
     have hl8:gb < w8.heap.size:=blk_lt hn8
     obtain ⟨q2,q4,q5,_,_⟩:=HT9.out.cells
     have qr:W9.cell? ⟨rb,0,none⟩=some (.pointer (some ⟨tb,0,none⟩)):=blk_cell (HR.out.mod hbi9.m).r 0
     have e5:((strA (wordS l st3).2.1).toList == [101,108,115,105,102])=decide ((wordS l st3).2.1=kElsif):=str_eq _ _
     have e6:((strA (wordS l st3).2.1).toList != [101,108,115,105,102])=!decide ((wordS l st3).2.1=kElsif):=by show (!((strA (wordS l st3).2.1).toList == _))=_;rw [str_eq];rfl
     clear hown8 hgrow hown7 hat hk8 hn8 hW9 hbi9 HBI7 HT7 HRW7
     by_cases hk:(wordS l st3).1=119∧(wordS l st3).2.1=kElsif
     ·obtain ⟨he,hmu,z1,z2,hzz1,hzz2,hx⟩:=HAS.out.1 hk
      have hkb:(((wordS l st3).1:Int) != 119)=false:=by simp;omega
      have heb:((errS st3:Int) != 0)=false:=by simp;omega
      rw [decide_eq_true hk.2] at e5 e6
      have HX:=hide hx
      have HZ:=hide (HRW9.out z1 z2 hzz1 hzz2)
      clear hx hzz1 hzz2 HAS hk
      go_wp2_with (rw [← HW9.out])
      go_wp2_with fail
      refine (qnext_st tb l st3 _ (HT9.out.block rfl) hl).mono ?_
      rintro e wa ⟨rfl,hma,hta⟩
      have HTA:=hide hta
      have HBA:=hide (HBI9.out.mod hma (by omega))
      have HRA:Hid (BrR n gb wa (.slice p5 m5 c5') (.slice p8 m8 c8) (acc++[(z1.1,z2.1)]) [] (vs1++[.pointer (some ⟨g2,0,none⟩)]) (vs2++[.slice p7 m7 c7])):=⟨HZ.out.r1.imp (fun a u hu=>Gat2.mod (rtest_tree n) (b:=tb) hu hma (by omega)),HZ.out.r2.imp (fun a u hu=>Gat2.mod (trY_tree (rcmd_tree n)) (b:=tb) hu hma (by omega))⟩
      clear hma hta
      go_wp2
      go_roundg (muS l (nextS l st3))
      case measure=>exact hmu
      case rel=>exact ⟨nextS l st3,_,_,_,_,_,rfl,HBA.out,HTA.out,HX.out,by simp;omega,by simp;omega,fun _ _=>HRA.out⟩
     ·obtain ⟨hR,hy⟩:=HAS.out.2 hk
      have HY:=hide hy
      have HFIN:Hid (∃ (st1:Except Flt PS) (tv bv:Value) (vs1 vs2:List Value),BrI u tb gb nm pos W9 tv bv vs1 vs2∧TSt W9 tb l st1∧stOf R=st1∧vs2.length≤1301∧∀ y,R=.ok y→y.1≠[]∧BrR n gb W9 tv bv y.1 [] vs1 vs2):=by
       refine ⟨st3,_,_,_,_,HBI9.out,HT9.out,hR,by simp;omega,fun y e=>?_⟩
       obtain ⟨z1,z2,h1,h2,hh⟩:=HY.out y e
       rw [hh]
       exact ⟨by simp,HRW9.out z1 z2 h1 h2⟩
      clear hy HAS HY hR
      by_cases hk1:(wordS l st3).1=119
      ·have hkb:(((wordS l st3).1:Int) != 119)=false:=by simp;omega
       have heb:((errS st3:Int) != 0)=false:=by obtain ⟨s,hs,_,_⟩:=ok_word HT9.out hk1;rw [hs];rfl
       rw [decide_eq_false (fun e=>hk ⟨hk1,e⟩)] at e5 e6
       clear hk hk1
       go_wp2_with (rw [← HW9.out])
       go_wp2
       go_meet
       exact HFIN.out
      ·have hkb:(((wordS l st3).1:Int) != 119)=true:=by simp;omega
       clear hk hk1 e5 e6
       cases heb:((errS st3:Int) != 0)
       all_goals go_wp2_with (rw [← HW9.out])
       all_goals go_wp2
       all_goals go_meet
       all_goals exact HFIN.out
 case rest=>
  obtain ⟨st1,tv,bv,vs1,vs2,hbi,ht,hR,hlen,hy⟩:=hcut
  rw [← hR] at ht
  obtain ⟨hE1,hE2⟩:=HEND.out wc ht
  rw [hR] at hE1 hE2 ht
  have HBI:=hide hbi
  have HTR:=hide ht
  have HY:=hide hy
  have hwc:gb < wc.heap.size:=blk_lt hbi.nd
  have e5:((strA (wordS l st1).2.1).toList == [101,108,115,101])=decide ((wordS l st1).2.1=kElse):=str_eq _ _
  obtain ⟨q2,q4,q5,_,_⟩:=ht.cells
  have qr:wc.cell? ⟨rb,0,none⟩=some (.pointer (some ⟨tb,0,none⟩)):=blk_cell (HR.out.mod hbi.m).r 0
  have HRR:=hide hR
  have HE1:=hide hE1
  have HE2:=hide hE2
  clear hbi ht hy hR hE1 hE2 HEND HARM HM HND H HT
  by_cases hk:(wordS l st1).1=119∧(wordS l st1).2.1=kElse
  ·obtain ⟨hS,hO⟩:=HE1.out hk
   have hkb:(((wordS l st1).1:Int) == 119)=true:=by simp;omega
   have heb:((errS st1:Int) == 0)=true:=by obtain ⟨s,hs,_,_⟩:=ok_word HTR.out hk.1;rw [hs];rfl
   rw [decide_eq_true hk.2] at e5
   have HS:=hide hS
   have HO:=hide hO
   clear hS hO HE1 HE2 hk
   go_wp2_with fail
   refine (qnext_st tb l st1 _ (HTR.out.block rfl) hl).mono ?_
   rintro e w2 ⟨rfl,hm2,ht2⟩
   have hbi2:=HBI.out.mod hm2 (by omega)
   have HBI2:=hide hbi2
   have HY2:Hid (∀ y,R=.ok y→y.1≠[]∧BrR n gb w2 tv bv y.1 [] vs1 vs2):=fun y e=>⟨(HY.out y e).1,(HY.out y e).2.r1.imp (fun a u hu=>Gat2.mod (rtest_tree n) (b:=tb) hu hm2 (by omega)),(HY.out y e).2.r2.imp (fun a u hu=>Gat2.mod (trY_tree (rcmd_tree n)) (b:=tb) hu hm2 (by omega))⟩
   have hl2:gb < w2.heap.size:=blk_lt hbi2.nd
   have HBL:=hide (qblock_any rb tb nv rq l F n deep _ w2 (HR.out.mod hbi2.m) ht2 hl hF hd HC.out)
   clear hm2 ht2 hbi2 HBI HY
   go_wp2_with fail
   refine HBL.out.mono ?_
   rintro e w7 h7
   obtain ⟨hm7,ht7,v,rfl,⟨p7,m7,c7,rfl⟩,hv7⟩:=h7.st
   have hbi7:=HBI2.out.mod hm7 (by omega)
   have HBI7:=hide hbi7
   have HT7:=hide ht7
   have hown7:=hbi7.o2
   have hw7:gb < w7.heap.size:=blk_lt hbi7.nd
   have t7:w7.cell? ⟨gb,4,none⟩=some bv:=blk_cell hbi7.nd 4
   have HRW7:Hid (∀ y x,R=.ok y→bindS (nextS l st1) (blockL l F (cmdL l rq F n))=.ok x→RowP (fun a u=>Gat2 (RTest n) (gb+1) w7 tv bv a u) (y.1.map Prod.fst) vs1∧RowP (fun a u=>Gat2 (trY (RCmd n)) (gb+1) w7 tv bv a u) ((y.1.map Prod.snd++[])++[x.1]) (vs2++[.slice p7 m7 c7])):=by
    intro z x hz hx
    exact ⟨(HY2.out z hz).2.r1.imp (fun a u hu=>Gat2.mod (rtest_tree n) (b:=tb) hu hm7 (by omega)),RowP.snoc (P:=fun a u=>Gat2 (trY (RCmd n)) (gb+1) w7 tv bv a u) (Gat2.new (trY_tree (rcmd_tree n)) (hv7 x hx) hl2 (fun k hk=>(HBI2.out.o1.lt k hk).2) (fun k hk=>(HBI2.out.o2.lt k hk).2)) ((HY2.out z hz).2.r2.imp (fun a u hu=>Gat2.mod (trY_tree (rcmd_tree n)) (b:=tb) hu hm7 (by omega)))⟩
   clear h7 hm7 ht7 hv7 hbi7 HBI2 HBL
   go_wp2_with (at_builtin;refine wpList_append_own_at _ rfl _ _ 153 rfl (gb+1) 113 j0 (.slice none 0 0) 1 24 Tryz.underlying153 hj hy0 hy1 hy2 rfl (by decide) _ _ _ rfl (hown7.alloc _) ⟨w7.heap.size,0,none⟩ 1 1 [.slice p7 m7 c7] rfl rfl ?c1 ?c2 ?c3 ?c4 ?c5 ?_)
   case c1=>
    intro j u hj
    match j,hj with
    | 0,hj=>simp at hj;subst hj;simp [Addr.add]
   case c2=>intro u hu;simp at hu;subst hu;rfl
   case c3=>unfold maxLen;omega
   case c4=>omega
   case c5=>simp;omega
   ·intro v'' w8 hown8 hgrow _ hat
    have hk8:=grown_low (gb:=gb) hown7 hw7 hgrow
    have hn8:=(hk8 gb (Nat.lt_succ_self _)).trans HBI7.out.nd
    obtain ⟨p8,m8,c8,rfl⟩:=own_form hown8
    obtain ⟨W9,hW9⟩:∃ W9,W9=w8.setCell ⟨gb,4,none⟩ (.slice p8 m8 c8):=⟨_,rfl⟩
    have HW9:=hide hW9
    have hbi9:=HBI7.out.app2 hgu hgrow hown8 hat
    rw [← hW9] at hbi9
    have HBI9:=hide hbi9
    have HT9:Hid (TSt W9 tb l (stOf (bindS (nextS l st1) (blockL l F (cmdL l rq F n))))):=by
     show TSt _ _ _ _
     rw [hW9]
     exact (HT7.out.block (hk8 tb (by omega))).block (Below.heap_setCell _ _ _ _ (Ne.symm hgt))
    have HRW9:Hid (∀ y x,R=.ok y→bindS (nextS l st1) (blockL l F (cmdL l rq F n))=.ok x→BrR n gb W9 tv (.slice p8 m8 c8) y.1 [x.1] vs1 (vs2++[.slice p7 m7 c7])):=by
     intro z x hz hx
     rw [hW9]
     refine ⟨(HRW7.out z x hz hx).1.imp (fun a u hu=>Gat2.set (rtest_tree n) (Gat2.grown (rtest_tree n) hu.swap hgrow hat).swap (Nat.lt_succ_self _) _ _),?_⟩
     have:=(HRW7.out z x hz hx).2
     rw [List.append_nil] at this
     exact this.imp (fun a u hu=>Gat2.set (trY_tree (rcmd_tree n)) (Gat2.grown (trY_tree (rcmd_tree n)) hu.swap hgrow hat).swap (Nat.lt_succ_self _) _ _)
    have f8:=fun o=>blk_frozen hn8 o
    have t8:w8.cell? ⟨gb,4,none⟩=some bv:=blk_cell hn8 4
    have hl8:gb < w8.heap.size:=blk_lt hn8
    clear hown8 hgrow hown7 hat hk8 hn8 hW9 hbi9 HBI7 HT7 HRW7
    go_wp2_with (rw [← HW9.out])
    go_wp2
    go_end0
    try rw [← HW9.out]
    refine ⟨rfl,HBI9.out.m,by rw [HS.out];exact HT9.out,fun y hy=>?_⟩
    obtain ⟨z,x,hz,hx,hyy⟩:=HO.out y hy
    rw [hyy]
    exact ⟨tv,_,HBI9.out.nd,(BrR.done (HY2.out z hz).1 HBI9.out hgu (HRW9.out z x hz hx)).1,(BrR.done (HY2.out z hz).1 HBI9.out hgu (HRW9.out z x hz hx)).2⟩
  ·obtain ⟨hS,hO⟩:=HE2.out hk
   have HFIN:Hid (BPost n M u tb gb l nm pos (.returned (.tuple #[])) wc):=by
    refine ⟨rfl,HBI.out.m,by rw [hS];exact HTR.out,fun y hy=>?_⟩
    obtain ⟨z,hz,hyy⟩:=hO y hy
    rw [hyy]
    exact ⟨tv,bv,HBI.out.nd,(BrR.done (HY.out z hz).1 HBI.out hgu (HY.out z hz).2).1,(BrR.done (HY.out z hz).1 HBI.out hgu (HY.out z hz).2).2⟩
   clear hS hO HE1 HE2
   by_cases hk1:(wordS l st1).1=119
   ·have hkb:(((wordS l st1).1:Int) == 119)=true:=by simp;omega
    have heb:((errS st1:Int) == 0)=true:=by obtain ⟨s,hs,_,_⟩:=ok_word HTR.out hk1;rw [hs];rfl
    rw [decide_eq_false (fun e=>hk ⟨hk1,e⟩)] at e5
    clear hk hk1
    go_wp2
    go_end0
    exact HFIN.out
   ·have hkb:(((wordS l st1).1:Int) == 119)=false:=by simp;omega
    clear hk hk1 e5
    cases heb:((errS st1:Int) == 0)
    all_goals go_wp2
    all_goals go_end0
    all_goals exact HFIN.out
end
end Go.Proofs.YtgnkjijocdmniaaGreatDoor
