import Derived.Deep.RegionHeld3
import Derived.Deep.AppendLies
import Derived.Deep.RegionWith
import Derived.Deep.RegionLaw
import Derived.Lib.ConvBytes
import Derived.Lib.AtoiErrMem
import Derived.Maps.OwnOps
import Derived.Test.YtenahlandohgaaaGreatDoorZAIsBox
import Derived.Test.YtenahlandohgaaaGreatDoorZDDisk
namespace Go.Proofs.YtenahlandohgaaaGreatDoor
set_option linter.unusedVariables false
set_option linter.unusedSimpArgs false
set_option maxRecDepth 100000
set_option maxHeartbeats 4000000
section
open Go.RowKit
attribute [local go_sem ↓] Go.wp_at_zero Go.wp_at_succ
theorem four_op (w:World) (o:Dop) (t:TypeId):∀ j u,(ocell o)[j]?=some u→(w.alloc (.cells #[.int .i64 o.kind,.string (strA o.name),.string ⟨#[]⟩,.string (strA o.data)] t)).cell? ((⟨w.heap.size,0,none⟩:Addr).add j)=some u:=by
 intro j u h
 rw [addr_add0,blk_cell (blk_new w _),← h]
 simp [ocell]
theorem one_op (o:Dop):∀ u∈ocell o,u.oneCell'=true:=by
 intro u hu
 unfold ocell at hu
 simp at hu
 rcases hu with rfl | rfl | rfl | rfl <;> rfl
end
section
open Go.RowKit
attribute [local go_sem ↓] Go.wp_at_zero Go.wp_at_succ
theorem heap_setCell_fr (w:World) (b o:Nat) (v:Value) (cs:Array Value) (ty:TypeId) (fr:Nat×Nat) (h:w.heap[b]?=some (.cells cs ty fr)):(w.setCell ⟨b,o,none⟩ v).heap[b]?=some (.cells (cs.setIfInBounds o v) ty fr):=by
 have hb:=blk_lt h
 simp [World.setCell,Array.getElem?_modify,h]
def PBy (gb:Nat) (k:Nat) (o:Obj):Prop:=k=gb∧∃ cs fr,o=.cells cs 5 fr
structure BI (w:World) (gb n:Nat):Prop where
 blk:∃ cs fr,w.heap[gb]?=some (.cells cs 5 fr)
 cel:∀ j,j < n→∃ v,w.cell? ⟨gb,j,none⟩=some v
 frz:∀ j,j < n→w.frozen? ⟨gb,j,none⟩=false
theorem BI.fr {P:Nat→Obj→Prop} {w w':World} {gb n:Nat} (h:BI w gb n) (hf:Fr P w w') (hp:∀ k cs fr,¬ P k (.cells cs 5 fr)):BI w' gb n:=by
 obtain ⟨cs,fr,hb⟩:=h.blk
 have hb':=hf.block _ _ hb (hp _ _ _)
 refine ⟨⟨cs,fr,hb'⟩,fun j hj=>?_,fun j hj=>?_⟩
 ·obtain ⟨v,hv⟩:=h.cel j hj
  exact ⟨v,by rw [World.cell?_of_block (a:=⟨gb,j,none⟩) (hb'.trans hb.symm)];exact hv⟩
 ·rw [World.frozen?_of_block (a:=⟨gb,j,none⟩) (hb'.trans hb.symm)];exact h.frz j hj
theorem BI.set {w:World} {gb n:Nat} (h:BI w gb n) (k:Nat) (v:Value):BI (w.setCell ⟨gb,k,none⟩ v) gb n:=by
 obtain ⟨cs,fr,hb⟩:=h.blk
 refine ⟨⟨_,_,heap_setCell_fr _ _ _ _ _ _ _ hb⟩,fun j hj=>?_,fun j hj=>?_⟩
 ·obtain ⟨u,hu⟩:=h.cel j hj
  by_cases e:j=k
  ·subst e;exact ⟨_,World.cell?_setCell_same _ _ _ hu⟩
  ·exact ⟨u,by rw [World.cell?_setCell_other _ _ _ _ (by simp [e])];exact hu⟩
 ·rw [World.frozen?_setCell];exact h.frz j hj
theorem PBy.set {w:World} {gb n:Nat} (h:BI w gb n) (k:Nat) (v:Value):Fr (PBy gb) w (w.setCell ⟨gb,k,none⟩ v):=by
 obtain ⟨cs,fr,hb⟩:=h.blk
 exact (Fr.refl _ w).set hb ⟨rfl,_,_,rfl⟩ k v
theorem PDk.notBy {B k:Nat} {cs:Array Value} {fr:Nat×Nat}:¬ PDk B k (.cells cs 5 fr):=by
 rintro ⟨_,⟨cs',e⟩ | ⟨es,c,e⟩ | ⟨cs',e⟩⟩
 ·injection e with e1 e2;exact absurd e2 (by decide)
 ·cases e
 ·injection e with e1 e2;exact absurd e2 (by decide)
end
section
open Go.RowKit
attribute [local go_sem ↓] Go.wp_at_zero Go.wp_at_succ
def OpsOk (p:List Dop):Prop:=∀ o∈p,(o.kind=1∨o.kind=3)∧o.name.length≤1000000
theorem ocells_at (l:List Dop) (j:Nat) (hj:j < l.length):(ocells l)[j*4]?=some (.int .i64 l[j].kind)∧(ocells l)[j*4+1]?=some (.string (strA l[j].name))∧(ocells l)[j*4+2]?=some (.string ⟨#[]⟩)∧(ocells l)[j*4+3]?=some (.string (strA l[j].data)):=by
 induction l generalizing j with
 | nil=>exact absurd hj (Nat.not_lt_zero _)
 | cons a r ih=>
  have e:ocells (a :: r)=.int .i64 a.kind :: .string (strA a.name) :: .string ⟨#[]⟩ :: .string (strA a.data) :: ocells r:=rfl
  rw [e]
  cases j with
  | zero=>exact ⟨rfl,rfl,rfl,rfl⟩
  | succ j=>
   have h:=ih j (by simpa using hj)
   have e1:(j+1)*4=j*4+4:=by omega
   rw [e1]
   exact h
theorem ops_nil (w:World) (B:Nat):w.ownsRow B 116 4 (.slice none 0 0) ([]:List Dop).length (ocells []):=⟨rfl,Or.inl ⟨rfl,rfl⟩⟩
theorem ddo_any (b n:Nat) (F:Fs) (o:Dop) (w:World) (h:MapF w b n F) (hn:n≤1000000) (hk:o.kind=1∨o.kind=3) (hx:o.name.length≤1000000) :
 Calls Tryz.prog 52 #[.map (some b),.agg #[.int .i64 o.kind,.string (strA o.name),.string ⟨#[]⟩,.string (strA o.data)]] w fun e w'=>e=.returned (.tuple #[])∧MapF w' b (n+1) (doF F o)∧Fr (PMap b) w w':=by
 obtain ⟨k,x,s⟩:=o
 rcases hk with hk | hk
 ·cases hk
  exact do_put b n F x s w h hn hx
 ·cases hk
  exact (do_del b n F x s w h hx).mono fun e w' ⟨h1,h2,h3⟩=>⟨h1,h2.mono (Nat.le_succ _),h3⟩
end
section
open Go.RowKit Go.Maps
attribute [local go_sem ↓] Go.wp_at_zero Go.wp_at_succ
def DBlk (w:World) (db bd:Nat) (nv pv:Value) (q:Int) (b:Bool):Prop:=w.heap[db]?=some (.cells #[.map (some bd),nv,pv,.int .i64 q,.int .i64 q,.bool b] 84)
theorem Fr.newGrown {P:Nat→Obj→Prop} {u w w':World} {r:Nat} (h:Fr P u w) (hg:w.grownBy w' (some r)) (hr:u.heap.size≤r):Fr P u w':=
 ⟨hg.os.trans h.os,hg.tape.trans h.tape,hg.output.trans h.output,Nat.le_trans h.size hg.size,fun i o hi hn=>by
  have h1:=h.block i o hi hn
  have h2:=blk_lt hi
  rw [hg.block i (blk_lt h1) (fun e=>by have:=Option.some.inj e;omega)];exact h1⟩
theorem blk_grown {w w':World} {r g:Nat} {o:Obj} (h:w.heap[g]?=some o) (hg:w.grownBy w' (some r)) (hr:g≠r):w'.heap[g]?=some o:=by
 rw [hg.block g (blk_lt h) (fun e=>hr (Option.some.inj e))];exact h
theorem invK:∀ key kl,keyOf Tryz.prog 9 key=some kl→∃ x,key=encStr x:=fun key kl hk=>by obtain ⟨x,hx,_⟩:=Maps.keyOf_str strT hk;exact ⟨x,hx⟩
abbrev ptrV (k:Nat):Value:=.pointer (some ⟨k,0,none⟩)
theorem invV:∀ v y,ptrR v=some y→∃ k,v=ptrV k:=fun v y hv=>by obtain ⟨k,h,_⟩:=ptrR_inv hv;exact ⟨k,h⟩
theorem up_any (B db bd n:Nat) (D:Fs) (nv pv:Value) (q:Int) (b:Bool) (w:World) (hb:B≤db∧B≤bd) (hblk:DBlk w db bd nv pv q b) (hm:MapF w bd n D) (hn:n≤500000) :
 Calls Tryz.prog 33 #[.pointer (some ⟨db,0,none⟩)] w fun e w'=>e=.returned (.tuple #[])∧DI w' B db bd w.heap.size n D D [] q (.slice none 0 0)∧Fr (PDk B) w w':=by
 obtain ⟨D0,hown,hFs⟩:=hm
 have hmm:=@run_makeMap Tryz.prog
 have hbl:=hown.lt
 have hdl:db < w.heap.size:=blk_lt hblk
 have hne:¬ w.heap.size=db:=by omega
 have hf0:Fr (PDb db) w (w.setCell ⟨db,1,none⟩ (.map (some w.heap.size))):=(Fr.refl _ _).set hblk ⟨rfl,_,rfl⟩ 1 _
 obtain ⟨W,hW⟩:∃ W,W=(w.setCell ⟨db,1,none⟩ (.map (some w.heap.size))).alloc (.map #[] 0):=⟨_,rfl⟩
 have hFW:Fr (PDb db) w W:=by rw [hW];exact hf0.alloc _
 have hWb:W.heap[db]?=some (.cells #[.map (some bd),.map (some w.heap.size),pv,.int .i64 q,.int .i64 q,.bool b] 84):=by rw [hW];exact blk_alloc (heap_setCell_at _ _ _ _ _ _ hblk)
 have hownW:=ownsMap_fr hown hFW (fun es c ⟨_,cs,e⟩=>by cases e)
 have hss:(w.setCell ⟨db,1,none⟩ (.map (some w.heap.size))).heap.size=w.heap.size:=by simp
 have houtW:W.ownsMap (H:=Unit) Tryz.prog 9 ptrR w.heap.size 0 (.map []):=by
  rw [hW]
  have:=World.ownsMap_made (H:=Unit) (w.setCell ⟨db,1,none⟩ (.map (some w.heap.size))) Tryz.prog 9 ptrR
  rw [hss] at this
  exact this
 have hWs:W.heap.size=w.heap.size+1:=by rw [hW];simp
 have c0:w.cell? ⟨db,0,none⟩=some (.map (some bd)):=blk_cell hblk 0
 have c1:w.cell? ⟨db,1,none⟩=some nv:=blk_cell hblk 1
 have c2:∀ j,w.frozen? ⟨db,j,none⟩=false:=fun j=>blk_frozen hblk j
 have HFW:=hide hFW
 have HFS:=hide hFs
 have HOW:=hide hownW
 have HOU:=hide houtW
 have HWB:=hide hWb
 have HCD:=hide (hown.canon strK)
 have HSZ:=hide (World.ownsMap.size_le hown)
 have hownE:=hownW
 rw [hW] at hownE
 have hWsE:=hWs
 rw [hW] at hWsE
 have HWW:=hide hW
 clear hFW hFs houtW hblk hW hf0 hWb
 go_enter Tryz.func33,Tryz.ntmps33
 go_wp2_with (first | (at_range;refine wpList_range_own _ rfl _ 81 rfl 9 87 strK mapT _ bd n _ rfl hownE ?_;intro w0 hrg0 hg0 hs0) | go_in)
 go_frame
 rw [hWsE] at hrg0 hs0 ⊢
 rw [← HWW.out] at hg0
 have HF0:Hid (Fr (PDk B) w w0):=(HFW.out.mono (fun k o h=>h.toK hb.1)).newGrown (r:=w.heap.size+1) ⟨hg0.os,hg0.tape,hg0.output,hg0.size,fun i hi _=>hg0.block i hi (by simp)⟩ (by omega)
 have HB0:Hid (w0.heap[db]?=some (.cells #[.map (some bd),.map (some w.heap.size),pv,.int .i64 q,.int .i64 q,.bool b] 84)):=(hg0.block db (blk_lt HWB.out) (by simp)).trans HWB.out
 have HO0:=hide (HOU.out.kept hg0 (by simp))
 have hb1:=hb.1
 have hb2:=hb.2
 clear c0 c1 c2 hownE hWsE hg0 hs0 hmm
 go_loopw [2,3] (fun _ _ wr=>∃ (left:Lit→Bool) (cnt k:Nat) (Dout:DataW Unit),wr.ranges Tryz.prog 9 ptrR bd (w.heap.size+1) n D0 left cnt∧k+cnt≤n∧wr.ownsMap Tryz.prog 9 ptrR w.heap.size k Dout∧Agree Dout D0 left∧wr.heap[db]?=some (.cells #[.map (some bd),.map (some w.heap.size),pv,.int .i64 q,.int .i64 q,.bool b] 84)∧Fr (PDk B) w wr) (fun _ _ wr=>wr.rangeLeft bd (w.heap.size+1))
 case atStart=>exact ⟨_,_,0,.map [],hrg0,by have:=HSZ.out;omega,HO0.out,agree_start D0,HB0.out,HF0.out⟩
 case round=>
  obtain ⟨left,cnt,k,Dout,hrg,hcs,hout,hA,hblk,hF⟩:=hrel
  have HA:=hide hA
  have HBK:=hide hblk
  have HF:=hide hF
  clear hA hF hrg0
  go_wp2_with (first | (at_next;refine wpList_next_ranges _ rfl _ rfl 9 strK ptrR encStr ptrV invK invV bd (w.heap.size+1) n _ _ _ rfl hrg ?_ ?_) | go_in)
  ·intro hc0 hl0
   have d2:wr.cell? ⟨db,2,none⟩=some pv:=blk_cell hblk 2
   have d5:wr.cell? ⟨db,5,none⟩=some (.bool b):=blk_cell hblk 5
   have fz:∀ j,wr.frozen? ⟨db,j,none⟩=false:=fun j=>blk_frozen hblk j
   have HE:=hide (agree_end HA.out hl0 (hout.canon strK) HCD.out)
   clear hblk
   go_wp2
   go_end0
   have g1:=heap_setCell_at _ _ 2 (.slice none 0 0) _ _ HBK.out
   have g2:=heap_setCell_at _ _ 5 (.bool false) _ _ g1
   have f1:=(Fr.refl (PDb db) wr).set HBK.out ⟨rfl,_,rfl⟩ 2 (.slice none 0 0)
   have f2:=f1.set g1 ⟨rfl,_,rfl⟩ 5 (.bool false)
   have hF2:=HF.out.trans (f2.mono (fun k o h=>h.toK hb1))
   have hFs2:=HFS.out.fr hF2 (fun k cs ⟨_,h⟩=>by
    rcases h with ⟨cs',e⟩ | ⟨es,c,e⟩ | ⟨cs',e⟩
    ·injection e with e1 e2;exact absurd e2 (by decide)
    ·cases e
    ·injection e with e1 e2;exact absurd e2 (by decide))
   have ho2:=ownsMap_fr hout f2 (fun es c ⟨_,cs,e⟩=>by cases e)
   rw [HE.out] at ho2
   exact ⟨rfl,⟨⟨hb1,hb2,by omega⟩,by omega,g2,⟨D0,ownsMap_fr hrg.owns f2 (fun es c ⟨_,cs,e⟩=>by cases e),hFs2⟩,⟨D0,ho2.mono (by omega),hFs2⟩,ops_nil _ _⟩,hF2⟩
  ·intro x c kl yd yp w1 cnt1 hkey hlk hv hat hrg1 hlt hg1 hs1 hen
   obtain ⟨x',ex,rfl,hxl⟩:=Maps.keyOf_str strT hkey
   obtain rfl:x=x':=encStr_inj ex
   have hvd:yd=.lit (.int .i64 c):=by
    have:=(ptrR_mk c).symm.trans hv
    cases this;rfl
   subst hvd
   have hblk1:=blk_grown hblk hg1 (by omega)
   have hout1:=hout.kept hg1 (by simp)
   have q1:w1.cell? ⟨db,1,none⟩=some (.map (some w.heap.size)):=blk_cell hblk1 1
   have HB1:=hide hblk1
   have HF1:=hide (HF.out.newGrown hg1 (by omega))
   have HHK:=hide hkey
   clear hs1 hblk hblk1 ex hkey hv
   go_wp2_with (first | (at_mapUpdate;refine wpList_mapUpdate_own _ rfl _ _ _ 81 rfl 9 87 strK mapT _ w.heap.size _ _ rfl hout1 (by unfold maxLen;omega) _ _ _ rfl rfl HHK.out _ [] (ptrR_mk c) ?_;intro w2 hout2 hg2;go_frame) | go_in)
   have hrg2:=hrg1.kept hg2 (fun e=>by have:=Option.some.inj e;omega) (fun e=>by have:=Option.some.inj e;omega)
   go_roundw
   case rel=>exact ⟨_,cnt1,k+1,_,hrg2,by omega,hout2,agree_step HA.out hout.isMap trivial hat,blk_grown HB1.out hg2 (by omega),HF1.out.newGrown hg2 (Nat.le_refl _)⟩
   case measure=>rw [hrg2.left_eq,hrg.left_eq];exact hlt
end
end Go.Proofs.YtenahlandohgaaaGreatDoor
