import Derived.Shelf.SlSortFuncK.WholeK
import Derived.Shelf.GgSortFunc.Tiny
import Derived.Deep.AppendLies
import Derived.Deep.RegionLaw
import Derived.Test.YtenahlandohgaaaGreatDoorZFBase
import Derived.Test.YtenahlandohgaaaGreatDoorZGOwn
import Derived.Test.YtenahlandohgaaaGreatDoorZPlainList
namespace Go.Proofs.YtenahlandohgaaaGreatDoor
set_option linter.unusedVariables false
set_option linter.unusedSimpArgs false
set_option maxRecDepth 100000
set_option maxHeartbeats 4000000
open Go.RowKit Go.Maps Go.Sort
attribute [local go_sem ↓] Go.wp_at_zero Go.wp_at_succ
theorem ret_boolL {x y:List UInt8}:Ending.returned (.bool (Op.bytesLess (strA x).toList (strA y).toList))=.returned (.bool (decide (x < y))):=by
 rw [bytesLess_eq,ByteArray.toList_eq,ByteArray.toList_eq]
 rfl
theorem less_any (lc g n c i j:Nat) (x y:List UInt8) (w:World) (hl:w.cell? ⟨lc,0,none⟩=some (.slice (some ⟨g,0,none⟩) n c)) (hi:i < n) (hj:j < n) (hn:n≤1000000) (h1:w.cell? ⟨g,i*2,none⟩=some (.string (strA x))) (h2:w.cell? ⟨g,j*2,none⟩=some (.string (strA y))) :
 Calls Tryz.prog 54 #[.int .i64 i,.int .i64 j,.pointer (some ⟨lc,0,none⟩)] w fun e w'=>e=.returned (.bool (decide (x < y)))∧∃ q,w'=w.drewN q:=by
 have hi':(i:Int) < (n:Int):=by omega
 have hj':(j:Int) < (n:Int):=by omega
 go_enter Tryz.func54,Tryz.ntmps54
 go_wp2_with fail
 go_quiet (fail)
 all_goals go_wp2
 go_ret
 exact ⟨ret_boolL,_,rfl⟩
def ltF (a b:Fl):Bool:=decide (a.1 < b.1)
theorem swoF:SWO ltF where
 irrefl x:=by simp [ltF,List.lt_irrefl]
 trans x y z h1 h2:=by simp only [ltF,decide_eq_true_eq] at *;exact List.lt_trans h1 h2
 ntrans x y z h1 h2:=by
  simp only [ltF,decide_eq_false_iff_not,List.not_lt] at *
  exact List.le_trans h2 h1
theorem holdsF {w:World} {g:Nat} {l:List Fl} {cur:Array Value} {e:TypeId} (hb:w.heap[g]?=some (.cells cur e (0,0))) (ht:cur.toList.take (l.length*2)=fcells l):HoldsK encF 2 w g 0 l.toArray:=by
 intro j hj
 have hj':j < l.length*2:=by simpa using hj
 have hq:j / 2 < l.length:=by omega
 have e1:(flatK encF 2 l.toArray)[j]! = (encF l[j / 2])[j % 2]!:=by
  rw [get_flatK _ _ _ _ (by simpa using hj')]
  congr 1
  simp [hq]
 have e2:w.cell? ⟨g,0+j,none⟩=cur[j]?:=by rw [Nat.zero_add];unfold World.cell?;rw [hb];rfl
 have e3:cur[j]?=(fcells l)[j]?:=by
  rw [← ht,List.getElem?_take_of_lt hj',Array.getElem?_toList]
 have h4:=fcells_at l (j / 2) hq
 refine ⟨?_,by unfold World.frozen?;rw [hb];simp⟩
 rw [e2,e3]
 show _=some (id _)
 rw [id,e1]
 generalize l[j / 2]=f at h4 ⊢
 rcases Nat.mod_two_eq_zero_or_one j with hm | hm
 ·have h5:j=j / 2*2:=by omega
  rw [hm,congrArg (fun t=>(fcells l)[t]?) h5]
  exact h4.1
 ·have h5:j=j / 2*2+1:=by omega
  rw [hm,congrArg (fun t=>(fcells l)[t]?) h5]
  exact h4.2
open Go.Shelf Go.Lib in
noncomputable def filT:TypeInfo:=(Tryz.prog.info? 26).get (by kernel_rfl)
noncomputable def filE:TypeInfo:=(Tryz.prog.info? 86).get (by kernel_rfl)
theorem filK (n:Nat) (h:2≤n):Lib.swapperK n filE 25=9:=by
 have e1:(filE.hasPointers && filE.bytes == 8)=false:=by kernel_rfl
 have e2:filE.hasPointers=true:=by kernel_rfl
 unfold Lib.swapperK
 rw [if_neg (by simp;omega),if_neg (by simp;omega),e1,e2]
 rfl
theorem sortF_any (lc g c:Nat) (l:List Fl) (cur:Array Value) (w:World) (hlc:w.cell? ⟨lc,0,none⟩=some (.slice (some ⟨g,0,none⟩) l.length c)) (hne:lc≠g) (hb:w.heap[g]?=some (.cells cur 86 (0,0))) (ht:cur.toList.take (l.length*2)=fcells l) (hn:l.length≤500000) :
 Calls Tryz.prog 53 #[.iface 26 (.slice (some ⟨g,0,none⟩) l.length c),.func (.func 54) #[] #[.pointer (some ⟨lc,0,none⟩)]] w fun e w'=>e=.returned (.tuple #[])∧∃ l':List Fl,l'.length=l.length∧l'.Perm l∧l'.Pairwise (fun a b=>¬ b.1 < a.1)∧w.grownBy w' (some g)∧FilB w' (.slice (some ⟨g,0,none⟩) l.length c) l':=by
 have hblk:=blk_lt hb
 have hH:=holdsF hb ht
 have hlcl:=cell_lt hlc
 have hs:l.toArray.size=l.length:=by simp
 have hcells:∀ (W:World) (d:Array Fl),HoldsK encF 2 W g 0 d→∀ j (hj:j < d.size),W.cell? ⟨g,j*2,none⟩=some (.string (strA d[j]!.1))∧W.cell? ⟨g,j*2+1,none⟩=some (.string (strA d[j]!.2)):=fun W d hW j hj=>by
  have h0:=(hW.cell (i:=j) (c:=0) hj (by decide)).1
  have h1:=(hW.cell (i:=j) (c:=1) hj (by decide)).1
  simp only [Nat.zero_add,Nat.add_zero] at h0 h1
  exact ⟨h0,h1⟩
 rcases Nat.lt_or_ge l.length 2 with h2 | h2
 ·have h1:l.length=0∨l.length=1:=by omega
  obtain ⟨f,hf⟩:∃ f,Tryz.prog.funcs.findIdx? (·.name == "internal/reflectlite" ++ ".Swapper$"++toString (Lib.swapperK l.length filE 25))=some f:=by
   rcases h1 with h1 | h1
   ·exact ⟨146,by rw [h1];kernel_rfl⟩
   ·exact ⟨147,by rw [h1];kernel_rfl⟩
  refine (Any.sort_Slice_tiny Tryz.laysGg6 26 86 filT filE (by kernel_rfl) (by kernel_rfl) (by kernel_rfl) (by kernel_rfl) 25 (fun _=>by kernel_rfl) (some ⟨g,0,none⟩) l.length c (by omega) f hf (.func 54) #[] #[.pointer (some ⟨lc,0,none⟩)] w).mono ?_
  rintro e w' ⟨rfl,os,rfl⟩
  have hgb:(grow w os).heap[g]?=some (.cells cur 86):=(heap_grow_old _ _ hblk).trans hb
  refine ⟨rfl,l,rfl,List.Perm.refl _,?_,⟨rfl,rfl,rfl,by simp,fun k hk _=>heap_grow_old _ _ hk⟩,g,c,cur,rfl,hgb,fun j hj=>?_⟩
  ·match l,h1 with
   | [],_=>exact List.Pairwise.nil
   | [a],_=>exact List.pairwise_singleton _ _
  ·have:=hcells (grow w os) l.toArray (holdsK_grow encF 2 w os g 0 _ hblk hH) j (by simpa using hj)
   simpa [hj] using this
 ·have hless:LessReadsK Tryz.prog 54 #[.pointer (some ⟨lc,0,none⟩)] encF 2 ltF g 0 l.toArray.size w:=by
   intro m os dk hs' i j hi hj
   have e:sortWorldK encF 2 w g 0 m dk os=putRowK encF 2 (grow (Sort.ahead w m) os) g 0 dk:=by
    unfold sortWorldK;rw [putRowK_grow _ _ (Sort.ahead w m) _ g 0 _ hblk]
   have hHg:HoldsK encF 2 (grow (Sort.ahead w m) os) g 0 l.toArray:=holdsK_grow _ _ _ _ g 0 _ hblk (holdsK_ahead _ _ _ _ _ _ _ hH)
   have hHd:=hcells _ dk (holdsK_putRowK _ _ _ g 0 l.toArray dk hHg hs')
   have hcl:(sortWorldK encF 2 w g 0 m dk os).cell? ⟨lc,0,none⟩=some (.slice (some ⟨g,0,none⟩) l.length c):=by
    rw [e,cell?_putRowK_other _ _ _ g 0 dk _ (by exact hne),cell?_grow _ _ _ (by exact hlcl)];exact hlc
   refine less_any lc g l.length c i j _ _ _ hcl (by omega) (by omega) (by omega) ?_ ?_
   ·rw [e];exact (hHd i (by omega)).1
   ·rw [e];exact (hHd j (by omega)).1
  refine (Any.sort_Slice_cells_sorted Tryz.laysGg6 26 86 filT filE (by kernel_rfl) (by kernel_rfl) (by kernel_rfl) (by kernel_rfl) 25 (fun _=>by kernel_rfl) encF 2 (fun _=>rfl) (by kernel_rfl) (fun _=>by kernel_rfl) (fun x v hv=>by simp [encF] at hv;rcases hv with rfl | rfl <;> rfl) ltF swoF 54 _ (enters_of Tryz.func54 (by kernel_rfl) rfl) g 0 c l.toArray (by omega) (by omega) 154 (by rw [hs,filK _ h2];kernel_rfl) false (fun args W=>run_callFunc_extern Tryz.func154 (by kernel_rfl) (by kernel_rfl) (by kernel_rfl) (e:=Extern.ReflectliteSwapper.swap false) (by kernel_rfl) args W) w hless hH hblk).mono ?_
  rintro e w' ⟨rfl,d',n,os,hP,hS,rfl⟩
  have hdl:d'.size=l.length:=by rw [hP.1,hs]
  refine ⟨rfl,d'.toList,by simpa using hdl,?_,?_,?_,g,c,putCells id 0 (flatK encF 2 d') cur,by simp [hdl],?_,fun j hj=>?_⟩
  ·have h3:=hP.2.2
   rw [hs] at h3
   have e1:(d'.extract 0 l.length).toList=d'.toList:=by simp [← hdl]
   have e2:(l.toArray.extract 0 l.length).toList=l:=by simp
   rw [e1,e2] at h3
   exact h3
  ·rw [List.pairwise_iff_getElem]
   intro i j hi hj hij
   have:=hS i j (Nat.zero_le _) hij (by rw [hs,← hdl];simpa using hj)
   simp only [ltF,decide_eq_false_iff_not] at this
   simpa [show i < d'.size by simpa using hi,show j < d'.size by simpa using hj] using this
  ·refine ⟨rfl,rfl,rfl,by simp [putRowK],fun k hk hne=>?_⟩
   have hkg:g≠k:=fun e=>hne (by rw [e])
   rw [heap_grow_old _ _ (by simpa [putRowK] using hk)]
   simp [putRowK,putRow,mapBlock,Sort.ahead,Array.getElem?_modify,hkg]
  ·rw [heap_grow_old _ _ (by simpa [putRowK] using hblk)]
   simp [putRowK,putRow,mapBlock,Sort.ahead,Array.getElem?_modify,hb,onCells]
  ·have hH3:=holdsK_grow encF 2 _ os g 0 d' (by simpa [putRowK] using hblk) (holdsK_putRowK encF 2 (Sort.ahead w n) g 0 l.toArray d' hH (by omega))
   have hj':j < d'.size:=by simpa using hj
   have:=hcells _ d' hH3 j hj'
   simpa [hj'] using this
theorem sortF_nil (lc:Nat) (w:World):Calls Tryz.prog 53 #[.iface 26 (.slice none 0 0),.func (.func 54) #[] #[.pointer (some ⟨lc,0,none⟩)]] w fun e w'=>e=.returned (.tuple #[])∧Below w.heap.size w w':=by
 refine (Any.sort_Slice_tiny Tryz.laysGg6 26 86 filT filE (by kernel_rfl) (by kernel_rfl) (by kernel_rfl) (by kernel_rfl) 25 (fun _=>by kernel_rfl) none 0 0 (by omega) 146 (by kernel_rfl) (.func 54) #[] #[.pointer (some ⟨lc,0,none⟩)] w).mono ?_
 rintro e w' ⟨rfl,os,rfl⟩
 refine ⟨rfl,?_⟩
 exact (Below.refl w.heap.size w).grown (row:=none) ⟨rfl,rfl,rfl,by simp,fun k hk _=>heap_grow_old _ _ hk⟩ (Nat.le_refl _) (fun k hk=>by cases hk)
end Go.Proofs.YtenahlandohgaaaGreatDoor
