import Derived.Deep.QuietTactic
import Derived.BigQuiet
import Derived.Test.YtenahlandohgaaaGreatDoorNext
import Derived.Test.YtenahlandohgaaaGreatDoorZTold2
namespace Go.Proofs.YtenahlandohgaaaGreatDoor
set_option linter.unusedVariables false
set_option linter.unusedSimpArgs false
set_option maxRecDepth 100000
set_option maxHeartbeats 4000000
section
open Go.RowKit Go.Extern.Stop Go.Stop Go.Extern
def cmpEntry (t:TypeId):Sem Value:=do Rtype.noPackHeld "Comparable" t;pure (.bool (← typeInfo t).comparable)
theorem Tryz.cmpN (w:World):(ReflectliteType.method cmpEntry #[.agg #[.pointer (some ⟨7,40,none⟩)]]).run Tryz.prog w=.ok (.bool true) w:=by kernel_rfl
theorem is_sameN (n:Int) (w:World) :
 Calls Tryz.prog 44 #[.iface 40 (.int .i64 n),.iface 40 (.int .i64 n)] w fun e w'=>e=.returned (.bool true)∧w'=w:=by
 have h8:=@run_callFunc_extern Tryz.prog 64 _ ReflectliteType.typeOf Tryz.func64 (by kernel_rfl) (by kernel_rfl) (by kernel_rfl) (by kernel_rfl)
 have h32:=@run_callFunc_extern Tryz.prog 373 _ (ReflectliteType.method cmpEntry) Tryz.func373 (by kernel_rfl) (by kernel_rfl) (by kernel_rfl) (by kernel_rfl)
 have tT:=Tryz.typeOfN
 have cT:=Tryz.cmpN
 have mR:=Tryz.methodComparable
 have heq:=eql_errno n w
 go_enter Tryz.func44,Tryz.ntmps44
 go_wp2
 refine wp_loop_rounds 1 ?_
 rw [rounds_succ]
 go_wp2
 go_ret
 exact ⟨rfl,rfl⟩
end
section
open Go.RowKit Go.Extern.Stop Go.Stop Go.Extern
theorem told_nil (w:World):Calls Tryz.prog 27 #[.nilIface] w fun e w'=>e=.returned (.tuple #[.int .i64 0,.int .i64 (-1)])∧Below w.heap.size w w':=by
 go_enter Tryz.func27,Tryz.ntmps27
 go_wp2
 refine bodyPost_ret (v:=.tuple #[.int .i64 0,.int .i64 (-1)]) (by simp [results,Tryz.results27,go_sem]) rfl ?_
 exact ⟨rfl,((Below.refl _ _).alloc (Nat.le_refl _) _).alloc (by simp) _⟩
theorem mod_alloc_lt {w:World} {t:Addr} (o1 o2 o3 o4:Obj) (v:Value):Mod t.block w (((((w.alloc o1).alloc o2).alloc o3).alloc o4).setCell t v):=by
 have h:=((((Mod.refl t.block w).alloc o1).alloc o2).alloc o3).alloc o4
 exact ⟨h.os,h.tape,h.output,by simpa using h.size,fun k hk hn=>by rw [Below.heap_setCell _ _ _ _ hn];exact h.block k hk hn⟩
theorem cell_alloc4 {w:World} {t:Addr} {old:Value} (ht:w.cell? t=some old) (o1 o2 o3 o4:Obj) (v:Value):(((((w.alloc o1).alloc o2).alloc o3).alloc o4).setCell t v).cell? t=some v:=by
 have htl:t.block < w.heap.size:=lt_of_cell ht
 refine World.cell?_setCell_same _ _ _ (?_:_=some old)
 rw [World.cell?_alloc_lt _ _ t (by simp;omega),World.cell?_alloc_lt _ _ t (by simp;omega),World.cell?_alloc_lt _ _ t (by simp;omega),World.cell?_alloc_lt _ _ t htl]
 exact ht
theorem as_hitN_mod (n:Int) (t:Addr) (old:Value) (w:World) (hg:ErrT w) (ht0:w.cell? t=some old) (hf0:w.frozen? t=false) :
 Calls Tryz.prog 43 #[.iface 40 (.int .i64 n),.iface 103 (.pointer (some t))] w fun ev w'=>ev=.returned (.bool true)∧Mod t.block w w'∧w'.cell? t=some (.int .i64 n):=by
 refine (as_hitN n t old w hg ht0 hf0).mono ?_
 rintro ev w' ⟨rfl,rfl⟩
 exact ⟨rfl,mod_alloc_lt _ _ _ _ _,cell_alloc4 ht0 _ _ _ _ _⟩
theorem as_missN_below (n:Int) (t:Addr) (w:World) (hg:ErrT w) :
 Calls Tryz.prog 43 #[.iface 40 (.int .i64 n),.iface 99 (.pointer (some t))] w fun ev w'=>ev=.returned (.bool false)∧Below w.heap.size w w':=by
 refine (as_missN n t w hg).mono ?_
 rintro ev w' ⟨rfl,rfl⟩
 exact ⟨rfl,(((Below.refl _ _).alloc (Nat.le_refl _) _).alloc (by simp) _).alloc (by simp;omega) _⟩
theorem ErrT.below {w w':World} (h:ErrT w) (hb:Below w.heap.size w w'):ErrT w':=by
 unfold ErrT at h ⊢
 rw [hb.cell (p:=⟨0,0,none⟩) (lt_of_cell h)]
 exact h
theorem ErrT.alloc {w:World} (h:ErrT w) (o:Obj):ErrT (w.alloc o):=h.below ((Below.refl _ _).alloc (Nat.le_refl _) _)
theorem told_errno (n:Int) (w:World) (hg:ErrT w) :
 Calls Tryz.prog 27 #[.iface 40 (.int .i64 n)] w fun e w'=>e=.returned (.tuple #[.int .i64 n,.int .i64 (-1)])∧Below w.heap.size w w':=by
 have HG:=hide hg
 clear hg
 go_enter Tryz.func27,Tryz.ntmps27
 go_wp2_with fail
 refine (as_missN_below n ⟨w.heap.size,0,none⟩ _ ((HG.out.alloc _).alloc _)).mono ?_
 rintro e w1 ⟨rfl,hB⟩
 have c5:w1.cell? ⟨w.heap.size+1,0,none⟩=some (.int .i64 0):=by
  rw [hB.cell (p:=⟨w.heap.size+1,0,none⟩) (by simp)];simp
 have f5:w1.frozen? ⟨w.heap.size+1,0,none⟩=false:=by
  rw [hB.frozen (p:=⟨w.heap.size+1,0,none⟩) (by simp)];simp
 have HG1:=hide (((HG.out.alloc (.cells #[.pointer none] 97)).alloc (.cells #[.int .i64 0] 40)).below hB)
 have hs:=hB.size
 have HB:Hid (Below w.heap.size w w1):=(((Below.refl _ w).alloc (Nat.le_refl _) (.cells #[.pointer none] 97)).alloc (by simp) (.cells #[.int .i64 0] 40)).trans (hB.mono (by simp;omega))
 clear hB
 simp at hs
 go_wp2_with fail
 refine (as_hitN_mod n ⟨w.heap.size+1,0,none⟩ (.int .i64 0) w1 HG1.out c5 f5).mono ?_
 rintro e w2 ⟨rfl,hm,hc⟩
 have HB2:Hid (Below w.heap.size w w2):=HB.out.trans (Mod.below (b:=w.heap.size+1) hm (by omega) (by omega))
 clear hm
 go_wp2_with fail
 refine (is_sameN n w2).mono ?_
 rintro e w3 ⟨rfl,rfl⟩
 go_wp2
 refine bodyPost_ret (v:=.tuple #[.int .i64 n,.int .i64 (-1)]) (by simp [results,Tryz.results27,go_sem]) rfl ?_
 exact ⟨rfl,HB2.out⟩
end
end Go.Proofs.YtenahlandohgaaaGreatDoor
