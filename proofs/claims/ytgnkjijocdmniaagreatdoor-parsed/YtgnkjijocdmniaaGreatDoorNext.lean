import Derived.Deep.RegionWith
import Derived.Deep.RegionHeld3
import Derived.Deep.DrawnRows
import Derived.Test.YtgnkjijocdmniaaGreatDoorZPlainQ3
import Derived.Test.YtgnkjijocdmniaaGreatDoorZQLeaf
import Derived.Test.YtgnkjijocdmniaaGreatDoorZScanAll
namespace Go.Proofs.YtgnkjijocdmniaaGreatDoor
set_option linter.unusedVariables false
set_option linter.unusedSimpArgs false
set_option maxRecDepth 100000
set_option maxHeartbeats 4000000
open Go.RowKit
attribute [local go_sem ↓] Go.wp_at_zero Go.wp_at_succ
def rdCells (t:ByteArray) (x:Wd) (p:Nat) (rv:Value) (mc mt:Nat):Array Value:=
 #[.string t,.int .i64 x.kind,.int .i64 x.pos,.string ⟨x.spelt.toArray⟩,.string ⟨x.said.toArray⟩,.int .i64 x.num,.int .i64 p,rv,.map (some mc),.map (some mt)]
def RAt (w:World) (b:Nat) (t:ByteArray) (x:Wd) (p:Nat) (rv:Value) (mc mt:Nat):Prop:=
 w.heap[b]?=some (.cells (rdCells t x p rv mc mt) 210)
structure Mod (b:Nat) (w w':World):Prop where
 os:w'.os=w.os
 tape:w'.tape=w.tape
 output:w'.output=w.output
 size:w.heap.size≤w'.heap.size
 block:∀ k,k < w.heap.size→k≠b→w'.heap[k]?=w.heap[k]?
theorem Mod.refl (b:Nat) (w:World):Mod b w w:=⟨rfl,rfl,rfl,Nat.le_refl _,fun _ _ _=>rfl⟩
theorem Mod.trans {b:Nat} {u v w:World} (h:Mod b u v) (k:Mod b v w):Mod b u w:=
 ⟨k.os.trans h.os,k.tape.trans h.tape,k.output.trans h.output,Nat.le_trans h.size k.size,fun i hi hn=>(k.block i (Nat.lt_of_lt_of_le hi h.size) hn).trans (h.block i hi hn)⟩
theorem Mod.of_below {b:Nat} {w w':World} (h:Below w.heap.size w w'):Mod b w w':=
 ⟨h.os,h.tape,h.output,h.size,fun k hk _=>h.block k hk⟩
theorem Mod.below {b:Nat} {w w':World} (h:Mod b w w') {B:Nat} (hB:B≤b) (hb:b < w.heap.size):Below B w w':=
 ⟨h.os,h.tape,h.output,h.size,fun k hk=>h.block k (by omega) (by omega)⟩
theorem Mod.drew {b:Nat} {u w:World} (h:Mod b u w):Mod b u w.drew:=⟨h.os,h.tape,h.output,h.size,h.block⟩
theorem Mod.setCell {b:Nat} {u w:World} (h:Mod b u w) (o:Nat) (v:Value):Mod b u (w.setCell ⟨b,o,none⟩ v):=
 h.trans ⟨rfl,rfl,rfl,by simp [World.setCell],fun k hk hn=>Below.heap_setCell _ _ _ _ hn⟩
theorem Mod.alloc {b:Nat} {u w:World} (h:Mod b u w) (o:Obj):Mod b u (w.alloc o):=
 h.trans ⟨rfl,rfl,rfl,by simp,fun k hk _=>Below.heap_alloc _ _ _ hk⟩
theorem Mod.cell {b:Nat} {w w':World} (h:Mod b w w') {p:Addr} (hp:p.block < w.heap.size) (hn:p.block≠b):w'.cell? p=w.cell? p:=
 World.cell?_of_block (w:=w) (h.block p.block hp hn)
theorem RAt.lt {w:World} {b:Nat} {t:ByteArray} {x:Wd} {p:Nat} {rv:Value} {mc mt:Nat} (h:RAt w b t x p rv mc mt):b < w.heap.size:=by
 rcases Nat.lt_or_ge b w.heap.size with h' | h'
 ·exact h'
 ·unfold RAt at h;rw [Array.getElem?_eq_none h'] at h;cases h
theorem RAt.cell {w:World} {b:Nat} {t:ByteArray} {x:Wd} {p:Nat} {rv:Value} {mc mt:Nat} (h:RAt w b t x p rv mc mt) (o:Nat):w.cell? ⟨b,o,none⟩=(rdCells t x p rv mc mt)[o]?:=by
 unfold World.cell?;rw [h];rfl
theorem RAt.frozen {w:World} {b:Nat} {t:ByteArray} {x:Wd} {p:Nat} {rv:Value} {mc mt:Nat} (h:RAt w b t x p rv mc mt) (o:Nat):w.frozen? ⟨b,o,none⟩=false:=by
 unfold World.frozen?;rw [h];simp
theorem RAt.mod {w w':World} {b:Nat} {t:ByteArray} {x:Wd} {p:Nat} {rv:Value} {mc mt:Nat} (h:RAt w b t x p rv mc mt) (hb:Below w.heap.size w w'):RAt w' b t x p rv mc mt:=by
 unfold RAt;rw [hb.block b h.lt];exact h
def NextPost (r:Except Flt (Wd×Nat)) (b:Nat) (t:ByteArray) (rv:Value) (mc mt:Nat) (w:World) (e:Ending) (w':World):Prop:=
 Mod b w w'∧
 match r with
 | .ok y=>e=.returned (.tuple #[])∧RAt w' b t y.1 y.2 rv mc mt
 | .error f=>Threw f w e w'
theorem NextPost.err {r:Except Flt (Wd×Nat)} {b:Nat} {t:ByteArray} {rv:Value} {mc mt:Nat} {f:Flt} {w w':World} {e:Ending} (h:r=.error f) (hb:Mod b w w') (ht:Threw f w e w'):NextPost r b t rv mc mt w e w':=by
 subst h;exact ⟨hb,ht⟩
theorem NextPost.ok {r:Except Flt (Wd×Nat)} {b:Nat} {t:ByteArray} {rv:Value} {mc mt:Nat} {y:Wd×Nat} {w w':World} (h:r=.ok y) (hb:Mod b w w') (ht:RAt w' b t y.1 y.2 rv mc mt):NextPost r b t rv mc mt w (.returned (.tuple #[])) w':=by
 subst h;exact ⟨hb,rfl,ht⟩
theorem SkipPost.cases {r:Except Flt Nat} {w w':World} {e:Ending} (h:SkipPost r w e w') :
 (∃ n,r=.ok n∧e=.returned (.int .i64 n)∧w'=w)∨(∃ f,r=.error f∧Threw f w e w'∧Below w.heap.size w w'):=by
 cases r with
 | ok n=>exact Or.inl ⟨n,rfl,h⟩
 | error f=>exact Or.inr ⟨f,rfl,h⟩
theorem ScanPost.cases {r:Except Flt (Wd×Nat)} {w w':World} {e:Ending} (h:ScanPost r w e w') :
 (∃ y,r=.ok y∧e=.returned (.tuple #[wdV y.1,.int .i64 y.2])∧Below w.heap.size w w')∨(∃ f,r=.error f∧Threw f w e w'∧Below w.heap.size w w'):=by
 cases r with
 | ok n=>exact Or.inl ⟨n,rfl,h.2,h.1⟩
 | error f=>exact Or.inr ⟨f,rfl,h.2,h.1⟩
theorem nextL_skipErr {l:List UInt8} {p:Nat} {f:Flt} (h:skipF (l.length+1) (l.drop p) p=.error f):nextL l p=.error f:=by
 unfold nextL;rw [h]
theorem nextL_scan {l:List UInt8} {p n:Nat} (h:skipF (l.length+1) (l.drop p) p=.ok n):nextL l p=scanL (l.drop n) n:=by
 unfold nextL;rw [h]
theorem RAt.put {w:World} {b:Nat} {t:ByteArray} {x:Wd} {p:Nat} {rv:Value} {mc mt:Nat} (h:RAt w b t x p rv mc mt) (y:Wd) (q:Nat) :
 RAt ((((((w.setCell ⟨b,1,none⟩ (.int .i64 y.kind)).setCell ⟨b,2,none⟩ (.int .i64 y.pos)).setCell ⟨b,3,none⟩ (.string ⟨y.spelt.toArray⟩)).setCell ⟨b,4,none⟩ (.string ⟨y.said.toArray⟩)).setCell ⟨b,5,none⟩ (.int .i64 y.num)).setCell ⟨b,6,none⟩ (.int .i64 q)) b t y q rv mc mt:=
 heap_setCell_at _ _ _ _ _ _ (heap_setCell_at _ _ _ _ _ _ (heap_setCell_at _ _ _ _ _ _ (heap_setCell_at _ _ _ _ _ _ (heap_setCell_at _ _ _ _ _ _ (heap_setCell_at _ _ _ _ _ _ h)))))
theorem Mod.six {b:Nat} {u w:World} (h:Mod b u w) (o1 o2 o3 o4 o5 o6:Nat) (v1 v2 v3 v4 v5 v6:Value) :
 Mod b u ((((((w.setCell ⟨b,o1,none⟩ v1).setCell ⟨b,o2,none⟩ v2).setCell ⟨b,o3,none⟩ v3).setCell ⟨b,o4,none⟩ v4).setCell ⟨b,o5,none⟩ v5).setCell ⟨b,o6,none⟩ v6):=
 (((((h.setCell _ _).setCell _ _).setCell _ _).setCell _ _).setCell _ _).setCell _ _
theorem next_any (b:Nat) (t:ByteArray) (x:Wd) (p:Nat) (rv:Value) (mc mt:Nat) (m:Int) (w:World) (hs:t.size≤4294967280) (hp:p≤t.size) (hr:RAt w b t x p rv mc mt) (hm:w.cell? ⟨1,0,none⟩=some (.int .i64 m)) :
 Calls Tryz.prog 141 #[.pointer (some ⟨b,0,none⟩)] w (NextPost (nextL t.data.toList p) b t rv mc mt w):=by
 have hc:=hr.cell
 have hf:=hr.frozen
 have h0:w.cell? ⟨b,0,none⟩=some (.string t):=hc 0
 have h6:w.cell? ⟨b,6,none⟩=some (.int .i64 p):=hc 6
 have HS:=hide hr
 clear hc hr
 go_enter Tryz.func141,Tryz.ntmps141
 go_wp2_with fail
 go_region_with (first | (go_at_call 194;refine (skip_any t p (t.data.toList.length+1) m _ hs hp (by simp;omega) (by simpa using hm)).mono ?_;intro e w1 h1;rcases h1.cases with ⟨n,hn,rfl,rfl⟩ | ⟨f,hn,⟨bb,hz,rfl,hcc⟩,hb⟩;rotate_left;exact ⟨rfl,NextPost.err (nextL_skipErr hn) (Mod.of_below (below_drew hb)) ⟨bb,hz,rfl,hcc⟩⟩;skip) | (go_at_call 193;refine (scan_any t _ _ hs (by have:=(skipF_le _ _ _ _ (by simpa using hp) hn).2;simpa using this)).mono ?_;intro e w1 h2;rcases h2.cases with ⟨y,hy,rfl,hb⟩ | ⟨f,hy,⟨bb,hz,rfl,hcc⟩,hb⟩;rotate_left;exact ⟨rfl,NextPost.err ((nextL_scan hn).trans hy) (Mod.of_below (below_drew hb)) ⟨bb,hz,rfl,hcc⟩⟩;have hr1:=HS.out.mod (below_drew hb);have c1:=hr1.cell 1;have c2:=hr1.cell 2;have c3:=hr1.cell 3;have c4:=hr1.cell 4;have c5:=hr1.cell 5;have c6:=hr1.cell 6;simp only [rdCells] at c1 c2 c3 c4 c5 c6;have f1:=hr1.frozen;have HR1:=hide hr1;clear hr1;unfold wdV;skip))
 all_goals
  go_end0
  first
   | exact NextPost.ok ((nextL_scan hn).trans hy) ((Mod.of_below (below_drew hb)).six _ _ _ _ _ _ _ _ _ _ _ _) (HR1.out.put _ _)
   | exact NextPost.ok ((nextL_scan hn).trans hy) ((Mod.of_below (below_drew hb)).six _ _ _ _ _ _ _ _ _ _ _ _) (HR1.out.put' _ _)
end Go.Proofs.YtgnkjijocdmniaaGreatDoor
