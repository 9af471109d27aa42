import Derived.Deep.QuietTactic
import Derived.BigQuiet
import Derived.Test.YtgnkjijocdmniaaGreatDoorZLSmall
import Derived.Test.YtgnkjijocdmniaaGreatDoorNext
import Derived.Test.YtgnkjijocdmniaaGreatDoorZPText
import Derived.Test.YtgnkjijocdmniaaGreatDoorZParse2
import Derived.Test.YtgnkjijocdmniaaGreatDoorZPlainBack2
import Derived.Test.YtgnkjijocdmniaaGreatDoorZQBr
import Derived.Test.YtgnkjijocdmniaaGreatDoorZQLeaf
import Derived.Test.YtgnkjijocdmniaaGreatDoorZReaderT
import Derived.Test.YtgnkjijocdmniaaGreatDoorTold3
namespace Go.Proofs.YtgnkjijocdmniaaGreatDoor
set_option linter.unusedVariables false
set_option linter.unusedSimpArgs false
set_option maxRecDepth 100000
set_option maxHeartbeats 4000000
section
open Go.RowKit Go.Extern.Stop Go.Stop Go.Extern
theorem told_nil (w:World):Calls Tryz.prog 37 #[.nilIface] w fun e w'=>e=.returned (.tuple #[.int .i64 0,.int .i64 (-1)])∧Below w.heap.size w w':=by
 go_enter Tryz.func37,Tryz.ntmps37
 go_wp2
 refine bodyPost_ret (v:=.tuple #[.int .i64 0,.int .i64 (-1)]) (by simp [results,Tryz.results37,go_sem]) rfl ?_
 exact ⟨rfl,((Below.refl _ _).alloc (Nat.le_refl _) _).alloc (by simp) _⟩
theorem mod_alloc_lt {w:World} {t:Addr} (o1 o2 o3 o4:Obj) (v:Value):Mod t.block w (((((w.alloc o1).alloc o2).alloc o3).alloc o4).setCell t v):=by
 have h:=((((Mod.refl t.block w).alloc o1).alloc o2).alloc o3).alloc o4
 exact ⟨h.os,h.tape,h.output,by simpa using h.size,fun k hk hn=>by rw [Below.heap_setCell _ _ _ _ hn];exact h.block k hk hn⟩
theorem cell_alloc4 {w:World} {t:Addr} {old:Value} (ht:w.cell? t=some old) (o1 o2 o3 o4:Obj) (v:Value):(((((w.alloc o1).alloc o2).alloc o3).alloc o4).setCell t v).cell? t=some v:=by
 have htl:t.block < w.heap.size:=lt_of_cell ht
 refine World.cell?_setCell_same _ _ _ (?_:_=some old)
 rw [World.cell?_alloc_lt _ _ t (by simp;omega),World.cell?_alloc_lt _ _ t (by simp;omega),World.cell?_alloc_lt _ _ t (by simp;omega),World.cell?_alloc_lt _ _ t htl]
 exact ht
theorem as_hitF_mod (e t:Addr) (old:Value) (w:World) (hg:ErrT w) (ht0:w.cell? t=some old) (hf0:w.frozen? t=false) :
 Calls Tryz.prog 60 #[.iface 125 (.pointer (some e)),.iface 127 (.pointer (some t))] w fun ev w'=>ev=.returned (.bool true)∧Mod t.block w w'∧w'.cell? t=some (.pointer (some e)):=by
 refine (as_hitF e t old w hg ht0 hf0).mono ?_
 rintro ev w' ⟨rfl,rfl⟩
 exact ⟨rfl,mod_alloc_lt _ _ _ _ _,cell_alloc4 ht0 _ _ _ _ _⟩
theorem as_hitN_mod (n:Int) (t:Addr) (old:Value) (w:World) (hg:ErrT w) (ht0:w.cell? t=some old) (hf0:w.frozen? t=false) :
 Calls Tryz.prog 60 #[.iface 33 (.int .i64 n),.iface 131 (.pointer (some t))] w fun ev w'=>ev=.returned (.bool true)∧Mod t.block w w'∧w'.cell? t=some (.int .i64 n):=by
 refine (as_hitN n t old w hg ht0 hf0).mono ?_
 rintro ev w' ⟨rfl,rfl⟩
 exact ⟨rfl,mod_alloc_lt _ _ _ _ _,cell_alloc4 ht0 _ _ _ _ _⟩
theorem as_missN_below (n:Int) (t:Addr) (w:World) (hg:ErrT w) :
 Calls Tryz.prog 60 #[.iface 33 (.int .i64 n),.iface 127 (.pointer (some t))] w fun ev w'=>ev=.returned (.bool false)∧Below w.heap.size w w':=by
 refine (as_missN n t w hg).mono ?_
 rintro ev w' ⟨rfl,rfl⟩
 exact ⟨rfl,(((Below.refl _ _).alloc (Nat.le_refl _) _).alloc (by simp) _).alloc (by simp;omega) _⟩
theorem ErrT.below {w w':World} (h:ErrT w) (hb:Below w.heap.size w w'):ErrT w':=by
 unfold ErrT at h ⊢
 rw [hb.cell (p:=⟨0,0,none⟩) (lt_of_cell h)]
 exact h
theorem ErrT.alloc {w:World} (h:ErrT w) (o:Obj):ErrT (w.alloc o):=h.below ((Below.refl _ _).alloc (Nat.le_refl _) _)
theorem told_fault (bb:Nat) (n pos:Int) (w:World) (hg:ErrT w) (h0:w.cell? ⟨bb,0,none⟩=some (.int .i64 n)) (h1:w.cell? ⟨bb,1,none⟩=some (.int .i64 pos)) :
 Calls Tryz.prog 37 #[.iface 125 (.pointer (some ⟨bb,0,none⟩))] w fun e w'=>e=.returned (.tuple #[.int .i64 n,.int .i64 pos])∧Below w.heap.size w w':=by
 have hbl:bb < w.heap.size:=lt_of_cell h0
 have HG:=hide hg
 have H0:=hide h0
 have H1:=hide h1
 clear hg h0 h1
 go_enter Tryz.func37,Tryz.ntmps37
 go_wp2_with fail
 refine (as_hitF_mod ⟨bb,0,none⟩ ⟨w.heap.size,0,none⟩ (.pointer none) _ ((HG.out.alloc _).alloc _) (by simp) (by simp)).mono ?_
 rintro e w1 ⟨rfl,hm,hc⟩
 have hm':Mod w.heap.size ((w.alloc (.cells #[.pointer none] 125)).alloc (.cells #[.int .i64 0] 33)) w1:=hm
 have c0:w1.cell? ⟨bb,0,none⟩=some (.int .i64 n):=by
  rw [hm'.cell (p:=⟨bb,0,none⟩) (by simp;omega) (by simp;omega),World.cell?_alloc_lt _ _ ⟨bb,0,none⟩ (by simp;omega),World.cell?_alloc_lt _ _ ⟨bb,0,none⟩ hbl]
  exact H0.out
 have c1:w1.cell? ⟨bb,1,none⟩=some (.int .i64 pos):=by
  rw [hm'.cell (p:=⟨bb,1,none⟩) (by simp;omega) (by simp;omega),World.cell?_alloc_lt _ _ ⟨bb,1,none⟩ (by simp;omega),World.cell?_alloc_lt _ _ ⟨bb,1,none⟩ hbl]
  exact H1.out
 have HB:Hid (Below w.heap.size w w1):=by
  refine ⟨hm'.os,hm'.tape,hm'.output,?_,fun k hk=>?_⟩
  ·have:=hm'.size;simp at this;omega
  ·rw [hm'.block k (by simp;omega) (by omega),Below.heap_alloc _ _ _ (by simp;omega),Below.heap_alloc _ _ _ hk]
 clear hm hm'
 go_wp2_with fail
 refine (is_wrapF bb n w1 c0).mono ?_
 rintro e w2 ⟨rfl,rfl⟩
 go_wp2_with fail
 go_quiet (fail)
 go_wp2
 refine bodyPost_ret (v:=.tuple #[.int .i64 n,.int .i64 pos]) (by simp [results,Tryz.results37,go_sem]) rfl ?_
 exact ⟨rfl,HB.out.os,HB.out.tape,HB.out.output,HB.out.size,HB.out.block⟩
theorem told_errno (n:Int) (w:World) (hg:ErrT w) :
 Calls Tryz.prog 37 #[.iface 33 (.int .i64 n)] w fun e w'=>e=.returned (.tuple #[.int .i64 n,.int .i64 (-1)])∧Below w.heap.size w w':=by
 have HG:=hide hg
 clear hg
 go_enter Tryz.func37,Tryz.ntmps37
 go_wp2_with fail
 refine (as_missN_below n ⟨w.heap.size,0,none⟩ _ ((HG.out.alloc _).alloc _)).mono ?_
 rintro e w1 ⟨rfl,hB⟩
 have c5:w1.cell? ⟨w.heap.size+1,0,none⟩=some (.int .i64 0):=by
  rw [hB.cell (p:=⟨w.heap.size+1,0,none⟩) (by simp)];simp
 have f5:w1.frozen? ⟨w.heap.size+1,0,none⟩=false:=by
  rw [hB.frozen (p:=⟨w.heap.size+1,0,none⟩) (by simp)];simp
 have HG1:=hide (((HG.out.alloc (.cells #[.pointer none] 125)).alloc (.cells #[.int .i64 0] 33)).below hB)
 have hs:=hB.size
 have HB:Hid (Below w.heap.size w w1):=(((Below.refl _ w).alloc (Nat.le_refl _) (.cells #[.pointer none] 125)).alloc (by simp) (.cells #[.int .i64 0] 33)).trans (hB.mono (by simp;omega))
 clear hB
 simp at hs
 go_wp2_with fail
 refine (as_hitN_mod n ⟨w.heap.size+1,0,none⟩ (.int .i64 0) w1 HG1.out c5 f5).mono ?_
 rintro e w2 ⟨rfl,hm,hc⟩
 have HB2:Hid (Below w.heap.size w w2):=HB.out.trans (Mod.below (b:=w.heap.size+1) hm (by omega) (by omega))
 clear hm
 go_wp2_with fail
 refine (is_sameN n w2).mono ?_
 rintro e w3 ⟨rfl,rfl⟩
 go_wp2
 refine bodyPost_ret (v:=.tuple #[.int .i64 n,.int .i64 (-1)]) (by simp [results,Tryz.results37,go_sem]) rfl ?_
 exact ⟨rfl,HB2.out⟩
end
section
open Go.RowKit
attribute [local go_sem ↓] Go.wp_at_zero Go.wp_at_succ
theorem mparse_long (t:ByteArray) (w:World) (ht:600 < t.size) :
 Calls Tryz.prog 36 #[.string t] w fun e w'=>e=.returned (.tuple #[.pointer none,.iface 33 (.int .i64 1)])∧Below w.heap.size w w':=by
 go_enter Tryz.func36,Tryz.ntmps36
 go_wp2_with fail
 refine (parse_long t w ht).mono ?_
 rintro e w1 ⟨rfl,hbl⟩
 have HB:=hide hbl
 have hz2:=hbl.size
 clear hbl
 go_wp2
 refine bodyPost_ret (v:=.tuple #[.pointer none,.iface 33 (.int .i64 1)]) (by simp [results,Tryz.results36,go_sem]) rfl ?_
 exact ⟨rfl,HB.out.alloc hz2 _⟩
def PP (t:ByteArray) (w:World) (e:Ending) (w':World):Prop:=
 Below w.heap.size w w'∧((600 < t.size∧e=.returned (.tuple #[.pointer none,.int .i64 1,.int .i64 (-1)]))∨
  (t.size≤600∧∃ y g rv lv,parseL t.data.toList=.ok y∧e=.returned (.tuple #[.pointer (some ⟨g,0,none⟩),.int .i64 0,.int .i64 (-1)])∧w.heap.size≤g∧w'.heap[g]?=some (.cells #[rv,lv] 124)∧reqX (fromB w.heap.size) y.1 w' rv∧blX (fromB w.heap.size) (CmdV 7) y.2 w' lv)∨
  (t.size≤600∧∃ f,parseL t.data.toList=.error f∧e=.returned (.tuple #[.pointer none,.int .i64 f.err,.int .i64 f.pos])))
theorem pparse_any (t:ByteArray) (w:World) (hm1:∃ m,w.cell? ⟨1,0,none⟩=some (.int .i64 m)) (hg:ErrT w) :
 Calls Tryz.prog 19 #[.string t] w (PP t w):=by
 have HG:=hide hg
 clear hg
 rcases Nat.lt_or_ge 600 t.size with ht | ht
 ·go_enter Tryz.func19,Tryz.ntmps19
  go_wp2_with fail
  refine (mparse_long t w ht).mono ?_
  rintro e w1 ⟨rfl,hB⟩
  have HB:=hide hB
  have hs:=hB.size
  clear hB
  go_wp2_with fail
  refine (told_errno 1 w1 (HG.out.below HB.out)).mono ?_
  rintro e w2 ⟨rfl,hB2⟩
  have HB2:=hide (HB.out.trans (hB2.mono hs))
  clear hB2
  go_wp2
  refine bodyPost_ret (v:=.tuple #[.pointer none,.int .i64 1,.int .i64 (-1)]) (by simp [results,Tryz.results19,go_sem]) rfl ?_
  exact ⟨HB2.out,Or.inl ⟨ht,rfl⟩⟩
 ·go_enter Tryz.func19,Tryz.ntmps19
  go_wp2_with fail
  refine (mparse_short t w ht hm1).mono ?_
  rintro e w1 ⟨hB,⟨y,g,rv,lv,hy,rfl,hz,hc,hr,hb⟩ | ⟨f,bb,hf,rfl,hz,hcc⟩⟩
  ·have HB:=hide hB
   have hs:=hB.size
   have HY:=hide hy
   have HC:=hide hc
   have HR:=hide hr
   have HBL:=hide hb
   clear hB hy hc hr hb
   go_wp2_with fail
   refine (told_nil w1).mono ?_
   rintro e w2 ⟨rfl,hB2⟩
   have HB2:=hide (HB.out.trans (hB2.mono hs))
   have HC2:=hide (World.cell?_of_block (w:=w1) (w':=w2) (a:=⟨g,0,none⟩) (hB2.block g (blk_lt HC.out)))
   have HK:=hide (hB2.block g (blk_lt HC.out))
   have HR2:=hide (HR.out.keep (fun k _ hk=>hB2.block k hk))
   have HBL2:=hide (HBL.out.keep (cmdV_tree 7) (fun k _ hk=>hB2.block k hk))
   clear hB2
   go_wp2
   refine bodyPost_ret (v:=.tuple #[.pointer (some ⟨g,0,none⟩),.int .i64 0,.int .i64 (-1)]) (by simp [results,Tryz.results19,go_sem]) rfl ?_
   exact ⟨HB2.out,Or.inr (Or.inl ⟨ht,y,g,rv,lv,HY.out,rfl,hz,by rw [HK.out];exact HC.out,HR2.out,HBL2.out⟩)⟩
  ·have HB:=hide hB
   have hs:=hB.size
   have HF:=hide hf
   have c0:w1.cell? ⟨bb,0,none⟩=some (.int .i64 f.err):=blk_cell hcc 0
   have c1:w1.cell? ⟨bb,1,none⟩=some (.int .i64 f.pos):=blk_cell hcc 1
   have HC0:=hide c0
   have HC1:=hide c1
   clear hB hf hcc c0 c1
   go_wp2_with fail
   refine (told_fault bb f.err f.pos w1 (HG.out.below HB.out) HC0.out HC1.out).mono ?_
   rintro e w2 ⟨rfl,hB2⟩
   have HB2:=hide (HB.out.trans (hB2.mono hs))
   clear hB2
   go_wp2
   refine bodyPost_ret (v:=.tuple #[.pointer none,.int .i64 f.err,.int .i64 f.pos]) (by simp [results,Tryz.results19,go_sem]) rfl ?_
   exact ⟨HB2.out,Or.inr (Or.inr ⟨ht,f,HF.out,rfl⟩)⟩
end
section
open Go.RowKit
attribute [local go_sem ↓] Go.wp_at_zero Go.wp_at_succ
structure Env (w:World):Prop where
 m1:∃ m,w.cell? ⟨1,0,none⟩=some (.int .i64 m)
 et:ErrT w
 tab:Tab w
theorem Env.below {w w':World} (h:Env w) (hb:Below w.heap.size w w'):Env w':=by
 obtain ⟨m,hm⟩:=h.m1
 exact ⟨⟨m,by rw [hb.cell (p:=⟨1,0,none⟩) (cell_lt hm)];exact hm⟩,h.et.below hb,h.tab.below hb⟩
theorem text_small {t:ByteArray} {y:List (List UInt8)×List (CmdT 7)} (h:parseL t.data.toList=.ok y) (ht:t.size≤600):(textL y).length≤4294967200:=by
 have:=textL_len h
 have e:t.data.toList.length=t.size:=by simp
 rw [e] at this
 omega
end
section
open Go.RowKit
attribute [local go_sem ↓] Go.wp_at_zero Go.wp_at_succ
def pickL (c:Int) (n:Nat):Nat:=(if c < 0 then (-(c+1)).toNat else c.toNat) % n
theorem pickL_lt (c:Int) {n:Nat} (h:0 < n):pickL c n < n:=Nat.mod_lt _ h
theorem lpick_any (c:Int) (n:Nat) (w:World) (h1:-9223372036854775808≤c) (h2:c≤9223372036854775807) (hn:0 < n) (hn2:n≤4611686018427387904) :
 Calls Tryz.prog 31 #[.int .i64 c,.int .i64 n] w fun e w'=>e=.returned (.int .i64 (pickL c n))∧w'=w:=by
 have hnz:((n:Int) == 0)=false:=by simp;omega
 have hn0:¬ (n:Int)=0:=by omega
 by_cases hc:c < 0
 ·obtain ⟨m,hm⟩:∃ m:Nat,-(c+1)=(m:Int):=⟨(-(c+1)).toNat,by omega⟩
  have hp:pickL c n=m % n:=by unfold pickL;rw [if_pos hc,hm];rfl
  rw [hp]
  clear hp
  go_enter Tryz.func31,Tryz.ntmps31
  go_wp2
  go_ret
  exact ⟨by simp,rfl⟩
 ·obtain ⟨m,rfl⟩:∃ m:Nat,c=(m:Int):=⟨c.toNat,by omega⟩
  have hp:pickL (m:Int) n=m % n:=by unfold pickL;rw [if_neg hc];rfl
  rw [hp]
  clear hp
  go_enter Tryz.func31,Tryz.ntmps31
  go_wp2
  go_ret
  exact ⟨by simp,rfl⟩
def WldN (w:World) (wb:Nat) (xv mv:Value):Prop:=w.heap[wb]?=some (.cells #[xv,mv,.slice none 0 0,.slice none 0 0] 44)
theorem llooks_any (wb:Nat) (xv mv:Value) (w:World) (h:WldN w wb xv mv) :
 Calls Tryz.prog 17 #[.pointer (some ⟨wb,0,none⟩)] w fun e w'=>e=.returned (.bool true)∧w'=w:=by
 have c2:w.cell? ⟨wb,2,none⟩=some (.slice none 0 0):=blk_cell h 2
 have c3:w.cell? ⟨wb,3,none⟩=some (.slice none 0 0):=blk_cell h 3
 go_enter Tryz.func17,Tryz.ntmps17
 go_wp2
 refine wp_loop_rounds 1 ?_
 rw [rounds_succ]
 go_wp2
 refine wp_loop_rounds 1 ?_
 rw [rounds_succ]
 go_wp2
 go_ret
 exact ⟨rfl,rfl⟩
def opV (x:OpD):Value:=.agg #[.int .i64 x.kind,.int .i64 x.a,.int .i64 x.b,.string (strA x.s),.string (strA x.fr),.string (strA x.tt),.int .i64 x.sz,x.hv,x.cv]
theorem lmarks_any (wb:Nat) (xv mv:Value) (x:OpD) (w:World) (h:WldN w wb xv mv) (hh:∃ a n c,x.hv=.slice a n c) (hc:∃ a n c,x.cv=.slice a n c) :
 Calls Tryz.prog 24 #[.pointer (some ⟨wb,0,none⟩),opV x] w fun e w'=>e=.returned (.tuple #[])∧Below w.heap.size w w':=by
 have c2:w.cell? ⟨wb,2,none⟩=some (.slice none 0 0):=blk_cell h 2
 have c3:w.cell? ⟨wb,3,none⟩=some (.slice none 0 0):=blk_cell h 3
 have hwl:=blk_lt h
 obtain ⟨a1,n1,c1,hh⟩:=hh
 obtain ⟨a2,n2,c2',hc⟩:=hc
 clear h
 unfold opV
 rw [hh,hc]
 clear hh hc
 generalize x.kind=K at *
 go_enter Tryz.func24,Tryz.ntmps24
 cases h6:(K == 6)
 all_goals cases h7:(K == 7)
 all_goals go_wp2
 all_goals go_end0
 all_goals exact ⟨rfl,(Below.refl _ _).alloc (Nat.le_refl _) _⟩
end
section
open Go.RowKit
attribute [local go_sem ↓] Go.wp_at_zero Go.wp_at_succ
theorem Tryz.infoPtrS:(Tryz.prog.info? 53).map (fun i=>(i.zero,i.size,i.bytes))=some (some (.pointer none),1,8):=by kernel_rfl
theorem Tryz.infoPtrR:(Tryz.prog.info? 76).map (fun i=>(i.zero,i.size,i.bytes))=some (some (.pointer none),1,8):=by kernel_rfl
def RealS (X:Nat→Prop) (y:List (List UInt8)×List (CmdT 7)) (w:World) (v:Value):Prop:=
 ∃ g rv lv,v=.pointer (some ⟨g,0,none⟩)∧X g∧w.heap[g]?=some (.cells #[rv,lv] 124)∧reqX X y.1 w rv∧blX X (CmdV 7) y.2 w lv
theorem reals_tree:TreeQ RealS:=by
 refine ⟨fun X a w w' v h hk=>?_,fun X Y a w v h hB=>?_⟩
 ·obtain ⟨g,rv,lv,hv,hg,hc,h1,h2⟩:=h
  exact ⟨g,rv,lv,hv,hg,by rw [hk g hg (blk_lt hc)];exact hc,h1.keep hk,h2.keep (cmdV_tree 7) hk⟩
 ·obtain ⟨g,rv,lv,hv,hg,hc,h1,h2⟩:=h
  exact ⟨g,rv,lv,hv,hB g hg (blk_lt hc),hc,h1.weak hB,h2.weak (cmdV_tree 7) hB⟩
theorem rscript_tree:TreeQ RScript:=by
 refine ⟨fun X a w w' v h hk=>?_,fun X Y a w v h hB=>?_⟩
 ·obtain ⟨g,rv,lv,hv,hg,hc,h1,h2⟩:=h
  exact ⟨g,rv,lv,hv,hg,by rw [hk g hg (blk_lt hc)];exact hc,h1.keep hk,(trY_tree (rcmd_tree 7)).keep _ _ _ _ _ h2 hk⟩
 ·obtain ⟨g,rv,lv,hv,hg,hc,h1,h2⟩:=h
  exact ⟨g,rv,lv,hv,hB g hg (blk_lt hc),hc,h1.weak hB,(trY_tree (rcmd_tree 7)).weak _ _ _ _ _ h2 hB⟩
abbrev TreeS:=List (List UInt8)×List (CmdT 7)
structure WldI (wb:Nat) (u w:World) (xv mv:Value) (ys1 ys2:List TreeS) (vs1 vs2:List Value):Prop where
 nd:WldN w wb xv mv
 o1:w.ownsRow (wb+1) 53 1 xv vs1.length vs1
 o2:w.ownsRow (wb+1) 76 1 mv vs2.length vs2
 od:∀ g,xv.ownBlock=some g→¬ mv.ownBlock=some g
 r1:RowP (fun a u=>Gat2 RealS (wb+1) w xv mv a u) ys1 vs1
 r2:RowP (fun a u=>Gat2 RScript (wb+1) w xv mv a u) ys2 vs2
 b:Below wb u w
section
variable {wb:Nat} {u w w' w5:World} {xv mv v' x:Value} {ys1 ys2:List TreeS} {y:TreeS} {vs1 vs2:List Value} {o:Obj}
theorem WldI.below (h:WldI wb u w xv mv ys1 ys2 vs1 vs2) (hb:Below w.heap.size w w'):WldI wb u w' xv mv ys1 ys2 vs1 vs2:=by
 have hm:Mod wb w w':=Mod.of_below hb
 have hz:=blk_lt h.nd
 exact ⟨blk_below h.nd hb,ownsRow_mod (b:=wb) h.o1 hm (Nat.lt_succ_self _),ownsRow_mod (b:=wb) h.o2 hm (Nat.lt_succ_self _),h.od,h.r1.imp (fun a u hu=>Gat2.mod reals_tree (b:=wb) hu hm (Nat.lt_succ_self _)),h.r2.imp (fun a u hu=>Gat2.mod rscript_tree (b:=wb) hu hm (Nat.lt_succ_self _)),h.b.trans (hb.mono (Nat.le_of_lt hz))⟩
theorem WldI.app1 (h:WldI wb u w xv mv ys1 ys2 vs1 vs2) (hu:Gat2 RealS (wb+1) w xv mv y x) (hg:(w.alloc o).grownBy w5 xv.ownBlock) (ho:w5.ownsRow (wb+1) 53 1 v' (vs1.length+1) (vs1++[x])) (hat:v'.ownBlock=xv.ownBlock∨v'.ownBlock=some (w.heap.size+1)):WldI wb u (w5.setCell ⟨wb,0,none⟩ v') v' mv (ys1++[y]) ys2 (vs1++[x]) vs2:=by
 have hlow:=grown_low h.o1 (blk_lt h.nd) hg
 have hz:=blk_lt h.nd
 refine ⟨heap_setCell_at _ _ _ _ _ _ ((hlow wb (Nat.lt_succ_self _)).trans h.nd),ownsRow_setQ (by simpa using ho) (Nat.lt_succ_self _),ownsRow_setQ ((h.o2.alloc o).kept hg ?_) (Nat.lt_succ_self _),fun g hv hb=>?_,?_,?_,?_⟩
 ·cases hb:mv.ownBlock with
  | none=>exact Or.inl rfl
  | some g=>exact Or.inr (fun e=>h.od g e.symm hb)
 ·rcases hat with hat | hat
  ·exact h.od g (hat ▸ hv) hb
  ·rw [hat] at hv
   have:=(h.o2.lt g hb).2
   simp at hv
   omega
 ·exact (RowP.snoc (P:=fun a u=>Gat2 RealS (wb+1) w xv mv a u) hu h.r1).imp (fun a u hu=>Gat2.set reals_tree (Gat2.grown reals_tree hu hg hat) (Nat.lt_succ_self _) _ _)
 ·exact h.r2.imp (fun a u hu=>Gat2.set rscript_tree (Gat2.grown rscript_tree hu hg hat) (Nat.lt_succ_self _) _ _)
 ·exact (((h.b.alloc (Nat.le_of_lt hz) o).grown hg (by simp;omega) (fun k hk=>by have:=(h.o1.lt k hk).1;omega)).setCell (Nat.le_refl _) _)
theorem WldI.app2 (h:WldI wb u w xv mv ys1 ys2 vs1 vs2) (hu:Gat2 RScript (wb+1) w xv mv y x) (hg:(w.alloc o).grownBy w5 mv.ownBlock) (ho:w5.ownsRow (wb+1) 76 1 v' (vs2.length+1) (vs2++[x])) (hat:v'.ownBlock=mv.ownBlock∨v'.ownBlock=some (w.heap.size+1)):WldI wb u (w5.setCell ⟨wb,1,none⟩ v') xv v' ys1 (ys2++[y]) vs1 (vs2++[x]):=by
 have hlow:=grown_low h.o2 (blk_lt h.nd) hg
 have hz:=blk_lt h.nd
 refine ⟨heap_setCell_at _ _ _ _ _ _ ((hlow wb (Nat.lt_succ_self _)).trans h.nd),ownsRow_setQ ((h.o1.alloc o).kept hg ?_) (Nat.lt_succ_self _),ownsRow_setQ (by simpa using ho) (Nat.lt_succ_self _),fun g hv hb=>?_,?_,?_,?_⟩
 ·cases hb:xv.ownBlock with
  | none=>exact Or.inl rfl
  | some g=>exact Or.inr (fun e=>h.od g hb e.symm)
 ·rcases hat with hat | hat
  ·exact h.od g hv (hat ▸ hb)
  ·rw [hat] at hb
   have:=(h.o1.lt g hv).2
   simp at hb
   omega
 ·exact h.r1.imp (fun a u hu=>Gat2.set reals_tree (Gat2.grown reals_tree hu.swap hg hat).swap (Nat.lt_succ_self _) _ _)
 ·exact (RowP.snoc (P:=fun a u=>Gat2 RScript (wb+1) w xv mv a u) hu h.r2).imp (fun a u hu=>Gat2.set rscript_tree (Gat2.grown rscript_tree hu.swap hg hat).swap (Nat.lt_succ_self _) _ _)
 ·exact (((h.b.alloc (Nat.le_of_lt hz) o).grown hg (by simp;omega) (fun k hk=>by have:=(h.o2.lt k hk).1;omega)).setCell (Nat.le_refl _) _)
end
end
section
open Go.RowKit
attribute [local go_sem ↓] Go.wp_at_zero Go.wp_at_succ
def WldG (wb:Nat) (u:World) (N:Nat) (w:World):Prop:=
 ∃ xv mv ys vs1 vs2,WldI wb u w xv mv ys ys vs1 vs2∧(∀ y∈ys,∃ t:List UInt8,t.length≤600∧parseL t=.ok y)∧ys.length≤N
theorem lparsed_any (wb:Nat) (u w:World) (N:Nat) (s:List UInt8) (h:WldG wb u N w) (he:Env u) (hu:u.heap.size=wb) (hN:N≤1100000000000) (hs:s.length≤140737488355328) :
 Calls Tryz.prog 25 #[.pointer (some ⟨wb,0,none⟩),.string (strA s)] w fun e w'=>e=.returned (.bool true)∧WldG wb u (N+1) w':=by
 obtain ⟨xv,mv,ys,vs1,vs2,hwi,hwf,hyn⟩:=h
 have hz:=strA_size s
 have l1:=row_len hwi.r1
 have l2:=row_len hwi.r2
 have HWI:=hide hwi
 have HWF:=hide hwf
 have HE:Hid (∀ W,Below wb u W→Env W):=fun W hW=>he.below (by rw [hu];exact hW)
 have hE:=HE.out w hwi.b
 obtain ⟨i0,hi,hz0,hz1,hz2⟩:=info_parts Tryz.infoPtrS
 obtain ⟨j0,hj,hy0,hy1,hy2⟩:=info_parts Tryz.infoPtrR
 have hm1:=hE.m1
 have het:=hE.et
 have HM1:=hide hm1
 have HET:=hide het
 have hwl:=blk_lt hwi.nd
 clear hwi hwf he hE hm1 het
 go_enter Tryz.func25,Tryz.ntmps25
 go_wp2_with fail
 refine (pparse_any (strA s) w HM1.out HET.out).mono ?_
 rintro e w1 ⟨hB1,hP⟩
 have HB1:=hide hB1
 have HW1:=hide (HWI.out.below hB1)
 have hs1:=hB1.size
 clear hB1
 rcases hP with ⟨hl6,rfl⟩ | ⟨hsz,y,g,rv,lv,hy,rfl,hzg,hc,hr,hb⟩ | ⟨hsz,f,hf,rfl⟩
 ·have hlen:600 < s.length:=hl6
  go_wp2_with fail
  refine (qparse_any s w1 hs).mono ?_
  rintro e w2 ⟨hB2,hQ⟩
  rw [if_pos hlen] at hQ
  subst hQ
  have HW2:=hide (HW1.out.below hB2)
  clear hB2
  go_wp2
  go_ret
  exact ⟨rfl,xv,mv,ys,vs1,vs2,HW2.out,HWF.out,by omega⟩
 ·have hlen:¬ 600 < s.length:=by have:s.length≤600:=hsz;omega
  have hy':parseL s=.ok y:=hy
  have HRS:Hid (RealS (fromB w.heap.size) y w1 (.pointer (some ⟨g,0,none⟩))):=⟨g,rv,lv,rfl,hzg,hc,hr,hb⟩
  have HPY:Hid (∃ t:List UInt8,t.length≤600∧parseL t=.ok y):=⟨s,by omega,hy'⟩
  clear hc hr hb hy
  go_wp2_with fail
  refine (qparse_any s w1 hs).mono ?_
  rintro e w2 ⟨hB2,hQ⟩
  rw [if_neg hlen,hy'] at hQ
  obtain ⟨v2,rfl,hv2⟩:=hQ
  obtain ⟨g2,hg2⟩:∃ g2,v2=.pointer (some ⟨g2,0,none⟩):=by obtain ⟨g2,_,_,h,_⟩:=hv2;exact ⟨g2,h⟩
  subst hg2
  have hwi2:=HW1.out.below hB2
  have HW2:=hide hwi2
  have hw2:wb < w2.heap.size:=blk_lt hwi2.nd
  have HG1:Hid (Gat2 RealS (wb+1) w2 xv mv y (.pointer (some ⟨g,0,none⟩))):=Gat2.new reals_tree (B:=w.heap.size) (reals_tree.keep _ _ _ _ _ HRS.out (fun k _ hk=>hB2.block k hk)) hwl (fun k hk=>(HWI.out.o1.lt k hk).2) (fun k hk=>(HWI.out.o2.lt k hk).2)
  have HR2:=hide hv2
  have hs2:=hB2.size
  have n0:w2.cell? ⟨wb,0,none⟩=some xv:=blk_cell hwi2.nd 0
  have hown:=hwi2.o1
  have HLT1:=hide (fun k hk=>(HW1.out.o1.lt k hk).2)
  have HLT2:=hide (fun k hk=>(HW1.out.o2.lt k hk).2)
  clear hB2 hv2 hwi2 HW1 HWI HRS hy' hlen
  go_wp2_with (at_builtin;refine wpList_append_own_at _ rfl _ _ 39 rfl (wb+1) 53 i0 (.pointer none) 1 8 Tryz.underlying39 hi hz0 hz1 hz2 rfl (by decide) _ _ _ rfl (hown.alloc _) ⟨w2.heap.size,0,none⟩ 1 1 [.pointer (some ⟨g,0,none⟩)] rfl rfl ?c1 ?c2 ?c3 ?c4 ?c5 ?_)
  case c1=>
   intro j u hj
   match j,hj with
   | 0,hj=>simp at hj;subst hj;simp [Addr.add]
  case c2=>intro u hu;simp at hu;subst hu;rfl
  case c3=>unfold maxLen;omega
  case c4=>omega
  case c5=>simp;omega
  ·intro v' w5 hown5 hgrow _ hat
   have hlow:=grown_low (gb:=wb) hown hw2 hgrow
   have hn5:=(hlow wb (Nat.lt_succ_self _)).trans HW2.out.nd
   obtain ⟨p5,m5,c5,rfl⟩:=own_form hown5
   obtain ⟨W6,hW6⟩:∃ W6,W6=w5.setCell ⟨wb,0,none⟩ (.slice p5 m5 c5):=⟨_,rfl⟩
   have HW6:=hide hW6
   have hwi6:=HW2.out.app1 HG1.out hgrow hown5 hat
   have hsz5:w2.heap.size+1≤w5.heap.size:=by have:=hgrow.size;simp at this;omega
   have HG2:Hid (Gat2 RScript (wb+1) W6 (.slice p5 m5 c5) mv y (.pointer (some ⟨g2,0,none⟩))):=by
    have h0:Gat2 RScript (wb+1) w2 xv mv y (.pointer (some ⟨g2,0,none⟩)):=Gat2.new rscript_tree (B:=w1.heap.size) HR2.out (by omega) HLT1.out HLT2.out
    have h1:=Gat2.set rscript_tree (Gat2.grown rscript_tree h0 hgrow hat) (Nat.lt_succ_self wb) 0 (.slice p5 m5 c5)
    rw [hW6]
    exact h1
   rw [← hW6] at hwi6
   have HWI6:=hide hwi6
   have f5:=fun o=>blk_frozen hn5 o
   have t5:w5.cell? ⟨wb,0,none⟩=some xv:=blk_cell hn5 0
   have hl5:wb < w5.heap.size:=blk_lt hn5
   have hw6:wb < W6.heap.size:=blk_lt hwi6.nd
   have n1:W6.cell? ⟨wb,1,none⟩=some mv:=blk_cell hwi6.nd 1
   have hown6:=hwi6.o2
   clear hown5 hgrow hown hat hlow hn5 hW6 hwi6 HW2 HG1 n0
   go_wp2_with (first | (at_builtin;refine wpList_append_own_at _ rfl _ _ 40 rfl (wb+1) 76 j0 (.pointer none) 1 8 Tryz.underlying40 hj hy0 hy1 hy2 rfl (by decide) _ _ _ rfl (hown6.alloc _) ⟨W6.heap.size,0,none⟩ 1 1 [.pointer (some ⟨g2,0,none⟩)] rfl rfl ?c1 ?c2 ?c3 ?c4 ?c5 ?_) | (rw [← HW6.out]))
   case c1=>
    intro j u hj
    match j,hj with
    | 0,hj=>simp at hj;subst hj;simp [Addr.add]
   case c2=>intro u hu;simp at hu;subst hu;rfl
   case c3=>unfold maxLen;omega
   case c4=>omega
   case c5=>simp;omega
   ·intro v'' w8 hown8 hgrow _ hat
    have hlow:=grown_low (gb:=wb) hown6 hw6 hgrow
    have hn8:=(hlow wb (Nat.lt_succ_self _)).trans HWI6.out.nd
    obtain ⟨p8,m8,c8,rfl⟩:=own_form hown8
    obtain ⟨W9,hW9⟩:∃ W9,W9=w8.setCell ⟨wb,1,none⟩ (.slice p8 m8 c8):=⟨_,rfl⟩
    have HW9:=hide hW9
    have hwi9:=HWI6.out.app2 HG2.out hgrow hown8 hat
    rw [← hW9] at hwi9
    have HWI9:=hide hwi9
    have f8:=fun o=>blk_frozen hn8 o
    have t8:w8.cell? ⟨wb,1,none⟩=some mv:=blk_cell hn8 1
    have hl8:wb < w8.heap.size:=blk_lt hn8
    clear hown8 hgrow hown6 hat hlow hn8 hW9 hwi9 HWI6 HG2 n1
    go_wp2_with (rw [← HW9.out])
    go_wp2
    go_ret
    refine ⟨rfl,_,_,ys++[y],_,_,HWI9.out,fun z hz'=>?_,by simp;omega⟩
    rcases List.mem_append.1 hz' with h | h
    ·exact HWF.out z h
    ·rw [List.mem_singleton.1 h];exact HPY.out
 ·have hlen:¬ 600 < s.length:=by have:s.length≤600:=hsz;omega
  have hf':parseL s=.error f:=hf
  obtain ⟨g1,g2,g3⟩:=parse_fok s f hf'
  have h0:((f.err:Int) != 0)=true:=by simp;omega
  have h1:((f.err:Int) != 1)=true:=by simp;omega
  clear hf
  go_wp2_with fail
  refine (qparse_any s w1 hs).mono ?_
  rintro e w2 ⟨hB2,hQ⟩
  rw [if_neg hlen,hf'] at hQ
  have hQ':e=.returned (.tuple #[.pointer none,.int .i64 f.err,.int .i64 f.pos]):=hQ
  subst hQ'
  have HW2:=hide (HW1.out.below hB2)
  clear hB2 hf' g1 g2 g3 hQ
  go_wp2
  go_ret
  exact ⟨rfl,xv,mv,ys,vs1,vs2,HW2.out,HWF.out,by omega⟩
end
section
open Go.RowKit
attribute [local go_sem ↓] Go.wp_at_zero Go.wp_at_succ
theorem WldG.below {wb:Nat} {u w w':World} {N:Nat} (h:WldG wb u N w) (hb:Below w.heap.size w w'):WldG wb u N w':=by
 obtain ⟨xv,mv,ys,vs1,vs2,h1,h2,h3⟩:=h
 exact ⟨xv,mv,ys,vs1,vs2,h1.below hb,h2,h3⟩
theorem WldG.more {wb:Nat} {u w:World} {N N':Nat} (h:WldG wb u N w) (hn:N≤N'):WldG wb u N' w:=by
 obtain ⟨xv,mv,ys,vs1,vs2,h1,h2,h3⟩:=h
 exact ⟨xv,mv,ys,vs1,vs2,h1,h2,Nat.le_trans h3 hn⟩
theorem WldI.get {wb:Nat} {u w:World} {xv mv:Value} {ys:List TreeS} {vs1 vs2:List Value} (h:WldI wb u w xv mv ys ys vs1 vs2) (i:Nat) (hi:i < ys.length):∃ ax cx am cm bx bm gx gm X1 X2,xv=.slice (some ⟨bx,0,none⟩) ys.length cx∧mv=.slice (some ⟨bm,0,none⟩) ys.length cm∧w.cell? ⟨bx,i,none⟩=some (.pointer (some ⟨gx,0,none⟩))∧w.cell? ⟨bm,i,none⟩=some (.pointer (some ⟨gm,0,none⟩))∧RealS X1 ys[i] w (.pointer (some ⟨gx,0,none⟩))∧RScript X2 ys[i] w (.pointer (some ⟨gm,0,none⟩))∧ax=0∧am=0:=by
 have l1:=row_len h.r1
 have l2:=row_len h.r2
 obtain ⟨u1,hu1,X1,p1,_⟩:=h.r1.at i hi
 obtain ⟨u2,hu2,X2,p2,_⟩:=h.r2.at i hi
 obtain ⟨gx,_,_,rfl,_⟩:=id p1
 obtain ⟨gm,_,_,rfl,_⟩:=id p2
 have o1:=h.o1
 have o2:=h.o2
 rw [← l1] at o1
 rw [← l2] at o2
 have c1:=fun g (hg:xv.ownBlock=some g)=>o1.cells hg
 have c2:=fun g (hg:mv.ownBlock=some g)=>o2.cells hg
 rcases o1.2 with ⟨_,h0⟩ | ⟨bx,cx,cur,hx,_⟩
 ·omega
 rcases o2.2 with ⟨_,h0⟩ | ⟨bm,cm,cur2,hm,_⟩
 ·omega
 have q1:=c1 bx (by rw [hx];rfl) i _ hu1
 have q2:=c2 bm (by rw [hm];rfl) i _ hu2
 rw [addr_add0] at q1 q2
 exact ⟨0,cx,0,cm,bx,bm,gx,gm,X1,X2,hx,hm,q1,q2,p1,p2,rfl,rfl⟩
theorem wfOf {y:TreeS} (h:∃ t:List UInt8,t.length≤600∧parseL t=.ok y):(∀ c∈y.2,allC (WfT y.1) (WfC y.1) 7 c)∧(textL y).length≤4294967200:=by
 obtain ⟨t,ht,hy⟩:=h
 exact ⟨(parse_wf hy).2,text_small (t:=strA t) hy ht⟩
theorem lstepP_any (wb:Nat) (u w:World) (N:Nat) (x:OpD) (h:WldG wb u N w) (he:Env u) (hu:u.heap.size=wb) (hN:N≤1100000000000) (hx:OpSm x) (hh:∃ a n c,x.hv=.slice a n c) (hc:∃ a n c,x.cv=.slice a n c) (hk:x.kind=1∨x.kind=2∨x.kind=6∨x.kind=7) :
 Calls Tryz.prog 16 #[.pointer (some ⟨wb,0,none⟩),opV x] w fun e w'=>e=.returned (.bool true)∧WldG wb u (N+1) w':=by
 have H:=hide h
 have HE:=hide he
 have HX:=hide hx
 have HH:=hide hh
 have HC:=hide hc
 obtain ⟨xv,mv,ys,vs1,vs2,hwi,hwf,hyn⟩:=h
 have hwl:=blk_lt hwi.nd
 have HMK:Hid (∀ W,Below w.heap.size w W→Calls Tryz.prog 24 #[.pointer (some ⟨wb,0,none⟩),opV x] W fun e w'=>e=.returned (.tuple #[])∧Below W.heap.size W w'):=fun W hW=>lmarks_any wb xv mv x W (hwi.below hW).nd hh hc
 have HWI:=hide hwi
 have HWF:=hide hwf
 obtain ⟨a1,n1,c1,hh⟩:=hh
 obtain ⟨a2,n2,c2,hc⟩:=hc
 have hxs:=hx.s
 obtain ⟨ha1,ha2⟩:=hx.a
 unfold opV at HMK ⊢
 rw [hh,hc] at HMK ⊢
 obtain ⟨W0,hW0⟩:∃ W0,W0=w.alloc (.cells #[.int .i64 x.kind,.int .i64 x.a,.int .i64 x.b,.string (strA x.s),.string (strA x.fr),.string (strA x.tt),.int .i64 x.sz,.slice a1 n1 c1,.slice a2 n2 c2] 47):=⟨_,rfl⟩
 have HW0:=hide hW0
 have HB0:Hid (Below w.heap.size w W0):=by show Below _ _ _;rw [hW0];exact (Below.refl _ _).alloc (Nat.le_refl _) _
 have HN0:Hid (W0.heap[w.heap.size]?=some (.cells #[.int .i64 x.kind,.int .i64 x.a,.int .i64 x.b,.string (strA x.s),.string (strA x.fr),.string (strA x.tt),.int .i64 x.sz,.slice a1 n1 c1,.slice a2 n2 c2] 47)):=by show _=_;rw [hW0];exact blk_new _ _
 clear hwi hwf he hx hh hc hW0
 generalize hKK:x.kind=K at *
 go_enter Tryz.func16,Tryz.ntmps16
 go_wp2_with fail
 rw [← HW0.out]
 refine (HMK.out W0 HB0.out).mono ?_
 rintro e w1 ⟨rfl,hB1⟩
 have HB1:=hide (HB0.out.trans (hB1.mono HB0.out.size))
 have hn1:=blk_below HN0.out hB1
 have q0:w1.cell? ⟨w.heap.size,0,none⟩=some (.int .i64 K):=blk_cell hn1 0
 have q1:w1.cell? ⟨w.heap.size,1,none⟩=some (.int .i64 x.a):=blk_cell hn1 1
 have q3:w1.cell? ⟨w.heap.size,3,none⟩=some (.string (strA x.s)):=blk_cell hn1 3
 have hwi1:=HWI.out.below HB1.out
 have HW1:=hide hwi1
 have r0:w1.cell? ⟨wb,0,none⟩=some xv:=blk_cell hwi1.nd 0
 have r1:w1.cell? ⟨wb,1,none⟩=some mv:=blk_cell hwi1.nd 1
 have HN1:=hide hn1
 clear hB1 hn1 hwi1
 rcases hk with rfl | hk
 ·go_wp2_with fail
  refine (lparsed_any wb u w1 N x.s (H.out.below HB1.out) HE.out hu hN hxs).mono ?_
  rintro e w2 ⟨rfl,hw2⟩
  have HG:=hide hw2
  clear hw2
  go_wp2
  go_ret
  exact ⟨rfl,HG.out⟩
 ·have k1:(K == 1)=false:=by rcases hk with rfl | rfl | rfl <;> rfl
  have k5:(K == 5)=false:=by rcases hk with rfl | rfl | rfl <;> rfl
  have l1:=row_len HW1.out.r1
  by_cases hy0:ys=[]
  ·subst hy0
   have hv0:vs1=[]:=List.eq_nil_of_length_eq_zero l1.symm
   subst hv0
   obtain ⟨p0,c0,hxv⟩:=own_lenQ HW1.out.o1
   subst hxv
   go_wp2
   go_ret
   exact ⟨rfl,(H.out.below HB1.out).more (Nat.le_succ N)⟩
  ·have hyl:0 < ys.length:=List.length_pos_iff.2 hy0
   obtain ⟨i,hi⟩:∃ i,pickL x.a ys.length=i:=⟨_,rfl⟩
   have hil:i < ys.length:=by rw [← hi];exact pickL_lt _ hyl
   have HPK:Hid (∀ W,Calls Tryz.prog 31 #[.int .i64 x.a,.int .i64 ys.length] W fun e w'=>e=.returned (.int .i64 i)∧w'=W):=fun W=>by rw [← hi];exact lpick_any x.a ys.length W ha1 ha2 hyl (by omega)
   obtain ⟨_,cx,_,cm,bx,bm,gx,gm,X1,X2,hxv,hmv,cb1,cb2,hp1,hp2,_,_⟩:=HW1.out.get i hil
   obtain ⟨y,hy⟩:∃ y,ys[i]=y:=⟨_,rfl⟩
   rw [hy] at hp1 hp2
   have hwfy:=wfOf (HWF.out y (by rw [← hy];exact List.getElem_mem hil))
   subst hxv hmv
   have HP1:=hide hp1
   have HP2:=hide hp2
   have HWY:=hide hwfy
   have hnz:((ys.length:Int) == 0)=false:=by simp;omega
   have hnlt:¬ ys.length=0:=by omega
   clear hp1 hp2 hwfy hi hy hy0 l1
   go_wp2_with fail
   go_quiet (first | (go_at_call 31;refine Calls.quiet_of_same (HPK.out _)))
   generalize hWW:w1.drewN _=V
   have HVB:Hid (Below w.heap.size w V):=by rw [← hWW];exact ⟨HB1.out.os,HB1.out.tape,HB1.out.output,HB1.out.size,HB1.out.block⟩
   have HVR:Hid (RealS X1 y V (.pointer (some ⟨gx,0,none⟩))):=by rw [← hWW];exact reals_tree.keep _ _ _ _ _ HP1.out (fun k _ _=>rfl)
   have HVS:Hid (RScript X2 y V (.pointer (some ⟨gm,0,none⟩))):=by rw [← hWW];exact rscript_tree.keep _ _ _ _ _ HP2.out (fun k _ _=>rfl)
   have s0:V.cell? ⟨wb,0,none⟩=some (.slice (some ⟨bx,0,none⟩) ys.length cx):=by rw [← hWW];exact r0
   have s1:V.cell? ⟨wb,1,none⟩=some (.slice (some ⟨bm,0,none⟩) ys.length cm):=by rw [← hWW];exact r1
   have s2:V.cell? ⟨bx,i,none⟩=some (.pointer (some ⟨gx,0,none⟩)):=by rw [← hWW];exact cb1
   have s3:V.cell? ⟨bm,i,none⟩=some (.pointer (some ⟨gm,0,none⟩)):=by rw [← hWW];exact cb2
   have s4:V.cell? ⟨w.heap.size,0,none⟩=some (.int .i64 K):=by rw [← hWW];exact q0
   clear hWW q0 q1 q3 r0 r1 cb1 cb2 HB1 HW1 HN1
   rcases hk with rfl | hk
   ·obtain ⟨gx',rv,lv,hg',_,hc1,hr1,hb1⟩:=HVR.out
    have hge:gx=gx':=by injection hg' with h;injection h with h;injection h
    subst hge
    have hEV:Env V:=HE.out.below (by rw [hu];exact (HWI.out.below HVB.out).b)
    have HTX:=hide (scriptText_any gx y rv lv V X1 hc1 hr1 hb1 hEV.tab HWY.out.1 HWY.out.2)
    have hzt:=strA_size (textL y)
    clear hc1 hr1 hb1 hEV hg'
    go_wp2_with fail
    refine HTX.out.mono ?_
    rintro e w3 ⟨rfl,hB3⟩
    have HB3:=hide (HVB.out.trans (hB3.mono HVB.out.size))
    have HPS:=hide (pscript_any X2 y w3 _ (rscript_tree.keep _ _ _ _ _ HVS.out (fun k _ hk=>hB3.block k hk)) HWY.out.1 (by have:=HWY.out.2;omega))
    clear hB3
    go_wp2_with fail
    refine HPS.out.mono ?_
    rintro e w4 ⟨rfl,hB4⟩
    have HB4:=hide (HB3.out.trans (hB4.mono HB3.out.size))
    clear hB4
    generalize strA (textL y)=T at *
    go_wp2
    go_ret
    exact ⟨by simp,(H.out.below HB4.out).more (Nat.le_succ N)⟩
   ·have k2:(K == 2)=false:=by rcases hk with rfl | rfl <;> rfl
    have k3:(K == 3)=false:=by rcases hk with rfl | rfl <;> rfl
    have k4:(K == 4)=false:=by rcases hk with rfl | rfl <;> rfl
    clear hk
    go_wp2
    go_ret
    exact ⟨rfl,(H.out.below HVB.out).more (Nat.le_succ N)⟩
end
end Go.Proofs.YtgnkjijocdmniaaGreatDoor
