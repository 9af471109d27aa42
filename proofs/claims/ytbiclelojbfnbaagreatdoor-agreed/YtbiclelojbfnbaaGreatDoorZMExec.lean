import Derived.Defers
import Derived.Recover
import Derived.Test.YtbiclelojbfnbaaGreatDoorMActW
import Derived.Test.YtbiclelojbfnbaaGreatDoorMAskW
import Derived.Test.YtbiclelojbfnbaaGreatDoorZMDoG
import Derived.Test.YtbiclelojbfnbaaGreatDoorZMPut
import Derived.Test.YtbiclelojbfnbaaGreatDoorMWays2
import Derived.Test.YtbiclelojbfnbaaGreatDoorReaderD
namespace Go.Proofs.YtbiclelojbfnbaaGreatDoor
set_option linter.unusedVariables false
set_option linter.unusedSimpArgs false
set_option maxRecDepth 100000
set_option maxHeartbeats 4000000
section
open Go.RowKit
theorem assertFault_yes (W:World) (v:Value) (xT:TypeId):(Instr.typeAssert (.iface 140 v) xT 140 true).run Tryz.prog W=.ok (.tuple #[v,.bool true]) W:=by kernel_rfl
theorem caught_nil (w:World):Calls Tryz.prog 103 #[.nilIface] w fun e w'=>e=.returned (.pointer none)∧w'=w:=by
 go_enter Tryz.func103,Tryz.ntmps103
 go_wp2
 go_ret
 exact ⟨rfl,rfl⟩
theorem caught_fault (a:Addr) (w:World):Calls Tryz.prog 103 #[.iface 140 (.pointer (some a))] w fun e w'=>e=.returned (.pointer (some a))∧w'=w:=by
 go_enter Tryz.func103,Tryz.ntmps103
 have hta:=assertFault_yes w (.pointer (some a))
 go_wp2
 go_ret
 exact ⟨rfl,rfl⟩
theorem catch_idle (p q:Addr) (w:World) :
  CallsD Tryz.prog 102 #[.pointer (some p),.pointer (some q)] .returning w fun e u' w'=>e=.returned (.tuple #[])∧u'=.returning∧w'=w:=by
 refine callsD_of_wpS Tryz.func102 rfl fun c₀ cs hu=>?_
 apply wpS_seq
 apply wpS_region
 simp [wpOpsS,go_sem,recoverD,hu,Tryz.ntmps102,Exit.thenS]
 refine (caught_nil w).mono ?_
 rintro e w' ⟨rfl,rfl⟩
 apply wpS_seq
 apply wpS_region
 simp [wpOpsS,go_sem,Exit.thenS]
 refine wpS_cond (t:=false) (by simp [Act.eval,Array.replicate]) ?_
 simp only [Bool.false_eq_true,if_false]
 refine wpS_of_wp (wp_skip ?_)
 cases c₀
 simp_all [bodyPostS,results,Tryz.results102]
theorem catch_panicking (P Q:Nat) (x1 x2 x3:Value) (a:Addr) (older:List PanicEntry) (w:World) (hc1:w.cell? ⟨P,0,none⟩=some x1) (hc2:w.cell? ⟨P,1,none⟩=some x2) (hc3:w.cell? ⟨Q,0,none⟩=some x3) (hz1:∀ j,w.frozen? ⟨P,j,none⟩=false) (hz2:∀ j,w.frozen? ⟨Q,j,none⟩=false) (hPQ:P≠Q) :
  CallsD Tryz.prog 102 #[.pointer (some ⟨P,0,none⟩),.pointer (some ⟨Q,0,none⟩)] (.panicking ({ v:=.iface 140 (.pointer (some a)),recovered:=false } :: older)) w fun e u' w'=>
   e=.returned (.tuple #[])∧u'=.panicking ({ v:=.iface 140 (.pointer (some a)),recovered:=true } :: older)∧w'=((w.setCell ⟨P,0,none⟩ (.slice none 0 0)).setCell ⟨P,1,none⟩ (.slice none 0 0)).setCell ⟨Q,0,none⟩ (.iface 140 (.pointer (some a))):=by
 refine callsD_of_wpS Tryz.func102 rfl fun c₀ cs hu=>?_
 apply wpS_seq
 apply wpS_region
 simp [wpOpsS,go_sem,recoverD,hu,Tryz.ntmps102,Exit.thenS]
 refine (caught_fault a w).mono ?_
 rintro e w' ⟨rfl,rfl⟩
 apply wpS_seq
 apply wpS_region
 simp [wpOpsS,go_sem,Exit.thenS]
 refine wpS_cond (t:=true) (by simp [Act.eval,Array.replicate]) ?_
 simp only [if_true]
 apply wpS_region
 simp [wpOpsS,go_sem,hc1,hc2,hc3,hz1,hz2,bodyPostS,results,Tryz.results102]
end
section
open Go.RowKit
attribute [local go_sem ↓] Go.wp_at_zero Go.wp_at_succ
theorem actions_any (B sb:Nat) (M:Msg) (s:SS) (w:World) (h:SAt w B sb M s) :
  Calls Tryz.prog 122 #[.pointer (some ⟨sb,0,none⟩)] w fun e w'=>∃ v,e=.returned v∧ActsV w' w.heap.size v (allL s)∧Below w.heap.size w w':=by
 have HS:=hide (h.below (below_drew1 (Below.refl _ _)))
 obtain ⟨hv,mb,tv,mv,hSI⟩:=h
 have c8:w.cell? ⟨sb,8,none⟩=some (.bool s.disc):=hSI.cell 8
 have hsl:=hSI.lt
 clear hSI
 go_enter Tryz.func122,Tryz.ntmps122
 go_wp2_with fail
 go_region_held3 (fun w'=>w'.cell? ⟨sb,8,none⟩=some (.bool s.disc)) (first | go_keep | exact d8) (first | (go_at_call 200;refine (all_acts B sb M s s.disc w.drew HS.out rfl).mono ?_;rintro e w1 ⟨v,rfl,hv1,hb1⟩;have hb2:=below_drew hb1;have d8:w1.cell? ⟨sb,8,none⟩=some (.bool s.disc):=(hb2.cell (p:=⟨sb,8,none⟩) hsl).trans c8;obtain ⟨a5,k5,hv5⟩:=owns_len hv1.1;subst hv5;have HV:=hide hv1;have HB:=hide hb2;clear hv1 hb1 hb2;skip))
 all_goals go_wp2
 all_goals go_ret
 all_goals exact ⟨_,rfl,HV.out,HB.out⟩
theorem xcatch_idle (p q:Addr) (w:World) :
  CallsD Tryz.prog 116 #[.pointer (some p),.pointer (some q)] .returning w fun e u' w'=>e=.returned (.tuple #[])∧u'=.returning∧w'=w:=by
 refine callsD_of_wpS Tryz.func116 rfl fun c₀ cs hu=>?_
 apply wpS_seq
 apply wpS_region
 simp [wpOpsS,go_sem,recoverD,hu,Tryz.ntmps116,Exit.thenS]
 refine (caught_nil w).mono ?_
 rintro e w' ⟨rfl,rfl⟩
 apply wpS_seq
 apply wpS_region
 simp [wpOpsS,go_sem,Exit.thenS]
 refine wpS_cond (t:=false) (by simp [Act.eval,Array.replicate]) ?_
 simp only [Bool.false_eq_true,if_false]
 refine wpS_of_wp (wp_skip ?_)
 cases c₀
 simp_all [bodyPostS,results,Tryz.results116]
theorem xcatch_panicking (P Q:Nat) (x1 x3:Value) (a:Addr) (older:List PanicEntry) (w:World) (hc1:w.cell? ⟨P,0,none⟩=some x1) (hc3:w.cell? ⟨Q,0,none⟩=some x3) (hz1:∀ j,w.frozen? ⟨P,j,none⟩=false) (hz2:∀ j,w.frozen? ⟨Q,j,none⟩=false) (hPQ:P≠Q) :
  CallsD Tryz.prog 116 #[.pointer (some ⟨P,0,none⟩),.pointer (some ⟨Q,0,none⟩)] (.panicking ({ v:=.iface 140 (.pointer (some a)),recovered:=false } :: older)) w fun e u' w'=>
   e=.returned (.tuple #[])∧u'=.panicking ({ v:=.iface 140 (.pointer (some a)),recovered:=true } :: older)∧∃ v w1,ActsV w1 w.heap.size v [(1,[])]∧Below w.heap.size w w1∧w'=(w1.setCell ⟨P,0,none⟩ v).setCell ⟨Q,0,none⟩ (.iface 140 (.pointer (some a))):=by
 refine callsD_of_wpS Tryz.func116 rfl fun c₀ cs hu=>?_
 apply wpS_seq
 apply wpS_region
 simp [wpOpsS,go_sem,recoverD,hu,Tryz.ntmps116,Exit.thenS]
 refine (caught_fault a w).mono ?_
 rintro e w' ⟨rfl,rfl⟩
 apply wpS_seq
 apply wpS_region
 simp [wpOpsS,go_sem,Exit.thenS]
 refine wpS_cond (t:=true) (by simp [Act.eval,Array.replicate]) ?_
 simp only [if_true]
 apply wpS_region
 simp [wpOpsS,go_sem,Exit.thenS]
 refine (kept_any _).mono ?_
 rintro e w1 ⟨v,rfl,hv1,hb1⟩
 obtain ⟨a5,k5,hv5⟩:=owns_len hv1.1
 subst hv5
 have d1:w1.cell? ⟨P,0,none⟩=some x1:=(hb1.cell (p:=⟨P,0,none⟩) (cell_lt hc1)).trans hc1
 have d3:w1.cell? ⟨Q,0,none⟩=some x3:=(hb1.cell (p:=⟨Q,0,none⟩) (cell_lt hc3)).trans hc3
 have z1:∀ j,w1.frozen? ⟨P,j,none⟩=false:=fun j=>(hb1.frozen (p:=⟨P,j,none⟩) (show P < _ from cell_lt (a:=⟨P,0,none⟩) hc1)).trans (hz1 j)
 have z2:∀ j,w1.frozen? ⟨Q,j,none⟩=false:=fun j=>(hb1.frozen (p:=⟨Q,j,none⟩) (show Q < _ from cell_lt (a:=⟨Q,0,none⟩) hc3)).trans (hz2 j)
 have hQP:Q≠P:=Ne.symm hPQ
 simp [wpOpsS,go_sem,d1,d3,z1,z2,hPQ,hQP,bodyPostS,results,Tryz.results116]
 exact ⟨_,w1,hv1,hb1,rfl⟩
end
section
open Go.RowKit
attribute [local go_sem ↓] Go.wp_at_zero Go.wp_at_succ
theorem do_bad (i:Ins) (av bv:Value) (B xb sb:Nat) (M:Msg) (m:MS) (count:Nat) (w:World) (h:MAt w B xb sb M m count) (ho:InsOk w i av bv) (hw:WaysAt w (xb+1)) (hop:i.op < 1∨14 < i.op) :
  Calls Tryz.prog 121 #[.pointer (some ⟨xb,0,none⟩),.slice (some ⟨xb+6,0,none⟩) 15 15,insV i av bv] w (MPost (.error (12,(m.now:Int))) B xb sb M count w):=by
 obtain ⟨aa,ac,hav⟩:=ho.a.len
 obtain ⟨ba,bc,hbv⟩:=ho.b.len
 subst hav hbv
 obtain ⟨op,n,tag,oct,a,b,at_⟩:=i
 have hnow:=(h.box (.cells #[.int .i64 op,.int .i64 n,.int .i64 tag,.bool oct,.slice aa a.length ac,.slice ba b.length bc,.int .i64 at_] 62)).now
 have hxl:xb < w.heap.size:=cell_lt h.now
 have c6:w.cell? ⟨xb+6,0,none⟩=some .nilFunc:=blk_cell hw.tb 0
 have hx6:¬ xb+6=w.heap.size:=by have:=blk_lt hw.tb;omega
 have hx6l:xb+6 < w.heap.size:=blk_lt hw.tb
 have hn:=neqNilW
 dsimp only at hop
 clear h ho hw
 unfold insV
 dsimp only
 have FIN:Hid (∀ (e:Ending) (w':World),ThrewZ (12,(m.now:Int)) (w.alloc (.cells #[.int .i64 op,.int .i64 n,.int .i64 tag,.bool oct,.slice aa a.length ac,.slice ba b.length bc,.int .i64 at_] 62)) e w'→Below (w.alloc (.cells #[.int .i64 op,.int .i64 n,.int .i64 tag,.bool oct,.slice aa a.length ac,.slice ba b.length bc,.int .i64 at_] 62)).heap.size (w.alloc (.cells #[.int .i64 op,.int .i64 n,.int .i64 tag,.bool oct,.slice aa a.length ac,.slice ba b.length bc,.int .i64 at_] 62)) w'→MPost (.error (12,(m.now:Int))) B xb sb M count w e w'):=fun e w' h1 h2=>MPost.from (MPost.err rfl (Fr.of_below h2) h1) (fr_box _ _)
 rcases (by omega:op < 0∨op=0∨14 < op) with hop | hop | hop
 ·have d1:decide (0≤op)=false:=decide_eq_false (by omega)
  have d1':¬ 0≤op:=by omega
  go_enter Tryz.func121,Tryz.ntmps121
  go_wp2_with (go_at_call 199;refine (must_no _ _ _ hnow).mono ?_;rintro e w' ⟨⟨bb,hz,rfl,hcc⟩,hb⟩)
  exact ⟨rfl,FIN.out _ _ ⟨bb,hz,rfl,hcc⟩ hb⟩
 ·subst hop
  go_enter Tryz.func121,Tryz.ntmps121
  go_wp2_with (go_at_call 199;refine (must_no _ _ _ hnow).mono ?_;rintro e w' ⟨⟨bb,hz,rfl,hcc⟩,hb⟩)
  exact ⟨rfl,FIN.out _ _ ⟨bb,hz,rfl,hcc⟩ hb⟩
 ·have d1:decide (0≤op)=true:=decide_eq_true (by omega)
  have d1':0≤op:=by omega
  have d2:decide (op < 15)=false:=decide_eq_false (by omega)
  have d2':¬ op < 15:=by omega
  go_enter Tryz.func121,Tryz.ntmps121
  go_wp2_with (go_at_call 199;refine (must_no _ _ _ hnow).mono ?_;rintro e w' ⟨⟨bb,hz,rfl,hcc⟩,hb⟩)
  exact ⟨rfl,FIN.out _ _ ⟨bb,hz,rfl,hcc⟩ hb⟩
theorem do_any (i:Ins) (av bv:Value) (B xb sb:Nat) (M:Msg) (m:MS) (count:Nat) (w:World) (h:MAt w B xb sb M m count) (ho:InsOk w i av bv) (hw:WaysAt w (xb+1)) (ht:Tab w) :
  Calls Tryz.prog 121 #[.pointer (some ⟨xb,0,none⟩),.slice (some ⟨xb+6,0,none⟩) 15 15,insV i av bv] w (MPost (stepL M count i m) B xb sb M count w):=by
 by_cases hop:i.op < 1∨14 < i.op
 ·have hr:stepL M count i m=.error (12,(m.now:Int)):=by
   unfold stepL failL
   rw [if_neg (by omega),if_neg (by omega),if_neg (by omega),if_neg (by omega),if_neg (by omega),if_neg (by omega),if_neg (by omega),if_neg (by omega),if_neg (by omega),if_neg (by omega),if_neg (by omega),if_neg (by omega),if_neg (by omega),if_neg (by omega)]
  rw [hr]
  exact do_bad i av bv B xb sb M m count w h ho hw hop
 obtain ⟨op,n,tag,oct,a,b,at_⟩:=i
 dsimp only at hop
 obtain ⟨aa,ac,hav⟩:=ho.a.len
 obtain ⟨ba,bc,hbv⟩:=ho.b.len
 subst hav hbv
 rcases (by omega:op=1∨op=2∨op=3∨op=4∨op=5∨op=6∨op=7∨op=8∨op=9∨op=10∨op=11∨op=12∨op=13∨op=14) with rfl | rfl | rfl | rfl | rfl | rfl | rfl | rfl | rfl | rfl | rfl | rfl | rfl | rfl
 ·exact do_fn 1 184 (doPush ⟨1,n,tag,oct,a,b,at_⟩ m) n tag oct a b at_ aa ba ac bc B xb sb M m count w (fun _ _=>by kernel_rfl) (by decide) (by decide) h hw rfl (push_way ⟨1,n,tag,oct,a,b,at_⟩ _ _ B xb sb M m count _ (h.below (below_box _)) (ho.below (below_box _)) )
 ·exact do_fn 2 185 (doNot m) n tag oct a b at_ aa ba ac bc B xb sb M m count w (fun _ _=>by kernel_rfl) (by decide) (by decide) h hw rfl (turn_way ⟨2,n,tag,oct,a,b,at_⟩ _ _ B xb sb M m count _ (h.below (below_box _)) (ho.below (below_box _)) )
 ·exact do_fn 3 186 (doJump count ⟨3,n,tag,oct,a,b,at_⟩ m) n tag oct a b at_ aa ba ac bc B xb sb M m count w (fun _ _=>by kernel_rfl) (by decide) (by decide) h hw rfl (jump_way ⟨3,n,tag,oct,a,b,at_⟩ _ _ B xb sb M m count _ (h.below (below_box _)) (ho.below (below_box _)) )
 ·exact do_cl 4 268 (xb+1) (doCond true count ⟨4,n,tag,oct,a,b,at_⟩ m) n tag oct a b at_ aa ba ac bc B xb sb M m count w (fun _ _=>by kernel_rfl) (by decide) (by decide) h hw rfl (jumpAt_way true (xb+1) ⟨4,n,tag,oct,a,b,at_⟩ _ _ B xb sb M m count _ (h.below (below_box _)) (ho.below (below_box _)) (hw.below (below_box _)).p0 (by omega))
 ·exact do_cl 5 268 (xb+1+1) (doCond false count ⟨5,n,tag,oct,a,b,at_⟩ m) n tag oct a b at_ aa ba ac bc B xb sb M m count w (fun _ _=>by kernel_rfl) (by decide) (by decide) h hw rfl (jumpAt_way false (xb+1+1) ⟨5,n,tag,oct,a,b,at_⟩ _ _ B xb sb M m count _ (h.below (below_box _)) (ho.below (below_box _)) (hw.below (below_box _)).p1 (by omega))
 ·exact do_cl 6 269 (xb+1+2) (doAsk (fieldsL M (a.map (expL m.st))) ⟨6,n,tag,oct,a,b,at_⟩ m) n tag oct a b at_ aa ba ac bc B xb sb M m count w (fun _ _=>by kernel_rfl) (by decide) (by decide) h hw rfl (fields_way (xb+1+2) ⟨6,n,tag,oct,a,b,at_⟩ _ _ B xb sb M m count _ (h.below (below_box _)) (ho.below (below_box _)) (hw.below (below_box _)).p2)
 ·exact do_cl 7 269 (xb+1+3) (doAsk (envL M a) ⟨7,n,tag,oct,a,b,at_⟩ m) n tag oct a b at_ aa ba ac bc B xb sb M m count w (fun _ _=>by kernel_rfl) (by decide) (by decide) h hw rfl (envelope_way (xb+1+3) ⟨7,n,tag,oct,a,b,at_⟩ _ _ B xb sb M m count _ (h.below (below_box _)) (ho.below (below_box _)) (hw.below (below_box _)).p3)
 ·exact do_cl 8 269 (xb+1+4) (doAsk (a.map (expL m.st)) ⟨8,n,tag,oct,a,b,at_⟩ m) n tag oct a b at_ aa ba ac bc B xb sb M m count w (fun _ _=>by kernel_rfl) (by decide) (by decide) h hw rfl (strings_way (xb+1+4) ⟨8,n,tag,oct,a,b,at_⟩ _ _ B xb sb M m count _ (h.below (below_box _)) (ho.below (below_box _)) (hw.below (below_box _)).p4)
 ·exact do_fn 9 192 (putL (existsL M (a.map (expL m.st))) m) n tag oct a b at_ aa ba ac bc B xb sb M m count w (fun _ _=>by kernel_rfl) (by decide) (by decide) h hw rfl (exists_way ⟨9,n,tag,oct,a,b,at_⟩ _ _ B xb sb M m count _ (h.below (below_box _)) (ho.below (below_box _)) )
 ·exact do_fn 10 193 (doSize M ⟨10,n,tag,oct,a,b,at_⟩ m) n tag oct a b at_ aa ba ac bc B xb sb M m count w (fun _ _=>by kernel_rfl) (by decide) (by decide) h hw rfl (size_way ⟨10,n,tag,oct,a,b,at_⟩ _ _ B xb sb M m count _ (h.below (below_box _)) (ho.below (below_box _)) )
 ·exact do_fn 11 194 (doAct ⟨11,n,tag,oct,a,b,at_⟩ m) n tag oct a b at_ aa ba ac bc B xb sb M m count w (fun _ _=>by kernel_rfl) (by decide) (by decide) h hw rfl (act_way ⟨11,n,tag,oct,a,b,at_⟩ _ _ B xb sb M m count _ (h.below (below_box _)) (ho.below (below_box _)) )
 ·exact do_fn 12 195 (doSet ⟨12,n,tag,oct,a,b,at_⟩ m) n tag oct a b at_ aa ba ac bc B xb sb M m count w (fun _ _=>by kernel_rfl) (by decide) (by decide) h hw rfl (set_way ⟨12,n,tag,oct,a,b,at_⟩ _ _ B xb sb M m count _ (h.below (below_box _)) (ho.below (below_box _)) (ht.below (below_box _)))
 ·exact do_fn 13 196 (.ok (stL m (discL m.st))) n tag oct a b at_ aa ba ac bc B xb sb M m count w (fun _ _=>by kernel_rfl) (by decide) (by decide) h hw rfl (discard_way ⟨13,n,tag,oct,a,b,at_⟩ _ _ B xb sb M m count _ (h.below (below_box _)) (ho.below (below_box _)) )
 ·exact do_fn 14 198 (.ok (goL m count)) n tag oct a b at_ aa ba ac bc B xb sb M m count w (fun _ _=>by kernel_rfl) (by decide) (by decide) h hw rfl (stop_way ⟨14,n,tag,oct,a,b,at_⟩ _ _ B xb sb M m count _ (h.below (below_box _)) (ho.below (below_box _)) )
end
section
open Go.RowKit
attribute [local go_sem ↓] Go.wp_at_zero Go.wp_at_succ
def InsAt (w:World) (cs:Array Value) (j:Nat) (i:Ins):Prop:=
 ∃ av bv,cs[j*7]?=some (.int .i64 i.op)∧cs[j*7+1]?=some (.int .i64 i.n)∧cs[j*7+2]?=some (.int .i64 i.tag)∧cs[j*7+3]?=some (.bool i.oct)∧cs[j*7+4]?=some av∧cs[j*7+5]?=some bv∧cs[j*7+6]?=some (.int .i64 i.at_)∧InsOk w i av bv
def CodeV (w:World) (cv:Value) (code:List Ins):Prop:=
 (cv=.slice none 0 0∧code=[])∨∃ g c cs,cv=.slice (some ⟨g,0,none⟩) code.length c∧w.heap[g]?=some (.cells cs 62)∧∀ j (hj:j < code.length),InsAt w cs j code[j]
theorem CodeV.fr {P:Nat→Obj→Prop} {w w':World} {cv:Value} {code:List Ins} (h:CodeV w cv code) (hf:Fr P w w') (h1:∀ k cs,¬ P k (.cells cs 62)) (h2:∀ k cs,¬ P k (.cells cs 9)):CodeV w' cv code:=by
 rcases h with h | ⟨g,c,cs,hv,hb,hc⟩
 ·exact Or.inl h
 ·refine Or.inr ⟨g,c,cs,hv,hf.block _ _ hb (h1 _ _),fun j hj=>?_⟩
  obtain ⟨av,bv,a1,a2,a3,a4,a5,a6,a7,ho⟩:=hc j hj
  exact ⟨av,bv,a1,a2,a3,a4,a5,a6,a7,ho.fr hf h2⟩
theorem CodeV.pm {B xb:Nat} {w w':World} {cv:Value} {code:List Ins} (h:CodeV w cv code) (hf:Fr (PMc B xb) w w'):CodeV w' cv code:=h.fr hf (fun _ _=>PMc.not (by decide) (by decide) (by decide) (by decide)) (fun _ _=>PMc.not (by decide) (by decide) (by decide) (by decide))
theorem CodeV.below {w w':World} {cv:Value} {code:List Ins} (h:CodeV w cv code) (hb:Below w.heap.size w w'):CodeV w' cv code:=h.fr (P:=fun _ _=>False) (Fr.of_below hb) (fun _ _ h=>h) (fun _ _ h=>h)
theorem CodeV.len {w:World} {cv:Value} {code:List Ins} (h:CodeV w cv code):∃ a c,cv=.slice a code.length c:=by
 rcases h with ⟨h,rfl⟩ | ⟨g,c,cs,h,_⟩
 ·exact ⟨none,0,h⟩
 ·exact ⟨_,_,h⟩
theorem CodeV.get' {w:World} {la:Option Addr} {n lc:Nat} {code:List Ins} (h:CodeV w (.slice la n lc) code) (j:Nat) (hj:j < code.length):∃ g cs,la=some ⟨g,0,none⟩∧w.heap[g]?=some (.cells cs 62)∧InsAt w cs j code[j]:=by
 rcases h with ⟨_,rfl⟩ | ⟨g,c,cs,hv,hb,hc⟩
 ·exact absurd hj (Nat.not_lt_zero _)
 ·injection hv with h1 h2 h3
  exact ⟨g,cs,h1,hb,hc j hj⟩
def XPost (r:List (Int×List UInt8)×Nat×Option FZ) (w:World) (e:Ending) (w':World):Prop:=
 Below w.heap.size w w'∧((∃ lv,r.2.2=none∧e=.returned (.tuple #[lv,.int .i64 (r.2.1:Int),.nilIface])∧ActsV w' w.heap.size lv r.1)∨
  (∃ lv f bb,r.2.2=some f∧e=.returned (.tuple #[lv,.int .i64 (r.2.1:Int),.iface 140 (.pointer (some ⟨bb,0,none⟩))])∧ActsV w' w.heap.size lv r.1∧w.heap.size≤bb∧w'.heap[bb]?=some (.cells #[.int .i64 f.1,.int .i64 f.2] 145)))
theorem ActsV.set {w:World} {B:Nat} {v:Value} {l:List (Int×List UInt8)} (h:ActsV w B v l) {b:Nat} (hb:b < B) (j:Nat) (x:Value):ActsV (w.setCell ⟨b,j,none⟩ x) B v l:=
 ⟨owns_setOther h.1 (fun e=>by have:=(h.1.lt _ e).1;omega) j x,h.2⟩
theorem ActsV.lo {w:World} {B B':Nat} {v:Value} {l:List (Int×List UInt8)} (h:ActsV w B v l) (hb:B'≤B):ActsV w B' v l:=⟨owns_lo h.1 hb,h.2⟩
theorem ends_fault {w V w1:World} {lv:Value} {f:FZ} {bb P:Nat} {l:List (Int×List UInt8)} (hVB:Below w.heap.size w V) (hP:w.heap.size≤P) (hPV:P+1 < V.heap.size) (hv1:ActsV w1 V.heap.size lv l) (hb1:Below V.heap.size V w1) (hbb:w.heap.size≤bb) (hbP:bb≠P) (hbQ:bb≠P+1) (hF:V.heap[bb]?=some (.cells #[.int .i64 f.1,.int .i64 f.2] 145)) (x0 x1:Value) (c0:V.cell? ⟨P,0,none⟩=some x0) (c1:V.cell? ⟨P+1,0,none⟩=some x1) :
  ∃ W,W=(w1.setCell ⟨P,0,none⟩ lv).setCell ⟨P+1,0,none⟩ (.iface 140 (.pointer (some ⟨bb,0,none⟩)))∧W.cell? ⟨P,0,none⟩=some lv∧W.cell? ⟨P+1,0,none⟩=some (.iface 140 (.pointer (some ⟨bb,0,none⟩)))∧Below w.heap.size w W∧ActsV W w.heap.size lv l∧W.heap[bb]?=some (.cells #[.int .i64 f.1,.int .i64 f.2] 145):=by
 have hz:=hVB.size
 have d0:w1.cell? ⟨P,0,none⟩=some x0:=(hb1.cell (p:=⟨P,0,none⟩) (show P < _ by omega)).trans c0
 have d1:w1.cell? ⟨P+1,0,none⟩=some x1:=(hb1.cell (p:=⟨P+1,0,none⟩) hPV).trans c1
 have hB1:Below w.heap.size w w1:=hVB.trans (hb1.mono hz)
 refine ⟨_,rfl,?_,?_,(hB1.setCell hP _).setCell (show w.heap.size≤P+1 by omega) _,((hv1.set (by omega) _ _).set hPV _ _).lo hz,?_⟩
 ·rw [World.cell?_setCell_other _ _ _ _ (by simp),World.cell?_setCell_same _ _ _ d0]
 ·have d1':(w1.setCell ⟨P,0,none⟩ lv).cell? ⟨P+1,0,none⟩=some x1:=by rw [World.cell?_setCell_other _ _ _ _ (by simp)];exact d1
  exact World.cell?_setCell_same _ _ _ d1'
 ·rw [Below.heap_setCell _ _ _ _ hbQ,Below.heap_setCell _ _ _ _ hbP,hb1.block bb (blk_lt hF)]
  exact hF
theorem execL_long {v:Bool} {code:List Ins} {M:Msg} (h:400 < code.length):execL v code M=([(1,[])],0,some (12,400)):=by unfold execL;rw [if_pos h]
theorem execL_ok {v:Bool} {code:List Ins} {M:Msg} {m:MS} {d:Nat} (h:¬ 400 < code.length) (hl:loopL M code code.length (ms0 v) 0=(.ok m,d)):execL v code M=(allL m.st,d,none):=by unfold execL;rw [if_neg h,hl]
theorem execL_err {v:Bool} {code:List Ins} {M:Msg} {f:FZ} {d:Nat} (h:¬ 400 < code.length) (hl:loopL M code code.length (ms0 v) 0=(.error f,d)):execL v code M=([(1,[])],d,some f):=by unfold execL;rw [if_neg h,hl]
theorem exec_long (v:Bool) (cv hv:Value) (code:List Ins) (M:Msg) (w:World) (hc:CodeV w cv code) (hh:HdrV w hv M.hdrs) (hb:SBd M (ss0 v)) (h1:1 < w.heap.size) (hm:∃ m,w.cell? ⟨1,0,none⟩=some (.int .i64 m)) (ht:Tab w) (hn:code.length≤1000000) (hlong:400 < code.length) :
  Calls Tryz.prog 80 #[.bool v,cv,msgV M hv] w (XPost (execL v code M) w):=by
 have hmf:∀ (fn:Fn) (first cap:Array Value) (w:World),(Instr.makeFunc fn first cap).run Tryz.prog w=.ok (.func fn first cap) w:=fun _ _ _ _=>rfl
 obtain ⟨ca,cc,hcv⟩:=hc.len
 subst hcv
 obtain ⟨ha,hac,hhv⟩:=hh.len
 subst hhv
 unfold msgV
 have hlong':(400:Int) < (code.length:Int):=by omega
 have HR:=hide (execL_long (v:=v) (M:=M) hlong)
 clear hc hh hb ht hm
 go_enter_defers Tryz.func80,Tryz.ntmps80
 go_wp2_with (go_at_call 118;refine (fault_any _ _ _).mono ?_;rintro e w3 ⟨rfl,rfl⟩)
 obtain ⟨V,hV⟩:∃ V,V=(((w.alloc (.cells #[.string (strA M.fr),.string (strA M.to),.int .i64 M.size,.slice ha M.hdrs.length hac] 48)).alloc (.cells #[.slice none 0 0] 33)).alloc (.cells #[.nilIface] 90)).alloc (.cells #[.int .i64 12,.int .i64 400] 145):=⟨_,rfl⟩
 have hzV:V.heap.size=w.heap.size+4:=by rw [hV];simp
 have hP:V.heap[w.heap.size+1]?=some (.cells #[.slice none 0 0] 33):=by rw [hV];exact blk_alloc (blk_alloc (blk_newAt (by simp)))
 have hQ:V.heap[w.heap.size+1+1]?=some (.cells #[.nilIface] 90):=by rw [hV];exact blk_alloc (blk_newAt (by simp))
 have hF:V.heap[w.heap.size+1+1+1]?=some (.cells #[.int .i64 12,.int .i64 400] 145):=by rw [hV];exact blk_newAt (by simp)
 have hVB:Below w.heap.size w V:=by rw [hV];exact ((((Below.refl _ _).alloc (Nat.le_refl _) _).alloc (by simp) _).alloc (by simp;omega) _).alloc (by simp;omega) _
 rw [← hV]
 clear hV
 have c0:V.cell? ⟨w.heap.size+1,0,none⟩=some (.slice none 0 0):=blk_cell hP 0
 have c2:V.cell? ⟨w.heap.size+1+1,0,none⟩=some .nilIface:=blk_cell hQ 0
 have z1:=blk_frozen hP
 have z2:=blk_frozen hQ
 refine leaves_cons (f:=116) (args:=#[.pointer (some ⟨w.heap.size+1,0,none⟩),.pointer (some ⟨w.heap.size+1+1,0,none⟩)]) (by simp) (by simp [go_sem]) ?_
 refine (xcatch_panicking (w.heap.size+1) (w.heap.size+1+1) _ _ ⟨w.heap.size+1+1+1,0,none⟩ [] _ c0 c2 z1 z2 (by omega)).mono ?_
 rintro e u' w'' ⟨rfl,rfl,lv,w1,hv1,hb1,rfl⟩
 obtain ⟨W,hW,e0,e1,hB,hA,hFF⟩:=ends_fault (f:=(12,400)) (bb:=w.heap.size+1+1+1) (P:=w.heap.size+1) hVB (by omega) (by omega) hv1 hb1 (by omega) (by omega) (by omega) hF _ _ c0 c2
 rw [← hW]
 have HFIN:Hid (XPost (execL v code M) w (.returned (.tuple #[lv,.int .i64 0,.iface 140 (.pointer (some ⟨w.heap.size+1+1+1,0,none⟩))])) W):=by
  rw [HR.out]
  exact ⟨hB,Or.inr ⟨lv,(12,400),_,rfl,rfl,hA,by omega,hFF⟩⟩
 obtain ⟨la,lk,hlv⟩:=owns_len hA.1
 subst hlv
 simp [Leaves,settle,results,Tryz.results80,go_sem,e0,e1]
 exact HFIN.out
end
end Go.Proofs.YtbiclelojbfnbaaGreatDoor
