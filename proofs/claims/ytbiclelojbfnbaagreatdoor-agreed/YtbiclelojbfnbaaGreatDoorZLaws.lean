import Derived.Test.YtbiclelojbfnbaaGreatDoorZMExec
import Derived.Test.YtbiclelojbfnbaaGreatDoorZPlainLen
import Derived.Test.YtbiclelojbfnbaaGreatDoorZPlainVars
import Derived.Test.YtbiclelojbfnbaaGreatDoorZTold4
import Derived.Test.YtbiclelojbfnbaaGreatDoorZWText
namespace Go.Proofs.YtbiclelojbfnbaaGreatDoor
set_option linter.unusedVariables false
set_option linter.unusedSimpArgs false
set_option maxRecDepth 100000
set_option maxHeartbeats 4000000
section
open Go.RowKit
attribute [local go_sem ↓] Go.wp_at_zero Go.wp_at_succ
def PPost (r:Except Flt (List (List UInt8)×List (CmdT 7))) (w:World) (e:Ending) (w':World):Prop:=
 Below w.heap.size w w'∧((∃ y tv,r=.ok y∧e=.returned (.tuple #[tv,.nilIface])∧treeX (fromB w.heap.size) y w' tv)∨(∃ f bb,r=.error f∧e=.returned (.tuple #[.agg #[.slice none 0 0,.slice none 0 0],.iface 140 (.pointer (some ⟨bb,0,none⟩))])∧w.heap.size≤bb∧w'.heap[bb]?=some (.cells #[.int .i64 f.err,.int .i64 f.pos] 145)))
theorem parse_short (t:ByteArray) (w:World) (ht:t.size≤600) (hm1:∃ m,w.cell? ⟨1,0,none⟩=some (.int .i64 m)) :
  Calls Tryz.prog 74 #[.string t] w (PPost (parseL t.data.toList) w):=by
 have hmf:∀ (fn:Fn) (first cap:Array Value) (w:World),(Instr.makeFunc fn first cap).run Tryz.prog w=.ok (.func fn first cap) w:=fun _ _ _ _=>rfl
 have ht':¬ (600:Int) < (t.size:Int):=by omega
 go_enter_defers Tryz.func74,Tryz.ntmps74
 go_wp2_with fail
 obtain ⟨V,hV⟩:∃ V,V=(w.alloc (.cells #[.slice none 0 0,.slice none 0 0] 97)).alloc (.cells #[.nilIface] 90):=⟨_,rfl⟩
 have hzV:V.heap.size=w.heap.size+1+1:=by rw [hV];simp
 have hVP:V.heap[w.heap.size]?=some (.cells #[.slice none 0 0,.slice none 0 0] 97):=by rw [hV];exact blk_alloc (blk_new _ _)
 have hVQ:V.heap[w.heap.size+1]?=some (.cells #[.nilIface] 90):=by rw [hV];exact blk_newAt (by simp)
 have hVB:Below w.heap.size w V:=by rw [hV];exact ((Below.refl _ _).alloc (Nat.le_refl _) _).alloc (by simp) _
 have hV1:∃ m,V.cell? ⟨1,0,none⟩=some (.int .i64 m):=by
  obtain ⟨m,hm⟩:=hm1
  exact ⟨m,by rw [hVB.cell (p:=⟨1,0,none⟩) (cell_lt hm)];exact hm⟩
 rw [← hV]
 clear hV
 refine (newReader_any t V ht hV1).mono ?_
 rintro e w1 ⟨mc,mt,pr,pt,pf,p1,k1,p2,k2,p3,k3,rfl,hrc,htm,hcm,hbl⟩
 rw [hzV] at hrc htm hcm hbl
 have HVB:=hide hVB
 have HRC:=hide hrc
 have HTM:=hide htm
 have HCM:=hide hcm
 have hP1:w1.heap[w.heap.size]?=some (.cells #[.slice none 0 0,.slice none 0 0] 97):=by rw [hbl.block _ (by omega)];exact hVP
 have hQ1:w1.heap[w.heap.size+1]?=some (.cells #[.nilIface] 90):=by rw [hbl.block _ (by omega)];exact hVQ
 have HBL:=hide hbl
 have HP1:=hide hP1
 have HQ1:=hide hQ1
 have hz1:=hbl.size
 clear hVB hVP hVQ hV1 hm1 hrc htm hcm hbl hP1 hQ1
 go_wp2_with fail
 refine (script_any (w.heap.size+1+1) t mc mt pr pt pf p1 k1 p2 k2 p3 k3 w1 HRC.out HTM.out HCM.out).mono ?_
 rintro e w2 ⟨hm2,⟨y,v,hy,rfl,hv⟩ | ⟨f,hf,⟨bb,hz,rfl,hcc⟩⟩⟩
 ·obtain ⟨rv,lv,rfl,hrq,hbl⟩:=hv
  have HRQ:=hide hrq
  have HBX:=hide hbl
  obtain ⟨ra,rn,rc,rfl⟩:=hrq.form
  obtain ⟨la,ln,lc,rfl⟩:=hbl.form
  have hP2:=blk_mod HP1.out hm2 (by omega)
  have hQ2:=blk_mod HQ1.out hm2 (by omega)
  have c0:w2.cell? ⟨w.heap.size,0,none⟩=some (.slice none 0 0):=blk_cell hP2 0
  have c1:w2.cell? ⟨w.heap.size,1,none⟩=some (.slice none 0 0):=blk_cell hP2 1
  have c2:w2.cell? ⟨w.heap.size+1,0,none⟩=some .nilIface:=blk_cell hQ2 0
  have z1:=blk_frozen hP2
  have z2:=blk_frozen hQ2
  have HM2:=hide hm2
  have HY:=hide hy
  clear hm2 hy hrq hbl hP2 hQ2
  go_wp2
  have hB2:Below w.heap.size w w2:=⟨HM2.out.os.trans (HBL.out.os.trans HVB.out.os),HM2.out.tape.trans (HBL.out.tape.trans HVB.out.tape),HM2.out.output.trans (HBL.out.output.trans HVB.out.output),Nat.le_trans HVB.out.size (Nat.le_trans HBL.out.size HM2.out.size),fun k hk=>by rw [HM2.out.block k (by omega) (by omega),HBL.out.block k (by omega),HVB.out.block k hk]⟩
  have hq0:¬ fromB w1.heap.size w.heap.size:=by unfold fromB;omega
  have hq1:¬ fromB w1.heap.size (w.heap.size+1):=by unfold fromB;omega
  have HFIN:Hid (PPost (parseL t.data.toList) w (.returned (.tuple #[.agg #[.slice ra rn rc,.slice la ln lc],.nilIface])) (((w2.setCell ⟨w.heap.size,0,none⟩ (.slice ra rn rc)).setCell ⟨w.heap.size,1,none⟩ (.slice la ln lc)).setCell ⟨w.heap.size+1,0,none⟩ .nilIface)):=⟨((hB2.setCell (Nat.le_refl _) _).setCell (Nat.le_refl _) _).setCell (by show w.heap.size≤w.heap.size+1;omega) _,Or.inl ⟨y,_,HY.out,rfl,⟨_,_,rfl,(((HRQ.out.keep (AbvX.set hq0 _ _)).keep (AbvX.set hq0 _ _)).keep (AbvX.set hq1 _ _)).weak (fun k hk _=>by unfold fromB at *;omega),blX.weak (cmdV_tree 7) (((HBX.out.keep (cmdV_tree 7) (AbvX.set hq0 _ _)).keep (cmdV_tree 7) (AbvX.set hq0 _ _)).keep (cmdV_tree 7) (AbvX.set hq1 _ _)) (fun k hk _=>by unfold fromB at *;omega)⟩⟩⟩
  refine leaves_cons (f:=102) (args:=#[.pointer (some ⟨w.heap.size,0,none⟩),.pointer (some ⟨w.heap.size+1,0,none⟩)]) (by simp) (by simp [go_sem]) ?_
  refine (catch_idle ⟨w.heap.size,0,none⟩ ⟨w.heap.size+1,0,none⟩ _).mono ?_
  rintro e u' w'' ⟨rfl,rfl,rfl⟩
  simp [Leaves,settle,results,Tryz.results74,go_sem,c0,c1,c2]
  exact HFIN.out
 ·have hP2:=blk_mod HP1.out hm2 (by omega)
  have hQ2:=blk_mod HQ1.out hm2 (by omega)
  have c0:w2.cell? ⟨w.heap.size,0,none⟩=some (.slice none 0 0):=blk_cell hP2 0
  have c1:w2.cell? ⟨w.heap.size,1,none⟩=some (.slice none 0 0):=blk_cell hP2 1
  have c2:w2.cell? ⟨w.heap.size+1,0,none⟩=some .nilIface:=blk_cell hQ2 0
  have z1:=blk_frozen hP2
  have z2:=blk_frozen hQ2
  have hB2:Below w.heap.size w w2:=⟨hm2.os.trans (HBL.out.os.trans HVB.out.os),hm2.tape.trans (HBL.out.tape.trans HVB.out.tape),hm2.output.trans (HBL.out.output.trans HVB.out.output),Nat.le_trans HVB.out.size (Nat.le_trans HBL.out.size hm2.size),fun k hk=>by rw [hm2.block k (by omega) (by omega),HBL.out.block k (by omega),HVB.out.block k hk]⟩
  have HFIN:Hid (PPost (parseL t.data.toList) w (.returned (.tuple #[.agg #[.slice none 0 0,.slice none 0 0],.iface 140 (.pointer (some ⟨bb,0,none⟩))])) (((w2.setCell ⟨w.heap.size,0,none⟩ (.slice none 0 0)).setCell ⟨w.heap.size,1,none⟩ (.slice none 0 0)).setCell ⟨w.heap.size+1,0,none⟩ (.iface 140 (.pointer (some ⟨bb,0,none⟩))))):=⟨((hB2.setCell (Nat.le_refl _) _).setCell (Nat.le_refl _) _).setCell (by show w.heap.size≤w.heap.size+1;omega) _,Or.inr ⟨f,bb,hf,rfl,by omega,by
   rw [Below.heap_setCell _ _ _ _ (show bb≠w.heap.size+1 by omega),Below.heap_setCell _ _ _ _ (show bb≠w.heap.size by omega),Below.heap_setCell _ _ _ _ (show bb≠w.heap.size by omega)]
   exact hcc⟩⟩
  refine leaves_cons (f:=102) (args:=#[.pointer (some ⟨w.heap.size,0,none⟩),.pointer (some ⟨w.heap.size+1,0,none⟩)]) (by simp) (by simp [go_sem]) ?_
  refine (catch_panicking w.heap.size (w.heap.size+1) _ _ _ ⟨bb,0,none⟩ [] _ c0 c1 c2 z1 z2 (by omega)).mono ?_
  rintro e u' w'' ⟨rfl,rfl,rfl⟩
  simp [Leaves,settle,results,Tryz.results74,go_sem,c0,c1,c2]
  exact HFIN.out
end
section
open Go.RowKit
attribute [local go_sem ↓] Go.wp_at_zero Go.wp_at_succ
theorem parse_long (t:ByteArray) (w:World) (ht:600 < t.size) :
  Calls Tryz.prog 74 #[.string t] w fun e w'=>e=.returned (.tuple #[.agg #[.slice none 0 0,.slice none 0 0],.iface 39 (.int .i64 1)])∧Below w.heap.size w w':=by
 have hmf:∀ (fn:Fn) (first cap:Array Value) (w:World),(Instr.makeFunc fn first cap).run Tryz.prog w=.ok (.func fn first cap) w:=fun _ _ _ _=>rfl
 have ht':(600:Int) < (t.size:Int):=by omega
 go_enter_defers Tryz.func74,Tryz.ntmps74
 go_wp2
 have hB:Below w.heap.size w ((w.alloc (.cells #[.slice none 0 0,.slice none 0 0] 97)).alloc (.cells #[.iface 39 (.int .i64 1)] 90)):=((Below.refl _ _).alloc (Nat.le_refl _) _).alloc (by simp) _
 have HB:=hide hB
 clear hB
 simp [bodyPostD,Leaves,settle,results,Tryz.results74,go_sem]
 exact HB.out
def PaPost (r:Except Flt (List (List UInt8)×List (CmdT 7))) (w:World) (e:Ending) (w':World):Prop:=
 Below w.heap.size w w'∧((∃ y g rv lv,r=.ok y∧e=.returned (.tuple #[.pointer (some ⟨g,0,none⟩),.nilIface])∧w.heap.size≤g∧w'.heap[g]?=some (.cells #[rv,lv] 139)∧reqX (fromB w.heap.size) y.1 w' rv∧blX (fromB w.heap.size) (CmdV 7) y.2 w' lv)∨(∃ f bb,r=.error f∧e=.returned (.tuple #[.pointer none,.iface 140 (.pointer (some ⟨bb,0,none⟩))])∧w.heap.size≤bb∧w'.heap[bb]?=some (.cells #[.int .i64 f.err,.int .i64 f.pos] 145)))
theorem mparse_short (t:ByteArray) (w:World) (ht:t.size≤600) (hm1:∃ m,w.cell? ⟨1,0,none⟩=some (.int .i64 m)) :
  Calls Tryz.prog 43 #[.string t] w (PaPost (parseL t.data.toList) w):=by
 go_enter Tryz.func43,Tryz.ntmps43
 go_wp2_with fail
 refine (parse_short t w ht hm1).mono ?_
 rintro e w1 ⟨hbl,⟨y,tv,hy,rfl,hv⟩ | ⟨f,bb,hf,rfl,hz,hcc⟩⟩
 ·obtain ⟨rv,lv,rfl,hrq,hbx⟩:=hv
  have HB:=hide hbl
  have HY:=hide hy
  have HRQ:=hide hrq
  have HBX:=hide hbx
  obtain ⟨ra,rn,rc,rfl⟩:=hrq.form
  obtain ⟨la,ln,lc,rfl⟩:=hbx.form
  have hz:=hbl.size
  clear hbl hy hrq hbx
  go_wp2
  refine bodyPost_ret (v:=.tuple #[.pointer (some ⟨w1.heap.size+1,0,none⟩),.nilIface]) (by simp [results,Tryz.results43,go_sem]) rfl ?_
  have hal:∀ X,AbvX X w1 ((w1.alloc (.cells #[.slice ra rn rc,.slice la ln lc] 97)).alloc (.cells #[.slice ra rn rc,.slice la ln lc] 139)):=fun X k _ hk=>by
   rw [Below.heap_alloc _ _ _ (by simp;omega),Below.heap_alloc _ _ _ hk]
  exact ⟨(HB.out.alloc hz _).alloc (by simp;omega) _,Or.inl ⟨y,_,_,_,HY.out,rfl,by omega,blk_newAt (by simp),HRQ.out.keep (hal _),HBX.out.keep (cmdV_tree 7) (hal _)⟩⟩
 ·have HB:=hide hbl
  have HF:=hide hf
  have HC:=hide hcc
  have hz2:=hbl.size
  clear hbl hf hcc
  go_wp2
  refine bodyPost_ret (v:=.tuple #[.pointer none,.iface 140 (.pointer (some ⟨bb,0,none⟩))]) (by simp [results,Tryz.results43,go_sem]) rfl ?_
  exact ⟨HB.out.alloc hz2 _,Or.inr ⟨f,bb,HF.out,rfl,hz,blk_alloc HC.out⟩⟩
end
section
open Go.RowKit
attribute [local go_sem ↓] Go.wp_at_zero Go.wp_at_succ
theorem mparse_long (t:ByteArray) (w:World) (ht:600 < t.size) :
  Calls Tryz.prog 43 #[.string t] w fun e w'=>e=.returned (.tuple #[.pointer none,.iface 39 (.int .i64 1)])∧Below w.heap.size w w':=by
 go_enter Tryz.func43,Tryz.ntmps43
 go_wp2_with fail
 refine (parse_long t w ht).mono ?_
 rintro e w1 ⟨rfl,hbl⟩
 have HB:=hide hbl
 have hz2:=hbl.size
 clear hbl
 go_wp2
 refine bodyPost_ret (v:=.tuple #[.pointer none,.iface 39 (.int .i64 1)]) (by simp [results,Tryz.results43,go_sem]) rfl ?_
 exact ⟨rfl,HB.out.alloc hz2 _⟩
def PP (t:ByteArray) (w:World) (e:Ending) (w':World):Prop:=
 Below w.heap.size w w'∧((600 < t.size∧e=.returned (.tuple #[.pointer none,.int .i64 1,.int .i64 (-1)]))∨
  (t.size≤600∧∃ y g rv lv,parseL t.data.toList=.ok y∧e=.returned (.tuple #[.pointer (some ⟨g,0,none⟩),.int .i64 0,.int .i64 (-1)])∧w.heap.size≤g∧w'.heap[g]?=some (.cells #[rv,lv] 139)∧reqX (fromB w.heap.size) y.1 w' rv∧blX (fromB w.heap.size) (CmdV 7) y.2 w' lv)∨
  (t.size≤600∧∃ f,parseL t.data.toList=.error f∧e=.returned (.tuple #[.pointer none,.int .i64 f.err,.int .i64 f.pos])))
theorem pparse_any (t:ByteArray) (w:World) (hm1:∃ m,w.cell? ⟨1,0,none⟩=some (.int .i64 m)) (hg:ErrT w) :
  Calls Tryz.prog 21 #[.string t] w (PP t w):=by
 have HG:=hide hg
 clear hg
 rcases Nat.lt_or_ge 600 t.size with ht | ht
 ·go_enter Tryz.func21,Tryz.ntmps21
  go_wp2_with fail
  refine (mparse_long t w ht).mono ?_
  rintro e w1 ⟨rfl,hB⟩
  have HB:=hide hB
  have hs:=hB.size
  clear hB
  go_wp2_with fail
  refine (told_errno 1 w1 (HG.out.below HB.out)).mono ?_
  rintro e w2 ⟨rfl,hB2⟩
  have HB2:=hide (HB.out.trans (hB2.mono hs))
  clear hB2
  go_wp2
  refine bodyPost_ret (v:=.tuple #[.pointer none,.int .i64 1,.int .i64 (-1)]) (by simp [results,Tryz.results21,go_sem]) rfl ?_
  exact ⟨HB2.out,Or.inl ⟨ht,rfl⟩⟩
 ·go_enter Tryz.func21,Tryz.ntmps21
  go_wp2_with fail
  refine (mparse_short t w ht hm1).mono ?_
  rintro e w1 ⟨hB,⟨y,g,rv,lv,hy,rfl,hz,hc,hr,hb⟩ | ⟨f,bb,hf,rfl,hz,hcc⟩⟩
  ·have HB:=hide hB
   have hs:=hB.size
   have HY:=hide hy
   have HC:=hide hc
   have HR:=hide hr
   have HBL:=hide hb
   clear hB hy hc hr hb
   go_wp2_with fail
   refine (told_nil w1).mono ?_
   rintro e w2 ⟨rfl,hB2⟩
   have HB2:=hide (HB.out.trans (hB2.mono hs))
   have HC2:=hide (World.cell?_of_block (w:=w1) (w':=w2) (a:=⟨g,0,none⟩) (hB2.block g (blk_lt HC.out)))
   have HK:=hide (hB2.block g (blk_lt HC.out))
   have HR2:=hide (HR.out.keep (fun k _ hk=>hB2.block k hk))
   have HBL2:=hide (HBL.out.keep (cmdV_tree 7) (fun k _ hk=>hB2.block k hk))
   clear hB2
   go_wp2
   refine bodyPost_ret (v:=.tuple #[.pointer (some ⟨g,0,none⟩),.int .i64 0,.int .i64 (-1)]) (by simp [results,Tryz.results21,go_sem]) rfl ?_
   exact ⟨HB2.out,Or.inr (Or.inl ⟨ht,y,g,rv,lv,HY.out,rfl,hz,by rw [HK.out];exact HC.out,HR2.out,HBL2.out⟩)⟩
  ·have HB:=hide hB
   have hs:=hB.size
   have HF:=hide hf
   have c0:w1.cell? ⟨bb,0,none⟩=some (.int .i64 f.err):=blk_cell hcc 0
   have c1:w1.cell? ⟨bb,1,none⟩=some (.int .i64 f.pos):=blk_cell hcc 1
   have HC0:=hide c0
   have HC1:=hide c1
   clear hB hf hcc c0 c1
   go_wp2_with fail
   refine (told_fault bb f.err f.pos w1 (HG.out.below HB.out) HC0.out HC1.out).mono ?_
   rintro e w2 ⟨rfl,hB2⟩
   have HB2:=hide (HB.out.trans (hB2.mono hs))
   clear hB2
   go_wp2
   refine bodyPost_ret (v:=.tuple #[.pointer none,.int .i64 f.err,.int .i64 f.pos]) (by simp [results,Tryz.results21,go_sem]) rfl ?_
   exact ⟨HB2.out,Or.inr (Or.inr ⟨ht,f,HF.out,rfl⟩)⟩
end
section
open Go.RowKit
attribute [local go_sem ↓] Go.wp_at_zero Go.wp_at_succ
structure Env (w:World):Prop where
 m1:∃ m,w.cell? ⟨1,0,none⟩=some (.int .i64 m)
 et:ErrT w
 tab:Tab w
theorem Env.below {w w':World} (h:Env w) (hb:Below w.heap.size w w'):Env w':=by
 obtain ⟨m,hm⟩:=h.m1
 exact ⟨⟨m,by rw [hb.cell (p:=⟨1,0,none⟩) (cell_lt hm)];exact hm⟩,h.et.below hb,h.tab.below hb⟩
def exT1:List UInt8:=[105,102,32,104,101,97,100,101,114,32,34,83,117,98,106,101,99,116,34,32,34,120,34,32,123,32,100,105,115,99,97,114,100,59,32,125,32,101,108,115,101,32,123,32,107,101,101,112,59,32,125]
def exT2:List UInt8:=[107,101,101,112,59,32,105,102,32,123,32,125]
def isOk {α:Type} (r:Except Flt α):Bool:=match r with | .ok _=>true | .error _=>false
def isFlt {α:Type} (r:Except Flt α) (n p:Nat):Bool:=match r with | .ok _=>false | .error f=>f.err == n && f.pos == p
theorem ex1_ok:isOk (parseL exT1)=true:=by kernel_rfl
theorem ex2_flt:isFlt (parseL exT2) 4 9=true:=by kernel_rfl
theorem ex1:∃ y,parseL exT1=.ok y:=by
 cases h:parseL exT1 with
 | ok y=>exact ⟨y,rfl⟩
 | error f=>have:=ex1_ok;rw [h] at this;cases this
theorem ex2:parseL exT2=.error ⟨4,9⟩:=by
 cases h:parseL exT2 with
 | ok y=>have:=ex2_flt;rw [h] at this;cases this
 | error f=>
  have:=ex2_flt
  rw [h] at this
  have h2:(f.err == 4 && f.pos == 9)=true:=this
  simp at h2
  cases f
  simp at h2
  rw [h2.1,h2.2]
theorem parses_any (w:World) (he:Env w):Calls Tryz.prog 20 #[] w fun e w'=>e=.returned (.bool true)∧Below w.heap.size w w':=by
 have HE:=hide he
 clear he
 go_enter Tryz.func20,Tryz.ntmps20
 go_wp2_with fail
 refine (pparse_any ⟨exT1.toArray⟩ w HE.out.m1 HE.out.et).mono ?_
 rintro e w1 ⟨hB,⟨hbig,_⟩ | ⟨_,y,g,rv,lv,hy,rfl,hz,_⟩ | ⟨_,f,hf,_⟩⟩
 ·exact absurd hbig (by decide)
 ·have HB:=hide hB
  have hs:=hB.size
  clear hB hy
  go_wp2_with fail
  refine (pparse_any ⟨exT2.toArray⟩ w1 (HE.out.below HB.out).m1 (HE.out.below HB.out).et).mono ?_
  rintro e w2 ⟨hB2,⟨hbig,_⟩ | ⟨_,y2,g2,rv2,lv2,hy2,_⟩ | ⟨_,f,hf,rfl⟩⟩
  ·exact absurd hbig (by decide)
  ·have h2:parseL exT2=.ok y2:=hy2
   rw [ex2] at h2
   cases h2
  ·have h2:parseL exT2=.error f:=hf
   rw [ex2] at h2
   cases h2
   have HB2:=hide (HB.out.trans (hB2.mono hs))
   clear hB2 hf
   go_wp2
   go_ret
   exact ⟨rfl,HB2.out⟩
 ·obtain ⟨y,hy⟩:=ex1
  have h2:parseL exT1=.error f:=hf
  rw [hy] at h2
  cases h2
end
end Go.Proofs.YtbiclelojbfnbaaGreatDoor
