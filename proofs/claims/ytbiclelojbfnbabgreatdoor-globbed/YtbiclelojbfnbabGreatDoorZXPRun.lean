import Derived.Deep.QuietTactic
import Derived.BigQuiet
import Derived.Test.YtbiclelojbfnbabGreatDoorRows
import Derived.ProofKit
import Derived.LaidMore
import Derived.OpenShut
import Derived.Stop.Joined
import Derived.LaidHandle
import Derived.Stop.LaidErr
import Derived.Lib.LaidTab
import Derived.HandedShaped
import Derived.Shelf.Vars
import Derived.Test.YtbiclelojbfnbabGreatDoorZMExec
import Derived.Test.YtbiclelojbfnbabGreatDoorNext
import Derived.Test.YtbiclelojbfnbabGreatDoorZPlainCodeLen
import Derived.Test.YtbiclelojbfnbabGreatDoorZPlainGlobX
import Derived.Test.YtbiclelojbfnbabGreatDoorZReaderT
import Derived.Test.YtbiclelojbfnbabGreatDoorTold3
import Derived.Test.YtbiclelojbfnbabGreatDoorZWTab
import Derived.Test.YtbiclelojbfnbabGreatDoorZXFields
namespace Go.Proofs.YtbiclelojbfnbabGreatDoor
set_option linter.unusedVariables false
set_option linter.unusedSimpArgs false
set_option maxRecDepth 100000
set_option maxHeartbeats 4000000
section
open Go.RowKit Go.Extern.Stop Go.Stop Go.Extern
theorem Qoh (w:World):Calls Tryz.prog 19 #[.nilIface] w fun e w'=>e=.returned (.tuple #[.int .i64 0,.int .i64 (-1)])∧Below w.heap.size w w':=by
 go_enter Tryz.func19,Tryz.ntmps19
 go_wp2
 refine bodyPost_ret (v:=.tuple #[.int .i64 0,.int .i64 (-1)]) (by simp [results,Tryz.results19,go_sem]) rfl ?_
 exact ⟨rfl,((Below.refl _ _).alloc (Nat.le_refl _) _).alloc (by simp) _⟩
theorem QgL {w:World} {t:Addr} (o1 o2 o3 o4:Obj) (v:Value):Mod t.block w (((((w.alloc o1).alloc o2).alloc o3).alloc o4).setCell t v):=by
 have h:=((((Mod.refl t.block w).alloc o1).alloc o2).alloc o3).alloc o4
 exact ⟨h.os,h.tape,h.output,by simpa using h.size,fun k hk hn=>by rw [Below.heap_setCell _ _ _ _ hn];exact h.block k hk hn⟩
theorem QhH {w:World} {t:Addr} {old:Value} (ht:w.cell? t=some old) (o1 o2 o3 o4:Obj) (v:Value):(((((w.alloc o1).alloc o2).alloc o3).alloc o4).setCell t v).cell? t=some v:=by
 have htl:t.block < w.heap.size:=QcA ht
 refine World.cell?_setCell_same _ _ _ (?_:_=some old)
 rw [World.cell?_alloc_lt _ _ t (by simp;omega),World.cell?_alloc_lt _ _ t (by simp;omega),World.cell?_alloc_lt _ _ t (by simp;omega),World.cell?_alloc_lt _ _ t htl]
 exact ht
theorem QnK (e t:Addr) (old:Value) (w:World) (hg:Qil w) (ht0:w.cell? t=some old) (hf0:w.frozen? t=false) :
 Calls Tryz.prog 29 #[.iface 76 (.pointer (some e)),.iface 78 (.pointer (some t))] w fun ev w'=>ev=.returned (.bool true)∧Mod t.block w w'∧w'.cell? t=some (.pointer (some e)):=by
 refine (QtA e t old w hg ht0 hf0).mono ?_
 rintro ev w' ⟨rfl,rfl⟩
 exact ⟨rfl,QgL _ _ _ _ _,QhH ht0 _ _ _ _ _⟩
theorem Qmv (n:Int) (t:Addr) (old:Value) (w:World) (hg:Qil w) (ht0:w.cell? t=some old) (hf0:w.frozen? t=false) :
 Calls Tryz.prog 29 #[.iface 30 (.int .i64 n),.iface 82 (.pointer (some t))] w fun ev w'=>ev=.returned (.bool true)∧Mod t.block w w'∧w'.cell? t=some (.int .i64 n):=by
 refine (Qtq n t old w hg ht0 hf0).mono ?_
 rintro ev w' ⟨rfl,rfl⟩
 exact ⟨rfl,QgL _ _ _ _ _,QhH ht0 _ _ _ _ _⟩
theorem Qiy (n:Int) (t:Addr) (w:World) (hg:Qil w) :
 Calls Tryz.prog 29 #[.iface 30 (.int .i64 n),.iface 78 (.pointer (some t))] w fun ev w'=>ev=.returned (.bool false)∧Below w.heap.size w w':=by
 refine (Qsw n t w hg).mono ?_
 rintro ev w' ⟨rfl,rfl⟩
 exact ⟨rfl,(((Below.refl _ _).alloc (Nat.le_refl _) _).alloc (by simp) _).alloc (by simp;omega) _⟩
theorem Qil.below {w w':World} (h:Qil w) (hb:Below w.heap.size w w'):Qil w':=by
 unfold Qil at h ⊢
 rw [hb.cell (p:=⟨0,0,none⟩) (QcA h)]
 exact h
theorem Qil.alloc {w:World} (h:Qil w) (o:Obj):Qil (w.alloc o):=h.below ((Below.refl _ _).alloc (Nat.le_refl _) _)
theorem Qjb (bb:Nat) (n pos:Int) (w:World) (hg:Qil w) (h0:w.cell? ⟨bb,0,none⟩=some (.int .i64 n)) (h1:w.cell? ⟨bb,1,none⟩=some (.int .i64 pos)) :
 Calls Tryz.prog 19 #[.iface 76 (.pointer (some ⟨bb,0,none⟩))] w fun e w'=>e=.returned (.tuple #[.int .i64 n,.int .i64 pos])∧Below w.heap.size w w':=by
 have hbl:bb < w.heap.size:=QcA h0
 have HG:=Qaa hg
 have H0:=Qaa h0
 have H1:=Qaa h1
 clear hg h0 h1
 go_enter Tryz.func19,Tryz.ntmps19
 go_wp2_with fail
 refine (QnK ⟨bb,0,none⟩ ⟨w.heap.size,0,none⟩ (.pointer none) _ ((HG.out.alloc _).alloc _) (by simp) (by simp)).mono ?_
 rintro e w1 ⟨rfl,hm,hc⟩
 have hm':Mod w.heap.size ((w.alloc (.cells #[.pointer none] 76)).alloc (.cells #[.int .i64 0] 30)) w1:=hm
 have c0:w1.cell? ⟨bb,0,none⟩=some (.int .i64 n):=by
  rw [hm'.cell (p:=⟨bb,0,none⟩) (by simp;omega) (by simp;omega),World.cell?_alloc_lt _ _ ⟨bb,0,none⟩ (by simp;omega),World.cell?_alloc_lt _ _ ⟨bb,0,none⟩ hbl]
  exact H0.out
 have c1:w1.cell? ⟨bb,1,none⟩=some (.int .i64 pos):=by
  rw [hm'.cell (p:=⟨bb,1,none⟩) (by simp;omega) (by simp;omega),World.cell?_alloc_lt _ _ ⟨bb,1,none⟩ (by simp;omega),World.cell?_alloc_lt _ _ ⟨bb,1,none⟩ hbl]
  exact H1.out
 have HB:Hid (Below w.heap.size w w1):=by
  refine ⟨hm'.os,hm'.tape,hm'.output,?_,fun k hk=>?_⟩
  ·have:=hm'.size;simp at this;omega
  ·rw [hm'.block k (by simp;omega) (by omega),Below.heap_alloc _ _ _ (by simp;omega),Below.heap_alloc _ _ _ hk]
 clear hm hm'
 go_wp2_with fail
 refine (QsO bb n w1 c0).mono ?_
 rintro e w2 ⟨rfl,rfl⟩
 go_wp2_with fail
 go_quiet (fail)
 go_wp2
 refine bodyPost_ret (v:=.tuple #[.int .i64 n,.int .i64 pos]) (by simp [results,Tryz.results19,go_sem]) rfl ?_
 exact ⟨rfl,HB.out.os,HB.out.tape,HB.out.output,HB.out.size,HB.out.block⟩
theorem Qpi (n:Int) (w:World) (hg:Qil w) :
 Calls Tryz.prog 19 #[.iface 30 (.int .i64 n)] w fun e w'=>e=.returned (.tuple #[.int .i64 n,.int .i64 (-1)])∧Below w.heap.size w w':=by
 have HG:=Qaa hg
 clear hg
 go_enter Tryz.func19,Tryz.ntmps19
 go_wp2_with fail
 refine (Qiy n ⟨w.heap.size,0,none⟩ _ ((HG.out.alloc _).alloc _)).mono ?_
 rintro e w1 ⟨rfl,hB⟩
 have c5:w1.cell? ⟨w.heap.size+1,0,none⟩=some (.int .i64 0):=by
  rw [hB.cell (p:=⟨w.heap.size+1,0,none⟩) (by simp)];simp
 have f5:w1.frozen? ⟨w.heap.size+1,0,none⟩=false:=by
  rw [hB.frozen (p:=⟨w.heap.size+1,0,none⟩) (by simp)];simp
 have HG1:=Qaa (((HG.out.alloc (.cells #[.pointer none] 76)).alloc (.cells #[.int .i64 0] 30)).below hB)
 have hs:=hB.size
 have HB:Hid (Below w.heap.size w w1):=(((Below.refl _ w).alloc (Nat.le_refl _) (.cells #[.pointer none] 76)).alloc (by simp) (.cells #[.int .i64 0] 30)).trans (hB.mono (by simp;omega))
 clear hB
 simp at hs
 go_wp2_with fail
 refine (Qmv n ⟨w.heap.size+1,0,none⟩ (.int .i64 0) w1 HG1.out c5 f5).mono ?_
 rintro e w2 ⟨rfl,hm,hc⟩
 have HB2:Hid (Below w.heap.size w w2):=HB.out.trans (Mod.below (b:=w.heap.size+1) hm (by omega) (by omega))
 clear hm
 go_wp2_with fail
 refine (QsC n w2).mono ?_
 rintro e w3 ⟨rfl,rfl⟩
 go_wp2
 refine bodyPost_ret (v:=.tuple #[.int .i64 n,.int .i64 (-1)]) (by simp [results,Tryz.results19,go_sem]) rfl ?_
 exact ⟨rfl,HB2.out⟩
end
section
open Go.RowKit
attribute [local go_sem ↓] Go.wp_at_zero Go.wp_at_succ
theorem QmZ (t:ByteArray) (w:World) (ht:600 < t.size) :
 Calls Tryz.prog 23 #[.string t] w fun e w'=>e=.returned (.tuple #[.pointer none,.iface 30 (.int .i64 1)])∧Below w.heap.size w w':=by
 go_enter Tryz.func23,Tryz.ntmps23
 go_wp2_with fail
 refine (QpX t w ht).mono ?_
 rintro e w1 ⟨rfl,hbl⟩
 have HB:=Qaa hbl
 have hz2:=hbl.size
 clear hbl
 go_wp2
 refine bodyPost_ret (v:=.tuple #[.pointer none,.iface 30 (.int .i64 1)]) (by simp [results,Tryz.results23,go_sem]) rfl ?_
 exact ⟨rfl,HB.out.alloc hz2 _⟩
def PP (t:ByteArray) (w:World) (e:Ending) (w':World):Prop:=
 Below w.heap.size w w'∧((600 < t.size∧e=.returned (.tuple #[.pointer none,.int .i64 1,.int .i64 (-1)]))∨
  (t.size≤600∧∃ y g rv lv,parseL t.data.toList=.ok y∧e=.returned (.tuple #[.pointer (some ⟨g,0,none⟩),.int .i64 0,.int .i64 (-1)])∧w.heap.size≤g∧w'.heap[g]?=some (.cells #[rv,lv] 96)∧Qkw (fromB w.heap.size) y.1 w' rv∧blX (fromB w.heap.size) (Qio 7) y.2 w' lv)∨
  (t.size≤600∧∃ f,parseL t.data.toList=.error f∧e=.returned (.tuple #[.pointer none,.int .i64 f.err,.int .i64 f.pos])))
theorem Qgy (t:ByteArray) (w:World) (hm1:∃ m,w.cell? ⟨1,0,none⟩=some (.int .i64 m)) (hg:Qil w) :
 Calls Tryz.prog 14 #[.string t] w (PP t w):=by
 have HG:=Qaa hg
 clear hg
 rcases Nat.lt_or_ge 600 t.size with ht | ht
 ·go_enter Tryz.func14,Tryz.ntmps14
  go_wp2_with fail
  refine (QmZ t w ht).mono ?_
  rintro e w1 ⟨rfl,hB⟩
  have HB:=Qaa hB
  have hs:=hB.size
  clear hB
  go_wp2_with fail
  refine (Qpi 1 w1 (HG.out.below HB.out)).mono ?_
  rintro e w2 ⟨rfl,hB2⟩
  have HB2:=Qaa (HB.out.trans (hB2.mono hs))
  clear hB2
  go_wp2
  refine bodyPost_ret (v:=.tuple #[.pointer none,.int .i64 1,.int .i64 (-1)]) (by simp [results,Tryz.results14,go_sem]) rfl ?_
  exact ⟨HB2.out,Or.inl ⟨ht,rfl⟩⟩
 ·go_enter Tryz.func14,Tryz.ntmps14
  go_wp2_with fail
  refine (Qlx t w ht hm1).mono ?_
  rintro e w1 ⟨hB,⟨y,g,rv,lv,hy,rfl,hz,hc,hr,hb⟩ | ⟨f,bb,hf,rfl,hz,hcc⟩⟩
  ·have HB:=Qaa hB
   have hs:=hB.size
   have HY:=Qaa hy
   have HC:=Qaa hc
   have HR:=Qaa hr
   have HBL:=Qaa hb
   clear hB hy hc hr hb
   go_wp2_with fail
   refine (Qoh w1).mono ?_
   rintro e w2 ⟨rfl,hB2⟩
   have HB2:=Qaa (HB.out.trans (hB2.mono hs))
   have HC2:=Qaa (World.cell?_of_block (w:=w1) (w':=w2) (a:=⟨g,0,none⟩) (hB2.block g (QaM HC.out)))
   have HK:=Qaa (hB2.block g (QaM HC.out))
   have HR2:=Qaa (HR.out.keep (fun k _ hk=>hB2.block k hk))
   have HBL2:=Qaa (HBL.out.keep (Qa3 7) (fun k _ hk=>hB2.block k hk))
   clear hB2
   go_wp2
   refine bodyPost_ret (v:=.tuple #[.pointer (some ⟨g,0,none⟩),.int .i64 0,.int .i64 (-1)]) (by simp [results,Tryz.results14,go_sem]) rfl ?_
   exact ⟨HB2.out,Or.inr (Or.inl ⟨ht,y,g,rv,lv,HY.out,rfl,hz,by rw [HK.out];exact HC.out,HR2.out,HBL2.out⟩)⟩
  ·have HB:=Qaa hB
   have hs:=hB.size
   have HF:=Qaa hf
   have c0:w1.cell? ⟨bb,0,none⟩=some (.int .i64 f.err):=Qab hcc 0
   have c1:w1.cell? ⟨bb,1,none⟩=some (.int .i64 f.pos):=Qab hcc 1
   have HC0:=Qaa c0
   have HC1:=Qaa c1
   clear hB hf hcc c0 c1
   go_wp2_with fail
   refine (Qjb bb f.err f.pos w1 (HG.out.below HB.out) HC0.out HC1.out).mono ?_
   rintro e w2 ⟨rfl,hB2⟩
   have HB2:=Qaa (HB.out.trans (hB2.mono hs))
   clear hB2
   go_wp2
   refine bodyPost_ret (v:=.tuple #[.pointer none,.int .i64 f.err,.int .i64 f.pos]) (by simp [results,Tryz.results14,go_sem]) rfl ?_
   exact ⟨HB2.out,Or.inr (Or.inr ⟨ht,f,HF.out,rfl⟩)⟩
end
section
open Go.RowKit
attribute [local go_sem ↓] Go.wp_at_zero Go.wp_at_succ
structure Env (w:World):Prop where
 m1:∃ m,w.cell? ⟨1,0,none⟩=some (.int .i64 m)
 et:Qil w
 tab:Tab w
theorem Env.below {w w':World} (h:Env w) (hb:Below w.heap.size w w'):Env w':=by
 obtain ⟨m,hm⟩:=h.m1
 exact ⟨⟨m,by rw [hb.cell (p:=⟨1,0,none⟩) (Qay hm)];exact hm⟩,h.et.below hb,h.tab.below hb⟩
def exT1:List UInt8:=[105,102,32,104,101,97,100,101,114,32,34,83,117,98,106,101,99,116,34,32,34,120,34,32,123,32,100,105,115,99,97,114,100,59,32,125,32,101,108,115,101,32,123,32,107,101,101,112,59,32,125]
def QtZ:List UInt8:=[107,101,101,112,59,32,105,102,32,123,32,125]
def QuF {α:Type} (r:Except Flt α):Bool:=match r with | .ok _=>true | .error _=>false
def Quu {α:Type} (r:Except Flt α) (n p:Nat):Bool:=match r with | .ok _=>false | .error f=>f.err == n && f.pos == p
theorem Quf:QuF (parseL exT1)=true:=by kernel_rfl
theorem Qrj:Quu (parseL QtZ) 4 9=true:=by kernel_rfl
theorem ex1:∃ y,parseL exT1=.ok y:=by
 cases h:parseL exT1 with
 | ok y=>exact ⟨y,rfl⟩
 | error f=>have:=Quf;rw [h] at this;cases this
theorem ex2:parseL QtZ=.error ⟨4,9⟩:=by
 cases h:parseL QtZ with
 | ok y=>have:=Qrj;rw [h] at this;cases this
 | error f=>
  have:=Qrj
  rw [h] at this
  have h2:(f.err == 4 && f.pos == 9)=true:=this
  simp at h2
  cases f
  simp at h2
  rw [h2.1,h2.2]
theorem QpR (w:World) (he:Env w):Calls Tryz.prog 16 #[] w fun e w'=>e=.returned (.bool true)∧Below w.heap.size w w':=by
 have HE:=Qaa he
 clear he
 go_enter Tryz.func16,Tryz.ntmps16
 go_wp2_with fail
 refine (Qgy ⟨exT1.toArray⟩ w HE.out.m1 HE.out.et).mono ?_
 rintro e w1 ⟨hB,⟨hbig,_⟩ | ⟨_,y,g,rv,lv,hy,rfl,hz,_⟩ | ⟨_,f,hf,_⟩⟩
 ·exact absurd hbig (by decide)
 ·have HB:=Qaa hB
  have hs:=hB.size
  clear hB hy
  go_wp2_with fail
  refine (Qgy ⟨QtZ.toArray⟩ w1 (HE.out.below HB.out).m1 (HE.out.below HB.out).et).mono ?_
  rintro e w2 ⟨hB2,⟨hbig,_⟩ | ⟨_,y2,g2,rv2,lv2,hy2,_⟩ | ⟨_,f,hf,rfl⟩⟩
  ·exact absurd hbig (by decide)
  ·have h2:parseL QtZ=.ok y2:=hy2
   rw [ex2] at h2
   cases h2
  ·have h2:parseL QtZ=.error f:=hf
   rw [ex2] at h2
   cases h2
   have HB2:=Qaa (HB.out.trans (hB2.mono hs))
   clear hB2 hf
   go_wp2
   go_ret
   exact ⟨rfl,HB2.out⟩
 ·obtain ⟨y,hy⟩:=ex1
  have h2:parseL exT1=.error f:=hf
  rw [hy] at h2
  cases h2
end
section
open Go.ChangeShapes Go.WideShapes Go.ChangeAt Go.WideMaps Go.WideElems Go.RowKit
open Go.ChangeMaps (open_string shut_string)
theorem Tryz.own:ownKnob Tryz.prog.godebug=none:=by kernel_rfl
theorem Tryz.gErr:Tryz.prog.globalNamed "errors.errorType"=some 0:=by kernel_rfl
theorem Tryz.gPow:Tryz.prog.globalNamed "internal/strconv.uint64pow10"=some 2:=by kernel_rfl
theorem Tryz.rtypeT:(Tryz.prog.cutTypes.find? (·.1 == "internal/reflectlite.rtype")).map (·.2)=some 160:=by kernel_rfl
theorem Tryz.tyCount:Tryz.prog.types.size=434:=by kernel_rfl
theorem Tryz.oneRow:((List.range 434).filter fun t=>Tryz.prog.rowNamed t [101,114,114,111,114])=[61]:=by kernel_rfl
theorem Tryz.powTy:(Tryz.prog.globals[2]?).map (·.type)=some 377:=by kernel_rfl
def Qq7:List (String×DataW Unit):=[("math/bits.deBruijn32tab",Rows.laid_math_bits_deBruijn32tab),("math/bits.deBruijn64tab",Rows.laid_math_bits_deBruijn64tab),("internal/strconv.uint64pow10",Rows.laid_internal_strconv_uint64pow10),("errors.errorType",Rows.laid_errors_errorType)]
theorem Qtd {W:World} (h:laidMetH Tryz.prog Qq7 W):Qil W∧Tab W:=by
 have h':laidMet Tryz.prog [("math/bits.deBruijn32tab",Rows.laid_math_bits_deBruijn32tab),("math/bits.deBruijn64tab",Rows.laid_math_bits_deBruijn64tab),("internal/strconv.uint64pow10",Rows.laid_internal_strconv_uint64pow10)] W∧handlesMet Tryz.prog [("errors.errorType",Rows.laid_errors_errorType)] W:=h
 refine ⟨?_,?_⟩
 ·obtain ⟨name,u,ty,e1,e2,e3,e4,e5⟩:=h'.2 _ (List.mem_singleton.2 rfl)
  have en:name=[101,114,114,111,114]:=(Option.some.inj e1).symm
  subst en
  obtain rfl:=Option.some.inj (Tryz.rtypeT.symm.trans e2)
  have hm:ty∈(List.range 434).filter fun t=>Tryz.prog.rowNamed t [101,114,114,111,114]:=List.mem_filter.2 ⟨List.mem_range.2 (by rw [← Tryz.tyCount];exact e3),e4⟩
  rw [Tryz.oneRow] at hm
  obtain rfl:=List.mem_singleton.1 hm
  have hh:typeHandle Tryz.prog 61=.pointer (some ⟨7,61,none⟩):=by kernel_rfl
  rw [hh] at e5
  have:=World.var?_cell Tryz.gErr e5 0
  unfold Qil
  simpa using this
 ·have h3:=laidMet.tail (laidMet.tail h'.1)
  exact Lib.tabIs_of_head Tryz.gPow Tryz.powTy Tryz.underlying377 Tryz.underlying177 (by kernel_rfl) (by kernel_rfl) h3
theorem Qse (os:Os) (args:Array Value):laidMetH Tryz.prog Qq7 ((World.doorLaid Tryz.prog 400 os).forCall (fun _ _=>0) ⟨#[],args,[]⟩).memory:=
 laidMetH_of_parts3 (fuel:=8) (laidMet_of_run' 70 (by kernel_rfl) (by kernel_rfl)) (by kernel_rfl) (by kernel_rfl)
theorem QqY {H:Type} {enc:TypeId×Value→H} {a:Assume} {C:Checked} {os:Os} {f:FuncId} {fn:Func} {s:ChangeSpec} {conds:List PathCond} {apart fresh handsOn again:Bool} {X:World→Array Value→Prop}
 (hX:∀ (w w':World) (args:Array Value),w.heap=w'.heap→X w args→X w' args)
 (own:ownKnob C.prog.godebug=none) (started:os.Started) (noInit:C.prog.inits.idxOf? f=none) (hfn:C.prog.funcs[f]?=some fn)
 (witness:∃ (w:World) (tape:Tape) (i:Input),w.os=os∧(w.forCall tape i).Shaped C.prog∧i.vars=[]∧Input.okWide C.prog (w.forCall tape i) .any w.heap.size f i∧
   ((s.pre enc C.prog fn conds apart (w.forCall tape i).memory i.args∧X (w.forCall tape i).memory i.args)∧sizedMet enc C.prog fn (OpenSpec.ofChange s) apart (w.forCall tape i).memory i.args)∧a.holds C.prog (lone (Frame.enter C.prog f i.args .normal) [] (w.forCall tape i)))
 (contract:∀ (W:World) (base:Nat) (args:Array Value) (ds gs:List (DataW H)) (before:List MemPlace),
   (∀ (j:Nat) t v,fn.params[j]?=some t→args[j]?=some v→Value.okWide C.prog W .any base t v)→
   DataW.Whole enc C.prog fn.params.toList s.vars apart W args.toList ds gs before→
   (DataW.weightsEach C.prog (fn.params.toList++s.plain.varTypes C.prog) (ds++gs)).all (·≤reachBytes)=true→X W args→W.ShapedOpen C.prog→
   Calls C.prog f args W fun e W'=>∃ v,e=.returned v∧s.post enc C.prog fn apart fresh handsOn again W args v W') :
 ReturnsInHanded a C os f .any (fun w args=>(s.pre enc C.prog fn conds apart w args∧X w args)∧sizedMet enc C.prog fn (OpenSpec.ofChange s) apart w args) (s.post enc C.prog fn apart fresh handsOn again):=by
 refine returnsInHanded_of_calls own started noInit witness ?_
 intro w tape i _ hsh _ hok hpre _
 obtain ⟨_,_,_,fn',hfn',_,_,_,_,hval⟩:=hok
 have e:fn'=fn:=Option.some.inj (hfn'.symm.trans hfn)
 subst e
 obtain ⟨⟨⟨ds,gs,before,hw,hc⟩,hx⟩,hz⟩:=hpre
 have hw':=DataW.Whole.of_heap (w':=w.forCall tape i) (by rfl) hw
 refine (contract (w.forCall tape i) w.heap.size i.args ds gs before hval hw' (hz.weights hw) (hX _ _ _ (by rfl) hx) hsh).mono fun e W' ⟨v,he,hp⟩=>?_
 subst he
 exact ChangeSpec.post_blind hp
theorem QtP {W:World} (h:W.ShapedOpen Tryz.prog):∃ m,W.cell? ⟨1,0,none⟩=some (.int .i64 m):=
 cell_of_shapedOpen_int (g:=1) (t:=3) (zero:=#[.int .i64 0]) h (by rw [show Tryz.prog.globals.size=7 by kernel_rfl];decide) (by kernel_rfl) rfl (by kernel_rfl) (by kernel_rfl) Tryz.underlying3
end
section
open Go.RowKit
attribute [local go_sem ↓] Go.wp_at_zero Go.wp_at_succ
def Qh1 (f:Option FZ):FZ:=f.getD (0,-1)
def Qt7 (r:List (Int×List UInt8)×Nat×Option FZ) (w:World) (e:Ending) (w':World):Prop:=
 Below w.heap.size w w'∧∃ lv,e=.returned (.tuple #[lv,.int .i64 (Qh1 r.2.2).1,.int .i64 (Qh1 r.2.2).2])∧ActsV w' w.heap.size lv r.1
theorem ActsV.fr {P:Nat→Obj→Prop} {w w':World} {B:Nat} {v:Value} {l:List (Int×List UInt8)} (h:ActsV w B v l) (hf:Fr P w w') (hp:∀ k cs,¬ P k (.cells cs 34)):ActsV w' B v l:=⟨Qa8 h.1 hf hp,h.2⟩
theorem ActsV.below {w w':World} {B:Nat} {v:Value} {l:List (Int×List UInt8)} (h:ActsV w B v l) (hb:Below w.heap.size w w'):ActsV w' B v l:=h.fr (P:=fun _ _=>False) (Fr.of_below hb) (fun _ _ h=>h)
theorem QqC.below {w w':World} {B:Nat} {v:Value} {l:List (List UInt8×List UInt8)} (h:QqC w B v l) (hb:Below w.heap.size w w'):QqC w' B v l:=Qa8 h (P:=fun _ _=>False) (Fr.of_below hb) (fun _ _ h=>h)
theorem Qsu (g:Nat) (y:List (List UInt8)×List (QcX 7)) (rv lv hv:Value) (M:Msg) (w:World) (X:Nat→Prop) (he:Env w) (h:w.heap[g]?=some (.cells #[rv,lv] 96)) (hr:Qkw X y.1 w rv) (hb:blX X (Qio 7) y.2 w lv) (ha:∀ c∈y.2,Qmf (WfT y.1) (WfC y.1) 7 c) (hl:(Qh4 y).length≤100000) (hrl:y.1.length≤1000000)
 (hh:QrX w hv M.hdrs) (hbd:∀ v,SBd M (ss0 v)) :
 Calls Tryz.prog 15 #[.pointer (some ⟨g,0,none⟩),Qhe M hv] w (Qt7 (execL (varsB y.1) (Qdm y.2) M) w):=by
 have hml:=(hbd true).hl
 obtain ⟨ah,ch,rfl⟩:=hh.len
 have H:=Qaa h
 have HR:=Qaa hr
 have HBB:=Qaa hb
 have HHD:=Qaa hh
 have HE:=Qaa he
 have HBD:=Qaa hbd
 have HW:=Qaa (And.intro ha (And.intro hl hrl))
 obtain ⟨r,hrr⟩:∃ r,execL (varsB y.1) (Qdm y.2) M=r:=⟨_,rfl⟩
 rw [hrr]
 have HRR:=Qaa hrr
 obtain ⟨m1,hm1⟩:=he.m1
 have hw1:1 < w.heap.size:=Qay hm1
 clear h hr hb hh he hbd ha hl hrl hrr hm1 m1
 have hms:∀ (a:Option Addr) (n c:Nat),Qhe M (.slice a n c)=.agg #[.string (Qag M.fr),.string (Qag M.to),.int .i64 M.size,.slice a n c]:=fun _ _ _=>rfl
 rw [hms]
 have HMS:=Qaa hms
 clear hms
 go_enter Tryz.func15,Tryz.ntmps15
 go_wp2_with fail
 obtain ⟨W0,hW0⟩:∃ W0,W0=w.alloc (.cells #[.string (Qag M.fr),.string (Qag M.to),.int .i64 M.size,.slice ah M.hdrs.length ch] 28):=⟨_,rfl⟩
 rw [← hW0]
 have hB0:Below w.heap.size w W0:=by rw [hW0];exact (Below.refl _ _).alloc (Nat.le_refl _) _
 have h0s:=hB0.size
 clear hW0
 rw [← HMS.out]
 refine (Qo7 M _ W0 (HHD.out.below hB0) hml).mono ?_
 rintro e w1 ⟨a1,k1,rfl,ho1,hB1'⟩
 have hB1:Below w.heap.size w w1:=hB0.trans (hB1'.mono h0s)
 have HO1:=Qaa ho1
 have HB1:=Qaa hB1
 have h1s:=hB1.size
 clear ho1 hB1 hB1' hB0
 rw [HMS.out]
 go_wp2_with fail
 obtain ⟨V1,hV1⟩:∃ V1,V1=w1.alloc (.cells #[.string (Qag M.fr),.string (Qag M.to),.int .i64 M.size,.slice a1 M.hdrs.length k1] 28):=⟨_,rfl⟩
 rw [← hV1]
 have hBV:Below w1.heap.size w1 V1:=by rw [hV1];exact (Below.refl _ _).alloc (Nat.le_refl _) _
 have hMV:V1.heap[w1.heap.size]?=some (.cells #[.string (Qag M.fr),.string (Qag M.to),.int .i64 M.size,.slice a1 M.hdrs.length k1] 28):=by rw [hV1];exact QaB _ _
 have hB1V:=HB1.out.trans (hBV.mono h1s)
 have HOV:=Qaa (HO1.out.below hBV)
 have HEV:=Qaa (HE.out.below hB1V)
 have HBV:=Qaa hB1V
 have HMV:=Qaa hMV
 have hVs:=hB1V.size
 have HRUN:Hid (Calls Tryz.prog 25 #[.pointer (some ⟨g,0,none⟩),Qhe M (.slice a1 M.hdrs.length k1)] V1 (Qmh r V1)):=by
  show Calls _ _ _ _ _
  rw [← HRR.out]
  exact QrO g y rv lv _ M V1 X (Qaq H.out hB1V) (HR.out.keep (fun k _ hk=>hB1V.block k hk)) (HBB.out.keep (Qa3 7) (fun k _ hk=>hB1V.block k hk)) HW.out.1 HW.out.2.1 HW.out.2.2 HOV.out.hdrV HBD.out (by omega) HEV.out.m1 HEV.out.tab
 clear hBV hMV hV1 hB1V
 rw [← HMS.out]
 refine HRUN.out.mono ?_
 rintro e w2 ⟨hB2,hX⟩
 have HB2:=Qaa (HBV.out.trans (hB2.mono hVs))
 have HE2:=Qaa (HEV.out.below hB2)
 have HO2:=Qaa (HOV.out.below hB2)
 have HM2:=Qaa (Qaq HMV.out hB2)
 have m0:w2.cell? ⟨w1.heap.size,0,none⟩=some (.string (Qag M.fr)):=Qab HM2.out 0
 have m1:w2.cell? ⟨w1.heap.size,1,none⟩=some (.string (Qag M.to)):=Qab HM2.out 1
 have m2:w2.cell? ⟨w1.heap.size,2,none⟩=some (.int .i64 M.size):=Qab HM2.out 2
 have m3:w2.cell? ⟨w1.heap.size,3,none⟩=some (.slice a1 M.hdrs.length k1):=Qab HM2.out 3
 have h2s:=HB2.out.size
 clear hB2 HRUN
 rcases hX with ⟨lv',h1,rfl,hA⟩ | ⟨lv',f,bb,h1,rfl,hA,hbb,hF⟩
 ·have hT:Qh1 r.2.2=(0,-1):=by rw [h1];rfl
  have HTZ:=Qaa hT
  have HA:=Qaa hA
  obtain ⟨la,lc,hlv⟩:=QaN hA.1
  subst hlv
  clear hA hT
  rw [HMS.out]
  go_wp2_with fail
  rw [← HMS.out]
  refine (QnT M a1 k1 w.heap.size w2 (Qig HO2.out h0s) hml).mono ?_
  rintro e w3 ⟨rfl,hf3⟩
  have HB3:=Qaa (HB2.out.trans (hf3.below (fun k o h=>h.1) h2s))
  have HA3:=Qaa (HA.out.fr hf3 (fun k cs h=>by obtain ⟨_,cs',e⟩:=h;injection e with _ e;exact absurd e (by decide)))
  have h3s:=HB3.out.size
  clear hf3
  rw [HMS.out]
  go_wp2_with fail
  refine (Qoh w3).mono ?_
  rintro e w4 ⟨rfl,hB4⟩
  have HB4:=Qaa (HB3.out.trans (hB4.mono h3s))
  have HA4:=Qaa (HA3.out.below hB4)
  clear hB4
  go_wp2
  refine bodyPost_ret (v:=.tuple #[.slice la r.1.length lc,.int .i64 0,.int .i64 (-1)]) (by simp [results,Tryz.results15,go_sem]) rfl ?_
  exact ⟨HB4.out,_,by rw [HTZ.out],HA4.out.lo hVs⟩
 ·have hT:Qh1 r.2.2=f:=by rw [h1];rfl
  have HTZ:=Qaa hT
  have HA:=Qaa hA
  have HFB:=Qaa hF
  obtain ⟨la,lc,hlv⟩:=QaN hA.1
  subst hlv
  clear hA hT hF
  rw [HMS.out]
  go_wp2_with fail
  rw [← HMS.out]
  refine (QnT M a1 k1 w.heap.size w2 (Qig HO2.out h0s) hml).mono ?_
  rintro e w3 ⟨rfl,hf3⟩
  have HB3:=Qaa (HB2.out.trans (hf3.below (fun k o h=>h.1) h2s))
  have HA3:=Qaa (HA.out.fr hf3 (fun k cs h=>by obtain ⟨_,cs',e⟩:=h;injection e with _ e;exact absurd e (by decide)))
  have HF3:=Qaa (hf3.block _ _ HFB.out (fun h=>by obtain ⟨_,cs',e⟩:=h;injection e with _ e;exact absurd e (by decide)))
  have h3s:=HB3.out.size
  clear hf3
  rw [HMS.out]
  go_wp2_with fail
  refine (Qjb bb f.1 f.2 w3 ((HE.out.below HB3.out).et) (Qab HF3.out 0) (Qab HF3.out 1)).mono ?_
  rintro e w4 ⟨rfl,hB4⟩
  have HB4:=Qaa (HB3.out.trans (hB4.mono h3s))
  have HA4:=Qaa (HA3.out.below hB4)
  clear hB4
  go_wp2
  refine bodyPost_ret (v:=.tuple #[.slice la r.1.length lc,.int .i64 f.1,.int .i64 f.2]) (by simp [results,Tryz.results15,go_sem]) rfl ?_
  exact ⟨HB4.out,_,by rw [HTZ.out],HA4.out.lo hVs⟩
end
end Go.Proofs.YtbiclelojbfnbabGreatDoor
