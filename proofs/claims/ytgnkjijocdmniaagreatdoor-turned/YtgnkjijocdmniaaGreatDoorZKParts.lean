import Derived.Test.YtgnkjijocdmniaaGreatDoorRows
import Derived.ProofKit
import Derived.LaidMore
import Derived.OpenShut
import Derived.Stop.Joined
import Derived.LaidHandle
import Derived.Stop.LaidErr
import Derived.Lib.LaidTab
import Derived.HandedShaped
import Derived.Shelf.Vars
import Derived.Test.YtgnkjijocdmniaaGreatDoorZPlainTurn4
import Derived.Test.YtgnkjijocdmniaaGreatDoorZXFields
namespace Go.Proofs.YtgnkjijocdmniaaGreatDoor
set_option linter.unusedVariables false
set_option linter.unusedSimpArgs false
set_option maxRecDepth 100000
set_option maxHeartbeats 4000000
open Go.Proofs.Tryz
section
open Go.RowKit
attribute [local go_sem ↓] Go.wp_at_zero Go.wp_at_succ
structure Env (w:World):Prop where
 m1:∃ m,w.cell? ⟨1,0,none⟩=some (.int .i64 m)
 et:QkC w
 tab:Tab w
theorem Env.below{w w':World}(h:Env w)(hb:Below w.heap.size w w'):Env w':=by
 obtain⟨m,hm⟩:=h.m1;exact⟨⟨m,by rw[hb.cell (p:=⟨1,0,none⟩) (Qau hm)];exact hm⟩,h.et.below hb,h.tab.below hb⟩
def exT1:L8:=[105,102,32,104,101,97,100,101,114,32,34,83,117,98,106,101,99,116,34,32,34,120,34,32,123,32,100,105,115,99,97,114,100,59,32,125,32,101,108,115,101,32,123,32,107,101,101,112,59,32,125]
def QxI:L8:=[107,101,101,112,59,32,105,102,32,123,32,125]
def Qy3 {α:Type} (r:Except Flt α):Bool:=match r with | .ok _=>true | .error _=>false
def QyD {α:Type} (r:Except Flt α) (n p:Nat):Bool:=match r with | .ok _=>false | .error f=>f.err == n && f.pos == p
theorem Qx0:Qy3 (prL exT1)=true:=by kernel_rfl
theorem Quq:QyD (prL QxI) 4 9=true:=by kernel_rfl
theorem ex1:∃ y,prL exT1=.ok y:=by
 cases h:prL exT1 with
 |ok y=>exact⟨y,rfl⟩
 |error f=>have:=Qx0;rw[h]at this;cases this
theorem ex2:prL QxI=.error ⟨4,9⟩:=by
 cases h:prL QxI with
 |ok y=>have:=Quq;rw[h]at this;cases this
 |error f=>
  have:=Quq;rw[h]at this;have h2:(f.err==4&&f.pos==9)=true:=this;simp at h2;cases f;simp at h2;rw[h2.1,h2.2]
theorem QsN(w:World)(he:Env w):Calls Tryz.prog 18 #[] w fun e w'=>e=.returned (.bool true)/\Below w.heap.size w w':=by
 have HE:=Qab he;clear he;go_enter func18,ntmps18;go_wp2_with fail;refine(Qcz ⟨exT1.toArray⟩ w HE.o.m1 HE.o.et).mono ?_;rintro e w1 ⟨hB,⟨aa,_⟩ | ⟨_,y,g,rv,lv,hy,rfl,hz,_⟩ | ⟨_,f,hf,_⟩⟩
 ·exact absurd aa (by decide)
 ·have HB:=Qab hB;have hs:=hB.size;clear hB hy;go_wp2_with fail;refine(Qcz ⟨QxI.toArray⟩ w1 (HE.o.below HB.o).m1 (HE.o.below HB.o).et).mono ?_;rintro e w2 ⟨ab,⟨aa,_⟩ | ⟨_,y2,g2,rv2,lv2,ad,_⟩ | ⟨_,f,hf,rfl⟩⟩
  ·exact absurd aa (by decide)
  ·have h2:prL QxI=.ok y2:=ad;rw[ex2]at h2;cases h2
  ·have h2:prL QxI=.error f:=hf;rw[ex2]at h2;cases h2;have ac:=Qab (HB.o.trans (ab.mono hs));clear ab hf;go_wp2;go_ret;exact⟨rfl,ac.o⟩
 ·obtain⟨y,hy⟩:=ex1;have h2:prL exT1=.error f:=hf;rw[hy]at h2;cases h2
theorem QrR{t:ByteArray}{y:List (L8)×List (Qbo 7)}(h:prL t.data.toList=.ok y)(ht:t.size<=600):(textL y).length<=4294967200:=by
 have:=QoB h;have e:t.data.toList.length=t.size:=by simp
 rw[e]at this;omega
end
section
open Go.ChangeShapes Go.WideShapes Go.ChangeAt Go.WideMaps Go.WideElems Go.RowKit
open Go.ChangeMaps (open_string shut_string)
theorem Tryz.own:ownKnob Tryz.prog.godebug=none:=by kernel_rfl
theorem Tryz.gErr:Tryz.prog.globalNamed "errors.errorType"=some 0:=by kernel_rfl
theorem Tryz.gPow:Tryz.prog.globalNamed "internal/strconv.uint64pow10"=some 2:=by kernel_rfl
theorem Tryz.rtypeT:(Tryz.prog.cutTypes.find? (·.1 == "internal/reflectlite.rtype")).map (·.2)=some 238:=by kernel_rfl
theorem Tryz.tyCount:Tryz.prog.types.size=418:=by kernel_rfl
theorem Tryz.oneRow:((List.range 418).filter fun t=>Tryz.prog.rowNamed t [101,114,114,111,114])=[84]:=by kernel_rfl
theorem Tryz.powTy:(Tryz.prog.globals[2]?).map (·.type)=some 385:=by kernel_rfl
def Qtr:List (String×DataW Unit):=[("math/bits.deBruijn32tab",Rows.laid_math_bits_deBruijn32tab),("math/bits.deBruijn64tab",Rows.laid_math_bits_deBruijn64tab),("internal/strconv.uint64pow10",Rows.laid_internal_strconv_uint64pow10),("errors.errorType",Rows.laid_errors_errorType)]
theorem QwP{W:World}(h:laidMetH Tryz.prog Qtr W):QkC W/\Tab W:=by
 have h':laidMet Tryz.prog [("math/bits.deBruijn32tab",Rows.laid_math_bits_deBruijn32tab),("math/bits.deBruijn64tab",Rows.laid_math_bits_deBruijn64tab),("internal/strconv.uint64pow10",Rows.laid_internal_strconv_uint64pow10)] W/\handlesMet Tryz.prog [("errors.errorType",Rows.laid_errors_errorType)] W:=h;refine⟨?_,?_⟩
 ·obtain⟨aa,u,ty,e1,e2,e3,e4,e5⟩:=h'.2 _ (List.mem_singleton.2 rfl);have en:aa=[101,114,114,111,114]:=(Option.some.inj e1).symm;subst en;obtain rfl:=Option.some.inj (Tryz.rtypeT.symm.trans e2);have hm:ty∈(List.range 418).filter fun t=>Tryz.prog.rowNamed t [101,114,114,111,114]:=List.mem_filter.2 ⟨List.mem_range.2 (by rw[<-Tryz.tyCount];exact e3),e4⟩
  rw[Tryz.oneRow]at hm;obtain rfl:=List.mem_singleton.1 hm;have hh:typeHandle Tryz.prog 84=.pointer (some ⟨5,84,none⟩):=by kernel_rfl
  rw[hh]at e5;have:=World.var?_cell Tryz.gErr e5 0;unfold QkC;simpa using this
 ·have h3:=laidMet.tail (laidMet.tail h'.1);exact Lib.tabIs_of_head Tryz.gPow Tryz.powTy underlying385 underlying379 (by kernel_rfl) (by kernel_rfl) h3
theorem QvR(os:Os)(args:Array Value):laidMetH Tryz.prog Qtr ((World.doorLaid Tryz.prog 400 os).forCall (fun _ _=>0) ⟨#[],args,[]⟩).memory:=
 laidMetH_of_parts3 (fuel:=8) (laidMet_of_run' 70 (by kernel_rfl) (by kernel_rfl)) (by kernel_rfl) (by kernel_rfl)
theorem Qtw{H:Type}{enc:TypeId×Value->H}{a:Assume}{C:Checked}{os:Os}{f:FuncId}{fn:Func}{s:ChangeSpec}{conds:List PathCond}{apart fresh handsOn again:Bool}{X:World->Array Value->Prop}
 (hX:∀(w w':World) (args:Array Value),w.heap=w'.heap->X w args->X w' args)
 (ak:ownKnob C.prog.godebug=none) (aa:os.Started) (ab:C.prog.inits.idxOf? f=none) (ag:C.prog.funcs[f]?=some fn)
 (witness:∃ (w:World) (tape:Tape) (i:Input),w.os=os∧(w.forCall tape i).Shaped C.prog∧i.vars=[]∧Input.okWide C.prog (w.forCall tape i) .any w.heap.size f i∧
   ((s.pre enc C.prog fn conds apart (w.forCall tape i).memory i.args∧X (w.forCall tape i).memory i.args)∧sizedMet enc C.prog fn (OpenSpec.ofChange s) apart (w.forCall tape i).memory i.args)∧a.holds C.prog (lone (Frame.enter C.prog f i.args .normal) [] (w.forCall tape i)))
 (contract:∀ (W:World) (base:Nat) (args:Array Value) (ds gs:List (DataW H)) (before:List MemPlace),
   (∀(j:Nat) t v,fn.params[j]?=some t->args[j]?=some v->Value.okWide C.prog W .any base t v)->
   DataW.Whole enc C.prog fn.params.toList s.vars apart W args.toList ds gs before->
   (DataW.weightsEach C.prog (fn.params.toList++s.plain.varTypes C.prog) (ds++gs)).all (·<=reachBytes)=true->X W args->W.ShapedOpen C.prog->
   Calls C.prog f args W fun e W'=>∃ v,e=.returned v∧s.post enc C.prog fn apart fresh handsOn again W args v W') :
 ReturnsInHanded a C os f .any (fun w args=>(s.pre enc C.prog fn conds apart w args/\X w args)/\sizedMet enc C.prog fn (OpenSpec.ofChange s) apart w args) (s.post enc C.prog fn apart fresh handsOn again):=by
 refine returnsInHanded_of_calls ak aa ab witness ?_;intro w tape i _ ai _ ah ad _;obtain⟨_,_,_,af,ac,_,_,_,_,ae⟩:=ah;have e:af=fn:=Option.some.inj (ac.symm.trans ag);subst e;obtain⟨⟨⟨ds,gs,before,hw,hc⟩,hx⟩,hz⟩:=ad;have aj:=DataW.Whole.of_heap (w':=w.forCall tape i) (by rfl) hw;refine(contract (w.forCall tape i) w.heap.size i.args ds gs before ae aj (hz.weights hw) (hX _ _ _ (by rfl) hx) ai).mono fun e W' ⟨v,he,hp⟩=>?_
 subst he;exact ChangeSpec.post_blind hp
theorem QxE{W:World}(h:W.ShapedOpen Tryz.prog):∃ m,W.cell? ⟨1,0,none⟩=some (.int .i64 m):=
 cell_of_shapedOpen_int (g:=1) (t:=3) (zero:=#[.int .i64 0]) h (by rw[show Tryz.prog.globals.size=5 by kernel_rfl];decide) (by kernel_rfl) rfl (by kernel_rfl) (by kernel_rfl) underlying3
end
section
open Go.RowKit
attribute [local go_sem ↓] Go.wp_at_zero Go.wp_at_succ
def Qgh (f:Option FZ):FZ:=f.getD (0,-1)
def QxV (r:List (Int×L8)×Nat×Option FZ) (w:World) (e:Ending) (w':World):Prop:=
 Below w.heap.size w w'∧∃ lv,e=.returned (.tuple #[lv,.int .i64 (Qgh r.2.2).1,.int .i64 (Qgh r.2.2).2])∧ActsV w' w.heap.size lv r.1
theorem ActsV.fr{P:Nat->Obj->Prop}{w w':World}{B:Nat}{v:Value}{l:List (Int×L8)}(h:ActsV w B v l)(hf:Fr P w w')(hp:∀ k cs,¬ P k (.cells cs 52)):ActsV w' B v l:=⟨QbL h.1 hf hp,h.2⟩
theorem ActsV.below{w w':World}{B:Nat}{v:Value}{l:List (Int×L8)}(h:ActsV w B v l)(hb:Below w.heap.size w w'):ActsV w' B v l:=h.fr (P:=fun _ _=>False) (Fr.of_below hb) (fun _ _ h=>h)
theorem QuS.below{w w':World}{B:Nat}{v:Value}{l:List (L8×L8)}(h:QuS w B v l)(hb:Below w.heap.size w w'):QuS w' B v l:=QbL h (P:=fun _ _=>False) (Fr.of_below hb) (fun _ _ h=>h)
theorem Qwc(g:Nat)(y:List (L8)×List (Qbo 7))(rv lv hv:Value)(M:Msg)(w:World)(X:Nat->Prop)(he:Env w)(h:w.heap[g]?=some (.cells #[rv,lv] 124))(hr:Qk6 X y.1 w rv)(hb:blX X (QhW 7) y.2 w lv)(ha:∀ c∈y.2,allC (WfT y.1) (WfC y.1) 7 c)(hl:(textL y).length<=100000)(aQ:y.1.length<=1000000)
 (hh:QpM w hv M.hdrs) (aD:∀ v,SBd M (ss0 v)) :
 Calls Tryz.prog 21 #[.pointer (some ⟨g,0,none⟩),Qf5 M hv] w (QxV (execL (varsB y.1) (QcF y.2) M) w):=by
 have aF:=(aD true).hl;obtain⟨ah,ch,rfl⟩:=hh.len;have H:=Qab h;have HR:=Qab hr;have aS:=Qab hb;have aW:=Qab hh;have HE:=Qab he;have aT:=Qab aD;have HW:=Qab (And.intro ha (And.intro hl aQ));obtain⟨r,aH⟩:∃ r,execL (varsB y.1) (QcF y.2) M=r:=⟨_,rfl⟩;rw[aH];have aZ:=Qab aH;obtain⟨m1,aO⟩:=he.m1;have hw1:1<w.heap.size:=Qau aO;clear h hr hb hh he aD ha hl aQ aH aO m1;have aG:∀(a:Option Addr) (n c:Nat),Qf5 M (.slice a n c)=.agg #[.string (Qaf M.fr),.string (Qaf M.to),.int .i64 M.size,.slice a n c]:=fun _ _ _=>rfl
 rw[aG];have ab:=Qab aG;clear aG;go_enter func21,ntmps21;go_wp2_with fail;obtain⟨W0,aC⟩:∃ W0,W0=w.alloc (.cells #[.string (Qaf M.fr),.string (Qaf M.to),.int .i64 M.size,.slice ah M.hdrs.length ch] 28):=⟨_,rfl⟩;rw[<-aC];have ak:Below w.heap.size w W0:=by rw[aC];exact(Below.refl _ _).alloc (Nat.le_refl _) _
 have ax:=ak.size;clear aC;rw[<-ab.o];refine(QsM M _ W0 (aW.o.below ak) aF).mono ?_;rintro e w1 ⟨a1,k1,rfl,aP,ag⟩;have az:Below w.heap.size w w1:=ak.trans (ag.mono ax);have aY:=Qab aP;have aR:=Qab az;have a0:=az.size;clear aP az ag ak;rw[ab.o];go_wp2_with fail;obtain⟨V1,ao⟩:∃ V1,V1=w1.alloc (.cells #[.string (Qaf M.fr),.string (Qaf M.to),.int .i64 M.size,.slice a1 M.hdrs.length k1] 28):=⟨_,rfl⟩;rw[<-ao];have aA:Below w1.heap.size w1 V1:=by rw[ao];exact(Below.refl _ _).alloc (Nat.le_refl _) _
 have aN:V1.heap[w1.heap.size]?=some (.cells #[.string (Qaf M.fr),.string (Qaf M.to),.int .i64 M.size,.slice a1 M.hdrs.length k1] 28):=by rw[ao];exact Qat _ _
 have aa:=aR.o.trans (aA.mono a0);have aK:=Qab (aY.o.below aA);have av:=Qab (HE.o.below aa);have aU:=Qab aa;have aX:=Qab aN;have aB:=aa.size
 have af:Hid (Calls Tryz.prog 41 #[.pointer (some ⟨g,0,none⟩),Qf5 M (.slice a1 M.hdrs.length k1)] V1 (QoZ r V1)):=by
  show Calls _ _ _ _ _
  rw[<-aZ.o];exact QvH g y rv lv _ M V1 X (Qal H.o aa) (HR.o.keep (fun k _ hk=>aa.block k hk)) (aS.o.keep (QaX 7) (fun k _ hk=>aa.block k hk)) HW.o.1 HW.o.2.1 HW.o.2.2 aK.o.hdrV aT.o (by omega) av.o.m1 av.o.tab
 clear aA aN ao aa;rw[<-ab.o];refine af.o.mono ?_;rintro e w2 ⟨ai,hX⟩;have ar:=Qab (aU.o.trans (ai.mono aB));have HE2:=Qab (av.o.below ai);have aJ:=Qab (aK.o.below ai);have aj:=Qab (Qal aX.o ai);have m0:w2.cell? ⟨w1.heap.size,0,none⟩=some (.string (Qaf M.fr)):=Qaa aj.o 0;have m1:w2.cell? ⟨w1.heap.size,1,none⟩=some (.string (Qaf M.to)):=Qaa aj.o 1;have m2:w2.cell? ⟨w1.heap.size,2,none⟩=some (.int .i64 M.size):=Qaa aj.o 2;have m3:w2.cell? ⟨w1.heap.size,3,none⟩=some (.slice a1 M.hdrs.length k1):=Qaa aj.o 3;have aM:=ar.o.size;clear ai af;rcases hX with⟨a2,h1,rfl,hA⟩ | ⟨a2,f,bb,h1,rfl,hA,hbb,hF⟩
 ·have hT:Qgh r.2.2=(0,-1):=by rw[h1];rfl
  have aw:=Qab hT;have HA:=Qab hA;obtain⟨la,lc,aE⟩:=QaD hA.1;subst aE;clear hA hT;rw[ab.o];go_wp2_with fail;rw[<-ab.o];refine(QqX M a1 k1 w.heap.size w2 (Qkz aJ.o ax) aF).mono ?_;rintro e w3 ⟨rfl,ac⟩;have ae:=Qab (ar.o.trans (ac.below (fun k o h=>h.1) aM));have ap:=Qab (HA.o.fr ac (fun k cs h=>by obtain⟨_,aL,e⟩:=h;injection e with _ e;exact absurd e (by decide)));have ay:=ae.o.size;clear ac;rw[ab.o];go_wp2_with fail;refine(Qrz w3).mono ?_;rintro e w4 ⟨rfl,ad⟩;have au:=Qab (ae.o.trans (ad.mono ay));have aq:=Qab (ap.o.below ad);clear ad;go_wp2;refine bodyPost_ret (v:=.tuple #[.slice la r.1.length lc,.int .i64 0,.int .i64 (-1)]) (by simp[results,results21,go_sem]) rfl ?_;exact⟨au.o,_,by rw[aw.o],aq.o.lo aB⟩
 ·have hT:Qgh r.2.2=f:=by rw[h1];rfl
  have aw:=Qab hT;have HA:=Qab hA;have aV:=Qab hF;obtain⟨la,lc,aE⟩:=QaD hA.1;subst aE;clear hA hT hF;rw[ab.o];go_wp2_with fail;rw[<-ab.o];refine(QqX M a1 k1 w.heap.size w2 (Qkz aJ.o ax) aF).mono ?_;rintro e w3 ⟨rfl,ac⟩;have ae:=Qab (ar.o.trans (ac.below (fun k o h=>h.1) aM));have ap:=Qab (HA.o.fr ac (fun k cs h=>by obtain⟨_,aL,e⟩:=h;injection e with _ e;exact absurd e (by decide)));have aI:=Qab (ac.block _ _ aV.o (fun h=>by obtain⟨_,aL,e⟩:=h;injection e with _ e;exact absurd e (by decide)));have ay:=ae.o.size;clear ac;rw[ab.o];go_wp2_with fail;refine(Qlm bb f.1 f.2 w3 ((HE.o.below ae.o).et) (Qaa aI.o 0) (Qaa aI.o 1)).mono ?_;rintro e w4 ⟨rfl,ad⟩;have au:=Qab (ae.o.trans (ad.mono ay));have aq:=Qab (ap.o.below ad);clear ad;go_wp2;refine bodyPost_ret (v:=.tuple #[.slice la r.1.length lc,.int .i64 f.1,.int .i64 f.2]) (by simp[results,results21,go_sem]) rfl ?_;exact⟨au.o,_,by rw[aw.o],aq.o.lo aB⟩
def QoU (l:List (L8×L8)):Nat:=(l.map fun h=>h.1.length+h.2.length).sum
def QwB (M:Msg):Nat:=M.fr.length+M.to.length+M.hdrs.length+QoU M.hdrs
theorem Qts(l:List (L8×L8))(k:Nat)(h:k<l.length):QoU (l.take (k+1))=QoU (l.take k)+(l[k].1.length+l[k].2.length):=by
 unfold QoU;rw[List.take_add_one,List.getElem?_eq_getElem h,List.map_append,List.sum_append];rfl
theorem QtD(l:List (L8×L8))(k:Nat):QoU (l.take k)<=QoU l:=by
 have:QoU l=QoU (l.take k)+QoU (l.drop k):=by
  unfold QoU;rw[<-List.sum_append,<-List.map_append,List.take_append_drop]
 omega
theorem Qv3{l:List (L8×L8)}{h:L8×L8}(hm:h∈l):h.1.length+h.2.length<=QoU l:=by
 induction l with
 |nil=>cases hm
 |cons x r ih=>
  have e:QoU (x::r)=x.1.length+x.2.length+QoU r:=by simp[QoU]
  rcases List.mem_cons.1 hm with rfl|hm
  ·omega
  ·have:=ih hm;omega
structure Qyw (M:Msg):Prop where
 fr:M.fr.length≤140737488355328
 tt:M.to.length≤140737488355328
 hl:M.hdrs.length≤140737488355328
 hd:∀ h∈M.hdrs,h.1.length≤140737488355328∧h.2.length≤140737488355328
theorem Qni{M:Msg}(h:QwB M<=16384)(v:Bool):SBd M (ss0 v):=by
 unfold QwB at h;refine⟨by omega,by omega,by omega,fun x hx=>?_,fun t ht=>(by cases ht),Nat.zero_le _,fun x t ht=>(by cases ht),Nat.zero_le _⟩;have:=Qv3 hx;omega
theorem Qs8(M:Msg)(hv:Value)(w:World)(hh:QpM w hv M.hdrs)(hb:Qyw M) :
 Calls Tryz.prog 11 #[Qf5 M hv] w fun e w'=>e=.returned (.bool (decide (QwB M<=16384)))/\Below w.heap.size w w':=by
 have HH:=Qab hh;obtain⟨a,c,rfl⟩:=hh.len;have hb1:=hb.fr;have hb2:=hb.tt;have hb3:=hb.hl;have HB:=Qab hb.hd;have hs1:=Qaj M.fr;have hs2:=Qaj M.to;clear hh hb;unfold Qf5;obtain⟨W0,ab⟩:∃ W0,W0=w.alloc (.cells #[.string (Qaf M.fr),.string (Qaf M.to),.int .i64 M.size,.slice a M.hdrs.length c] 28):=⟨_,rfl⟩;have ap:Hid (Below w.heap.size w W0):=by show Below _ _ _;rw[ab];exact(Below.refl _ _).alloc (Nat.le_refl _) _
 have aq:Hid (W0.heap[w.heap.size]?=some (.cells #[.string (Qaf M.fr),.string (Qaf M.to),.int .i64 M.size,.slice a M.hdrs.length c] 28)):=by show _=_;rw[ab];exact Qat _ _
 have aw:=Qab ab;clear ab;obtain⟨T,hT⟩:∃ T,M.fr.length+M.to.length+M.hdrs.length=T:=⟨_,rfl⟩;have hTb:T<=422212465065984:=by omega
 have ag:Hid (QwB M=T+QoU M.hdrs):=by show _=_;rw[<-hT];rfl
 have av:=Qab hT;clear hT;go_enter func11,ntmps11;go_wp2_with fail;rw[<-aw.o]
 go_loopw [3,4] (fun v i wr=>∃(k t:Nat),k<=M.hdrs.length/\i=.int .i64 (k:Int)/\v=.int .i64 (t:Int)/\t=T+QoU (M.hdrs.take k)/\t<=703687441776640/\Below w.heap.size w wr/\wr.heap[w.heap.size]?=some (.cells #[.string (Qaf M.fr),.string (Qaf M.to),.int .i64 M.size,.slice a M.hdrs.length c] 28)) (fun _ i _=>M.hdrs.length - (intOf i).toNat)
 case atStart=>exact⟨0,T,Nat.zero_le _,by go_num,(by congr 1;have:=av.o;omega),rfl,by omega,ap.o,aq.o⟩
 case round=>
  obtain⟨k,t,hk,rfl,rfl,ht,htb,hB,hM⟩:=hrel;have aa:=Qab hB;have ar:=Qab hM;have hwl:=QaI hM;have c3:wr.cell? ⟨w.heap.size,3,none⟩=some (.slice a M.hdrs.length c):=Qaa hM 3;have HT:=Qab ht;clear hB hM ht;by_cases hlt:k<M.hdrs.length
  ·have af:(k:Int)<(M.hdrs.length:Int):=by omega
   by_cases hle:t<=16384
   ·have ae:(t:Int)<=16384:=by omega
    obtain⟨a',c',hv,ak⟩:=HH.o;injection hv with hv1 hv2 hv3
    subst hv1;obtain⟨g,ac,ax,aj⟩:=ak (List.ne_nil_of_length_pos (by omega));subst ax;obtain⟨ad,ai⟩:=aj k hlt;have ao:g<w.heap.size:=Qau ad;have d1:wr.cell? ⟨g,ac+k*2,none⟩=some (.string (Qaf M.hdrs[k].1)):=by rw[aa.o.cell (p:=⟨g,ac+k*2,none⟩) ao];exact ad
    have d2:wr.cell? ⟨g,ac+k*2+1,none⟩=some (.string (Qaf M.hdrs[k].2)):=by rw[aa.o.cell (p:=⟨g,ac+k*2+1,none⟩) ao];exact ai
    have ah:=HB.o _ (List.getElem_mem hlt);have HS:=Qab (Qts M.hdrs k hlt);obtain⟨x,hx⟩:∃ x,M.hdrs[k]=x:=⟨_,rfl⟩;rw[hx]at d1 d2 ah HS;have hs3:=Qaj x.1;have hs4:=Qaj x.2;obtain⟨hk1,hk2⟩:=ah;clear ad ai hx hv3 ak aj;go_wp2_with fail;go_quiet (fail)
    all_goals go_wp2
    go_roundw
    case rel=>exact⟨k+1,t+x.1.length+x.2.length,by omega,by go_num,by go_num,by rw[HS.o,HT.o];omega,by omega,QbG aa.o,ar.o⟩
    case measure=>simp[intOf];omega
   ·have ae:¬(t:Int)<=16384:=by omega
    have hlex:16384<t:=by omega
    have HS:=Qab (QtD M.hdrs k);go_wp2;go_ret;refine⟨QaZ ?_,aa.o⟩;have h1:=ag.o;have h2:=HT.o;have h3:=HS.o;exact(decide_eq_false (by omega)).symm
  ·have af:¬(k:Int)<(M.hdrs.length:Int):=by omega
   have ay:k=M.hdrs.length:=by omega
   subst ay
   have au:Hid (t=QwB M):=by
    show _=_
    have h2:=HT.o;rw[List.take_length]at h2;rw[ag.o,h2]
   clear HT;go_wp2;go_ret;refine⟨QaZ ?_,aa.o⟩;rw[<-au.o];by_cases hle:t<=16384
   ·simp[hle];try omega
   ·simp[hle];try omega
def sayL (y:List (L8)×List (Qbo 7)) (M:Msg):List (Int×L8)×Nat×Option FZ:=execL (varsB y.1) (QcF y.2) M
theorem QxG(y:List (L8)×List (Qbo 7)):y.1.length<=(textL y).length+1:=by
 by_cases h:y.1=[]
 ·rw[h];exact Nat.zero_le _
 ·have h1:=(Qf8 y.1).2;unfold textL requireTxt;rw[if_neg h];simp only[List.length_append];omega
theorem Qpl(s:ByteArray)(y:List (L8)×List (Qbo 7))(hv:Value)(M:Msg)(w:World)(he:Env w)(hs:s.size<=600)(hy:prL s.data.toList=.ok y)(hh:QpM w hv M.hdrs)(ao:∀ v,SBd M (ss0 v)) :
 Calls Tryz.prog 13 #[.string s,Qf5 M hv] w fun e w'=>Below w.heap.size w w'/\∃ lv,e=.returned (.tuple #[lv,.int .i64 (Qgh (sayL y M).2.2).1,.bool true])/\ActsV w' w.heap.size lv (sayL y M).1:=by
 obtain⟨ah,ch,rfl⟩:=hh.len;have HY:=Qab hy;have HE:=Qab he;have ay:=Qab hh;have av:=Qab ao;have aD:=Qab (Qe3 hy);have aI:=QoB hy;have aH:s.data.toList.length=s.size:=by simp
 have ai:Hid ((textL y).length<=100000):=by show _<=_;omega
 have aB:Hid (y.1.length<=1000000):=by show _<=_;have:=QxG y;have:=ai.o;omega
 obtain⟨r,hr⟩:∃ r,sayL y M=r:=⟨_,rfl⟩;rw[hr];have HR:=Qab hr;clear hy he hh ao aI aH hr;have af:∀(a:Option Addr) (n c:Nat),Qf5 M (.slice a n c)=.agg #[.string (Qaf M.fr),.string (Qaf M.to),.int .i64 M.size,.slice a n c]:=fun _ _ _=>rfl
 rw[af];have aA:=Qab af;clear af;obtain⟨W0,ae⟩:∃ W0,W0=w.alloc (.cells #[.string (Qaf M.fr),.string (Qaf M.to),.int .i64 M.size,.slice ah M.hdrs.length ch] 28):=⟨_,rfl⟩;have ab:Hid (Below w.heap.size w W0):=by show Below _ _ _;rw[ae];exact(Below.refl _ _).alloc (Nat.le_refl _) _
 have az:Hid (W0.heap[w.heap.size]?=some (.cells #[.string (Qaf M.fr),.string (Qaf M.to),.int .i64 M.size,.slice ah M.hdrs.length ch] 28)):=by show _=_;rw[ae];exact Qat _ _
 have aF:=ab.o.size;have aE:=Qab ae;clear ae;go_enter func13,ntmps13;go_wp2_with fail;rw[<-aE.o];refine(Qcz s W0 (HE.o.below ab.o).m1 (HE.o.below ab.o).et).mono ?_;rintro e w1 ⟨aa,⟨hbig,_⟩ | ⟨_,y1,g,rv,lv,ar,rfl,hz,hc,aq,ap⟩ | ⟨_,f,hf,_⟩⟩
 ·omega
 ·have aJ:y1=y:=by have:=HY.o;rw[ar]at this;exact Except.ok.inj this
  subst aJ;have ad:Below w.heap.size w w1:=ab.o.trans (aa.mono aF);have ag:=Qab ad;have ax:=Qab (HE.o.below ad);have ac:=Qab (Qal az.o aa);have HC:=Qab hc;have aC:=Qab aq;have aw:=Qab ap;have m0:w1.cell? ⟨w.heap.size,0,none⟩=some (.string (Qaf M.fr)):=Qaa ac.o 0;have m1:w1.cell? ⟨w.heap.size,1,none⟩=some (.string (Qaf M.to)):=Qaa ac.o 1;have m2:w1.cell? ⟨w.heap.size,2,none⟩=some (.int .i64 M.size):=Qaa ac.o 2;have m3:w1.cell? ⟨w.heap.size,3,none⟩=some (.slice ah M.hdrs.length ch):=Qaa ac.o 3;have aj:=ad.size;clear ad aa hc aq ap ar;go_wp2_with fail;rw[<-aA.o];refine(Qwc g y1 rv lv _ M w1 _ ax.o HC.o aC.o aw.o aD.o.2 ai.o aB.o (ay.o.below ag.o) av.o).mono ?_;rintro e w2 ⟨ak,lv2,rfl,hA⟩;rw[show execL (varsB y1.1) (QcF y1.2) M=r from HR.o]at hA ⊢;have au:=Qab (ag.o.trans (ak.mono aj));have HA:=Qab hA;obtain⟨la,lc,aG⟩:=QaD hA.1;subst aG;clear hA ak;go_wp2;refine bodyPost_ret (v:=.tuple #[.slice la r.1.length lc,.int .i64 (Qgh r.2.2).1,.bool true]) (by simp[results,results13,go_sem]) rfl ?_;exact⟨au.o,_,rfl,HA.o.lo aj⟩
 ·have:=HY.o;rw[hf]at this;cases this
def QyY:L8:=[105,102,32,104,101,97,100,101,114,32,58,99,111,109,112,97,114,97,116,111,114,32,34,105,59,111,99,116,101,116,34,32,34,83,117,98,106,101,99,116,34,32,34,120,34,32,123,32,100,105,115,99,97,114,100,59,32,125,32,101,108,115,101,32,123,32,114,101,100,105,114,101,99,116,32,34,97,64,98,34,59,32,125]
def exM:Msg:=⟨[],[],0,[([115,117,98,106,101,99,116],[88])]⟩
def Qyv (t:L8) (M:Msg):Option (List (Int×L8)×FZ):=
 match prL t with
 | .ok y=>some ((sayL y M).1,Qgh (sayL y M).2.2)
 | .error _=>none
theorem Qy0:Qyv exT1 exM=some ([],(0,-1)):=by kernel_rfl
theorem Qy1:Qyv QyY exM=some ([(3,[97,64,98])],(0,-1)):=by kernel_rfl
theorem Qt6{t:L8}{M:Msg}{l:List (Int×L8)}{f:FZ}(h:Qyv t M=some (l,f)):∃ y,prL t=.ok y/\(sayL y M).1=l/\Qgh (sayL y M).2.2=f:=by
 unfold Qyv at h
 cases hp:prL t with
 |error e=>rw[hp]at h;cases h
 |ok y=>
  rw[hp]at h;simp at h;exact⟨y,rfl,h.1,h.2⟩
theorem QvA(w:World)(he:Env w):Calls Tryz.prog 10 #[] w fun e w'=>e=.returned (.bool true)/\Below w.heap.size w w':=by
 have HE:=Qab he;clear he;go_enter func10,ntmps10;go_wp2_with fail;refine(QsN w HE.o).mono ?_;rintro e w1 ⟨rfl,aj⟩;have aB:=Qab aj;have aF:=aj.size;clear aj;obtain⟨y1,az,ax,av⟩:=Qt6 Qy0;obtain⟨y3,aA,ay,aw⟩:=Qt6 Qy1;obtain⟨V,hV⟩:∃ V,V=(w1.alloc (.cells #[.string ⟨#[115,117,98,106,101,99,116]⟩,.string ⟨#[88]⟩] 50)).alloc (.cells #[.string ⟨#[]⟩,.string ⟨#[]⟩,.int .i64 0,.slice (some ⟨w1.heap.size,0,none⟩) 1 1] 28):=⟨_,rfl⟩;have aE:=Qab hV;have ar:Below w1.heap.size w1 V:=by rw[hV];exact((Below.refl _ _).alloc (Nat.le_refl _) _).alloc (by simp) _
 have hVh:V.heap[w1.heap.size]?=some (.cells #[.string ⟨#[115,117,98,106,101,99,116]⟩,.string ⟨#[88]⟩] 50):=by rw[hV];exact Qae (Qat _ _)
 have au:V.heap[w1.heap.size+1]?=some (.cells #[.string ⟨#[]⟩,.string ⟨#[]⟩,.int .i64 0,.slice (some ⟨w1.heap.size,0,none⟩) 1 1] 28):=by rw[hV];exact Qaw (by simp)
 have aa:=aB.o.trans (ar.mono aF);have ap:=Qab aa;have aD:=Qab au
 have HHD:Hid (QkG V (.slice (some ⟨w1.heap.size,0,none⟩) 1 1) exM.hdrs):=Or.inr ⟨w1.heap.size,1,_,rfl,hVh,fun j hj=>by
  have:j=0:=by have:j<1:=hj;omega
  subst this
  exact ⟨rfl,rfl⟩⟩
 have ao:Hid (∀ v,SBd exM (ss0 v)):=fun v=>Qni (by decide) v
 have aH:=aa.size;have af:=Qab (And.intro az (And.intro ax av));have ag:=Qab (And.intro aA (And.intro ay aw));clear hV ar hVh au aa az ax av aA ay aw;go_wp2_with fail;rw[show(w1.alloc _).alloc _=V from aE.o.symm];refine(Qpl ⟨exT1.toArray⟩ y1 (.slice (some ⟨w1.heap.size,0,none⟩) 1 1) exM V (HE.o.below ap.o) (by decide) af.o.1 HHD.o.g ao.o).mono ?_;rintro e w2 ⟨ac,lv2,rfl,ah⟩;rw[af.o.2.1]at ah;rw[af.o.2.2];have ak:=ah.2 rfl;subst ak;have ad:=Qab (ap.o.trans (ac.mono aH));have ab:=Qab (Qal aD.o ac);have ae:=Qab (HHD.o.fr (P:=fun _ _=>False) (Fr.of_below ac) (fun _ _ h=>h));have m0:w2.cell? ⟨w1.heap.size+1,0,none⟩=some (.string ⟨#[]⟩):=Qaa ab.o 0;have m1:w2.cell? ⟨w1.heap.size+1,1,none⟩=some (.string ⟨#[]⟩):=Qaa ab.o 1;have m2:w2.cell? ⟨w1.heap.size+1,2,none⟩=some (.int .i64 0):=Qaa ab.o 2;have m3:w2.cell? ⟨w1.heap.size+1,3,none⟩=some (.slice (some ⟨w1.heap.size,0,none⟩) 1 1):=Qaa ab.o 3;have aG:=ad.o.size;clear ac ah;go_wp2_with fail;refine(Qpl ⟨QyY.toArray⟩ y3 (.slice (some ⟨w1.heap.size,0,none⟩) 1 1) exM w2 (HE.o.below ad.o) (by decide) ag.o.1 ae.o.g ao.o).mono ?_;rintro e w3 ⟨aq,lv3,rfl,ai⟩;rw[ag.o.2.1]at ai;rw[ag.o.2.2];have aC:=Qab (ad.o.trans (aq.mono aG));obtain⟨g3,c3,aI,_,hg3,hcells⟩:=Qc6 ai.1 (by decide);subst aI;have d0:w3.cell? ⟨g3,0,none⟩=some (.int .i64 3):=hcells 0 _ rfl;have d1:w3.cell? ⟨g3,1,none⟩=some (.string ⟨#[97,64,98]⟩):=hcells 1 _ rfl;have heq:∀ W,(binOp .eql 52 (.agg #[.int .i64 3,.string ⟨#[97,64,98]⟩]) (.agg #[.int .i64 3,.string ⟨#[97,64,98]⟩])).run Tryz.prog W=.ok (.bool true) W:=fun W=>(QvE (3,[97,64,98]) (3,[97,64,98]) W).trans (by simp)
 clear hcells ai aq;go_wp2;go_ret;exact⟨rfl,aC.o⟩
theorem Qrw{w:World}{base:Nat}{e:TypeId}{size:Nat}{v:Value}{n:Nat}{xs:List Value}(h:w.ownsRow base e size v n xs):n<=maxLen:=by
 rcases h.2 with⟨_,h2⟩ | ⟨g,cap,cur,hv,hg,hb,hc,hm,_⟩
 ·rw[h2];exact Nat.zero_le _
 ·exact Nat.le_trans hc hm
theorem QuX(a b:Int×L8)(W:World):(binOp .neq 52 (.agg #[.int .i64 a.1,.string (Qaf a.2)]) (.agg #[.int .i64 b.1,.string (Qaf b.2)])).run Tryz.prog W=.ok (.bool (!decide (a=b))) W:=by
 have h:=QvE a b W;rw[run_eql_struct]at h;rw[run_neq_struct];generalize (Op.equalIn 10000 52 (.agg #[.int .i64 a.1,.string (Qaf a.2)]) (.agg #[.int .i64 b.1,.string (Qaf b.2)])).run Tryz.prog W=r at h
 cases r with
 |ok x w'=>
  simp[Result.andThen]at h ⊢;obtain⟨rfl,rfl⟩:=h;exact⟨rfl,rfl⟩
 |_=>simp[Result.andThen]at h
theorem Qj4(B B':Nat)(u v:Value)(l:List (Int×L8))(w:World)(hu:ActsV w B u l)(hv:ActsV w B' v l) :
 Calls Tryz.prog 14 #[u,v] w fun e w'=>e=.returned (.bool true)/\Below w.heap.size w w':=by
 obtain⟨a,c,rfl⟩:=QaD hu.1;obtain⟨b,c',rfl⟩:=QaD hv.1;have hl:l.length<=maxLen:=Qrw hu.1;unfold maxLen at hl;have HU:=Qab hu.1;have HV:=Qab hv.1;clear hu hv;go_enter func14,ntmps14;go_wp2_with fail
 go_loopw [5] (fun i wr=>∃(k:Nat),k<=l.length/\i=.int .i64 (k:Int)/\Below w.heap.size w wr) (fun i _=>l.length - (intOf i).toNat)
 case atStart=>exact⟨0,Nat.zero_le _,by go_num,Below.refl _ _⟩
 case round=>
  obtain⟨k,hk,rfl,hB⟩:=hrel;have HB:=Qab hB;clear hB;by_cases hlt:k<l.length
  ·have ad:(k:Int)<(l.length:Int):=by omega
   obtain⟨g,c1,ae,_,ag,hcells⟩:=Qc6 HU.o (by omega);obtain⟨g',c2,af,_,ac,aa⟩:=Qc6 HV.o (by omega);injection ae with ae _ hv3
   injection af with af _ hv4
   subst ae af;have ab:=Qhk l k hlt;have d1:wr.cell? ⟨g,k*2,none⟩=some (.int .i64 l[k].1):=by rw[HB.o.cell (p:=⟨g,k*2,none⟩) ag];exact hcells _ _ ab.1
   have d2:wr.cell? ⟨g,k*2+1,none⟩=some (.string (Qaf l[k].2)):=by rw[HB.o.cell (p:=⟨g,k*2+1,none⟩) ag];exact hcells _ _ ab.2
   have d3:wr.cell? ⟨g',k*2,none⟩=some (.int .i64 l[k].1):=by rw[HB.o.cell (p:=⟨g',k*2,none⟩) ac];exact aa _ _ ab.1
   have d4:wr.cell? ⟨g',k*2+1,none⟩=some (.string (Qaf l[k].2)):=by rw[HB.o.cell (p:=⟨g',k*2+1,none⟩) ac];exact aa _ _ ab.2
   generalize l[k]=x at *;have heq:∀ W,(binOp .neq 52 (.agg #[.int .i64 x.1,.string (Qaf x.2)]) (.agg #[.int .i64 x.1,.string (Qaf x.2)])).run Tryz.prog W=.ok (.bool false) W:=fun W=>by rw[QuX];simp
   clear hcells aa ab hv3 hv4;go_wp2_with fail;go_quiet (fail)
   all_goals go_wp2
   go_roundw
   case rel=>exact⟨k+1,by omega,by go_num,QbG HB.o⟩
   case measure=>simp[intOf];omega
  ·have ad:¬(k:Int)<(l.length:Int):=by omega
   go_wp2;go_ret;exact⟨rfl,HB.o⟩
def QyZ (s:L8) (M:Msg) (w:World) (e:Ending) (w':World):Prop:=
 Below w.heap.size w w'∧((∃ y lv,prL s=.ok y∧s.length≤600∧e=.returned (.tuple #[lv,.int .i64 (Qgh (sayL y M).2.2).1,.bool true])∧ActsV w' w.heap.size lv (sayL y M).1)∨∃ er,e=.returned (.tuple #[.slice none 0 0,.int .i64 er,.bool false]))
theorem Quu(s:L8)(hv:Value)(M:Msg)(w:World)(he:Env w)(hn:¬(s.length<=600/\∃ y,prL s=.ok y))(hh:QpM w hv M.hdrs) :
 Calls Tryz.prog 13 #[.string (Qaf s),Qf5 M hv] w fun e w'=>Below w.heap.size w w'/\∃ er,e=.returned (.tuple #[.slice none 0 0,.int .i64 er,.bool false]):=by
 obtain⟨ah,ch,rfl⟩:=hh.len;have HE:=Qab he;have HN:=Qab hn;have hz:=Qaj s;clear he hh hn;have af:∀(a:Option Addr) (n c:Nat),Qf5 M (.slice a n c)=.agg #[.string (Qaf M.fr),.string (Qaf M.to),.int .i64 M.size,.slice a n c]:=fun _ _ _=>rfl
 rw[af];clear af;obtain⟨W0,ad⟩:∃ W0,W0=w.alloc (.cells #[.string (Qaf M.fr),.string (Qaf M.to),.int .i64 M.size,.slice ah M.hdrs.length ch] 28):=⟨_,rfl⟩;have aa:Hid (Below w.heap.size w W0):=by show Below _ _ _;rw[ad];exact(Below.refl _ _).alloc (Nat.le_refl _) _
 have ae:=aa.o.size;have ag:=Qab ad;clear ad;go_enter func13,ntmps13;go_wp2_with fail;rw[<-ag.o];refine(Qcz (Qaf s) W0 (HE.o.below aa.o).m1 (HE.o.below aa.o).et).mono ?_;rintro e w1 ⟨ab,⟨hbig,rfl⟩ | ⟨h6,y1,g,rv,lv,ai,_⟩ | ⟨_,f,hf,rfl⟩⟩
 ·have ac:=Qab (aa.o.trans (ab.mono ae));clear ab;go_wp2;refine bodyPost_ret (v:=.tuple #[.slice none 0 0,.int .i64 1,.bool false]) (by simp[results,results13,go_sem]) rfl ?_;exact⟨ac.o,_,rfl⟩
 ·exact absurd ⟨by rw[<-hz];exact h6,y1,ai⟩ HN.o
 ·have ac:=Qab (aa.o.trans (ab.mono ae));clear ab hf;go_wp2;refine bodyPost_ret (v:=.tuple #[.slice none 0 0,.int .i64 f.err,.bool false]) (by simp[results,results13,go_sem]) rfl ?_;exact⟨ac.o,_,rfl⟩
theorem Qhc(s:L8)(hv:Value)(M:Msg)(w:World)(he:Env w)(hh:QpM w hv M.hdrs)(aa:∀ v,SBd M (ss0 v)) :
 Calls Tryz.prog 13 #[.string (Qaf s),Qf5 M hv] w (QyZ s M w):=by
 by_cases h:s.length<=600/\∃ y,prL s=.ok y
 ·obtain⟨h6,y,hy⟩:=h;refine(Qpl (Qaf s) y hv M w he (by rw[Qaj];exact h6) hy hh aa).mono ?_;rintro e w' ⟨hB,lv,rfl,hA⟩;exact⟨hB,Or.inl ⟨y,lv,hy,h6,rfl,hA⟩⟩
 ·refine(Quu s hv M w he h hh).mono ?_;rintro e w' ⟨hB,er,rfl⟩;exact⟨hB,Or.inr ⟨er,rfl⟩⟩
def QyC (e:Ending):Prop:=∃ r,e=.returned (.bool r)
theorem Qsb(B B':Nat)(u v:Value)(l l':List (Int×L8))(w:World)(hu:ActsV w B u l)(hv:ActsV w B' v l') :
 Calls Tryz.prog 14 #[u,v] w fun e w'=>QyC e/\Below w.heap.size w w':=by
 obtain⟨a,c,rfl⟩:=QaD hu.1;have hl:l.length<=maxLen:=Qrw hu.1;unfold maxLen at hl;by_cases hll:l.length=l'.length
 ·have aj:=Qab hll;have ac:w.ownsRow B' 52 2 v l.length (Qcp l'):=by rw[hll];exact hv.1
  obtain⟨b,c',rfl⟩:=QaD ac;have HU:=Qab hu.1;have HV:=Qab ac;clear hu hv hll ac;go_enter func14,ntmps14;go_wp2_with fail
  go_loopw [5] (fun i wr=>∃(k:Nat),k<=l.length/\i=.int .i64 (k:Int)/\Below w.heap.size w wr) (fun i _=>l.length - (intOf i).toNat)
  case atStart=>exact⟨0,Nat.zero_le _,by go_num,Below.refl _ _⟩
  case round=>
   obtain⟨k,hk,rfl,hB⟩:=hrel;have HB:=Qab hB;clear hB;by_cases hlt:k<l.length
   ·have ag:(k:Int)<(l.length:Int):=by omega
    have ae:k<l'.length:=by have:=aj.o;omega
    obtain⟨g,c1,ac,_,ai,hcells⟩:=Qc6 HU.o (by omega);obtain⟨g',c2,ah,_,ad,aa⟩:=Qc6 HV.o (by omega);injection ac with ac _ hv3
    injection ah with ah _ hv4
    subst ac ah;have af:=Qhk l k hlt;have ab:=Qhk l' k ae;have d1:wr.cell? ⟨g,k*2,none⟩=some (.int .i64 l[k].1):=by rw[HB.o.cell (p:=⟨g,k*2,none⟩) ai];exact hcells _ _ af.1
    have d2:wr.cell? ⟨g,k*2+1,none⟩=some (.string (Qaf l[k].2)):=by rw[HB.o.cell (p:=⟨g,k*2+1,none⟩) ai];exact hcells _ _ af.2
    have d3:wr.cell? ⟨g',k*2,none⟩=some (.int .i64 l'[k].1):=by rw[HB.o.cell (p:=⟨g',k*2,none⟩) ad];exact aa _ _ ab.1
    have d4:wr.cell? ⟨g',k*2+1,none⟩=some (.string (Qaf l'[k].2)):=by rw[HB.o.cell (p:=⟨g',k*2+1,none⟩) ad];exact aa _ _ ab.2
    generalize l[k]=x at *;generalize l'[k]=x' at *;clear hcells aa af ab hv3 hv4 ae;by_cases hxx:x=x'
    ·subst hxx;have ak:∀ W,(binOp .neq 52 (.agg #[.int .i64 x.1,.string (Qaf x.2)]) (.agg #[.int .i64 x.1,.string (Qaf x.2)])).run Tryz.prog W=.ok (.bool false) W:=fun W=>by rw[QuX];simp
     go_wp2_with fail;go_quiet (fail)
     all_goals go_wp2
     go_roundw
     case rel=>exact⟨k+1,by omega,by go_num,QbG HB.o⟩
     case measure=>simp[intOf];omega
    ·have ak:∀ W,(binOp .neq 52 (.agg #[.int .i64 x.1,.string (Qaf x.2)]) (.agg #[.int .i64 x'.1,.string (Qaf x'.2)])).run Tryz.prog W=.ok (.bool true) W:=fun W=>by rw[QuX];simp[hxx]
     clear hxx;go_wp2_with fail;go_quiet (fail)
     all_goals go_wp2
     go_ret;exact⟨⟨_,rfl⟩,QbG HB.o⟩
   ·have ag:¬(k:Int)<(l.length:Int):=by omega
    go_wp2;go_ret;exact⟨⟨_,rfl⟩,HB.o⟩
 ·have hll':¬(l.length:Int)=(l'.length:Int):=by omega
  obtain⟨b,c',rfl⟩:=QaD hv.1;clear hu hv hll;go_enter func14,ntmps14;go_wp2;go_ret;exact⟨⟨_,rfl⟩,Below.refl _ _⟩
def Qpy (t a b:L8):Prop:=∃ yx ya yb,prL (QcG t)=.ok yx∧nlN (textL yx)=3∧prL (QaG++a)=.ok ya∧prL (QaG++b)=.ok yb
def nlK (s:L8) (k:Nat):Nat:=nlN (s.take k)
theorem Qwm{s:L8}{k:Nat}(h:k<s.length):nlK s (k+1)=nlK s k+(if s[k]=10 then 1 else 0):=by
 unfold nlK;rw[List.take_succ_eq_append_getElem h,QcY];congr 1;show [s[k]].count 10=_
 rw[List.count_singleton];simp
theorem Qx6(s:L8)(k:Nat):nlK s k<=k:=by
 unfold nlK nlN;have:=List.count_le_length (a:=(10:UInt8)) (l:=s.take k);have:(s.take k).length<=k:=by simp;omega
 omega
theorem QyV(t:L8):Qaf QaG++(⟨#[105,102,32]⟩:ByteArray)++Qaf t++(⟨#[10,32,123,125]⟩:ByteArray)=Qaf (QcG t):=by
 show Qaf QaG++Qaf [105,102,32]++Qaf t++Qaf [10,32,123,125]=_
 rw[QaJ,QaJ,QaJ];congr 1
theorem Qns:QaG.length=56:=by decide
theorem QwR(x:L8)(k:Nat)(h:k<(Qaf x).size)(h':k<x.length):(Qaf x)[k]=x[k]:=by simp[Qaf,ByteArray.getElem_eq_getElem_data]
def Qyn (p:Prop) (e:Ending):Prop:=∃ r,e=.returned (.bool r)∧(r=true→p)
theorem Qsf(t a b:L8)(w:World)(he:Env w)(hl:t.length+a.length+b.length<=250) :
 Calls Tryz.prog 12 #[.string (Qaf QaG),.string (Qaf t),.string (Qaf a),.string (Qaf b)] w fun e w'=>Below w.heap.size w w'/\Qyn (Qpy t a b) e:=by
 have HE:=Qab he;clear he;have aZ:=Qaj QaG;rw[Qns]at aZ;have hz1:=Qaj t;have hz2:=Qaj a;have hz3:=Qaj b;have aN:=Qab (QyV t);have aC:=Qab (QaJ QaG a);have aD:=Qab (QaJ QaG b);generalize hK:Qaf QaG=K at *;clear hK;go_enter func12,ntmps12;go_wp2_with fail;rw[aN.o];refine(Qcz (Qaf (QcG t)) w HE.o.m1 HE.o.et).mono ?_;rintro e w1 ⟨ao,aX⟩;have ay:=Qab ao;have ad:=Qab (HE.o.below ao);have aH:=ao.size;clear ao;rcases aX with⟨_,rfl⟩ | ⟨aY,y,g,rv,lv,hy,rfl,hg,hc,hr,aK⟩ | ⟨_,f,hf,rfl⟩
 case inl|inr.inr=>
  all_goals
   go_wp2_with fail;rw[aC.o];refine(Qcz (Qaf (QaG++a)) w1 ad.o.m1 ad.o.et).mono ?_;rintro e w2 ⟨aa,ai⟩;have af:=Qab (ay.o.trans (aa.mono aH));have ae:=Qab (ad.o.below aa);have au:=af.o.size
   have aw:∃ p2 i2 j2,e=.returned (.tuple #[.pointer p2,.int .i64 i2,.int .i64 j2]):=by
    rcases ai with⟨_,rfl⟩ | ⟨_,y2,g2,_,_,_,rfl,_⟩ | ⟨_,f2,_,rfl⟩<;>exact⟨_,_,_,rfl⟩
   obtain⟨p2,i2,j2,rfl⟩:=aw;clear aa ai;go_wp2_with fail;rw[aD.o];refine(Qcz (Qaf (QaG++b)) w2 ae.o.m1 ae.o.et).mono ?_;rintro e w3 ⟨ab,aj⟩;have ac:=Qab (af.o.trans (ab.mono au))
   have ax:∃ p3 i3 j3,e=.returned (.tuple #[.pointer p3,.int .i64 i3,.int .i64 j3]):=by
    rcases aj with⟨_,rfl⟩ | ⟨_,y3,g3,_,_,_,rfl,_⟩ | ⟨_,f3,_,rfl⟩<;>exact⟨_,_,_,rfl⟩
   obtain⟨p3,i3,j3,rfl⟩:=ax;clear ab aj;go_wp2;go_ret;exact⟨ac.o,_,rfl,fun h=>by cases h⟩
 have HY:=Qab hy;have aS:=Qab (Qe3 hy);have aG:=Qab (QrR hy aY);have HC:=Qab hc;have HR:=Qab hr;have az:=Qab aK;clear hy hc hr aK;go_wp2_with fail;rw[aC.o];refine(Qcz (Qaf (QaG++a)) w1 ad.o.m1 ad.o.et).mono ?_;rintro e w2 ⟨aa,ai⟩;have af:=Qab (ay.o.trans (aa.mono aH));have ae:=Qab (ad.o.below aa);have aA:=Qab (Qal HC.o aa);have aE:=Qab (HR.o.keep (fun k _ hk=>aa.block k hk));have ag:=Qab (az.o.keep (QaX 7) (fun k _ hk=>aa.block k hk));have au:=af.o.size
 have aw:∃ p2 i2 j2,e=.returned (.tuple #[.pointer p2,.int .i64 i2,.int .i64 j2])/\(p2=none\/∃ g2 y2,p2=some ⟨g2,0,none⟩/\prL (QaG++a)=.ok y2):=by
  rcases ai with⟨_,rfl⟩ | ⟨_,y2,g2,_,_,ak,rfl,_⟩ | ⟨_,f2,_,rfl⟩
  ·exact⟨_,_,_,rfl,Or.inl rfl⟩
  ·exact⟨_,_,_,rfl,Or.inr ⟨g2,y2,rfl,ak⟩⟩
  ·exact⟨_,_,_,rfl,Or.inl rfl⟩
 obtain⟨p2,i2,j2,rfl,aL⟩:=aw;have aQ:=Qab aL;clear aa ai aL;go_wp2_with fail;rw[aD.o];refine(Qcz (Qaf (QaG++b)) w2 ae.o.m1 ae.o.et).mono ?_;rintro e w3 ⟨ab,aj⟩;have ac:=Qab (af.o.trans (ab.mono au));have aO:=Qab (ae.o.below ab);have aB:=Qab (Qal aA.o ab);have aF:=Qab (aE.o.keep (fun k _ hk=>ab.block k hk));have ah:=Qab (ag.o.keep (QaX 7) (fun k _ hk=>ab.block k hk));have aV:=ac.o.size
 have ax:∃ p3 i3 j3,e=.returned (.tuple #[.pointer p3,.int .i64 i3,.int .i64 j3])/\(p3=none\/∃ g3 y3,p3=some ⟨g3,0,none⟩/\prL (QaG++b)=.ok y3):=by
  rcases aj with⟨_,rfl⟩ | ⟨_,y3,g3,_,_,ap,rfl,_⟩ | ⟨_,f3,_,rfl⟩
  ·exact⟨_,_,_,rfl,Or.inl rfl⟩
  ·exact⟨_,_,_,rfl,Or.inr ⟨g3,y3,rfl,ap⟩⟩
  ·exact⟨_,_,_,rfl,Or.inl rfl⟩
 obtain⟨p3,i3,j3,rfl,aM⟩:=ax;have aR:=Qab aM;clear ab aj aM;rcases aQ.o with rfl | ⟨g2,y2,rfl,ak⟩
 ·go_wp2;go_ret;exact⟨ac.o,_,rfl,fun h=>by cases h⟩
 rcases aR.o with rfl | ⟨g3,y3,rfl,ap⟩
 ·clear ak;go_wp2;go_ret;exact⟨ac.o,_,rfl,fun h=>by cases h⟩
 have aP:Hid (nlN (textL y)=3->Qpy t a b):=fun h=>⟨y,y2,y3,HY.o,h,ak,ap⟩
 clear ak ap;have htz:=Qaj (textL y);go_wp2_with fail;refine(QkT g y rv lv w3 _ aB.o aF.o ah.o aO.o.tab aS.o.2 aG.o).mono ?_;rintro e w4 ⟨rfl,aI⟩;have aq:=Qab (ac.o.trans (aI.mono aV));have htl:=aG.o;clear aI HC aA aB HR aE aF az ag ah;generalize textL y=T at *;go_wp2
 go_loop [19,20] (fun n i=>∃ k:Nat,k<=T.length/\i=.int .i64 k/\n=.int .i64 (nlK T k)) (fun _ i=>T.length - (intOf i).toNat)
 case atStart=>exact⟨0,Nat.zero_le _,rfl,rfl⟩
 case round=>
  obtain⟨k,hk,rfl,rfl⟩:=hrel;by_cases hlt:k<(Qaf T).size
  ·have av:k<T.length:=by omega
   have hn:=Qwm av;have aJ:T[k]=(Qaf T)[k]:=by simp[Qaf,ByteArray.getElem_eq_getElem_data]
   rw[aJ]at hn;have hle:=Qx6 T k;have HN:=Qab hn;clear hn aJ;by_cases h10:(Qaf T)[k]=10
   ·have hn:(nlK T (k+1):Int)=(nlK T k:Int)+1:=by have:=HN.o;rw[if_pos h10]at this;omega
    have ar:=Qab hn;have aT:(((Qaf T)[k].toNat:Int)==10)=true:=by rw[h10];rfl
    clear hn HN h10;go_wp2;go_round
    case rel=>exact⟨k+1,by omega,by go_num,by rw[ar.o]⟩
    case measure=>simp[intOf];omega
   ·have hn:(nlK T (k+1):Int)=(nlK T k:Int):=by have:=HN.o;rw[if_neg h10]at this;omega
    have ar:=Qab hn
    have aT:(((Qaf T)[k].toNat:Int)==10)=false:=by
     have h:¬(Qaf T)[k].toNat=10:=fun h=>h10 (UInt8.toNat_inj.1 h)
     simp;omega
    clear hn HN h10;go_wp2;go_round
    case rel=>exact⟨k+1,by omega,by go_num,by rw[ar.o]⟩
    case measure=>simp[intOf];omega
  ·obtain rfl:k=T.length:=by omega
   have hK:nlK T T.length=nlN T:=by unfold nlK;rw[List.take_length]
   rw[hK];by_cases h3:nlN T=3
   ·have aU:((nlN T:Int)==3)=true:=by rw[h3];rfl
    have HR:=Qab (aP.o h3);clear h3 hK;by_cases h6:6<T.length
    ·have aW:(6:Int)<(T.length:Int):=by omega
     have h4:(0:Int)<=(T.length:Int) - 4:=by omega
     have h4':(T.length:Int) - 4<=(T.length:Int):=by omega
     go_wp2;go_ret;exact⟨aq.o,_,rfl,fun _=>HR.o⟩
    ·have aW:¬(6:Int)<(T.length:Int):=by omega
     go_wp2;go_ret;exact⟨aq.o,_,rfl,fun h=>by cases h⟩
   ·have aU:((nlN T:Int)==3)=false:=by simpa using fun h=>h3 (by omega)
    clear h3 hK;go_wp2;go_ret;exact⟨aq.o,_,rfl,fun h=>by cases h⟩
end
end Go.Proofs.YtgnkjijocdmniaaGreatDoor
