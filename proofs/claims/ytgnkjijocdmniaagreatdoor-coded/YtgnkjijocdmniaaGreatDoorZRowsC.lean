import Derived.Test.YtgnkjijocdmniaaGreatDoorRows
import Derived.ProofKit
import Derived.LaidMore
import Derived.OpenShut
import Derived.Stop.Joined
import Derived.LaidHandle
import Derived.Stop.LaidErr
import Derived.Lib.LaidTab
import Derived.HandedShaped
import Derived.Shelf.Vars
import Derived.Lib.SmallJoins
import Derived.Deep.Slices
import Derived.Carry
import Derived.SizedLaws
import Derived.Test.YtgnkjijocdmniaaGreatDoorZLSame
import Derived.Test.YtgnkjijocdmniaaGreatDoorZPParse
import Derived.Test.YtgnkjijocdmniaaGreatDoorQParse
namespace Go.Proofs.YtgnkjijocdmniaaGreatDoor
set_option linter.unusedVariables false
set_option linter.unusedSimpArgs false
set_option maxRecDepth 100000
set_option maxHeartbeats 4000000
open Go.Proofs.Tryz
variable{H:Type}{B k n:Nat}{W w w':World}{X:Nat->Prop}{a xs zs:Qa}{code:List Ins}{cv v:Value}{enc:TypeId×Value->H}{j:Ins}{ps:List IV}{y:DataW H×List MemPlace}
section
open Go.RowKit
attribute [local go_sem ↓] Go.wp_at_zero Go.wp_at_succ
structure Env (w:World):Prop where
 m1:∃ m,w.cell? ⟨1,0,none⟩=some (.int .i64 m)
 et:XJ w
 tab:Tab w
theorem Env.below{w w':World}(h:Env w)(a:Below w.heap.size w w'):Env w':=by
 obtain⟨m,b⟩:=h.m1;exact⟨⟨m,by rw[a.cell (p:=⟨1,0,none⟩) (QI b)];exact b⟩,h.et.below a,h.tab.below a⟩
end
section
open Go.ChangeShapes Go.WideShapes Go.ChangeAt Go.WideMaps Go.WideElems Go.RowKit
open Go.ChangeMaps (open_string shut_string)
theorem Tryz.own:ownKnob prog.godebug=none:=by kernel_rfl
theorem Tryz.gErr:prog.globalNamed "errors.errorType"=some 0:=by kernel_rfl
theorem Tryz.gPow:prog.globalNamed "internal/strconv.uint64pow10"=some 2:=by kernel_rfl
theorem Tryz.rtypeT:(prog.cutTypes.find? (·.1 == "internal/reflectlite.rtype")).map (·.2)=some 238:=by kernel_rfl
theorem Tryz.tyCount:prog.types.size=418:=by kernel_rfl
theorem Tryz.oneRow:((List.range 418).filter fun t=>prog.rowNamed t [101,114,114,111,114])=[84]:=by kernel_rfl
theorem Tryz.powTy:(prog.globals[2]?).map (·.type)=some 385:=by kernel_rfl
def GK:List (String×DataW Unit):=[("math/bits.deBruijn32tab",Rows.laid_math_bits_deBruijn32tab),("math/bits.deBruijn64tab",Rows.laid_math_bits_deBruijn64tab),("internal/strconv.uint64pow10",Rows.laid_internal_strconv_uint64pow10),("errors.errorType",Rows.laid_errors_errorType)]
theorem OX(h:laidMetH prog GK W):XJ W/\Tab W:=by
 have b:laidMet prog [("math/bits.deBruijn32tab",Rows.laid_math_bits_deBruijn32tab),("math/bits.deBruijn64tab",Rows.laid_math_bits_deBruijn64tab),("internal/strconv.uint64pow10",Rows.laid_internal_strconv_uint64pow10)] W/\handlesMet prog [("errors.errorType",Rows.laid_errors_errorType)] W:=h;refine⟨?_,?_⟩
 ·obtain⟨l,u,m,d,e,f,g,a⟩:=b.2 _ (List.mem_singleton.2 rfl);have i:l=[101,114,114,111,114]:=(Option.some.inj d).symm;subst i;obtain rfl:=Option.some.inj (Tryz.rtypeT.symm.trans e);have c:m∈(List.range 418).filter fun t=>prog.rowNamed t [101,114,114,111,114]:=List.mem_filter.2 ⟨List.mem_range.2 (by rw[<-Tryz.tyCount];exact f),g⟩
  rw[Tryz.oneRow]at c;obtain rfl:=QY c;have k:typeHandle prog 84=.pointer (some ⟨5,84,none⟩):=by kernel_rfl
  rw[k]at a;have:=World.var?_cell Tryz.gErr a 0;unfold XJ;simpa using this
 ·have j:=laidMet.tail (laidMet.tail b.1);exact Lib.tabIs_of_head Tryz.gPow Tryz.powTy underlying385 underlying379 (by kernel_rfl) (by kernel_rfl) j
theorem OY(os:Os)(args:Array Value):laidMetH prog GK ((World.doorLaid prog 400 os).forCall (fun _ _=>0) ⟨#[],args,[]⟩).memory:=
 laidMetH_of_parts3 (fuel:=8) (laidMet_of_run' 70 (by kernel_rfl) (by kernel_rfl)) (by kernel_rfl) (by kernel_rfl)
theorem OZ{a:Assume}{C:Checked}{os:Os}{f:FuncId}{fn:Func}{s:ChangeSpec}{conds:List PathCond}{apart fresh handsOn again:Bool}{X:World->Array Value->Prop}
 (d:∀(w w':World) (args:Array Value),w.heap=w'.heap->X w args->X w' args)
 (y:ownKnob C.prog.godebug=none) (z:os.Started) (x:C.prog.inits.idxOf? f=none) (g:C.prog.funcs[f]?=some fn)
 (witness:∃ (w:World) (tape:Tape) (i:Input),w.os=os∧(w.forCall tape i).Shaped C.prog∧i.vars=[]∧Input.okWide C.prog (w.forCall tape i) .any w.heap.size f i∧
   ((s.pre enc C.prog fn conds apart (w.forCall tape i).memory i.args∧X (w.forCall tape i).memory i.args)∧sizedMet enc C.prog fn (OpenSpec.ofChange s) apart (w.forCall tape i).memory i.args)∧a.holds C.prog (lone (Frame.enter C.prog f i.args .normal) [] (w.forCall tape i)))
 (contract:∀ (W:World) (base:Nat) (args:Array Value) (ds gs:List (DataW H)) (before:List MemPlace),
   (∀(j:Nat) t v,fn.params[j]?=some t->args[j]?=some v->Value.okWide C.prog W .any base t v)->
   DataW.Whole enc C.prog fn.params.toList s.vars apart W args.toList ds gs before->
   (DataW.weightsEach C.prog (fn.params.toList++s.plain.varTypes C.prog) (ds++gs)).all (·<=reachBytes)=true->X W args->W.ShapedOpen C.prog->
   Calls C.prog f args W fun e W'=>∃ v,e=.returned v∧s.post enc C.prog fn apart fresh handsOn again W args v W') :
 ReturnsInHanded a C os f .any (fun w args=>(s.pre enc C.prog fn conds apart w args/\X w args)/\sizedMet enc C.prog fn (OpenSpec.ofChange s) apart w args) (s.post enc C.prog fn apart fresh handsOn again):=by
 refine returnsInHanded_of_calls y z x witness ?_;intro w tape i _ o _ l n _;obtain⟨_,_,_,c,k,_,_,_,_,p⟩:=l;have e:c=fn:=Option.some.inj (k.symm.trans g);subst e;obtain⟨⟨⟨ds,gs,before,b,A⟩,r⟩,u⟩:=n;have q:=DataW.Whole.of_heap (w':=w.forCall tape i) (by rfl) b;refine(contract (w.forCall tape i) w.heap.size i.args ds gs before p q (u.weights b) (d _ _ _ (by rfl) r) o).mono fun e W' ⟨v,he,m⟩=>?_
 subst he;exact ChangeSpec.post_blind m
theorem O0(h:W.ShapedOpen prog):∃ m,W.cell? ⟨1,0,none⟩=some (.int .i64 m):=
 cell_of_shapedOpen_int (g:=1) (t:=3) (zero:=#[.int .i64 0]) h (by rw[show prog.globals.size=5 by kernel_rfl];decide) (by kernel_rfl) rfl (by kernel_rfl) (by kernel_rfl) underlying3
end
section
open Go.RowKit
attribute [local go_sem ↓] Go.wp_at_zero Go.wp_at_succ
def VP(w:World)(v:Value)(ops:List Ins):Prop:=∃ a c,v=.slice a ops.length c/\∀ j (hj:j<ops.length),∃ g off av bv,a=some ⟨g,off,none⟩/\QrbZ w g (off+j*7) ops[j] av bv/\TxO w av ops[j].a/\TxO w bv ops[j].b/\ops[j].a.length<=1000000/\ops[j].b.length<=1000000
theorem SlT.toO(h:SlT w v zs):TxO w v zs:=by
 rcases h with⟨rfl,rfl⟩ | ⟨g,c,rfl,e,b,d⟩
 ·exact⟨none,0,rfl,fun j a=>absurd a (Nat.not_lt_zero _)⟩
 ·refine⟨_,c,rfl,fun j a=>⟨g,0,rfl,?_⟩⟩;rw[Nat.zero_add,Qn b,d j a];simp[List.getD_eq_getElem?_getD,List.getElem?_eq_getElem a]
theorem XK.codR(h:XK w B cv code):VP w cv code:=by
 obtain⟨a,c,f⟩:=h.codeO.len;refine⟨a,c,f,fun j n=>?_⟩;obtain⟨g,o,k,l,i,_,_,m,d,_,_⟩:=h.get n;rw[f]at i;injection i with e
 exact⟨g,0,k,l,e,by rw[Nat.zero_add];exact m,d.a.toO,d.b.toO,d.an,d.bn⟩
theorem VP.below{w w':World}{v:Value}{i:List Ins}(h:VP w v i)(d:Below w.heap.size w w'):VP w' v i:=by
 obtain⟨a,c,B,h⟩:=h;refine⟨a,c,B,fun j z=>?_⟩;obtain⟨g,C,l,m,e,⟨f,n,o,q,r,s,t⟩,u,x,A⟩:=h j z;have y:g<w.heap.size:=QI f;have b:∀ k,w'.cell? ⟨g,k,none⟩=w.cell? ⟨g,k,none⟩:=fun k=>d.cell (p:=⟨g,k,none⟩) y
 exact⟨g,C,l,m,e,⟨(b _).trans f,(b _).trans n,(b _).trans o,(b _).trans q,(b _).trans r,(b _).trans s,(b _).trans t⟩,u.below d,x.below d,A⟩
theorem O1(m:List Ins)(av bv:Value)(w:World)(ha:VP w av m)(hb:VP w bv m)(hl:m.length<=1000000) :
 Calls prog 29 #[av,bv] w fun e w'=>e=.returned (.bool true)/\Below w.heap.size w w':=by
 obtain⟨pa,ca,rfl,ha⟩:=ha;obtain⟨pb,cb,rfl,hb⟩:=hb;have HA:=I ha;have HB:=I hb;clear ha hb;go_enter func29,ntmps29;go_wp2
 go_loopw [5] (fun iv wr=>∃ k:Nat,k<=m.length/\iv=.int .i64 k/\Hid (Below w.heap.size w wr)) (fun iv _=>m.length - (intOf iv).toNat)
 case atStart=>exact⟨0,QC,rfl,Below.refl _ _⟩
 case round=>
  obtain⟨k,hk,rfl,x⟩:=hrel;by_cases hlt:k<m.length
  ·have ax:(k:Int)<(m.length:Int):=by omega
   obtain⟨g,aH,ap,ar,ay,⟨L,a1,a2,a3,a4,a5,a6⟩,ta,tb,la,lb⟩:=HA.o k hlt;obtain⟨A,aI,aq,au,az,⟨M,b1,b2,b3,b4,b5,b6⟩,ua,ub,_,_⟩:=HB.o k hlt;subst ay az;have hg:g<w.heap.size:=QI L;have ag:A<w.heap.size:=QI M;have u:∀ j,wr.cell? ⟨g,j,none⟩=w.cell? ⟨g,j,none⟩:=fun j=>x.o.cell (p:=⟨g,j,none⟩) hg
   have v:∀ j,wr.cell? ⟨A,j,none⟩=w.cell? ⟨A,j,none⟩:=fun j=>x.o.cell (p:=⟨A,j,none⟩) ag
   obtain⟨i,hi⟩:=Qf (m[k]);rw[hi]at L a1 a2 a3 a6 M b1 b2 b3 b6 ta tb ua ub la lb;have c0:=(u _).trans L;have c1:=(u _).trans a1;have c2:=(u _).trans a2;have c3:=(u _).trans a3;have c4:=(u _).trans a4;have c5:=(u _).trans a5;have c6:=(u _).trans a6;have d0:=(v _).trans M;have d1:=(v _).trans b1;have d2:=(v _).trans b2;have d3:=(v _).trans b3;have d4:=(v _).trans b4;have d5:=(v _).trans b5;have d6:=(v _).trans b6;have aF:g<wr.heap.size:=Nat.lt_of_lt_of_le hg x.o.size;have aG:A<wr.heap.size:=Nat.lt_of_lt_of_le ag x.o.size;have aj:=I (fun(W:World) (hW:Below w.heap.size w W)=>DE i.a ap aq W (ta.below hW) (ua.below hW) la);have ak:=I (fun(W:World) (hW:Below w.heap.size w W)=>DE i.b ar au W (tb.below hW) (ub.below hW) lb);obtain⟨G,C,aA,_⟩:=id ta;obtain⟨H,D,aB,_⟩:=id tb;obtain⟨J,E,aC,_⟩:=id ua;obtain⟨K,F,aD,_⟩:=id ub;subst aA aB aC aD;obtain⟨d,B⟩:=QE ((wr.alloc (.cells #[.int .i64 i.op,.int .i64 i.n,.int .i64 i.tag,.bool i.oct,.slice G i.a.length C,.slice H i.b.length D,.int .i64 i.at_] 63)).alloc (.cells #[.int .i64 i.op,.int .i64 i.n,.int .i64 i.tag,.bool i.oct,.slice J i.a.length E,.slice K i.b.length F,.int .i64 i.at_] 63));have ao:=I B;have ae:Below wr.heap.size wr d:=by rw[B];exact(Qs _).alloc (by simp) _
   have aE:=I ae;have q:Hid (d.heap[wr.heap.size]?=some (.cells #[.int .i64 i.op,.int .i64 i.n,.int .i64 i.tag,.bool i.oct,.slice G i.a.length C,.slice H i.b.length D,.int .i64 i.at_] 63)):=by show _=_;rw[B];exact Qy (QA _ _)
   have r:Hid (d.heap[wr.heap.size+1]?=some (.cells #[.int .i64 i.op,.int .i64 i.n,.int .i64 i.tag,.bool i.oct,.slice J i.a.length E,.slice K i.b.length F,.int .i64 i.at_] 63)):=by show _=_;rw[B];exact Zv (by simp)
   have ac:=I (x.o.trans (ae.mono x.o.size));clear L a1 a2 a3 a4 a5 a6 M b1 b2 b3 b4 b5 b6 ta tb ua ub u v hi B ae;obtain⟨c,af⟩:=Qf (wr.heap.size);have ai:=I af;rw[af]at q r;have N:=Qj q.o;have P:=Qo q.o;have Q:=QG q.o;have R:=QH q.o;have S:=QJ q.o;have T:=QM q.o;have U:=Zg q.o;have V:=Qj r.o;have X:=Qo r.o;have Y:=QG r.o;have Z:=QH r.o;have f4:=QJ r.o;have f5:=QM r.o;have f6:=Zg r.o;clear af;go_wp2_with fail;rw[<-ao.o,ai.o];refine(aj.o d ac.o).mono ?_;rintro e f ⟨rfl,aa⟩;have ad:=I (ac.o.trans (aa.mono ac.o.size));have s:=I (Zk q.o aa);have t:=I (Zk r.o aa);clear aa N P Q R S T U V X Y Z f4 f5 f6 c0 c1 c2 c3 c4 c5 c6 d0 d1 d2 d3 d4 d5 d6;have N:=Qj s.o;have P:=Qo s.o;have Q:=QG s.o;have R:=QH s.o;have S:=QJ s.o;have T:=QM s.o;have U:=Zg s.o;have V:=Qj t.o;have X:=Qo t.o;have Y:=QG t.o;have Z:=QH t.o;have f4:=QJ t.o;have f5:=QM t.o;have f6:=Zg t.o;go_wp2_with fail;refine(ak.o f ad.o).mono ?_;rintro e l ⟨rfl,ab⟩;have ah:=I (ad.o.trans (ab.mono ad.o.size));have y:=I (Zk s.o ab);have z:=I (Zk t.o ab);clear ab N P Q R S T U V X Y Z f4 f5 f6;have N:=Qj y.o;have P:=Qo y.o;have Q:=QG y.o;have R:=QH y.o;have S:=QJ y.o;have T:=QM y.o;have U:=Zg y.o;have V:=Qj z.o;have X:=Qo z.o;have Y:=QG z.o;have Z:=QH z.o;have f4:=QJ z.o;have f5:=QM z.o;have f6:=Zg z.o;go_wp2_with fail;exact⟨⟨k+1,by omega,by go_num,ah⟩,by simp[intOf];omega⟩
  ·have aw:k=m.length:=by omega
   subst aw;have ax:¬(m.length:Int)<(m.length:Int):=by omega
   go_wp2;go_ret;exact⟨rfl,x.o⟩
def JE(w:World)(v:Value)(xs:Qa):Prop:=∃ a c,v=.slice a xs.length c/\(xs≠[]->∃ g off,a=some ⟨g,off,none⟩/\∀ j (hj:j<xs.length),w.cell? ⟨g,off+j,none⟩=some (.string (sA xs[j])))
def Kz(w:World)(v:Value)(hs:List (L8×L8)):Prop:=∃ a c,v=.slice a hs.length c/\(hs≠[]->∃ g off,a=some ⟨g,off,none⟩/\∀ j (hj:j<hs.length),w.cell? ⟨g,off+j*2,none⟩=some (.string (sA hs[j].1))/\w.cell? ⟨g,off+j*2+1,none⟩=some (.string (sA hs[j].2)))
structure Uw where
 op:Int
 n:Int
 tag:Int
 oct:Bool
 av:Value
 bv:Value
 as':Qa
 bs:Qa
 pos:Int
def NP(w:World)(g o:Nat)(x:Uw):Prop:=
 w.cell? ⟨g,o,none⟩=some (.int .i64 x.op)/\w.cell? ⟨g,o+1,none⟩=some (.int .i64 x.n)/\w.cell? ⟨g,o+2,none⟩=some (.int .i64 x.tag)/\w.cell? ⟨g,o+3,none⟩=some (.bool x.oct)/\w.cell? ⟨g,o+4,none⟩=some x.av/\w.cell? ⟨g,o+5,none⟩=some x.bv/\w.cell? ⟨g,o+6,none⟩=some (.int .i64 x.pos)/\JE w x.av x.as'/\JE w x.bv x.bs
def U5(w:World)(v:Value)(l:List Uw):Prop:=∃ a c,v=.slice a l.length c/\(l≠[]->∃ g off,a=some ⟨g,off,none⟩/\∀ j (hj:j<l.length),NP w g (off+j*7) l[j])
structure OpD where
 kind:Int
 a:Int
 b:Int
 s:L8
 fr:L8
 tt:L8
 sz:Int
 hv:Value
 hs:List (L8×L8)
 cv:Value
 code:List Uw
def NQ(w:World)(g o:Nat)(x:OpD):Prop:=
 w.cell? ⟨g,o,none⟩=some (.int .i64 x.kind)/\w.cell? ⟨g,o+1,none⟩=some (.int .i64 x.a)/\w.cell? ⟨g,o+2,none⟩=some (.int .i64 x.b)/\w.cell? ⟨g,o+3,none⟩=some (.string (sA x.s))/\w.cell? ⟨g,o+4,none⟩=some (.string (sA x.fr))/\w.cell? ⟨g,o+5,none⟩=some (.string (sA x.tt))/\w.cell? ⟨g,o+6,none⟩=some (.int .i64 x.sz)/\w.cell? ⟨g,o+7,none⟩=some x.hv/\w.cell? ⟨g,o+8,none⟩=some x.cv/\Kz w x.hv x.hs/\U5 w x.cv x.code
def Ux(w:World)(v:Value)(l:List OpD):Prop:=∃ a c,v=.slice a l.length c/\(l≠[]->∃ g off,a=some ⟨g,off,none⟩/\∀ j (hj:j<l.length),NQ w g (off+j*9) l[j])
structure U6 (x:OpD):Prop where
 a:-9223372036854775808<=x.a∧x.a<=9223372036854775807
 b:-9223372036854775808<=x.b∧x.b<=9223372036854775807
 s:x.s.length<=140737488355328
 fr:x.fr.length<=140737488355328
 tt:x.tt.length<=140737488355328
 hl:x.hs.length<=140737488355328
 hd:∀ h∈x.hs,h.1.length<=140737488355328∧h.2.length<=140737488355328
 cl:x.code.length<=140737488355328
 cd:∀ i∈x.code,(i.as'.length<=140737488355328∧∀ t∈i.as',t.length<=140737488355328)∧(i.bs.length<=140737488355328∧∀ t∈i.bs,t.length<=140737488355328)
theorem JE.below(h:JE w v xs)(f:Below w.heap.size w w'):JE w' v xs:=by
 obtain⟨a,c,k,h⟩:=h;refine⟨a,c,k,fun i=>?_⟩;obtain⟨g,d,e,h⟩:=h i;exact⟨g,d,e,fun j b=>by rw[f.cell (p:=⟨g,d+j,none⟩) (QI (h j b))];exact h j b⟩
theorem JE.len(h:JE w v xs):∃ a c,v=.slice a xs.length c:=by
 obtain⟨a,c,b,_⟩:=h;exact⟨a,c,b⟩
def K5(n:Nat)(xs:Qa):Prop:=xs.length<=n/\∀ t∈xs,t.length<=n
def DF(n:Nat)(hs:List (L8×L8)):Prop:=hs.length<=n/\∀ h∈hs,h.1.length<=n/\h.2.length<=n
structure SmD (x:OpD):Prop where
 s:x.s.length<=65536
 fr:x.fr.length<=65536
 tt:x.tt.length<=65536
 hs:DF 65536 x.hs
 cl:x.code.length<=65536
 cd:∀ i∈x.code,K5 65536 i.as'∧K5 65536 i.bs
theorem DG(v:Value)(xs:Qa)(w:World)(h:JE w v xs)(M:xs.length<=140737488355328)(b:∀ t∈xs,t.length<=140737488355328) :
 Calls prog 23 #[v] w fun e w'=>(∃ n:Nat,e=.returned (.int .i64 n)/\n<=300000000000000/\(n<=65536->K5 n xs))/\Below w.heap.size w w':=by
 have H:=I h;have A:=I b;obtain⟨a,c,rfl⟩:=h.len;clear h b;go_enter func23,ntmps23;go_wp2
 go_loopw [3,4] (fun J i wr=>∃(k n:Nat),k<=xs.length/\i=.int .i64 k/\J=.int .i64 n/\n<=300000000000000/\Below w.heap.size w wr/\Hid (xs.length<=n/\∀ t∈xs.take k,t.length<=n)) (fun _ i _=>xs.length - (intOf i).toNat)
 case atStart=>exact⟨0,xs.length,by omega,rfl,rfl,by omega,Below.refl _ _,Nat.le_refl _,fun t ht=>nomatch ht⟩
 case round=>
  obtain⟨k,n,L,rfl,rfl,s,m,f⟩:=hrel;have d:=I m;clear m;by_cases hlt:k<xs.length
  ·by_cases hnl:n<=65536
   ·obtain⟨B,K,u,l⟩:=H.o;obtain⟨g,y,E,q⟩:=l (List.ne_nil_of_length_pos (by omega));have D:a=B:=by injection u
    subst D;subst E;have j:=q k hlt;have C:wr.cell? ⟨g,y+k,none⟩=some (.string (sA xs[k])):=by rw[d.o.cell (p:=⟨g,y+k,none⟩) (QI j)];exact j
    have G:=A.o xs[k] (List.getElem_mem hlt);obtain⟨x,b⟩:=Qf (xs[k]);rw[b]at C G;have N:=Zr x
    have z:Hid (xs.length<=n+x.length/\∀ t∈xs.take (k+1),t.length<=n+x.length):=by
     refine⟨by have:=f.o.1;omega,fun t ht=>?_⟩;rw[List.take_succ_eq_append_getElem hlt]at ht;rcases List.mem_append.1 ht with ht|ht
     ·have:=f.o.2 t ht;omega
     ·rw[QY ht,b];omega
    have r:(k:Int)<(xs.length:Int):=by omega
    have F:(n:Int)<=65536:=by omega
    clear j q l u b;go_wp2;exact⟨⟨k+1,n+x.length,by omega,by go_num,by go_num,by omega,d.o,z⟩,by simp[intOf];omega⟩
   ·have r:(k:Int)<(xs.length:Int):=by omega
    have F:¬(n:Int)<=65536:=by omega
    go_wp2;go_ret;exact⟨⟨n,rfl,s,fun e=>absurd e hnl⟩,d.o⟩
  ·have r:¬(k:Int)<(xs.length:Int):=by omega
   go_wp2;go_ret;exact⟨⟨n,rfl,s,fun _=>⟨f.o.1,fun t ht=>f.o.2 t (by rw[List.take_of_length_le (by omega)];exact ht)⟩⟩,d.o⟩
def DH(fr tt:L8)(sz:Int)(hv:Value):Value:=.agg #[.string (sA fr),.string (sA tt),.int .i64 sz,hv]
theorem O2(d f:L8)(sz:Int)(s:Value)(b:List (L8×L8))(w:World)(h:Kz w s b)(Z:d.length<=140737488355328)(h2:f.length<=140737488355328)(h3:b.length<=140737488355328)(y:∀ h∈b,h.1.length<=140737488355328/\h.2.length<=140737488355328) :
 Calls prog 22 #[DH d f sz s] w fun e w'=>(∃ n:Nat,e=.returned (.int .i64 n)/\n<=300000000000000/\(n<=65536->d.length<=n/\f.length<=n/\DF n b))/\Below w.heap.size w w':=by
 have H:=I h;have G:=I y;obtain⟨a,c,U,_⟩:=h;subst U;have z1:=Zr d;have z2:=Zr f;clear y;unfold DH;obtain⟨m,r⟩:=QE (w.alloc (.cells #[.string (sA d),.string (sA f),.int .i64 sz,.slice a b.length c] 28));have J:Hid (Below w.heap.size w m):=by show Below _ _ _;rw[r];exact Qs _
 have K:Hid (m.heap[w.heap.size]?=some (.cells #[.string (sA d),.string (sA f),.int .i64 sz,.slice a b.length c] 28)):=by show _=_;rw[r];exact QA _ _
 have N:=I r;clear r;go_enter func22,ntmps22;go_wp2_with fail;rw[<-N.o]
 go_loopw [3,4] (fun V i wr=>∃(k n:Nat),k<=b.length/\i=.int .i64 (k:Int)/\V=.int .i64 (n:Int)/\n<=300000000000000/\Below w.heap.size w wr/\wr.heap[w.heap.size]?=some (.cells #[.string (sA d),.string (sA f),.int .i64 sz,.slice a b.length c] 28)/\Hid (d.length+f.length+k<=n/\∀ h∈b.take k,h.1.length<=n/\h.2.length<=n)) (fun _ i _=>b.length - (intOf i).toNat)
 case atStart=>exact⟨0,d.length+f.length,QC,by go_num,(by first|rfl|congr 1),by omega,J.o,K.o,by omega,fun h hh=>nomatch hh⟩
 case round=>
  obtain⟨k,n,hk,rfl,rfl,F,z,q,l⟩:=hrel;have j:=I z;have L:=I q;have ae:=Qh q;have Y:=QH q;clear z q;by_cases hlt:k<b.length
  ·have T:(k:Int)<(b.length:Int):=by omega
   by_cases hle:n<=65536
   ·have S:(n:Int)<=65536:=by omega
    obtain⟨W,X,s,D⟩:=H.o;injection s with hv1 hv2 hv3
    subst hv1;obtain⟨g,t,R,C⟩:=D (List.ne_nil_of_length_pos (by omega));subst R;obtain⟨u,B⟩:=C k hlt;have E:g<w.heap.size:=QI u;have P:wr.cell? ⟨g,t+k*2,none⟩=some (.string (sA b[k].1)):=by rw[j.o.cell (p:=⟨g,t+k*2,none⟩) E];exact u
    have Q:wr.cell? ⟨g,t+k*2+1,none⟩=some (.string (sA b[k].2)):=by rw[j.o.cell (p:=⟨g,t+k*2+1,none⟩) E];exact B
    have A:=G.o _ (List.getElem_mem hlt);obtain⟨x,v⟩:=Qf (b[k]);rw[v]at P Q A;have ac:=Zr x.1;have ad:=Zr x.2;obtain⟨aa,ab⟩:=A
    have M:Hid (d.length+f.length+(k+1)<=n+1+x.1.length+x.2.length/\∀ h∈b.take (k+1),h.1.length<=n+1+x.1.length+x.2.length/\h.2.length<=n+1+x.1.length+x.2.length):=by
     refine⟨by have:=l.o.1;omega,fun h hh=>?_⟩;rw[List.take_succ_eq_append_getElem hlt]at hh;rcases List.mem_append.1 hh with hh|hh
     ·have:=l.o.2 h hh;omega
     ·rw[QY hh,v];omega
    clear u B v hv3 D C;go_wp2_with fail;go_quiet (fail)
    all_goals go_wp2
    go_roundw
    case rel=>exact⟨k+1,n+1+x.1.length+x.2.length,by omega,by go_num,by go_num,by omega,⟨j.o.os,j.o.tape,j.o.output,j.o.size,j.o.block⟩,L.o,M⟩
    case measure=>simp[intOf];omega
   ·have S:¬(n:Int)<=65536:=by omega
    go_wp2;go_ret;exact⟨⟨n,rfl,F,fun e=>absurd e hle⟩,j.o⟩
  ·have T:¬(k:Int)<(b.length:Int):=by omega
   go_wp2;go_ret;exact⟨⟨n,rfl,F,fun _=>by have:=l.o.1;exact⟨by omega,by omega,by omega,fun h hh=>l.o.2 h (by rw[List.take_of_length_le (by omega)];exact hh)⟩⟩,j.o⟩
theorem Kz.below{f:List (L8×L8)}(h:Kz w v f)(e:Below w.heap.size w w'):Kz w' v f:=by
 obtain⟨a,c,l,h⟩:=h;refine⟨a,c,l,fun k=>?_⟩;obtain⟨g,d,i,h⟩:=h k;exact⟨g,d,i,fun j b=>⟨by rw[e.cell (p:=⟨g,d+j*2,none⟩) (QI (h j b).1)];exact(h j b).1,by rw[e.cell (p:=⟨g,d+j*2+1,none⟩) (QI (h j b).2)];exact(h j b).2⟩⟩
theorem NP.below{w w':World}{g o:Nat}{x:Uw}(h:NP w g o x)(b:Below w.heap.size w w'):NP w' g o x:=by
 obtain⟨c,d,e,f,i,k,l,m,n⟩:=h;have q:g<w.heap.size:=QI c;have a:∀ j,w'.cell? ⟨g,j,none⟩=w.cell? ⟨g,j,none⟩:=fun j=>b.cell (p:=⟨g,j,none⟩) q
 exact⟨by rw[a];exact c,by rw[a];exact d,by rw[a];exact e,by rw[a];exact f,by rw[a];exact i,by rw[a];exact k,by rw[a];exact l,m.below b,n.below b⟩
theorem U5.below{w w':World}{v:Value}{l:List Uw}(h:U5 w v l)(d:Below w.heap.size w w'):U5 w' v l:=by
 obtain⟨a,c,i,h⟩:=h;refine⟨a,c,i,fun f=>?_⟩;obtain⟨g,k,b,h⟩:=h f;exact⟨g,k,b,fun j e=>(h j e).below d⟩
theorem NQ.below{w w':World}{g o:Nat}{x:OpD}(h:NQ w g o x)(b:Below w.heap.size w w'):NQ w' g o x:=by
 obtain⟨c,d,f,i,k,l,m,n,q,r,e⟩:=h;have s:g<w.heap.size:=QI c;have a:∀ j,w'.cell? ⟨g,j,none⟩=w.cell? ⟨g,j,none⟩:=fun j=>b.cell (p:=⟨g,j,none⟩) s
 exact⟨by rw[a];exact c,by rw[a];exact d,by rw[a];exact f,by rw[a];exact i,by rw[a];exact k,by rw[a];exact l,by rw[a];exact m,by rw[a];exact n,by rw[a];exact q,r.below b,e.below b⟩
theorem O3(l:List OpD)(v:Value)(w:World)(h:Ux w v l)(hs:∀ x∈l,U6 x)(hl:l.length<=140737488355328) :
 Calls prog 15 #[v] w fun e w'=>(∃ b:Bool,e=.returned (.bool b)/\(b=true->∀ x∈l,SmD x))/\Below w.heap.size w w':=by
 have H:=I h;have HS:=I hs;obtain⟨a,c,F,_⟩:=h;subst F;clear hs;go_enter func15,ntmps15;go_upto_block 0 with fail
 go_cut [3] (fun S wx=>∃ n:Nat,S=.int .i64 n/\n<=1000000000000000/\Below w.heap.size w wx/\(n<=65536->∀ x∈l,SmD x))
 case first=>
  go_wp2_with fail
  go_loopg [3,4,5,6,7,8,9] l.length (fun m S iv _ _ _ _ _ wr=>∃ k n:Nat,m=l.length - k/\k<=l.length/\iv=.int .i64 k/\S=.int .i64 n/\n<=1000000000000000/\Below w.heap.size w wr/\Hid (n<=65536->∀ x∈l.take k,SmD x))
  case atStart=>exact⟨0,l.length,by omega,by omega,rfl,rfl,by omega,Below.refl _ _,fun _ x G=>nomatch G⟩
  case round=>
   obtain⟨k,n,rfl,hk,rfl,rfl,hn,P,X⟩:=hrel;have J:=I P;clear P;by_cases hlt:k<l.length
   ·by_cases hnl:n<=65536
    ·obtain⟨a',c',F,f⟩:=H.o;obtain⟨g,aY,ha,Q⟩:=f (List.ne_nil_of_length_pos (by omega));have ea:a=a':=by injection F
     subst ea;subst ha;have E:=Q k hlt;have u:=HS.o l[k] (List.getElem_mem hlt);obtain⟨x,G⟩:=Qf (l[k]);rw[G]at E u
     have aM:Hid (∀ d:Nat,n<=d->(d<=65536->SmD x)->d<=65536->∀ z∈l.take (k+1),SmD z):=fun d Y f h3 z hz=>by
      rw[List.take_succ_eq_append_getElem hlt]at hz;rcases List.mem_append.1 hz with hz|hz
      ·exact X.o (by omega) z hz
      ·rw[QY hz,G];exact f h3
     have aq:=I E;obtain⟨p0,p1,p2,p3,p4,p5,p6,p7,p8,hh,aO⟩:=E;have aw:g<w.heap.size:=QI p0;have r:∀ j,wr.cell? ⟨g,j,none⟩=w.cell? ⟨g,j,none⟩:=fun j=>J.o.cell (p:=⟨g,j,none⟩) aw
     have q0:=(r _).trans p0;have q1:=(r _).trans p1;have q2:=(r _).trans p2;have q3:=(r _).trans p3;have q4:=(r _).trans p4;have q5:=(r _).trans p5;have q6:=(r _).trans p6;have q7:=(r _).trans p7;have q8:=(r _).trans p8;have R:(k:Int)<(l.length:Int):=by omega
     have aj:(n:Int)<=65536:=by omega
     have hz:=Zr x.s;have L:=I u;have aW:=u.s;have aT:=u.cl;have aV:g<wr.heap.size:=Nat.lt_of_lt_of_le aw J.o.size;obtain⟨C,D,ag,_⟩:=aO;obtain⟨aa,ab,ai,_⟩:=hh;rw[ag]at q8;rw[ai]at q7;clear p0 p1 p2 p3 p4 p5 p6 p7 p8 r Q f F G u;obtain⟨N,Z⟩:=QE (wr.alloc (.cells #[.int .i64 x.kind,.int .i64 x.a,.int .i64 x.b,.string (sA x.s),.string (sA x.fr),.string (sA x.tt),.int .i64 x.sz,.slice aa x.hs.length ab,.slice C x.code.length D] 47));have aN:=I Z;have ac:Hid (Below w.heap.size w N):=by show Below _ _ _;rw[Z];exact J.o.alloc J.o.size _
     have aF:Hid (N.heap[wr.heap.size]?=some (.cells #[.int .i64 x.kind,.int .i64 x.a,.int .i64 x.b,.string (sA x.s),.string (sA x.fr),.string (sA x.tt),.int .i64 x.sz,.slice aa x.hs.length ab,.slice C x.code.length D] 47)):=by show _=_;rw[Z];exact QA _ _
     have aE:Hid (Kz w (.slice aa x.hs.length ab) x.hs):=by rw[<-ai];exact aq.o.2.2.2.2.2.2.2.2.2.1
     have aD:Hid (U5 w (.slice C x.code.length D) x.code):=by rw[<-ag];exact aq.o.2.2.2.2.2.2.2.2.2.2
     clear Z ai ag;go_wp2_with fail;rw[<-aN.o];refine(O2 x.fr x.tt x.sz _ x.hs N (aE.o.below ac.o) L.o.fr L.o.tt L.o.hl L.o.hd).mono ?_;rintro e w2 ⟨⟨sn,rfl,aX,ay⟩,ad⟩;have aI:=I ay;clear ay;have aA:=I (ac.o.trans (ad.mono ac.o.size));have W:=I (Zk aF.o ad);have r3:=QH W.o;have r8:=KV W.o;clear ad q0 q1 q2 q3 q4 q5 q6 q7 q8;obtain⟨T,ak⟩:=Qf (wr.heap.size);rw[ak]at W r3 r8;go_upto_block 2 with fail
     have aQ:=I ak;clear ak;go_wp2_with fail
     go_loopg [3,7,8,9] x.code.length (fun m S jv _ _ wy=>∃ j n_:Nat,m=x.code.length - j/\j<=x.code.length/\jv=.int .i64 j/\S=.int .i64 n_/\n_<=1000000000000000/\Below w.heap.size w wy/\wy.heap[T]?=some (.cells #[.int .i64 x.kind,.int .i64 x.a,.int .i64 x.b,.string (sA x.s),.string (sA x.fr),.string (sA x.tt),.int .i64 x.sz,.slice aa x.hs.length ab,.slice C x.code.length D] 47)/\Hid (n+x.s.length+x.code.length+sn<=n_/\(n_<=65536->∀ i∈x.code.take j,K5 65536 i.as'/\K5 65536 i.bs)))
     case atStart=>exact⟨0,n+x.s.length+x.code.length+sn,by omega,by omega,rfl,by go_num,by omega,aA.o,W.o,Nat.le_refl _,fun _ i hi=>nomatch hi⟩
     case round=>
      obtain⟨j,d,rfl,hj,rfl,rfl,ax,P,hN,M⟩:=hrel;have B:=I P;have aH:=I hN;have s8:=KV hN;clear P hN;by_cases hjl:j<x.code.length
      ·by_cases hnl':d<=65536
       ·obtain⟨a',c',F,f⟩:=aD.o;obtain⟨A,K,ha,Q⟩:=f (List.ne_nil_of_length_pos (by omega));have ea:C=a':=by injection F
        subst ea;subst ha;have E:=Q j hjl;have u:=L.o.cd x.code[j] (List.getElem_mem hjl);obtain⟨y,hy⟩:=Qf (x.code[j]);rw[hy]at E u
        have aL:Hid (∀ n2:Nat,d<=n2->(n2<=65536->K5 65536 y.as'/\K5 65536 y.bs)->n2<=65536->∀ i∈x.code.take (j+1),K5 65536 i.as'/\K5 65536 i.bs):=fun n2 Y f h3 z hz=>by
         rw[List.take_succ_eq_append_getElem hjl]at hz;rcases List.mem_append.1 hz with hz|hz
         ·exact M.o.2 (by omega) z hz
         ·rw[QY hz,hy];exact f h3
        have aP:=I E;obtain⟨t0,t1,t2,t3,t4,t5,t6,t7,t8⟩:=E;have ah:A<w.heap.size:=QI t0;have aU:A<wr.heap.size:=Nat.lt_of_lt_of_le ah B.o.size;obtain⟨va,vc,ao⟩:=t7.len;obtain⟨vb,vd,ap⟩:=t8.len;have m4:wr.cell? ⟨A,K+j*7+4,none⟩=some (.slice va y.as'.length vc):=by rw[B.o.cell (p:=⟨A,K+j*7+4,none⟩) ah,<-ao];exact t4
        have aJ:Hid (JE w (.slice va y.as'.length vc) y.as'):=by rw[<-ao];exact t7
        have aK:Hid (JE w (.slice vb y.bs.length vd) y.bs):=by rw[<-ap];exact t8
        have w5:w.cell? ⟨A,K+j*7+5,none⟩=some (.slice vb y.bs.length vd):=by rw[<-ap];exact t5
        have V:=I u;have R:(j:Int)<(x.code.length:Int):=by omega
        have aj:(d:Int)<=65536:=by omega
        clear t0 t1 t2 t3 t4 t5 t6 t7 t8 ao ap Q f F hy u;go_wp2_with fail;refine(DG _ y.as' wr (aJ.o.below B.o) V.o.1.1 V.o.1.2).mono ?_;rintro e w4 ⟨⟨an,rfl,aR,au⟩,ae⟩;have az:=I au;clear au;have U:=I (B.o.trans (ae.mono B.o.size));have ar:=I (Zk aH.o ae);have aZ:=KV ar.o;have m5:w4.cell? ⟨A,K+j*7+5,none⟩=some (.slice vb y.bs.length vd):=by rw[U.o.cell (p:=⟨A,K+j*7+5,none⟩) ah];exact w5
        clear ae;go_wp2_with fail;refine(DG _ y.bs w4 (aK.o.below U.o) V.o.2.1 V.o.2.2).mono ?_;rintro e w6 ⟨⟨bn,rfl,aS,av⟩,af⟩;have aC:=I av;clear av;have aB:=I (U.o.trans (af.mono U.o.size));have aG:=I (Zk ar.o af);clear af;go_wp2;go_roundg (x.code.length - (j+1))
        case measure=>omega
        case rel=>exact⟨j+1,d+an+bn,rfl,by omega,by go_num,by go_num,by omega,aB.o,aG.o,by have:=M.o.1;omega,aL.o (d+an+bn) (by omega) (fun h=>by have Y:=az.o (by omega);have f:=aC.o (by omega);exact⟨⟨by have:=Y.1;omega,fun t ht=>by have:=Y.2 t ht;omega⟩,⟨by have:=f.1;omega,fun t ht=>by have:=f.2 t ht;omega⟩⟩)⟩
       ·have R:(j:Int)<(x.code.length:Int):=by omega
        have aj:¬(d:Int)<=65536:=by omega
        go_wp2;go_roundg (l.length - (k+1))
        case measure=>omega
        case rel=>exact⟨k+1,d,rfl,by omega,by go_num,rfl,ax,B.o,fun e=>absurd e hnl'⟩
      ·have R:¬(j:Int)<(x.code.length:Int):=by omega
       go_wp2;go_roundg (l.length - (k+1))
       case measure=>omega
       case rel=>exact⟨k+1,d,rfl,by omega,by go_num,rfl,ax,B.o,aM.o d (by have:=M.o.1;omega) (fun h=>by have h0:=M.o.1;obtain⟨s1,s2,s3⟩:=aI.o (by omega);exact⟨by omega,by omega,by omega,⟨by have:=s3.1;omega,fun q hq=>by have:=s3.2 q hq;omega⟩,by omega,fun i hi=>M.o.2 h i (by rw[List.take_of_length_le (by omega)];exact hi)⟩)⟩
    ·have R:(k:Int)<(l.length:Int):=by omega
     have aj:¬(n:Int)<=65536:=by omega
     go_wp2;go_meet;exact⟨n,rfl,hn,J.o,fun e=>absurd e hnl⟩
   ·have R:¬(k:Int)<(l.length:Int):=by omega
    go_wp2;go_meet;exact⟨n,rfl,hn,J.o,fun e x G=>X.o e x (by rw[List.take_of_length_le (by omega)];exact G)⟩
 case rest=>
  obtain⟨n,rfl,hn,hb,hT⟩:=hcut;have X:=I hT;clear hT;go_wp2;go_ret;exact⟨⟨_,rfl,fun e=>X.o (by simp at e;omega)⟩,hb⟩
def pickL(c:Int)(n:Nat):Nat:=(if c<0 then(-(c+1)).toNat else c.toNat) % n
theorem Bi(c:Int)(h:0<n):pickL c n<n:=Nat.mod_lt _ h
theorem Bj(c:Int)(n:Nat)(w:World)(d:-9223372036854775808<=c)(f:c<=9223372036854775807)(g:0<n)(j:n<=4611686018427387904) :
 Calls prog 31 #[.int .i64 c,.int .i64 n] w fun e w'=>e=.returned (.int .i64 (pickL c n))/\w'=w:=by
 have k:((n:Int)==0)=false:=by simp;omega
 have i:¬(n:Int)=0:=by omega
 by_cases hc:c<0
 ·obtain⟨m,b⟩:∃ m:Nat,-(c+1)=(m:Int):=⟨(-(c+1)).toNat,by omega⟩;have a:pickL c n=m % n:=by unfold pickL;rw[if_pos hc,b];rfl
  rw[a];clear a;go_enter func31,ntmps31;go_wp2;go_ret;exact⟨by simp,rfl⟩
 ·obtain⟨m,rfl⟩:∃ m:Nat,c=(m:Int):=⟨c.toNat,by omega⟩;have a:pickL (m:Int) n=m % n:=by unfold pickL;rw[if_neg hc];rfl
  rw[a];clear a;go_enter func31,ntmps31;go_wp2;go_ret;exact⟨by simp,rfl⟩
def opV(x:OpD):Value:=.agg #[.int .i64 x.kind,.int .i64 x.a,.int .i64 x.b,.string (sA x.s),.string (sA x.fr),.string (sA x.tt),.int .i64 x.sz,x.hv,x.cv]
end
section
open Go.RowKit
structure Q9 (X:Nat->Prop) (w:World) (cv:Value) (ps:List IV):Prop where
 row:w.ownsRow 0 63 7 cv ps.length (Zj ps)
 ok:∀ p∈ps,Xg w p.1 p.2.1 p.2.2
 nil:ps=[]->cv=.slice none 0 0
 ap:Apt 0 ps
 xr:∀ k,cv.ownBlock=some k->X k
 xl:∀ k∈Xm ps,X k
theorem Q9.codeP(h:Q9 X w cv ps):XK w 0 cv (ps.map Prod.fst):=⟨ps,rfl,h.row,h.ok,h.nil,h.ap⟩
theorem Q9.of_codeP(h:XK w B cv code)(f:∀ k,B<=k->k<w.heap.size->X k):∃ ps,ps.map Prod.fst=code/\Q9 X w cv ps:=by
 obtain⟨ps,e,d,c,j,g⟩:=h;refine⟨ps,e,Bk d QC,c,j,g.mono QC,fun k hk'=>f k (d.lt k hk').1 (d.lt k hk').2,fun k hk'=>?_⟩;refine f k (g.ge k hk') ?_;obtain⟨p,i,hk'⟩:=XL.1 hk';rcases hk' with hk'|hk'
 ·exact(c p i).a.lt hk'
 ·exact(c p i).b.lt hk'
theorem Q9.keep(h:Q9 X w cv ps)(m:∀ k,X k->k<w.heap.size->w'.heap[k]?=w.heap[k]?):Q9 X w' cv ps:=by
 refine⟨Kw h.row fun k e=>m k (h.xr k e) (h.row.lt k e).2,fun p i=>?_,h.nil,h.ap,h.xr,h.xl⟩;have d:=h.ok p i
 have f:∀(v:Value) (j:Qa),SlT w v j->(∀ k,v.ownBlock=some k->X k)->SlT w' v j:=fun v j f r=>by
  rcases f with f | ⟨g,c,n,o,l,q⟩
  ·exact Qd f
  ·exact Qc ⟨g,c,n,o,by rw[m g (r g (by rw[n];rfl)) (Qh l)];exact l,q⟩
 exact⟨f _ _ d.a (fun k e=>h.xl k (XL.2 ⟨p,i,Qd e⟩)),f _ _ d.b (fun k e=>h.xl k (XL.2 ⟨p,i,Qc e⟩)),d.al,d.bl,d.an,d.bn,d.n1,d.n2⟩
theorem Q9.into{Y:Nat->Prop}(h:Q9 X w cv ps)(c:∀ k,X k->k<w.heap.size->Y k):Q9 Y w cv ps:=by
 refine⟨h.row,h.ok,h.nil,h.ap,fun k hk=>c k (h.xr k hk) (h.row.lt k hk).2,fun k hk=>c k (h.xl k hk) ?_⟩;obtain⟨p,d,hk⟩:=XL.1 hk;rcases hk with hk|hk
 ·exact(h.ok p d).a.lt hk
 ·exact(h.ok p d).b.lt hk
def VQ(x:OpD)(i:Ins):Ins:=⟨x.a,x.b,i.tag,i.oct,i.a.map fun _=>x.s,i.b.map fun _=>x.s,i.at_⟩
def Ja(k:Nat)(s:L8)(a:Qa):Qa:=List.replicate k s++a.drop k
theorem NR{s:L8}(h:k<=a.length):(Ja k s a).length=a.length:=by
 unfold Ja;rw[Qk,List.length_replicate,List.length_drop];omega
theorem DI{s:L8}(h:k<a.length):(Ja k s a).set k s=Ja (k+1) s a:=by
 unfold Ja;rw[List.set_append_right _ _ (by rw[List.length_replicate];exact Qt),List.length_replicate,Nat.sub_self,List.drop_eq_getElem_cons h,List.set_cons_zero,List.replicate_succ',List.append_assoc];rfl
theorem DJ(s:L8)(a:Qa):Ja a.length s a=a.map fun _=>s:=by
 unfold Ja;rw[Zi Qt,List.append_nil]
 induction a with
 |nil=>rfl
 |cons x r ih=>rw[QD,List.replicate_succ,List.map_cons,ih]
theorem DK(s:L8)(a:Qa):Ja 0 s a=a:=by unfold Ja;simp
section
variable {X:Nat->Prop} {w:World} {cv av bv:Value} {l1 l2:List IV} {i:Ins} {g k:Nat} {s:L8}
theorem KA:Xm (l1++(i,av,bv)::l2)=Xm l1++((av.ownBlock.toList++bv.ownBlock.toList)++Xm l2):=by
 rw[Bl];rfl
theorem Bm(h:Apt 0 (l1++(i,av,bv)::l2)):Apt 0 (l1++(j,av,bv)::l2):=by
 refine⟨by rw[KA];have:=h.nd;rw[KA]at this;exact this,fun k _=>QC,fun p hp=>?_⟩;rcases List.mem_append.1 hp with hp|hp
 ·exact h.rm p (List.mem_append_left _ hp)
 ·rcases List.mem_cons.1 hp with hp|hp
  ·have:=h.rm (i,av,bv) (by simp);rw[hp];exact this
  ·exact h.rm p (by simp[hp])
theorem O4(h:Apt 0 (l1++(i,av,bv)::l2))(m:av.ownBlock=some g):bv.ownBlock≠some g/\∀ p,p∈l1\/p∈l2->p.2.1.ownBlock≠some g/\p.2.2.ownBlock≠some g:=by
 have c:=h.nd;rw[KA,m]at c;obtain⟨_,d,f⟩:=List.nodup_append.1 c;obtain⟨j,_,k⟩:=List.nodup_append.1 d
 have l:¬ g∈bv.ownBlock.toList:=fun e=>by
  obtain⟨_,_,a⟩:=List.nodup_append.1 j;exact a g (by simp) g e rfl
 have b:¬ g∈Xm l1:=fun e=>f g e g (by simp) rfl
 have a:¬ g∈Xm l2:=fun e=>k g (by simp) g e rfl
 refine⟨fun e=>l (by rw[e];simp),fun p hp=>⟨fun e=>?_,fun e=>?_⟩⟩
 ·rcases hp with hp|hp
  ·exact b (XL.2 ⟨p,hp,Qd e⟩)
  ·exact a (XL.2 ⟨p,hp,Qd e⟩)
 ·rcases hp with hp|hp
  ·exact b (XL.2 ⟨p,hp,Qc e⟩)
  ·exact a (XL.2 ⟨p,hp,Qc e⟩)
theorem O5(h:Apt 0 (l1++(i,av,bv)::l2))(m:bv.ownBlock=some g):av.ownBlock≠some g/\∀ p,p∈l1\/p∈l2->p.2.1.ownBlock≠some g/\p.2.2.ownBlock≠some g:=by
 have c:=h.nd;rw[KA,m]at c;obtain⟨_,d,f⟩:=List.nodup_append.1 c;obtain⟨j,_,k⟩:=List.nodup_append.1 d
 have l:¬ g∈av.ownBlock.toList:=fun e=>by
  obtain⟨_,_,a⟩:=List.nodup_append.1 j;exact a g e g (by simp) rfl
 have b:¬ g∈Xm l1:=fun e=>f g e g (by simp) rfl
 have a:¬ g∈Xm l2:=fun e=>k g (by simp) g e rfl
 refine⟨fun e=>l (by rw[e];simp),fun p hp=>⟨fun e=>?_,fun e=>?_⟩⟩
 ·rcases hp with hp|hp
  ·exact b (XL.2 ⟨p,hp,Qd e⟩)
  ·exact a (XL.2 ⟨p,hp,Qd e⟩)
 ·rcases hp with hp|hp
  ·exact b (XL.2 ⟨p,hp,Qc e⟩)
  ·exact a (XL.2 ⟨p,hp,Qc e⟩)
theorem U7(h:SlT w v zs)(j:v.ownBlock≠some g)(o:Nat)(x:Value):SlT (w.setCell ⟨g,o,none⟩ x) v zs:=by
 rcases h with h | ⟨d,c,a,b,f,i⟩
 ·exact Qd h
 ·exact Qc ⟨d,c,a,b,by rw[Below.heap_setCell _ _ _ _ (fun e=>j (by rw[a,e];rfl))];exact f,i⟩
theorem DL(h:SlT w v zs)(a:v.ownBlock=some g)(o:k<zs.length):SlT (w.setCell ⟨g,k,none⟩ (.string (sA s))) v (zs.set k s)/\(∃ cs,w.heap[g]?=some (.cells cs 9)):=by
 rcases h with⟨h,_⟩ | ⟨d,c,l,cs,f,i⟩
 ·rw[h]at a;cases a
 ·have e:d=g:=by rw[l]at a;simpa[Value.ownBlock]using a
  subst e;refine⟨Qc ⟨d,c,by rw[List.length_set];exact l,_,Qv _ _ _ _ _ _ f,fun j b=>?_⟩,cs,f⟩;rw[List.length_set]at b;by_cases e:k=j
  ·subst e;have m:=i k b;have n:k<cs.size:=(Array.getElem?_eq_some_iff.1 m).1;rw[Array.getElem?_setIfInBounds_self_of_lt n,List.getD_eq_getElem?_getD,List.getElem?_set_self b];rfl
  ·rw[Array.getElem?_setIfInBounds_ne e,i j b,List.getD_eq_getElem?_getD,List.getD_eq_getElem?_getD,List.getElem?_set_ne e]
theorem DM(h:∀ z∈a,z.length<=100000)(b:s.length<=100000):∀ z∈a.set k s,z.length<=100000:=fun z hz=>by
 rcases List.mem_or_eq_of_mem_set hz with h1|h1
 ·exact h z h1
 ·rw[h1];exact b
theorem Q9.wrA(h:Q9 X w cv (l1++(i,av,bv)::l2))(f:av.ownBlock=some g)(v:k<i.a.length)(y:s.length<=100000) :
 Q9 X (w.setCell ⟨g,k,none⟩ (.string (sA s))) cv (l1++(⟨i.op,i.n,i.tag,i.oct,i.a.set k s,i.b,i.at_⟩,av,bv)::l2)/\X g:=by
 have c:=h.ok (i,av,bv) (by simp);obtain⟨q,z,u⟩:=DL (s:=s) c.a f v;obtain⟨t,l⟩:=O4 h.ap f;have x:cv.ownBlock≠some g:=ZI h.row u (by decide);have r:X g:=h.xl g (XL.2 ⟨(i,av,bv),by simp,Qd f⟩);refine⟨⟨?_,fun p hp=>?_,fun e=>absurd e (by simp),Bm h.ap,h.xr,by rw[KA];have:=h.xl;rw[KA]at this;exact this⟩,r⟩
 ·have:=U8 h.row x k (.string (sA s));have o:Zj (l1++(⟨i.op,i.n,i.tag,i.oct,i.a.set k s,i.b,i.at_⟩,av,bv)::l2)=Zj (l1++(i,av,bv)::l2):=by rw[K6,K6,J0,J0];rfl
  rw[o];simpa using this
 ·have m:p∈l1\/p∈l2->Xg (w.setCell ⟨g,k,none⟩ (.string (sA s))) p.1 p.2.1 p.2.2:=fun j=>by
   have d:=h.ok p (by rcases j with h|h<;>simp[h]);exact⟨U7 d.a (l p j).1 _ _,U7 d.b (l p j).2 _ _,d.al,d.bl,d.an,d.bn,d.n1,d.n2⟩
  rcases List.mem_append.1 hp with hp|hp
  ·exact m (Qd hp)
  ·rcases List.mem_cons.1 hp with hp|hp
   ·rw[hp];exact⟨q,U7 c.b t _ _,DM c.al y,c.bl,by show(i.a.set k s).length<=_;rw[List.length_set];exact c.an,c.bn,c.n1,c.n2⟩
   ·exact m (Qc hp)
theorem Q9.wrB(h:Q9 X w cv (l1++(i,av,bv)::l2))(f:bv.ownBlock=some g)(v:k<i.b.length)(y:s.length<=100000) :
 Q9 X (w.setCell ⟨g,k,none⟩ (.string (sA s))) cv (l1++(⟨i.op,i.n,i.tag,i.oct,i.a,i.b.set k s,i.at_⟩,av,bv)::l2)/\X g:=by
 have c:=h.ok (i,av,bv) (by simp);obtain⟨q,z,u⟩:=DL (s:=s) c.b f v;obtain⟨t,l⟩:=O5 h.ap f;have x:cv.ownBlock≠some g:=ZI h.row u (by decide);have r:X g:=h.xl g (XL.2 ⟨(i,av,bv),by simp,Qc f⟩);refine⟨⟨?_,fun p hp=>?_,fun e=>absurd e (by simp),Bm h.ap,h.xr,by rw[KA];have:=h.xl;rw[KA]at this;exact this⟩,r⟩
 ·have:=U8 h.row x k (.string (sA s));have o:Zj (l1++(⟨i.op,i.n,i.tag,i.oct,i.a,i.b.set k s,i.at_⟩,av,bv)::l2)=Zj (l1++(i,av,bv)::l2):=by rw[K6,K6,J0,J0];rfl
  rw[o];simpa using this
 ·have m:p∈l1\/p∈l2->Xg (w.setCell ⟨g,k,none⟩ (.string (sA s))) p.1 p.2.1 p.2.2:=fun j=>by
   have d:=h.ok p (by rcases j with h|h<;>simp[h]);exact⟨U7 d.a (l p j).1 _ _,U7 d.b (l p j).2 _ _,d.al,d.bl,d.an,d.bn,d.n1,d.n2⟩
  rcases List.mem_append.1 hp with hp|hp
  ·exact m (Qd hp)
  ·rcases List.mem_cons.1 hp with hp|hp
   ·rw[hp];exact⟨U7 c.a t _ _,q,c.al,DM c.bl y,c.an,by show(i.b.set k s).length<=_;rw[List.length_set];exact c.bn,c.n1,c.n2⟩
   ·exact m (Qc hp)
theorem Q9.wrI(h:Q9 X w cv (l1++(i,av,bv)::l2))(q:cv.ownBlock=some g){o:Nat}{x:Value}(K:(YK (i,av,bv)).set o x=YK (j,av,bv))(d:o<7)(s:j.a=i.a)(t:j.b=i.b)(L:-9223372036854775808<=j.n)(M:j.n<=9223372036854775807) :
 Q9 X (w.setCell ⟨g,l1.length*7+o,none⟩ x) cv (l1++(j,av,bv)::l2)/\X g:=by
 have H:X g:=h.xr g q;obtain⟨m,c,u,_,_,_⟩:=Y7 h.row (by simp;omega);have F:m=g:=by rw[u]at q;simpa[Value.ownBlock]using q
 subst F;obtain⟨Q,J⟩:=VR h.row q;have A:=h.row;rw[u]at A;obtain⟨C,S⟩:=A.stored (l1.length*7+o) x
 have r:∀(v:Value) (y:Qa),SlT w v y->SlT (w.setCell ⟨m,l1.length*7+o,none⟩ x) v y:=fun v y l=>by
  refine U7 l (fun e=>?_) _ _;rcases l with⟨l,_⟩ | ⟨G,P,l,R,f,_⟩
  ·rw[l]at e;cases e
  ·have E:G=m:=by rw[l]at e;simpa[Value.ownBlock]using e
   rw[E,J]at f;injection f with f
   injection f with _ f
   exact absurd f (by decide)
 refine⟨⟨?_,fun p hp=>?_,fun e=>absurd e (by simp),Bm h.ap,h.xr,by rw[KA];have:=h.xl;rw[KA]at this;exact this⟩,H⟩
 ·have D:(Zj (l1++(i,av,bv)::l2)).set (l1.length*7+o) x=Zj (l1++(j,av,bv)::l2):=by
   rw[K6,K6,J0,J0,List.set_append_right _ _ (by rw[VS];omega),VS,Nat.add_sub_cancel_left,List.set_append_left _ _ (by show o<7;exact d),K]
  rw[D]at C;rw[u];simpa using C
 ·have B:p∈l1\/p∈l2->Xg (w.setCell ⟨m,l1.length*7+o,none⟩ x) p.1 p.2.1 p.2.2:=fun N=>by
   have d:=h.ok p (by rcases N with h|h<;>simp[h]);exact⟨r _ _ d.a,r _ _ d.b,d.al,d.bl,d.an,d.bn,d.n1,d.n2⟩
  rcases List.mem_append.1 hp with hp|hp
  ·exact B (Qd hp)
  ·rcases List.mem_cons.1 hp with hp|hp
   ·have k:=h.ok (i,av,bv) (by simp);rw[hp];refine⟨?_,?_,?_,?_,?_,?_,L,M⟩
    ·show SlT _ av j.a;rw[s];exact r _ _ k.a
    ·show SlT _ bv j.b;rw[t];exact r _ _ k.b
    ·show ∀ z∈j.a,_;rw[s];exact k.al
    ·show ∀ z∈j.b,_;rw[t];exact k.bl
    ·show j.a.length<=_;rw[s];exact k.an
    ·show j.b.length<=_;rw[t];exact k.bn
   ·exact B (Qc hp)
end
end
section
open Go.RowKit
attribute [local go_sem ↓] Go.wp_at_zero Go.wp_at_succ
theorem Q9.at{av bv:Value}{l1 b:List IV}{i:Ins}(h:Q9 X w cv (l1++(i,av,bv)::b)):∃ g c,cv=.slice (some ⟨g,0,none⟩) (l1.length+(b.length+1)) c/\X g/\QrbZ w g (l1.length*7) i av bv/\Xg w i av bv/\∃ cs,w.heap[g]?=some (.cells cs 63):=by
 obtain⟨g,c,a,_,_,hcell⟩:=Y7 h.row (by simp;omega)
 have hget:∀ k,k < 7->∀ u,(YK (i,av,bv))[k]?=some u->w.cell? ⟨g,l1.length*7+k,none⟩=some u:=fun k hk u hu=>hcell _ _ (by
  rw[K6,List.getElem?_append_right (by rw[VS];omega),VS,Nat.add_sub_cancel_left,J0,List.getElem?_append_left (by show k<7;exact hk)]
  exact hu)
 refine⟨g,c,by simpa using a,h.xr g (by rw[a];rfl),⟨hget 0 (by omega) _ rfl,hget 1 (by omega) _ rfl,hget 2 (by omega) _ rfl,hget 3 (by omega) _ rfl,hget 4 (by omega) _ rfl,hget 5 (by omega) _ rfl,hget 6 (by omega) _ rfl⟩,h.ok (i,av,bv) (by simp),VR h.row (by rw[a];rfl)⟩
theorem SlT.put_at(h:SlT w v zs)(b:k<zs.length):∃ g c,v=.slice (some ⟨g,0,none⟩) zs.length c/\(∃ u,w.cell? ⟨g,k,none⟩=some (.string u))/\∃ cs,w.heap[g]?=some (.cells cs 9):=by
 rcases h with⟨_,rfl⟩ | ⟨g,c,e,cs,a,d⟩
 ·exact absurd b (Nat.not_lt_zero _)
 ·exact⟨g,c,e,⟨_,by rw[Qn a,d k b]⟩,cs,a⟩
theorem NS{w1:World}{g:Nat}{cs:Array Value}{t:TypeId}(h:Fr (fun k _=>X k) w w1)(hb:w1.heap[g]?=some (.cells cs t))(hX:X g)(o:Nat)(x:Value):Fr (fun k _=>X k) w (w1.setCell ⟨g,o,none⟩ x):=h.trans ((Fr.refl _ w1).set hb hX o x)
theorem O6(X:Nat->Prop)(x:OpD)(cv av bv:Value)(r A:List IV)(i:Ins)(w:World)(h:Q9 X w cv (r++(i,av,bv)::A))(hX:∀ k,X k->k<w.heap.size)(hs:x.s.length<=100000)(aH:-9223372036854775808<=x.b)(aI:x.b<=9223372036854775807)(hh:∃ a n c,x.hv=.slice a n c)(hc:∃ a n c,x.cv=.slice a n c)(hl:r.length+(A.length+1)<=1000000) :
 Calls prog 43 #[cv,.int .i64 (r.length:Int),opV x] w fun e w'=>e=.returned (.tuple #[])/\Q9 X w' cv (r++(VQ x i,av,bv)::A)/\Fr (fun k _=>X k) w w':=by
 obtain⟨g,c,hv,_⟩:=h.at;subst hv;obtain⟨aw,ay,ax,hh⟩:=hh;obtain⟨aq,au,ar,hc⟩:=hc;have Q:Xg w i av bv:=h.ok (i,av,bv) (by simp);have aM:=Q.an;have aN:=Q.bn;obtain⟨T,R,aG⟩:=Q.a.len;obtain⟨U,S,aJ⟩:=Q.b.len;have aO:g<w.heap.size:=(h.row.lt g rfl).2;have H:=I h;have HX:=I hX;unfold opV;rw[hh,hc];obtain⟨q,aa⟩:=QE (w.alloc (.cells #[.int .i64 x.kind,.int .i64 x.a,.int .i64 x.b,.string (sA x.s),.string (sA x.fr),.string (sA x.tt),.int .i64 x.sz,.slice aw ay ax,.slice aq au ar] 47));have aC:=I aa;have ac:Below w.heap.size w q:=by rw[aa];exact Qs _
 have ab:Hid (q.heap[w.heap.size]?=some (.cells #[.int .i64 x.kind,.int .i64 x.a,.int .i64 x.b,.string (sA x.s),.string (sA x.fr),.string (sA x.tt),.int .i64 x.sz,.slice aw ay ax,.slice aq au ar] 47)):=by show _=_;rw[aa];exact QA _ _
 have ai:=I (h.keep (w':=q) (fun k _ z=>ac.block k z));have az:Hid (Fr (fun k _=>X k) w q):=Fr.of_below ac;obtain⟨n,hn⟩:=Qf (r.length+(A.length+1));obtain⟨m,hm⟩:=Qf (r.length);have aQ:m<n:=by omega
 have aB:=I hn;have W:=I hm;rw[hn,hm];obtain⟨d,ah⟩:=Qf (w.heap.size);have Z:=I ah;rw[ah]at ab;subst aG aJ;clear h hX hh hc aa ac hn hm ah Q;go_enter func43,ntmps43;go_wp2_with (rw[<-aC.o]);rw[Z.o]
 go_loopw [6] (fun J wr=>∃ k:Nat,k<=i.a.length/\J=.int .i64 k/\Hid (Q9 X wr (.slice (some ⟨g,0,none⟩) n c) (r++(⟨i.op,i.n,i.tag,i.oct,Ja k x.s i.a,i.b,i.at_⟩,.slice T i.a.length R,.slice U i.b.length S)::A))/\Hid (Fr (fun k _=>X k) w wr)/\Hid (wr.heap[d]?=q.heap[d]?)) (fun J _=>i.a.length - (intOf J).toNat)
 case atStart=>exact⟨0,QC,rfl,by show Q9 _ _ _ _;rw[DK];rw[aB.o]at ai;exact ai.o,az,rfl⟩
 case round=>
  obtain⟨k,z,rfl,l,K,B⟩:=hrel;obtain⟨g',c',f,ad,⟨L,M,C,D,P,a5,E⟩,v,aE,y⟩:=l.o.at;injection f with f e2 e3
  injection f with f
  injection f with f
  subst f;subst e3;clear e2;rw[W.o]at L M C D P a5 E;have t:=B.o.trans ab.o;have o3:=QH t;have aP:(m:Int)<(n:Int):=by omega
  by_cases hlt:k<i.a.length
  ·have af:(k:Int)<(i.a.length:Int):=by omega
   obtain⟨p,aD,G,⟨u,hu⟩,aF,F⟩:=v.a.put_at (k:=k) (by show k<(Ja k x.s i.a).length;rw[NR z];exact hlt);injection G with G e2 e3
   subst G;subst e3;clear e2;have fa:=Qz F;have HW:=I (l.o.wrA (k:=k) (s:=x.s) rfl (by show k<(Ja k x.s i.a).length;rw[NR z];exact hlt) hs);have N:=I (NS K.o F (l.o.xl p (XL.2 ⟨_,List.mem_append_right _ List.mem_cons_self,Qd rfl⟩)) k (.string (sA x.s)))
   have Y:Hid ((wr.setCell ⟨p,k,none⟩ (.string (sA x.s))).heap[d]?=q.heap[d]?):=by
    show _=_
    rw[Below.heap_setCell _ _ _ _ (fun e=>?_)]
    ·exact B.o
    ·have:=HX.o p (l.o.xl p (XL.2 ⟨_,List.mem_append_right _ List.mem_cons_self,Qd rfl⟩));have:=Z.o;have e':d=p:=e;omega
   clear v y F t L M C D E;go_wp2;go_region;go_wp2;go_roundw
   case rel=>exact⟨k+1,by omega,by go_num,by show Q9 _ _ _ _;rw[<-DI hlt];exact Q9.keep HW.o.1 (fun _ _ _=>rfl),N.o.drew,Y⟩
   case measure=>simp[intOf];omega
  ·have ae:k=i.a.length:=by omega
   subst ae;have af:¬(i.a.length:Int)<(i.a.length:Int):=by omega
   have V:Hid (Q9 X wr (.slice (some ⟨g,0,none⟩) n c) (r++(⟨i.op,i.n,i.tag,i.oct,i.a.map fun _=>x.s,i.b,i.at_⟩,.slice T i.a.length R,.slice U i.b.length S)::A)):=by show Q9 _ _ _ _;rw[<-DJ];exact l.o
   have aj:=K;have ak:=B;clear v y t L M C D a5 E l K B z hlt;go_wp2
   go_loopw [7] (fun J wr=>∃ k:Nat,k<=i.b.length/\J=.int .i64 k/\Hid (Q9 X wr (.slice (some ⟨g,0,none⟩) n c) (r++(⟨i.op,i.n,i.tag,i.oct,i.a.map fun _=>x.s,Ja k x.s i.b,i.at_⟩,.slice T i.a.length R,.slice U i.b.length S)::A))/\Hid (Fr (fun k _=>X k) w wr)/\Hid (wr.heap[d]?=q.heap[d]?)) (fun J _=>i.b.length - (intOf J).toNat)
   case atStart=>exact⟨0,QC,rfl,by show Q9 _ _ _ _;rw[DK];exact V.o,aj,ak⟩
   case round=>
    clear V aj ak o3 P;obtain⟨k,z,rfl,l,K,B⟩:=hrel;obtain⟨g',c',f,ad,⟨L,M,C,D,P,a5,E⟩,v,aE,y⟩:=l.o.at;injection f with f e2 e3
    injection f with f
    injection f with f
    subst f;subst e3;clear e2;rw[W.o]at L M C D P a5 E;have t:=B.o.trans ab.o;have o1:=Qo t;have o2:=QG t;have o3:=QH t;by_cases hlt:k<i.b.length
    ·have af:(k:Int)<(i.b.length:Int):=by omega
     obtain⟨p,aD,G,⟨u,hu⟩,aF,F⟩:=v.b.put_at (k:=k) (by show k<(Ja k x.s i.b).length;rw[NR z];exact hlt);injection G with G e2 e3
     subst G;subst e3;clear e2;have fa:=Qz F;have HW:=I (l.o.wrB (k:=k) (s:=x.s) rfl (by show k<(Ja k x.s i.b).length;rw[NR z];exact hlt) hs);have N:=I (NS K.o F (l.o.xl p (XL.2 ⟨_,List.mem_append_right _ List.mem_cons_self,Qc rfl⟩)) k (.string (sA x.s)))
     have Y:Hid ((wr.setCell ⟨p,k,none⟩ (.string (sA x.s))).heap[d]?=q.heap[d]?):=by
      show _=_
      rw[Below.heap_setCell _ _ _ _ (fun e=>?_)]
      ·exact B.o
      ·have:=HX.o p (l.o.xl p (XL.2 ⟨_,List.mem_append_right _ List.mem_cons_self,Qc rfl⟩));have:=Z.o;have e':d=p:=e;omega
     clear v y F t L M C D E;go_wp2;go_region;go_wp2;go_roundw
     case rel=>exact⟨k+1,by omega,by go_num,by show Q9 _ _ _ _;rw[<-DI hlt];exact Q9.keep HW.o.1 (fun _ _ _=>rfl),N.o.drew,Y⟩
     case measure=>simp[intOf];omega
    ·have ae:k=i.b.length:=by omega
     subst ae;have af:¬(i.b.length:Int)<(i.b.length:Int):=by omega
     have V:Hid (Q9 X wr (.slice (some ⟨g,0,none⟩) n c) (r++(⟨i.op,i.n,i.tag,i.oct,i.a.map fun _=>x.s,i.b.map fun _=>x.s,i.at_⟩,.slice T i.a.length R,.slice U i.b.length S)::A)):=by show Q9 _ _ _ _;rw[<-DJ x.s i.b];exact l.o
     have f0:=Qz y;have aL:Xg wr i (.slice T i.a.length R) (.slice U i.b.length S)->True:=fun _=>trivial
     have ag:=And.intro v.n1 v.n2;have ao:=I ((V.o.wrI (o:=0) (x:=.int .i64 x.a) (j:=⟨x.a,i.n,i.tag,i.oct,i.a.map fun _=>x.s,i.b.map fun _=>x.s,i.at_⟩) rfl rfl (by omega) rfl rfl ag.1 ag.2).1);rw[W.o,Nat.add_zero]at ao;have ap:=I ((ao.o.wrI (o:=1) (x:=.int .i64 x.b) (j:=VQ x i) rfl rfl (by omega) rfl rfl aH aI).1);rw[W.o]at ap;have N:=I (NS K.o y ad (m*7) (.int .i64 x.a));have aA:=I (NS N.o (Qv _ _ _ _ _ _ y) ad (m*7+1) (.int .i64 x.b));have aK:g≠d:=by have:=Z.o;omega
     have Y:Hid ((wr.setCell ⟨g,m*7,none⟩ (.int .i64 x.a)).cell? ⟨d,2,none⟩=some (.int .i64 x.b)):=by
      show _=_
      rw[World.cell?_of_block (a:=⟨d,2,none⟩) (w:=wr) (Below.heap_setCell _ _ _ _ (fun e=>aK e.symm))];exact o2
     clear v y t C D P E l ag aL;go_wp2;go_end0;exact⟨rfl,ap.o,aA.o⟩
theorem Tryz.infoPtrS:(prog.info? 53).map (fun i=>(i.zero,i.size,i.bytes))=some (some (.pointer none),1,8):=by kernel_rfl
theorem Tryz.infoPtrR:(prog.info? 76).map (fun i=>(i.zero,i.size,i.bytes))=some (some (.pointer none),1,8):=by kernel_rfl
def Uy(X:Nat->Prop)(y:Qa×List (QF 7))(w:World)(v:Value):Prop:=
 ∃ g rv lv,v=.pointer (some ⟨g,0,none⟩)/\X g/\w.heap[g]?=some (.cells #[rv,lv] 124)/\Y0 X y.1 w rv/\blX X (XS 7) y.2 w lv
theorem KC:TreeQ Uy:=by
 refine⟨fun X a w m v h i=>?_,fun X Y a w v h f=>?_⟩
 ·obtain⟨g,l,k,j,c,b,d,e⟩:=h;exact⟨g,l,k,j,c,by rw[i g c (Qh b)];exact b,d.keep i,e.keep (Xf 7) i⟩
 ·obtain⟨g,l,k,j,c,b,d,e⟩:=h;exact⟨g,l,k,j,f g c (Qh b),b,d.weak f,e.weak (Xf 7) f⟩
theorem Jm:TreeQ YX:=by
 refine⟨fun X a w m v h i=>?_,fun X Y a w v h f=>?_⟩
 ·obtain⟨g,l,k,j,c,b,d,e⟩:=h;exact⟨g,l,k,j,c,by rw[i g c (Qh b)];exact b,d.keep i,(ZO (Z1 7)).keep _ _ _ _ _ e i⟩
 ·obtain⟨g,l,k,j,c,b,d,e⟩:=h;exact⟨g,l,k,j,f g c (Qh b),b,d.weak f,(ZO (Z1 7)).weak _ _ _ _ _ e f⟩
abbrev Kk:=Qa×List (QF 7)
section
variable {wb:Nat} {u w w' w5:World} {xv mv v' x:Value} {ys1 ys2:List Kk} {y:Kk} {vs1 vs2:List Value} {o:Obj}
end
end
section
open Go.RowKit
structure Y1 where
 r:Value
 t:Value
 ps:List IV
 qs:List IV
def KD(cs:List Y1):List Value:=cs.flatMap fun c=>[c.r,c.t]
theorem DN:∀(a:List Y1) (j:Nat) (b:j<a.length),(KD a)[j*2]?=some a[j].r/\(KD a)[j*2+1]?=some a[j].t
 | [],j,b=>absurd b (Nat.not_lt_zero _)
 |c::r,0,_=>⟨rfl,rfl⟩
 |c::r,j+1,b=>by
  have:=DN r j (by simpa using b);have d:(j+1)*2=j*2+1+1:=by omega
  rw[d];exact this
theorem O7(a:List Y1)(c:Y1):KD a++[c.r,c.t]=KD (a++[c]):=by unfold KD;simp
theorem O8(a:List Y1)(j:Nat)(b:j<a.length)(ps qs:List IV):KD (a.set j ⟨a[j].r,a[j].t,ps,qs⟩)=KD a:=by
 induction a generalizing j with
 |nil=>exact absurd b (Nat.not_lt_zero _)
 |cons c r ih=>
  cases j with
  |zero=>rfl
  |succ j=>
   have:=ih j (by simpa using b);unfold KD at this ⊢;rw[List.set_cons_succ,List.flatMap_cons,List.flatMap_cons];exact congrArg (_++·) this
structure U9 (col:Nat->Nat) (w:World) (j:Nat) (c:Y1):Prop where
 r:Q9 (fun k=>col k=2+2*j) w c.r c.ps
 t:Q9 (fun k=>col k=3+2*j) w c.t c.qs
 e:c.ps.map Prod.fst=c.qs.map Prod.fst
 l:c.ps.length<=1000000
structure WldC (wb:Nat) (u w:World) (col:Nat->Nat) (xv mv cv:Value) (ys1 ys2:List Kk) (vs1 vs2:List Value) (cs:List Y1):Prop where
 nd:w.heap[wb]?=some (.cells #[xv,mv,.slice none 0 0,cv] 44)
 o1:w.ownsRow (wb+1) 53 1 xv vs1.length vs1
 o2:w.ownsRow (wb+1) 76 1 mv vs2.length vs2
 o4:w.ownsRow (wb+1) 82 2 cv cs.length (KD cs)
 r1:QZ (fun a u=>Uy (fun k=>col k=0) a w u) ys1 vs1
 r2:QZ (fun a u=>YX (fun k=>col k=0) a w u) ys2 vs2
 k1:∀ k,xv.ownBlock=some k->col k=1
 k2:∀ k,mv.ownBlock=some k->col k=1
 k4:∀ k,cv.ownBlock=some k->col k=1
 cu:∀ k,w.heap.size<=k∨k<=wb->col k=1
 kc:∀ j (hj:j < cs.length),U9 col w j cs[j]
 b:Below wb u w
section
variable {wb:Nat} {u w w' w5:World} {col:Nat->Nat} {xv mv cv v' x:Value} {ys1 ys2:List Kk} {y:Kk} {vs1 vs2:List Value} {cs:List Y1} {o:Obj}
theorem U9.keep{j:Nat}{c:Y1}(h:U9 col w j c)(hk:∀ k,col k≠1->k<w.heap.size->w'.heap[k]?=w.heap[k]?):U9 col w' j c:=
 ⟨h.r.keep (fun k hc hz=>hk k (by have hc':col k=_:=hc;omega) hz),h.t.keep (fun k hc hz=>hk k (by have hc':col k=_:=hc;omega) hz),h.e,h.l⟩
theorem WldC.below(h:WldC wb u w col xv mv cv ys1 ys2 vs1 vs2 cs)(c:Below w.heap.size w w'):WldC wb u w' col xv mv cv ys1 ys2 vs1 vs2 cs:=by
 have f:=Qh h.nd;refine⟨Zk h.nd c,YV h.o1 c,YV h.o2 c,YV h.o4 c,h.r1.imp fun a u d=>KC.keep _ _ _ _ _ d (fun k _ hk=>c.block k hk),h.r2.imp fun a u d=>Jm.keep _ _ _ _ _ d (fun k _ hk=>c.block k hk),h.k1,h.k2,h.k4,fun k hk=>h.cu k ?_,fun j e=>(h.kc j e).keep (fun k _ hk=>c.block k hk),h.b.trans (c.mono (Nat.le_of_lt f))⟩;rcases hk with hk|hk
 ·exact Qd (Qm c.size hk)
 ·exact Qc hk
theorem WldC.paint(h:WldC wb u w col xv mv cv ys1 ys2 vs1 vs2 cs){s0:Nat}(c:Nat->Nat)(m:∀ k,s0<=k->col k=1)(hw:wb<s0)(v:∀ k,xv.ownBlock=some k->k<s0)(s:∀ k,mv.ownBlock=some k->k<s0)(p:∀ k,cv.ownBlock=some k->k<s0):WldC wb u w (fun k=>if s0<=k/\k<w.heap.size then c k else col k) xv mv cv ys1 ys2 vs1 vs2 cs:=by
 have g:∀ {k:Nat} {n:Nat},n≠1->col k=n->(if s0<=k/\k<w.heap.size then c k else col k)=n:=fun {k n} hn d=>by
  rw[if_neg]
  ·exact d
  ·rintro⟨o,_⟩;rw[m k o]at d;exact hn d.symm
 have lo:∀ {k:Nat},k<s0->(if s0<=k/\k<w.heap.size then c k else col k)=col k:=fun {k} d=>if_neg (by omega)
 refine⟨h.nd,h.o1,h.o2,h.o4,h.r1.imp fun a u i=>KC.weak _ _ _ _ _ i (fun k d _=>g (by decide) d),h.r2.imp fun a u i=>Jm.weak _ _ _ _ _ i (fun k d _=>g (by decide) d),fun k d=>?_,fun k d=>?_,fun k d=>?_,fun k d=>?_,fun j q=>?_,h.b⟩
 ·rw[lo (v k d)];exact h.k1 k d
 ·rw[lo (s k d)];exact h.k2 k d
 ·rw[lo (p k d)];exact h.k4 k d
 ·show(if _ then _ else _)=1
  rw[if_neg (by omega)];exact h.cu k d
 ·have f:=h.kc j q;exact⟨f.r.into (fun k d _=>g (by omega) d),f.t.into (fun k d _=>g (by omega) d),f.e,f.l⟩
theorem GL(h:WldC wb u w col xv mv cv ys1 ys2 vs1 vs2 cs)(c:∀ k,v.ownBlock=some k->col k=1)(b:(w.alloc o).grownBy w5 v.ownBlock)(p:Nat)(z:Value):∀ k,col k≠1->k<w.heap.size->(w5.setCell ⟨wb,p,none⟩ z).heap[k]?=w.heap[k]?:=fun k hk hz=>by
 rw[Below.heap_setCell _ _ _ _ (fun e=>hk (by have a:k=wb:=e;rw[a];exact h.cu wb (Qc Qt))),b.block k (by simp;omega) (fun e=>hk (c k e.symm))];exact Below.heap_alloc _ _ _ hz
theorem WldC.app1(h:WldC wb u w col xv mv cv ys1 ys2 vs1 vs2 cs)(d:Uy (fun k=>col k=0) y w x)(hg:(w.alloc o).grownBy w5 xv.ownBlock)(l:w5.ownsRow (wb+1) 53 1 v' (vs1.length+1) (vs1++[x]))(hat:v'.ownBlock=xv.ownBlock\/v'.ownBlock=some (w.heap.size+1)):WldC wb u (w5.setCell ⟨wb,0,none⟩ v') col v' mv cv (ys1++[y]) ys2 (vs1++[x]) vs2 cs:=by
 have c:=Qh h.nd;have i:=K3 h.o1 c hg;have f:=GL h h.k1 hg 0 v';have m:w.heap.size<=w5.heap.size:=by have:=hg.size;simp at this;omega
 have hoth:∀ {v:Value} {e:TypeId} {size n:Nat} {xs:List Value},w.ownsRow (wb+1) e size v n xs->e≠53->(w5.setCell ⟨wb,0,none⟩ v').ownsRow (wb+1) e size v n xs:=fun {v e size n xs} hv he=>JA ((hv.alloc o).kept hg (by
  cases hb:v.ownBlock with
  |none=>exact Qd rfl
  | some k=>exact Qc (fun e2=>Un hv h.o1 he k hb e2.symm))) (Nat.lt_succ_self _)
 refine⟨Qv _ _ _ _ _ _ ((i wb (Nat.lt_succ_self _)).trans h.nd),JA (by simpa using l) (Nat.lt_succ_self _),hoth h.o2 (by decide),hoth h.o4 (by decide),?_,h.r2.imp fun a u d=>Jm.keep _ _ _ _ _ d (fun k hk c=>f k (by omega) c),fun k hk=>?_,h.k2,h.k4,fun k hk=>h.cu k ?_,fun j g=>(h.kc j g).keep f,?_⟩
 ·exact(QZ.snoc (P:=fun a u=>Uy (fun k=>col k=0) a w u) d h.r1).imp fun a u d=>KC.keep _ _ _ _ _ d (fun k hk c=>f k (by omega) c)
 ·rcases hat with hat|hat
  ·exact h.k1 k (by rw[<-hat];exact hk)
  ·rw[hat]at hk;have:w.heap.size+1=k:=by simpa using hk
   exact h.cu k (Qd (by omega))
 ·rcases hk with hk|hk
  ·rw[World.size_setCell]at hk;exact Qd (by omega)
  ·exact Qc hk
 ·exact(((h.b.alloc (Nat.le_of_lt c) o).grown hg (by simp;omega) (fun k hk=>by have:=(h.o1.lt k hk).1;omega)).setCell Qt _)
theorem WldC.app2(h:WldC wb u w col xv mv cv ys1 ys2 vs1 vs2 cs)(d:YX (fun k=>col k=0) y w x)(hg:(w.alloc o).grownBy w5 mv.ownBlock)(l:w5.ownsRow (wb+1) 76 1 v' (vs2.length+1) (vs2++[x]))(hat:v'.ownBlock=mv.ownBlock\/v'.ownBlock=some (w.heap.size+1)):WldC wb u (w5.setCell ⟨wb,1,none⟩ v') col xv v' cv ys1 (ys2++[y]) vs1 (vs2++[x]) cs:=by
 have c:=Qh h.nd;have i:=K3 h.o2 c hg;have f:=GL h h.k2 hg 1 v';have m:w.heap.size<=w5.heap.size:=by have:=hg.size;simp at this;omega
 have hoth:∀ {v:Value} {e:TypeId} {size n:Nat} {xs:List Value},w.ownsRow (wb+1) e size v n xs->e≠76->(w5.setCell ⟨wb,1,none⟩ v').ownsRow (wb+1) e size v n xs:=fun {v e size n xs} hv he=>JA ((hv.alloc o).kept hg (by
  cases hb:v.ownBlock with
  |none=>exact Qd rfl
  | some k=>exact Qc (fun e2=>Un hv h.o2 he k hb e2.symm))) (Nat.lt_succ_self _)
 refine⟨Qv _ _ _ _ _ _ ((i wb (Nat.lt_succ_self _)).trans h.nd),hoth h.o1 (by decide),JA (by simpa using l) (Nat.lt_succ_self _),hoth h.o4 (by decide),h.r1.imp fun a u d=>KC.keep _ _ _ _ _ d (fun k hk c=>f k (by omega) c),?_,h.k1,fun k hk=>?_,h.k4,fun k hk=>h.cu k ?_,fun j g=>(h.kc j g).keep f,?_⟩
 ·exact(QZ.snoc (P:=fun a u=>YX (fun k=>col k=0) a w u) d h.r2).imp fun a u d=>Jm.keep _ _ _ _ _ d (fun k hk c=>f k (by omega) c)
 ·rcases hat with hat|hat
  ·exact h.k2 k (by rw[<-hat];exact hk)
  ·rw[hat]at hk;have:w.heap.size+1=k:=by simpa using hk
   exact h.cu k (Qd (by omega))
 ·rcases hk with hk|hk
  ·rw[World.size_setCell]at hk;exact Qd (by omega)
  ·exact Qc hk
 ·exact(((h.b.alloc (Nat.le_of_lt c) o).grown hg (by simp;omega) (fun k hk=>by have:=(h.o2.lt k hk).1;omega)).setCell Qt _)
theorem DO{b:TypeId}{size:Nat}{xs:List Value}(h:w.ownsRow (wb+1) b size cv n xs)(c:wb<w.heap.size)(a:(w.alloc o).grownBy w5 cv.ownBlock):∀ k,k<wb+1->w5.heap[k]?=w.heap[k]?:=fun k hk=>by
 rw[a.block k (by simp;omega) (fun e=>by have:=(h.lt k e.symm).1;omega)];exact Below.heap_alloc _ _ _ (by omega)
theorem WldC.app4(h:WldC wb u w col xv mv cv ys1 ys2 vs1 vs2 cs){c:Y1}(f:U9 col w cs.length c)(hg:(w.alloc o).grownBy w5 cv.ownBlock)(p:w5.ownsRow (wb+1) 82 2 v' (cs.length+1) (KD cs++[c.r,c.t]))(hat:v'.ownBlock=cv.ownBlock\/v'.ownBlock=some (w.heap.size+1)):WldC wb u (w5.setCell ⟨wb,3,none⟩ v') col xv mv v' ys1 ys2 vs1 vs2 (cs++[c]):=by
 have d:=Qh h.nd;have m:=DO h.o4 d hg;have g:=GL h h.k4 hg 3 v';have q:w.heap.size<=w5.heap.size:=by have:=hg.size;simp at this;omega
 have hoth:∀ {v:Value} {e:TypeId} {size n:Nat} {xs:List Value},w.ownsRow (wb+1) e size v n xs->e≠82->(w5.setCell ⟨wb,3,none⟩ v').ownsRow (wb+1) e size v n xs:=fun {v e size n xs} hv he=>JA ((hv.alloc o).kept hg (by
  cases hb:v.ownBlock with
  |none=>exact Qd rfl
  | some k=>exact Qc (fun e2=>Un hv h.o4 he k hb e2.symm))) (Nat.lt_succ_self _)
 refine⟨Qv _ _ _ _ _ _ ((m wb (Nat.lt_succ_self _)).trans h.nd),hoth h.o1 (by decide),hoth h.o2 (by decide),JA (by rw[Qk,<-O7];exact p) (Nat.lt_succ_self _),h.r1.imp fun a u f=>KC.keep _ _ _ _ _ f (fun k hk d=>g k (by omega) d),h.r2.imp fun a u f=>Jm.keep _ _ _ _ _ f (fun k hk d=>g k (by omega) d),h.k1,h.k2,fun k hk=>?_,fun k hk=>h.cu k ?_,fun j i=>?_,?_⟩
 ·rcases hat with hat|hat
  ·exact h.k4 k (by rw[<-hat];exact hk)
  ·rw[hat]at hk;have:w.heap.size+1=k:=by simpa using hk
   exact h.cu k (Qd (by omega))
 ·rcases hk with hk|hk
  ·rw[World.size_setCell]at hk;exact Qd (by omega)
  ·exact Qc hk
 ·rw[Qk]at i;by_cases hjl:j<cs.length
  ·rw[List.getElem_append_left hjl];exact(h.kc j hjl).keep g
  ·have l:j=cs.length:=by simp at i;omega
   subst l;rw[List.getElem_append_right Qt];simp only[Nat.sub_self,List.getElem_cons_zero];exact f.keep g
 ·exact(((h.b.alloc (Nat.le_of_lt d) o).grown hg (by simp;omega) (fun k hk=>by have:=(h.o4.lt k hk).1;omega)).setCell Qt _)
theorem WldC.wrote(h:WldC wb u w col xv mv cv ys1 ys2 vs1 vs2 cs){j:Nat}(B:j<cs.length){qs:List IV}(g:Fr (fun k _=>col k=2+2*j\/col k=3+2*j) w w')(D:Q9 (fun k=>col k=2+2*j) w' cs[j].r ps)(E:Q9 (fun k=>col k=3+2*j) w' cs[j].t qs)(he:ps.map Prod.fst=qs.map Prod.fst)(C:ps.length<=1000000):WldC wb u w' col xv mv cv ys1 ys2 vs1 vs2 (cs.set j ⟨cs[j].r,cs[j].t,ps,qs⟩):=by
 have c:=Qh h.nd
 have d:∀ k,col k≠2+2*j->col k≠3+2*j->k<w.heap.size->w'.heap[k]?=w.heap[k]?:=fun k z A hk=>by
  obtain⟨s,y⟩:∃ s,w.heap[k]?=some s:=⟨w.heap[k],Array.getElem?_eq_getElem hk⟩;rw[y];exact g.block k s y (fun e=>e.elim z A)
 have p:∀ {v:Value} {e:TypeId} {size n:Nat} {xs:List Value},w.ownsRow (wb+1) e size v n xs->(∀ k,v.ownBlock=some k->col k=1)->w'.ownsRow (wb+1) e size v n xs:=fun {v e size n xs} hv hc=>Kw hv fun k hk=>d k (by rw[hc k hk];omega) (by rw[hc k hk];omega) (hv.lt k hk).2
 refine⟨(d wb (by rw[h.cu wb (Qc Qt)];omega) (by rw[h.cu wb (Qc Qt)];omega) c).trans h.nd,p h.o1 h.k1,p h.o2 h.k2,by rw[List.length_set,O8 cs j B];exact p h.o4 h.k4,h.r1.imp fun a u q=>KC.keep _ _ _ _ _ q (fun k hk c=>d k (by omega) (by omega) c),h.r2.imp fun a u q=>Jm.keep _ _ _ _ _ q (fun k hk c=>d k (by omega) (by omega) c),h.k1,h.k2,h.k4,fun k hk=>h.cu k ?_,fun i x=>?_,?_⟩
 ·rcases hk with hk|hk
  ·exact Qd (Qm g.size hk)
  ·exact Qc hk
 ·rw[List.length_set]at x;by_cases hij:j=i
  ·subst hij;rw[List.getElem_set_self];exact⟨D,E,he,C⟩
  ·rw[List.getElem_set_ne hij];have f:=h.kc i x;exact⟨f.r.keep (fun k hk c=>d k (by have m:col k=_:=hk;omega) (by have m:col k=_:=hk;omega) c),f.t.keep (fun k hk c=>d k (by have m:col k=_:=hk;omega) (by have m:col k=_:=hk;omega) c),f.e,f.l⟩
 ·refine h.b.trans (g.below (fun k o hk=>?_) (Nat.le_of_lt c));apply Classical.byContradiction;intro F;have:=h.cu k (Qc (by omega));omega
end
def Yp(wb:Nat)(u:World)(N:Nat)(w:World):Prop:=
 ∃ col xv mv cv ys vs1 vs2 cs,WldC wb u w col xv mv cv ys ys vs1 vs2 cs/\(∀ y∈ys,∃ t:L8,t.length<=600/\prL t=.ok y)/\ys.length<=N/\cs.length<=N
theorem Yp.below{a:Nat}{u w w':World}{N:Nat}(h:Yp a u N w)(g:Below w.heap.size w w'):Yp a u N w':=by
 obtain⟨b,l,i,d,m,j,k,c,e,f⟩:=h;exact⟨b,l,i,d,m,j,k,c,e.below g,f⟩
theorem Yp.more{c:Nat}{u:World}{N a:Nat}(h:Yp c u N w)(b:N<=a):Yp c u a w:=by
 obtain⟨d,o,l,f,p,m,n,e,g,i,j,k⟩:=h;exact⟨d,o,l,f,p,m,n,e,g,i,Qm j b,Qm k b⟩
end
section
open Go.ChangeShapes Go.WideShapes Go.ChangeAt Go.WideMaps Go.WideElems Go.RowKit Go.Joins Go.Deep
theorem Tryz.cellsStrL:prog.cellsOf 9=1:=by kernel_rfl
theorem Tryz.bytesStrL:prog.bytesOf 9=16:=by kernel_rfl
theorem Tryz.cellsIntL:prog.cellsOf 3=1:=by kernel_rfl
theorem Tryz.cellsBoolL:prog.cellsOf 4=1:=by kernel_rfl
theorem Tryz.cellsStrsL:prog.cellsOf 61=1:=by kernel_rfl
theorem Tryz.cellsHdrL:prog.cellsOf 50=2:=by kernel_rfl
theorem Tryz.bytesHdrL:prog.bytesOf 50=32:=by kernel_rfl
theorem Tryz.cellsHdrsL:prog.cellsOf 26=1:=by kernel_rfl
theorem Tryz.cellsMsgL:prog.cellsOf 28=4:=by kernel_rfl
theorem Tryz.cellsInsL:prog.cellsOf 63=7:=by kernel_rfl
theorem Tryz.bytesInsL:prog.bytesOf 63=88:=by kernel_rfl
theorem Tryz.cellsInssL:prog.cellsOf 45=1:=by kernel_rfl
theorem Tryz.cellsOpL:prog.cellsOf 47=9:=by kernel_rfl
theorem Tryz.bytesOpL:prog.bytesOf 47=128:=by kernel_rfl
theorem NT:reachBytes=140737488351232:=rfl
theorem DP{H:Type}{P:Program}{e:TypeId}:∀ {l:List (DataW H)} {d:DataW H},d∈l->∀ n∈d.weights P e,n∈DataW.weightsAll P e l
 |d'::r,d,hd,n,hn=>by
  simp only[DataW.weightsAll,List.mem_append];rcases List.mem_cons.1 hd with rfl|h
  ·exact Qd hn
  ·exact Qc (DP h n hn)
theorem VT(s:ByteArray):sA s.data.toList=s:=by
 cases s;rfl
theorem NU{C:Bool}{α:Type}(s e:TypeId)(sz r:Nat)(t:prog.underlying s=some (.slice e))(V:prog.cellsOf e=sz)(K:prog.bytesOf e=r)(T:0<sz)(Q:α->List Value->Prop)(p:α->Prop)
 (hel0:∀ n' cs y',DataW.trod enc prog W 0 (fun _=>true) C n' e cs=some y'->(∀ k∈y'.1.weights prog e,k<=reachBytes)->∃ x:α,Q x cs/\p x)
 (h:DataW.trod enc prog W 0 (fun _=>true) C n s [v]=some y) (hw:∀ k∈y.1.weights prog s,k<=reachBytes) :
 ∃ l:List α,(∃ a c,v=.slice a l.length c/\(l≠[]->∃ g off,a=some ⟨g,off,none⟩/\∀ j (z:j<l.length),∃ cs,Q l[j] cs/\∀ i,i<sz->W.cell? ⟨g,off+j*sz+i,none⟩=cs[i]?))/\(∀ x∈l,p x)/\l.length*r<=reachBytes:=by
 rcases open_slice t h with⟨d,o⟩ | ⟨a,len0,F,m,nn,D,Z,d,_,hl,hm,S,o,B⟩
 ·injection d with d
  subst d;exact⟨[],⟨none,0,rfl,fun h=>absurd rfl h⟩,fun x o=>(nomatch o),by simp⟩
 ·injection d with d
  subst d;have R:m=F:=by rw[S];rfl
  subst R;rw[V]at B;have hwy:∀ k∈DataW.weights prog s (.slice ((List.range len0).map D) ((List.range (m - len0)).map fun j=>D (len0+j))),k<=reachBytes:=fun k hk=>hw k (by rw[o];exact hk)
  have N:(len0+(m - len0))*r<=reachBytes:=hwy _ (by simp[DataW.weights,t,K]);have P:len0*r<=reachBytes:=Qm (Nat.mul_le_mul_right _ (by omega)) N
  have hex:∀ i,i<len0->∃ x:α,p x/\∃ cs,Q x cs/\∀ j,j<sz->W.cell? ((a.add (i*sz)).add j)=cs[j]?/\∃ u,cs[j]?=some u:=fun i hi=>by
   obtain⟨G,q,ht⟩:=B i (by omega);have hmem:D i∈(List.range len0).map D:=List.mem_map.2 ⟨i,List.mem_range.2 hi,rfl⟩
   obtain ⟨x,hq,hsm⟩:=hel0 _ _ _ ht (fun k hk=>hwy k (by
    simp only[DataW.weights,t,List.mem_cons,List.mem_append]
    exact Qc (Qd (DP hmem k hk))))
   obtain⟨aa,_,L⟩:=World.cells?_some q;refine⟨x,hsm,G,hq,fun j z=>⟨L j (by omega),?_⟩⟩;exact⟨_,List.getElem?_eq_getElem (by omega)⟩
  by_cases h0:len0=0
  ·subst h0;exact⟨[],⟨some a,m,rfl,fun h=>absurd rfl h⟩,fun x o=>(nomatch o),by simp⟩
  have E:0<len0:=Nat.pos_of_ne_zero h0;have⟨x0,_⟩:=hex 0 E
  obtain⟨f,w⟩:∃ f:Nat->α,∀ i,i<len0->p (f i)/\∃ cs,Q (f i) cs/\∀ j,j<sz->W.cell? ((a.add (i*sz)).add j)=cs[j]?/\∃ u,cs[j]?=some u:=
   ⟨fun i=>if hi:i < len0 then (hex i hi).choose else x0,fun i hi=>by
    show p (dite _ _ _)/\∃ cs,Q (dite _ _ _) cs/\_
    rw[dif_pos hi]
    exact (hex i hi).choose_spec⟩
  obtain⟨b,off,Y⟩:=a
  have U:Y=none:=by
   obtain⟨_,cs,_,q⟩:=w 0 E;obtain⟨A,u,J⟩:=q 0 T;rw[J]at A;have:=World.cell?_spot A;simpa[Addr.add]using this
  subst U;refine⟨(List.range len0).map f,⟨some ⟨b,off,none⟩,m,by simp,fun _=>⟨b,off,rfl,fun j z=>?_⟩⟩,fun x X=>?_,by simpa using P⟩
  ·have M:j<len0:=by simpa using z
   obtain⟨_,cs,hq,q⟩:=w j M;refine⟨cs,by simpa using hq,fun i hi=>?_⟩;have:=(q i hi).1;rw[Addr.add_lit,Addr.add_lit]at this;exact this
  ·obtain⟨i,hi,rfl⟩:=List.mem_map.1 X;exact(w i (List.mem_range.1 hi)).1
theorem DQ{o:Bool}(h:DataW.trod enc prog W 0 (fun _=>true) o n 61 [v]=some y)(hw:∀ k∈y.1.weights prog 61,k<=reachBytes) :
 ∃ xs:Qa,JE W v xs/\xs.length<=140737488355328/\∀ t∈xs,t.length<=140737488355328:=by
 have u:=NT
 obtain ⟨l,⟨a,c,hv,hc⟩,hs,hl⟩:=NU (α:=L8) 61 9 1 16 underlying61 Tryz.cellsStrL Tryz.bytesStrL (by decide) (fun x cs=>cs=[.string (sA x)]) (fun x=>x.length<=140737488355328) (fun n' cs y' ht hwt=>by
  obtain⟨b,e,f,_⟩:=DataW.trod_string underlying9 ht;have r:y'.1.weights prog 9=[b.data.toList.length]:=by rw[f];simp[DataW.weights]
  rw[r]at hwt;have:=hwt _ (List.mem_singleton.2 rfl)
  exact ⟨b.data.toList,by rw [VT];exact e,by omega⟩) h hw
 refine⟨l,⟨a,c,hv,fun q=>?_⟩,by omega,hs⟩;obtain⟨g,s,i,m⟩:=hc q;refine⟨g,s,i,fun j p=>?_⟩;obtain⟨cs,rfl,d⟩:=m j p;have:=d 0 (by decide);rw[Nat.mul_one,Nat.add_zero]at this;exact this
theorem O9{z:Bool}(h:DataW.trod enc prog W 0 (fun _=>true) z n 26 [v]=some y)(hw:∀ k∈y.1.weights prog 26,k<=reachBytes) :
 ∃ hs:List (L8×L8),Kz W v hs/\hs.length<=140737488355328/\∀ t∈hs,t.1.length<=140737488355328/\t.2.length<=140737488355328:=by
 have F:=NT
 obtain ⟨l,⟨a,c,hv,hc⟩,hs,hl⟩:=NU (α:=L8×L8) 26 50 2 32 underlying26 Tryz.cellsHdrL Tryz.bytesHdrL (by decide) (fun x cs=>cs=[.string (sA x.1),.string (sA x.2)]) (fun x=>x.1.length<=140737488355328∧x.2.length<=140737488355328) (fun n' cs y' ht hwt=>by
  obtain⟨K,L,m,D,hl,s,e⟩:=trod_struct2 underlying50 ht;rw[Tryz.cellsHdrL]at hl
  obtain⟨b,d,rfl⟩:∃ b d,cs=[b,d]:=by
   match cs,hl with
   | [b,d],_=>exact⟨b,d,rfl⟩
  obtain⟨b0,o,q,_⟩:=DataW.trod_string underlying9 s;obtain⟨b1,p,r,_⟩:=DataW.trod_string underlying9 e;rw[Tryz.cellsStrL]at o p;have f:[b]=[Value.string b0]:=o;have i:[d]=[Value.string b1]:=p;injection f with f
  injection i with i
  subst f i q r;have C:y'.1.weights prog 50=[b0.data.toList.length,b1.data.toList.length]:=by rw[D];simp[DataW.weights,DataW.weightsEach,underlying50]
  rw[C]at hwt;have G:=hwt b0.data.toList.length (by simp);have J:=hwt b1.data.toList.length (by simp)
  exact ⟨(b0.data.toList,b1.data.toList),by dsimp only;rw [VT,VT],by dsimp only;omega,by dsimp only;omega⟩) h hw
 refine⟨l,⟨a,c,hv,fun B=>?_⟩,by omega,hs⟩;obtain⟨g,E,u,w⟩:=hc B;refine⟨g,E,u,fun j A=>?_⟩;obtain⟨cs,rfl,e⟩:=w j A;exact⟨e 0 (by decide),e 1 (by decide)⟩
def DR(i:Uw):Prop:=(i.as'.length<=140737488355328/\∀ t∈i.as',t.length<=140737488355328)/\(i.bs.length<=140737488355328/\∀ t∈i.bs,t.length<=140737488355328)
theorem Pa{Y:Bool}(h:DataW.trod enc prog W 0 (fun _=>true) Y n 45 [v]=some y)(hw:∀ k∈y.1.weights prog 45,k<=reachBytes) :
 ∃ l:List Uw,U5 W v l/\l.length<=140737488355328/\∀ i∈l,DR i:=by
 have hr:=NT
 obtain ⟨l,⟨a,c,hv,hc⟩,hs,hl⟩:=NU (α:=Uw) 45 63 7 88 underlying45 Tryz.cellsInsL Tryz.bytesInsL (by decide) (fun x cs=>cs=[.int .i64 x.op,.int .i64 x.n,.int .i64 x.tag,.bool x.oct,x.av,x.bv,.int .i64 x.pos]∧JE W x.av x.as'∧JE W x.bv x.bs) DR (fun n' cs y' ht hwt=>by
  obtain⟨Q,m,_,hx,hl,aa,d⟩:=DataW.trod_struct underlying63 ht;rw[Tryz.cellsInsL]at hl
  obtain⟨o,p,q,r,c4,c5,s,rfl⟩:∃ o p q r c4 c5 s,cs=[o,p,q,r,c4,c5,s]:=by
   match cs,hl with
   | [o,p,q,r,c4,c5,s],_=>exact⟨o,p,q,r,c4,c5,s,rfl⟩
  obtain⟨w,z,A,B,e,f,C,rfl⟩:∃ w z A B e f C,Q=[w,z,A,B,e,f,C]:=by
   match Q,aa with
   | [w,z,A,B,e,f,C],_=>exact⟨w,z,A,B,e,f,C,rfl⟩
  have L:=d 0 _ rfl;have t:=d 1 _ rfl;have u:=d 2 _ rfl;have b:=d 3 _ rfl;have M:=d 4 _ rfl;have N:=d 5 _ rfl;have P:=d 6 _ rfl;simp only[Tryz.cellsStrsL,Tryz.cellsIntL,Tryz.cellsBoolL,List.drop,List.take,List.getElem?_cons_zero,List.getElem?_cons_succ]at L t u b M N P;obtain⟨i0,D,R,_⟩:=DataW.trod_int underlying3 L;obtain⟨i1,E,S,_⟩:=DataW.trod_int underlying3 t;obtain⟨i2,F,T,ae⟩:=DataW.trod_int underlying3 u;obtain⟨b3,G,U⟩:=DataW.trod_bool underlying4 b;obtain⟨i6,J,V,_⟩:=DataW.trod_int underlying3 P;injection D with D
  injection E with E
  injection F with F
  injection G with G
  injection J with J
  subst D E F G J R S T U V
  have ac:y'.1.weights prog 63=e.1.weights prog 61++f.1.weights prog 61:=by
   rw[hx];simp[DataW.weights,DataW.weightsEach,underlying63]
  rw[ac]at hwt;obtain⟨as',ha,ha1,ha2⟩:=DQ M (fun k K=>hwt k (List.mem_append_left _ K));obtain⟨bs,hb,hb1,hb2⟩:=DQ N (fun k K=>hwt k (List.mem_append_right _ K))
  exact ⟨⟨i0,i1,i2,b3,c4,c5,as',bs,i6⟩,⟨rfl,ha,hb⟩,⟨ha1,ha2⟩,⟨hb1,hb2⟩⟩) h hw
 refine⟨l,⟨a,c,hv,fun ab=>?_⟩,by omega,hs⟩;obtain⟨g,ad,ha,X⟩:=hc ab;refine⟨g,ad,ha,fun j Z=>?_⟩;obtain⟨cs,⟨rfl,t,u⟩,b⟩:=X j Z;exact⟨b 0 (by decide),b 1 (by decide),b 2 (by decide),b 3 (by decide),b 4 (by decide),b 5 (by decide),b 6 (by decide),t,u⟩
theorem Pb{r:Reach}{b0:Nat}{d:DataW H}{p:List MemPlace}(hv:Value.okWide prog W r b0 22 v)(h:DataW.Trod enc prog W 0 (fun _=>true) true 22 v d p)(hw:∀ k∈d.weights prog 22,k<=reachBytes) :
 ∃ l:List OpD,Ux W v l/\(∀ x∈l,U6 x)/\l.length*128<=140737488351232:=by
 have hr:=NT;obtain⟨ab,ae⟩:=h;obtain⟨a0,ap,aa,ai⟩:∃ a n c,v=.slice a n c:=okWide_slice underlying22 hv;subst ai;have hf':DataW.trod enc prog W 0 (fun _=>true) true ab 22 [.slice a0 ap aa]=some (d,p):=ae
 obtain ⟨l,⟨a,c,hv1,hc⟩,hs,hl⟩:=NU (α:=OpD) 22 47 9 128 underlying22 Tryz.cellsOpL Tryz.bytesOpL (by decide) (fun x cs=>cs=[.int .i64 x.kind,.int .i64 x.a,.int .i64 x.b,.string (sA x.s),.string (sA x.fr),.string (sA x.tt),.int .i64 x.sz,x.hv,x.cv]∧Kz W x.hv x.hs∧U5 W x.cv x.code) U6 (fun n' cs y' ht hwt=>by
  obtain⟨xs,m,_,hx,hl,af,f⟩:=DataW.trod_struct underlying47 ht;rw[Tryz.cellsOpL]at hl
  obtain⟨w,y,z,A,B,C,D,o,q,rfl⟩:∃ w y z A B C D o q,cs=[w,y,z,A,B,C,D,o,q]:=by
   match cs,hl with
   | [w,y,z,A,B,C,D,o,q],_=>exact⟨w,y,z,A,B,C,D,o,q,rfl⟩
  obtain⟨J,K,L,M,t,u,rfl⟩:∃ J K L M t u,xs=[J,K,L,M,t,u]:=by
   match xs,af with
   | [J,K,L,M,t,u],_=>exact⟨J,K,L,M,t,u,rfl⟩
  have h0:=f 0 _ rfl;have E:=f 1 _ rfl;have F:=f 2 _ rfl;have e:=f 3 _ rfl;have h4:=f 4 _ rfl;have h5:=f 5 _ rfl;simp only[Tryz.cellsStrL,Tryz.cellsIntL,Tryz.cellsMsgL,Tryz.cellsInssL,List.drop,List.take,List.getElem?_cons_zero,List.getElem?_cons_succ]at h0 E F e h4 h5;obtain⟨i0,R,f0,_⟩:=DataW.trod_int underlying3 h0;obtain⟨i1,S,f1,w1⟩:=DataW.trod_int underlying3 E;obtain⟨i2,T,f2,ar⟩:=DataW.trod_int underlying3 F;obtain⟨b3,U,f3,_⟩:=DataW.trod_string underlying9 e;obtain⟨zs,m4,_,ao,au,ag,G⟩:=DataW.trod_struct underlying28 h4
  obtain⟨N,P,Q,i,rfl⟩:∃ N P Q i,zs=[N,P,Q,i]:=by
   match zs,ag with
   | [N,P,Q,i],_=>exact⟨N,P,Q,i,rfl⟩
  have g0:=G 0 _ rfl;have g1:=G 1 _ rfl;have g2:=G 2 _ rfl;have g3:=G 3 _ rfl;simp only[Tryz.cellsStrL,Tryz.cellsIntL,Tryz.cellsHdrsL,List.drop,List.take,List.getElem?_cons_zero,List.getElem?_cons_succ]at g0 g1 g2 g3;obtain⟨b4,V,f4,_⟩:=DataW.trod_string underlying9 g0;obtain⟨b5,X,f5,_⟩:=DataW.trod_string underlying9 g1;obtain⟨i6,Y,f6,_⟩:=DataW.trod_int underlying3 g2;injection R with R
  injection S with S
  injection T with T
  injection U with U
  injection V with V
  injection X with X
  injection Y with Y
  subst R S T U V X Y f0 f1 f2 f3 f4 f5 f6
  have ak:t.1.weights prog 28=[b4.data.toList.length,b5.data.toList.length]++i.1.weights prog 26:=by
   rw[ao];simp[DataW.weights,DataW.weightsEach,underlying28]
  have aj:y'.1.weights prog 47=[b3.data.toList.length]++(([b4.data.toList.length,b5.data.toList.length]++i.1.weights prog 26)++u.1.weights prog 45):=by
   rw[hx,<-ak];simp[DataW.weights,DataW.weightsEach,underlying47]
  rw[aj]at hwt;have k3:=hwt b3.data.toList.length (by simp);have k4:=hwt b4.data.toList.length (by simp);have k5:=hwt b5.data.toList.length (by simp);obtain⟨hs,hh,hh1,hh2⟩:=O9 g3 (fun k Z=>hwt k (by simp only[List.mem_append];exact Qc (Qd (Qc Z))));obtain⟨cd,ac,hcd1,hcd2⟩:=Pa h5 (fun k Z=>hwt k (by simp only[List.mem_append];exact Qc (Qc Z)));simp only[Lit.wf,Bool.and_eq_true,decide_eq_true_eq]at w1 ar;have m1:IntKind.i64.min = -9223372036854775808:=rfl;have m2:IntKind.i64.max=9223372036854775807:=rfl;refine⟨⟨i0,i1,i2,b3.data.toList,b4.data.toList,b5.data.toList,i6,o,hs,q,cd⟩,⟨?_,hh,ac⟩,?_⟩
  ·dsimp only;rw[VT,VT,VT]
  ·exact ⟨by show _<=i1∧i1<=_;omega,by show _<=i2∧i2<=_;omega,by show b3.data.toList.length<=_;omega,by show b4.data.toList.length<=_;omega,by show b5.data.toList.length<=_;omega,hh1,hh2,hcd1,hcd2⟩) hf' hw
 refine⟨l,⟨a,c,hv1,fun ah=>?_⟩,hs,by omega⟩;obtain⟨g,aq,ha,ad⟩:=hc ah;refine⟨g,aq,ha,fun j hj=>?_⟩;obtain⟨cs,⟨rfl,E,F⟩,e⟩:=ad j hj;exact⟨e 0 (by decide),e 1 (by decide),e 2 (by decide),e 3 (by decide),e 4 (by decide),e 5 (by decide),e 6 (by decide),e 7 (by decide),e 8 (by decide),E,F⟩
end
end Go.Proofs.YtgnkjijocdmniaaGreatDoor
