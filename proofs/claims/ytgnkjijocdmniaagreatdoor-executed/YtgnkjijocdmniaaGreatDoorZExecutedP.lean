import Derived.Test.YtgnkjijocdmniaaGreatDoorRows
import Derived.LaidMore
import Derived.Stop.LaidErr
import Derived.HandedShaped
import Derived.Test.YtgnkjijocdmniaaGreatDoorTie
import Derived.Test.YtgnkjijocdmniaaGreatDoorCards
import Derived.Test.YtgnkjijocdmniaaGreatDoorVExec
import Derived.Test.YtgnkjijocdmniaaGreatDoorZXPExec
namespace Go.Proofs.YtgnkjijocdmniaaGreatDoor
set_option linter.unusedVariables false
set_option linter.unusedSimpArgs false
set_option maxRecDepth 100000
set_option maxHeartbeats 4000000
open Go.Proofs.Tryz
open Go.RowKit
attribute [local go_sem ↓] Go.wp_at_zero Go.wp_at_succ
variable{W w w':World}{v:Value}
section
open Go.ChangeShapes Go.WideShapes Go.ChangeAt Go.WideMaps Go.WideElems Go.RowKit
open Go.ChangeMaps (open_string shut_string)
theorem Tryz.own:ownKnob prog.godebug=none:=by kernel_rfl
theorem Tryz.gErr:prog.globalNamed "errors.errorType"=some 0:=by kernel_rfl
theorem Tryz.gPow:prog.globalNamed "internal/strconv.uint64pow10"=some 2:=by kernel_rfl
theorem Tryz.rtypeT:(prog.cutTypes.find? (·.1 == "internal/reflectlite.rtype")).map (·.2)=some 238:=by kernel_rfl
theorem Tryz.tyCount:prog.types.size=418:=by kernel_rfl
theorem Tryz.oneRow:((List.range 418).filter fun t=>prog.rowNamed t [101,114,114,111,114])=[84]:=by kernel_rfl
theorem Tryz.powTy:(prog.globals[2]?).map (·.type)=some 385:=by kernel_rfl
def Gk:List (String×DataW Unit):=[("math/bits.deBruijn32tab",Rows.laid_math_bits_deBruijn32tab),("math/bits.deBruijn64tab",Rows.laid_math_bits_deBruijn64tab),("internal/strconv.uint64pow10",Rows.laid_internal_strconv_uint64pow10),("errors.errorType",Rows.laid_errors_errorType)]
theorem Wb(h:laidMetH prog Gk W):Xk W/\Tab W:=by
 have b:laidMet prog [("math/bits.deBruijn32tab",Rows.laid_math_bits_deBruijn32tab),("math/bits.deBruijn64tab",Rows.laid_math_bits_deBruijn64tab),("internal/strconv.uint64pow10",Rows.laid_internal_strconv_uint64pow10)] W/\handlesMet prog [("errors.errorType",Rows.laid_errors_errorType)] W:=h;refine⟨?_,?_⟩
 ·obtain⟨l,u,m,d,e,f,g,a⟩:=b.2 _ (List.mem_singleton.2 rfl);have i:l=[101,114,114,111,114]:=(Option.some.inj d).symm;subst i;obtain rfl:=Option.some.inj (Tryz.rtypeT.symm.trans e);have c:m∈(List.range 418).filter fun t=>prog.rowNamed t [101,114,114,111,114]:=List.mem_filter.2 ⟨List.mem_range.2 (by rw[<-Tryz.tyCount];exact f),g⟩
  rw[Tryz.oneRow]at c;obtain rfl:=XH c;have k:typeHandle prog 84=.pointer (some ⟨5,84,none⟩):=by kernel_rfl
  rw[k]at a;have:=World.var?_cell Tryz.gErr a 0;unfold Xk;simpa using this
 ·have j:=laidMet.tail (laidMet.tail b.1);exact Lib.tabIs_of_head Tryz.gPow Tryz.powTy underlying385 underlying379 (by kernel_rfl) (by kernel_rfl) j
theorem SU(os:Os)(args:Array Value):laidMetH prog Gk ((World.doorLaid prog 400 os).forCall (fun _ _=>0) ⟨#[],args,[]⟩).memory:=
 laidMetH_of_parts3 (fuel:=8) (laidMet_of_run' 70 (by kernel_rfl) (by kernel_rfl)) (by kernel_rfl) (by kernel_rfl)
theorem PL{H:Type}{enc:TypeId×Value->H}{a:Assume}{C:Checked}{os:Os}{f:FuncId}{fn:Func}{s:ChangeSpec}{conds:List PathCond}{apart fresh handsOn again:Bool}{X:World->Array Value->Prop}
 (d:∀(w w':World) (args:Array Value),w.heap=w'.heap->X w args->X w' args)
 (y:ownKnob C.prog.godebug=none) (z:os.Started) (x:C.prog.inits.idxOf? f=none) (g:C.prog.funcs[f]?=some fn)
 (witness:∃ (w:World) (tape:Tape) (i:Input),w.os=os∧(w.forCall tape i).Shaped C.prog∧i.vars=[]∧Input.okWide C.prog (w.forCall tape i) .any w.heap.size f i∧
   ((s.pre enc C.prog fn conds apart (w.forCall tape i).memory i.args∧X (w.forCall tape i).memory i.args)∧sizedMet enc C.prog fn (OpenSpec.ofChange s) apart (w.forCall tape i).memory i.args)∧a.holds C.prog (lone (Frame.enter C.prog f i.args .normal) [] (w.forCall tape i)))
 (contract:∀ (W:World) (base:Nat) (args:Array Value) (ds gs:List (DataW H)) (before:List MemPlace),
   (∀(j:Nat) t v,fn.params[j]?=some t->args[j]?=some v->Value.okWide C.prog W .any base t v)->
   DataW.Whole enc C.prog fn.params.toList s.vars apart W args.toList ds gs before->
   (DataW.weightsEach C.prog (fn.params.toList++s.plain.varTypes C.prog) (ds++gs)).all (·<=reachBytes)=true->X W args->W.ShapedOpen C.prog->
   Calls C.prog f args W fun e W'=>∃ v,e=.returned v∧s.post enc C.prog fn apart fresh handsOn again W args v W') :
 ReturnsInHanded a C os f .any (fun w args=>(s.pre enc C.prog fn conds apart w args/\X w args)/\sizedMet enc C.prog fn (OpenSpec.ofChange s) apart w args) (s.post enc C.prog fn apart fresh handsOn again):=by
 refine returnsInHanded_of_calls y z x witness ?_;intro w tape i _ o _ l n _;obtain⟨_,_,_,c,k,_,_,_,_,p⟩:=l;have e:c=fn:=Option.some.inj (k.symm.trans g);subst e;obtain⟨⟨⟨ds,gs,before,b,A⟩,r⟩,u⟩:=n;have q:=DataW.Whole.of_heap (w':=w.forCall tape i) (by rfl) b;refine(contract (w.forCall tape i) w.heap.size i.args ds gs before p q (u.weights b) (d _ _ _ (by rfl) r) o).mono fun e W' ⟨v,he,m⟩=>?_
 subst he;exact ChangeSpec.post_blind m
theorem T3(h:W.ShapedOpen prog):∃ m,W.cell? ⟨1,0,none⟩=some (.int .i64 m):=
 cell_of_shapedOpen_int (g:=1) (t:=3) (zero:=#[.int .i64 0]) h (by rw[show prog.globals.size=5 by kernel_rfl];decide) (by kernel_rfl) rfl (by kernel_rfl) (by kernel_rfl) underlying3
end
def Uo(w:World)(v:Value)(ops:List Ins):Prop:=∃ a c,v=.slice a ops.length c/\∀ j (hj:j<ops.length),∃ g off av bv,a=some ⟨g,off,none⟩/\Ui w g (off+j*7) ops[j] av bv/\TxO w av ops[j].a/\TxO w bv ops[j].b/\ops[j].a.length<=1000000/\ops[j].b.length<=1000000
theorem Jd.codR{B:Nat}{i:Value}{f:List Ins}(h:Jd w B i f):Uo w i f:=by
 obtain⟨a,c,k⟩:=h.codeO.len;refine⟨a,c,k,fun j p=>?_⟩;obtain⟨g,q,m,n,l,_,_,o,d,_,_⟩:=h.get p;rw[k]at l;injection l with e
 exact⟨g,0,m,n,e,by rw[Nat.zero_add];exact o,d.a.toO,d.b.toO,d.an,d.bn⟩
theorem Uo.below{w w':World}{v:Value}{i:List Ins}(h:Uo w v i)(d:Below w.heap.size w w'):Uo w' v i:=by
 obtain⟨a,c,B,h⟩:=h;refine⟨a,c,B,fun j z=>?_⟩;obtain⟨g,C,l,m,e,⟨f,n,o,q,r,s,t⟩,u,x,A⟩:=h j z;have y:g<w.heap.size:=Qq f;have b:∀ k,w'.cell? ⟨g,k,none⟩=w.cell? ⟨g,k,none⟩:=fun k=>d.cell (p:=⟨g,k,none⟩) y
 exact⟨g,C,l,m,e,⟨(b _).trans f,(b _).trans n,(b _).trans o,(b _).trans q,(b _).trans r,(b _).trans s,(b _).trans t⟩,u.below d,x.below d,A⟩
theorem BB(m:List Ins)(av bv:Value)(w:World)(ha:Uo w av m)(hb:Uo w bv m)(hl:m.length<=1000000) :
 Calls prog 29 #[av,bv] w fun e w'=>e=.returned (.bool true)/\Below w.heap.size w w':=by
 obtain⟨pa,ca,rfl,ha⟩:=ha;obtain⟨pb,cb,rfl,hb⟩:=hb;have HA:=I ha;have HB:=I hb;clear ha hb;go_enter func29,ntmps29;go_wp2
 go_loopw [5] (fun iv wr=>∃ k:Nat,k<=m.length/\iv=.int .i64 k/\Hid (Below w.heap.size w wr)) (fun iv _=>m.length - (intOf iv).toNat)
 case atStart=>exact⟨0,QE,rfl,Below.refl _ _⟩
 case round=>
  obtain⟨k,hk,rfl,x⟩:=hrel;by_cases hlt:k<m.length
  ·have ax:(k:Int)<(m.length:Int):=by omega
   obtain⟨g,aH,ap,ar,ay,⟨L,a1,a2,a3,a4,a5,a6⟩,ta,tb,la,lb⟩:=HA.o k hlt;obtain⟨A,aI,aq,au,az,⟨M,b1,b2,b3,b4,b5,b6⟩,ua,ub,_,_⟩:=HB.o k hlt;subst ay az;have hg:g<w.heap.size:=Qq L;have ag:A<w.heap.size:=Qq M;have u:∀ j,wr.cell? ⟨g,j,none⟩=w.cell? ⟨g,j,none⟩:=fun j=>x.o.cell (p:=⟨g,j,none⟩) hg
   have v:∀ j,wr.cell? ⟨A,j,none⟩=w.cell? ⟨A,j,none⟩:=fun j=>x.o.cell (p:=⟨A,j,none⟩) ag
   obtain⟨i,hi⟩:=Qe (m[k]);rw[hi]at L a1 a2 a3 a6 M b1 b2 b3 b6 ta tb ua ub la lb;have c0:=(u _).trans L;have c1:=(u _).trans a1;have c2:=(u _).trans a2;have c3:=(u _).trans a3;have c4:=(u _).trans a4;have c5:=(u _).trans a5;have c6:=(u _).trans a6;have d0:=(v _).trans M;have d1:=(v _).trans b1;have d2:=(v _).trans b2;have d3:=(v _).trans b3;have d4:=(v _).trans b4;have d5:=(v _).trans b5;have d6:=(v _).trans b6;have aF:g<wr.heap.size:=Zs hg x.o.size;have aG:A<wr.heap.size:=Zs ag x.o.size;have aj:=I (fun(W:World) (hW:Below w.heap.size w W)=>BH i.a ap aq W (ta.below hW) (ua.below hW) la);have ak:=I (fun(W:World) (hW:Below w.heap.size w W)=>BH i.b ar au W (tb.below hW) (ub.below hW) lb);obtain⟨G,C,aA,_⟩:=id ta;obtain⟨H,D,aB,_⟩:=id tb;obtain⟨J,E,aC,_⟩:=id ua;obtain⟨K,F,aD,_⟩:=id ub;subst aA aB aC aD;obtain⟨d,B⟩:=QF ((wr.alloc (.cells #[.int .i64 i.op,.int .i64 i.n,.int .i64 i.tag,.bool i.oct,.slice G i.a.length C,.slice H i.b.length D,.int .i64 i.at_] 63)).alloc (.cells #[.int .i64 i.op,.int .i64 i.n,.int .i64 i.tag,.bool i.oct,.slice J i.a.length E,.slice K i.b.length F,.int .i64 i.at_] 63));have ao:=I B;have ae:Below wr.heap.size wr d:=by rw[B];exact(Qp _).alloc (by simp) _
   have aE:=I ae;have q:Hid (d.heap[wr.heap.size]?=some (.cells #[.int .i64 i.op,.int .i64 i.n,.int .i64 i.tag,.bool i.oct,.slice G i.a.length C,.slice H i.b.length D,.int .i64 i.at_] 63)):=by show _=_;rw[B];exact Qn (QC _ _)
   have r:Hid (d.heap[wr.heap.size+1]?=some (.cells #[.int .i64 i.op,.int .i64 i.n,.int .i64 i.tag,.bool i.oct,.slice J i.a.length E,.slice K i.b.length F,.int .i64 i.at_] 63)):=by show _=_;rw[B];exact Q5 (by simp)
   have ac:=I (x.o.trans (ae.mono x.o.size));clear L a1 a2 a3 a4 a5 a6 M b1 b2 b3 b4 b5 b6 ta tb ua ub u v hi B ae;obtain⟨c,af⟩:=Qe (wr.heap.size);have ai:=I af;rw[af]at q r;have N:=Qk q.o;have P:=Qr q.o;have Q:=QJ q.o;have R:=QR q.o;have S:=QV q.o;have T:=Q9 q.o;have U:=Zz q.o;have V:=Qk r.o;have X:=Qr r.o;have Y:=QJ r.o;have Z:=QR r.o;have f4:=QV r.o;have f5:=Q9 r.o;have f6:=Zz r.o;clear af;go_wp2_with fail;rw[<-ao.o,ai.o];refine(aj.o d ac.o).mono ?_;rintro e f ⟨rfl,aa⟩;have ad:=I (ac.o.trans (aa.mono ac.o.size));have s:=I (QP q.o aa);have t:=I (QP r.o aa);clear aa N P Q R S T U V X Y Z f4 f5 f6 c0 c1 c2 c3 c4 c5 c6 d0 d1 d2 d3 d4 d5 d6;have N:=Qk s.o;have P:=Qr s.o;have Q:=QJ s.o;have R:=QR s.o;have S:=QV s.o;have T:=Q9 s.o;have U:=Zz s.o;have V:=Qk t.o;have X:=Qr t.o;have Y:=QJ t.o;have Z:=QR t.o;have f4:=QV t.o;have f5:=Q9 t.o;have f6:=Zz t.o;go_wp2_with fail;refine(ak.o f ad.o).mono ?_;rintro e l ⟨rfl,ab⟩;have ah:=I (ad.o.trans (ab.mono ad.o.size));have y:=I (QP s.o ab);have z:=I (QP t.o ab);clear ab N P Q R S T U V X Y Z f4 f5 f6;have N:=Qk y.o;have P:=Qr y.o;have Q:=QJ y.o;have R:=QR y.o;have S:=QV y.o;have T:=Q9 y.o;have U:=Zz y.o;have V:=Qk z.o;have X:=Qr z.o;have Y:=QJ z.o;have Z:=QR z.o;have f4:=QV z.o;have f5:=Q9 z.o;have f6:=Zz z.o;go_wp2_with fail;exact⟨⟨k+1,by omega,by go_num,ah⟩,by simp[intOf];omega⟩
  ·have aw:k=m.length:=by omega
   subst aw;have ax:¬(m.length:Int)<(m.length:Int):=by omega
   go_wp2;go_ret;exact⟨rfl,x.o⟩
def YL(x:Kd):Ins:=⟨x.op,x.n,x.tag,x.oct,x.as',x.bs,x.pos⟩
theorem YA.toO{xs:Qa}(h:YA w v xs):TxO w v xs:=by
 obtain⟨a,c,e,h⟩:=h;refine⟨a,c,e,fun j d=>?_⟩;obtain⟨g,f,b,h⟩:=h (List.ne_nil_of_length_pos (by omega));exact⟨g,f,b,h j d⟩
theorem Ui.below{g o:Nat}{i:Ins}{b c:Value}(h:Ui w g o i b c)(q:Below w.heap.size w w'):Ui w' g o i b c:=by
 obtain⟨d,e,f,k,l,m,n⟩:=h;have r:g<w.heap.size:=Qq d;have a:∀ j,w'.cell? ⟨g,j,none⟩=w.cell? ⟨g,j,none⟩:=fun j=>q.cell (p:=⟨g,j,none⟩) r
 exact⟨(a _).trans d,(a _).trans e,(a _).trans f,(a _).trans k,(a _).trans l,(a _).trans m,(a _).trans n⟩
theorem Vv.below{w w':World}{v:Value}{i:List Ins}(h:Vv w v i)(b:Below w.heap.size w w'):Vv w' v i:=by
 obtain⟨a,c,p,h⟩:=h;refine⟨a,c,p,fun j o=>?_⟩;obtain⟨g,q,k,l,e,m,d,f,n⟩:=h j o;exact⟨g,q,k,l,e,m.below b,⟨d.1.below b,d.2⟩,⟨f.1.below b,f.2⟩,n⟩
theorem UX.below{w w':World}{v:Value}{d:List Ins}(h:UX w v d)(b:Below w.heap.size w w'):UX w' v d:=by
 obtain⟨a,c,n,h⟩:=h;refine⟨a,c,n,fun j m=>?_⟩;obtain⟨g,o,f,i,e,k,l⟩:=h j m;exact⟨g,o,f,i,e,k.below b,l.below b⟩
theorem JD.all{l:List Kd}(h:JD w v l)(R:∀ i∈l,Jx 65536 i.as'/\Jx 65536 i.bs)(Q:∀ i∈l,-9223372036854775808<=i.n/\i.n<=9223372036854775807):Vv w v (l.map YL)/\UX w v (l.map YL)/\Uo w v (l.map YL):=by
 obtain⟨a,c,S,h⟩:=h
 have y:∀ j (d:j<(l.map YL).length),∃ g m f k,a=some ⟨g,m,none⟩/\Ui w g (m+j*7) (l.map YL)[j] f k/\(TxO w f (l.map YL)[j].a/\roomZ f)/\(TxO w k (l.map YL)[j].b/\roomZ k)/\Fc (l.map YL)[j]/\Vz w (l.map YL)[j] f k:=fun j d=>by
  rw[List.length_map]at d;obtain⟨g,m,q,h⟩:=h (List.ne_nil_of_length_pos (by omega));obtain⟨M,o,r,s,p,t,P,E,F,G,N⟩:=h j d;obtain⟨⟨T,H⟩,U,J⟩:=R _ (List.getElem_mem d);obtain⟨K,L⟩:=Q _ (List.getElem_mem d);have e:(l.map YL)[j]'(by rw[List.length_map];exact d)=YL l[j]:=by simp
  rw[e];have A:∀ z∈l[j].as',z.length<=100000:=fun z x=>by have:=H z x;omega
  have B:∀ z∈l[j].bs,z.length<=100000:=fun z x=>by have:=J z x;omega
  have C:l[j].as'.length<=100000:=by omega
  have D:l[j].bs.length<=100000:=by omega
  exact⟨g,m,l[j].av,l[j].bv,q,⟨M,o,r,s,p,t,P⟩,⟨E.toO,G.2⟩,⟨F.toO,N.2⟩,⟨A,B,Qs C (by decide),Qs D (by decide),K,L⟩,⟨E.toO,F.toO,C,D,A,B,G.1⟩⟩
 have u:v=.slice a (l.map YL).length c:=by rw[List.length_map];exact S
 refine⟨⟨a,c,u,fun j d=>?_⟩,⟨a,c,u,fun j d=>?_⟩,⟨a,c,u,fun j d=>?_⟩⟩
 ·obtain⟨g,m,f,k,q,o,r,s,p,t⟩:=y j d;exact⟨g,m,f,k,q,o,r,s,p⟩
 ·obtain⟨g,m,f,k,q,o,r,s,p,t⟩:=y j d;exact⟨g,m,f,k,q,o,t⟩
 ·obtain⟨g,m,f,k,q,o,r,s,p,t⟩:=y j d;exact⟨g,m,f,k,q,o,r.1,s.1,p.an,p.bn⟩
theorem OE(v:Bool)(m:List Ins)(oa:Option Addr)(oc:Nat)(M:Msg)(S:Value)(w:World)(hl:400<m.length)(hn:m.length<=1000000)(z:HdR w M S)(Q:KR M) :
 Calls prog 28 #[.bool v,.slice oa m.length oc,UZ M S] w fun e w'=>Below w.heap.size w w'/\∃ lv,e=.returned (.tuple #[Yp lv (some (12,400)),.int .i64 (0:Nat)])/\w'.ownsRow w.heap.size 52 2 lv 1 (QZ [(1,[])]):=by
 obtain⟨t,E,ah,_⟩:=id z;have X:=I z;have Y:=I Q;subst ah;have aj:(400:Int)<(m.length:Int):=by omega
 unfold UZ;obtain⟨f,g⟩:=QF (((w.alloc (.cells #[.string (sA M.fr),.string (sA M.to),.int .i64 M.size,.slice t M.hdrs.length E] 28)).alloc (.cells #[.slice none 0 0,.int .i64 0,.int .i64 0] 70)).alloc (.cells #[.string (sA M.fr),.string (sA M.to),.int .i64 M.size,.slice t M.hdrs.length E,.bool v,.slice none 0 0,.slice none 0 0,.slice none 0 0,.slice none 0 0,.bool true,.bool false,.int .i64 0,.int .i64 0] 104));have ab:=I g;have r:Below w.heap.size w f:=by rw[g];exact((Qp _).alloc (by simp) _).alloc (by simp;omega) _
 have i:Hid (RBk (w.heap.size+1) f):=by show RBk _ _;unfold RBk;rw[g];exact Qn (Q5 (by simp))
 obtain⟨B,j⟩:=Qe (w.heap.size);obtain⟨d,H⟩:=Qe (B+1+1);obtain⟨a,l⟩:=Qe (B+1);have s:StI f w.heap.size d M (ss0 v) ⟨.slice t M.hdrs.length E,.slice none 0 0,.slice none 0 0,.slice none 0 0,.slice none 0 0,[],[]⟩ 0 true false 0 0:=StI.new v r (by omega) (by unfold SB;rw[g];exact Q5 (by simp;omega)) X.o Y.o;rw[j]at s i;rw[l]at i;have N:=I s;have T:Hid (Below B w f):=by rw[<-j];exact r
 have q:=I j;have P:=I H;have L:=I l;clear z Q g s r j;go_enter func28,ntmps28;go_wp2_with fail;rw[<-ab.o,q.o,H,l];clear H l;refine(StI.fail N.o 12 400).mono ?_;rintro x n ⟨rfl,A,G⟩;have ai:=Gt G.blk;have ag:B<=d:=by have:=P.o;omega
 have af:a≠d:=by have:=P.o;have:=L.o;omega
 have Z:Hid (RBk a n):=(A.block a (Qg i.o) af).trans i.o;have V:Hid (Below B w n):=T.o.trans (A.below ag N.o.lt);have aa:=I (Cv B d M 0 0 (.error (12,400)) n ⟨by decide,_,_,_,G⟩);clear A G;go_wp2;refine wp_loop_rounds 1 ?_;rw[rounds_succ];go_wp2_with fail;refine aa.o.mono ?_;rintro e p ⟨y,lv,rfl,D⟩;have c:=Z.o.kb y.2;have K:=I c;have W:=I (V.o.trans y.1);have J:=I D;have r0:=Qk c;have r1:=Qr c;have r2:=QJ c;have rf:=Qu c;obtain⟨la,b,ae⟩:=QQ D;subst ae;have ak:=Qg c;have F:B<=a:=by have:=L.o;omega
 have R:Yp (.slice la (Y1 (.error (12,400))).1.length b) (Y1 (.error (12,400))).2=.agg #[.slice la 1 b,.int .i64 12,.int .i64 400]:=rfl;rw[R];clear c y D R;go_wp2;obtain⟨U,k⟩:=QF ((((p.setCell ⟨a,0,none⟩ (.slice la 1 b)).setCell ⟨a,1,none⟩ (.int .i64 12)).setCell ⟨a,2,none⟩ (.int .i64 400)));rw[<-k];have u:U.heap[a]?=some (.cells #[.slice la 1 b,.int .i64 12,.int .i64 400] 70):=by rw[k];exact Qt _ _ _ _ _ _ (Qt _ _ _ _ _ _ (Qt _ _ _ _ _ _ K.o))
 have y0:=Qk u;have y1:=Qr u;have y2:=QJ u;have ad:Below B w U:=by rw[k];exact((W.o.setCell F _).setCell F _).setCell F _
 have C:(Value.slice la 1 b).ownBlock≠some a:=ZF J.o K.o (by decide);have ac:U.ownsRow B 52 2 (.slice la 1 b) 1 (QZ [(1,[])]):=by rw[k];exact ZY (ZY (ZY J.o C) C) C
 refine bodyPost_ret (v:=.tuple #[.agg #[.slice la 1 b,.int .i64 12,.int .i64 400],.int .i64 0]) (by simp[results,results28,go_sem,y0,y1,y2]) rfl ?_;exact⟨by rw[q.o];exact ad,.slice la 1 b,rfl,by rw[q.o];exact ac⟩
theorem MZ(v:Bool)(b:List Ins)(f:Value)(M:Msg)(d:Value)(w:World)(j:UX w f b)(n:b.length<=1000000)(g:HdR w M d)(i:KR M) :
 Calls prog 28 #[.bool v,f,UZ M d] w fun e w'=>Below w.heap.size w w'/\∃ lv,e=.returned (.tuple #[Yp lv (execL v b M).2.2,.int .i64 ((execL v b M).2.1:Nat)])/\w'.ownsRow w.heap.size 52 2 lv (execL v b M).1.length (QZ (execL v b M).1)/\(execL v b M).1.length<=7:=by
 by_cases hl:b.length<=400
 ·exact Pq v b f M d w j hl g i
 ·have e:execL v b M=([(1,[])],0,some (12,400)):=by unfold execL;rw[if_pos (by omega)]
  rw[e];obtain⟨a,c,rfl,_⟩:=j;refine(OE v b a c M d w (by omega) n g i).mono ?_;rintro e w' ⟨k,lv,l,m⟩;exact⟨k,lv,l,m,Nat.le_add_left 1 6⟩
theorem Oo(k:Nat)(u w:World)(N:Nat)(x:OpD)(h:XZ k u N w)(he:Env u)(hu:u.heap.size=k)(hN:N<1100000000000)(hx:UV x)(aq:SmD x)(a9:Jz u x.hv x.hs)(bW:JD u x.cv x.code)(D:∃ a n c,x.hv=.slice a n c)(L:∃ a n c,x.cv=.slice a n c)(hk:x.kind=1\/x.kind=5\/x.kind=6\/x.kind=7) :
 Calls prog 16 #[.pointer (some ⟨k,0,none⟩),opV x] w fun e w'=>e=.returned (.bool true)/\XZ k u (N+1) w':=by
 have H:=I h;have HE:=I he;have HX:=I hx;have HH:=I D;have HC:=I L;obtain⟨ai,xv,mv,cv,A,ag,au,cs,ar,bj,bl,bX⟩:=h;have cp:=Qg ar.nd;have aw:Hid (∀ W,Below w.heap.size w W->Calls prog 24 #[.pointer (some ⟨k,0,none⟩),opV x] W fun e w'=>e=.returned (.tuple #[])/\Nv k u ai xv mv cv A ag au cs.length W w'):=fun W l=>LY k u W N x ai xv mv cv A ag au cs (ar.below l) bX (by omega) hx aq.s D L
 have a4:=I bj;have bC:=I ar.cu;have aA:=I aq;have cg:=I a9;obtain⟨aE,aJ,aF⟩:=bW.all aq.cd hx.cn;have b3:(x.code.map YL).length<=65536:=by rw[List.length_map];exact aq.cl
 obtain⟨f,bc⟩:=Qe (x.code.map YL);rw[bc]at aE aJ aF b3;have aa:∀ W,Below k u W->Below u.heap.size u W:=fun W l=>by rw[hu];exact l
 have bA:Hid (∀ W,Below k u W->Vv W x.cv f):=fun W l=>aE.below (aa W l)
 have bK:Hid (∀ W,Below k u W->UX W x.cv f):=fun W l=>aJ.below (aa W l)
 have aV:Hid (∀ W,Below k u W->Uo W x.cv f):=fun W l=>aF.below (aa W l)
 have bD:Hid (∀ W,Below k u W->Env W):=fun W l=>he.below (aa W l)
 have bE:Hid (∀ W,Below k u W->Jz W x.hv x.hs):=fun W l=>a9.below (aa W l)
 obtain⟨m,y,q,D⟩:=D;obtain⟨E,n2,F,L⟩:=L;have b9:=hx.s;obtain⟨bU,bV⟩:=hx.a;unfold opV at aw ⊢;rw[D,L]at aw ⊢;obtain⟨W0,aj⟩:=QF (w.alloc (.cells #[.int .i64 x.kind,.int .i64 x.a,.int .i64 x.b,.string (sA x.s),.string (sA x.fr),.string (sA x.tt),.int .i64 x.sz,.slice m y q,.slice E n2 F] 47));have bR:=I aj;have bt:Hid (Below w.heap.size w W0):=by show Below _ _ _;rw[aj];exact Qp _
 have aX:Hid (W0.heap[w.heap.size]?=some (.cells #[.int .i64 x.kind,.int .i64 x.a,.int .i64 x.b,.string (sA x.s),.string (sA x.fr),.string (sA x.tt),.int .i64 x.sz,.slice m y q,.slice E n2 F] 47)):=by show _=_;rw[aj];exact QC _ _
 obtain⟨ca,cj,aD,_⟩:=aE;have ah:=I L;have b2:n2=f.length:=by rw[L]at aD;injection aD
 subst b2;clear ar bj he hx L aj aJ aF bc aa aD;generalize hKK:x.kind=K at *;go_enter func16,ntmps16;go_wp2_with fail;rw[<-bR.o];refine(aw.o W0 bt.o).mono ?_;rintro e d ⟨rfl,⟨aB,ae,bY⟩,cb,ba⟩;have G:=(ba w.heap.size (bC.o _ (Qd Ql)) (Qg aX.o)).trans aX.o;have q0:=Qk G;have q1:=Qr G;have q3:=QR G;have q4:=QV G;have q5:=Q9 G;have q6:=Zz G;have q7:=Yf G;have P:=I ae;have r0:=Qk ae.nd;have r1:=Qr ae.nd;have ax:=I G;have a8:aB.length<=N:=by omega
 have H1:Hid (XZ k u N d):=⟨ai,xv,mv,cv,A,ag,au,aB,ae,a4.o,bl,a8⟩;clear G ae ba cb bY;rcases hk with rfl|hk
 ·go_wp2_with fail;refine(Ig k u d N x.s H1.o HE.o hu (by omega) b9).mono ?_;rintro e J ⟨rfl,bf⟩;have HG:=I bf;clear bf;go_wp2;go_ret;exact⟨rfl,HG.o⟩
 rcases hk with rfl|hk
 ·have q8:=JG ax.o;obtain⟨M,hM⟩:∃ M:Msg,M=⟨x.fr,x.tt,x.sz,x.hs⟩:=⟨_,rfl⟩;have h1:=aA.o.fr;have h2:=aA.o.tt;have h3:=aA.o.hs
  have T:KR M:=by
   rw[hM];exact⟨by show x.fr.length<=_;omega,by show x.tt.length<=_;omega,by have:=h3.1;show x.hs.length<=_;omega,fun h D=>by have:=h3.2 h D;omega⟩
  have a7:∀ v,SBd M (ss0 v):=fun v=>⟨T.fr,T.tu,T.hl,T.hs,(fun t ht=>nomatch ht),QE,(fun x t ht=>nomatch ht),QE⟩
  have aW:Hid (∀ W,Below k u W->HdR W M (.slice m y q)/\Ul W (.slice m y q) M.hdrs):=fun W l=>by
   rw[hM];obtain⟨p,c,e,h2⟩:=bE.o W l;rw[D]at e;refine⟨⟨p,c,e,fun j hj=>?_⟩,p,c,e,h2⟩;obtain⟨g,cf,e2,h3⟩:=h2 (List.ne_nil_of_length_pos (Nat.lt_of_le_of_lt QE hj));obtain⟨h4,h5⟩:=h3 j hj;exact⟨g,cf,e2,Qq h4,h4,h5⟩
  have bF:=I T;have bN:=I a7;have bG:Hid (UZ M (.slice m y q)=.agg #[.string (sA x.fr),.string (sA x.tt),.int .i64 x.sz,.slice m y q]):=by show _=_;unfold UZ;rw[hM]
  have bH:Hid (Xb M (.slice m y q)=.agg #[.string (sA x.fr),.string (sA x.tt),.int .i64 x.sz,.slice m y q]):=by show _=_;unfold Xb;rw[hM]
  obtain⟨B,b7⟩:=Qe (x.a != 0);have a0:=I b7;have bd:k<d.heap.size:=Qg P.o.nd;have aO:=I P.o.b;have bo:w.heap.size<d.heap.size:=Qg ax.o;have bB:=I (LA f (.slice E f.length F) d (by rw[<-ah.o];exact bA.o d aO.o) (by omega));clear hM T a7 h1 h2 h3 D;go_wp2_with fail;refine bB.o.mono ?_;rintro e J ⟨ov,rfl,ao,U⟩;obtain⟨oa,oc,b4⟩:=ao.codeO.len;subst b4;have av:Hid (Below k u J):=aO.o.trans (U.mono (Nat.le_of_lt bd));have ci:=I (P.o.below U);have R:∀ o,J.cell? ⟨w.heap.size,o,none⟩=d.cell? ⟨w.heap.size,o,none⟩:=fun o=>U.cell (p:=⟨w.heap.size,o,none⟩) bo
  have g1:=(R _).trans q1;have g4:=(R _).trans q4;have g5:=(R _).trans q5;have g6:=(R _).trans q6;have g7:=(R _).trans q7;have g8:=(R _).trans q8;have bw:=I ao;have bu:=I U;have af:=U.size;have ay:=I (Rf B (.slice oa f.length oc) (.slice m y q) f M J (bD.o J av.o) ao.codeO.codeV (by omega) (aW.o J av.o).2 bN.o);rw[bH.o]at ay
  have a3:Hid (∀ W,Below k u W->Calls prog 28 #[.bool B,.slice E f.length F,.agg #[.string (sA x.fr),.string (sA x.tt),.int .i64 x.sz,.slice m y q]] W fun e w'=>Below W.heap.size W w'/\∃ lv,e=.returned (.tuple #[Yp lv (execL B f M).2.2,.int .i64 ((execL B f M).2.1:Nat)])/\w'.ownsRow W.heap.size 52 2 lv (execL B f M).1.length (QZ (execL B f M).1)/\(execL B f M).1.length<=7):=fun W l=>by
   rw[<-bG.o,<-ah.o];exact MZ B f x.cv M (.slice m y q) W (bK.o W l) (by omega) (aW.o W l).1 bF.o
  obtain⟨r,hr⟩:=Qe (execL B f M);rw[hr]at ay a3;have bg:k<J.heap.size:=Zs bd af;have bp:w.heap.size<J.heap.size:=Zs bo af;clear ao U R q0 q1 q3 q4 q5 q6 q7 q8 r0 r1;go_wp2_with fail;refine ay.o.mono ?_;rintro e w3 ⟨X,ct,rfl,aC⟩;obtain⟨cc,ce,b0⟩:=QQ aC.1;subst b0;have aS:Hid (Below k u w3):=av.o.trans (X.mono (Nat.le_of_lt bg));have aP:Hid (Below d.heap.size d w3):=bu.o.trans (X.mono af);have S:∀ o,w3.cell? ⟨w.heap.size,o,none⟩=J.cell? ⟨w.heap.size,o,none⟩:=fun o=>X.cell (p:=⟨w.heap.size,o,none⟩) bp
  have i1:=(S _).trans g1;have i4:=(S _).trans g4;have i5:=(S _).trans g5;have i6:=(S _).trans g6;have i7:=(S _).trans g7;have i8:=(S _).trans g8;have bz:=I (bw.o.below X);have br:=I aC;have aM:=X.size;have bQ:=I (a3.o w3 aS.o);clear X S g1 g4 g5 g6 g7 g8 aC;go_wp2_with fail;refine bQ.o.mono ?_;rintro e z ⟨Q,cw,rfl,aI,h7⟩;obtain⟨ab,ac,b5⟩:=QQ aI;subst b5;have bq:w.heap.size<w3.heap.size:=Zs bp aM;have bh:k<w3.heap.size:=Zs bg aM;have aT:Hid (Below k u z):=aS.o.trans (Q.mono (Nat.le_of_lt bh));have aQ:Hid (Below d.heap.size d z):=aP.o.trans (Q.mono aP.o.size);have cr:z.cell? ⟨w.heap.size,8,none⟩=some (.slice E f.length F):=(Q.cell (p:=⟨w.heap.size,8,none⟩) bq).trans i8;have aU:=I (bz.o.below Q);have bs:=I (ActsV.below br.o Q);have bI:=I aI;have ch:=I (BB f (.slice oa f.length oc) (.slice E f.length F) z aU.o.codR (by rw[<-ah.o];exact aV.o z aT.o) (by omega));have bn:=Q.size;have az:Hid (Yp (.slice ab r.1.length ac) r.2.2=.agg #[.slice ab r.1.length ac,.int .i64 ((r.2.2.getD (0,0)).1),.int .i64 ((r.2.2.getD (0,0)).2)]):=rfl;rw[az.o];have bP:Hid (Gj r.2.2=UN r.2.2):=rfl;obtain⟨fe,aG⟩:=Qe ((r.2.2.getD (0,0)).1);obtain⟨fp,aH⟩:=Qe ((r.2.2.getD (0,0)).2);rw[aG,aH];rw[aG,aH]at az;obtain⟨C,ak⟩:=QF (z.alloc (.cells #[.slice ab r.1.length ac,.int .i64 fe,.int .i64 fp] 70));have bS:=I ak;have Y:Below z.heap.size z C:=by rw[ak];exact Qp _
  have bb:C.heap[z.heap.size]?=some (.cells #[.slice ab r.1.length ac,.int .i64 fe,.int .i64 fp] 70):=by rw[ak];exact QC _ _
  have cq:w.heap.size<z.heap.size:=Zs bq bn;have b8:k<z.heap.size:=Zs bh bn;have bO:Hid (Calls prog 29 #[.slice oa f.length oc,.slice E f.length F] C fun e w'=>e=.returned (.bool true)/\Below C.heap.size C w'):=BB f (.slice oa f.length oc) (.slice E f.length F) C (aU.o.below Y).codR (by rw[<-ah.o];exact aV.o C (aT.o.trans (Y.mono (Nat.le_of_lt b8)))) (by omega);have aR:Hid (Below d.heap.size d C):=aQ.o.trans (Y.mono aQ.o.size);have aN:=I (ActsV.below bs.o Y);have bJ:=I (Xt bI.o Y);have aY:=I bb;obtain⟨rb,aK⟩:=Qe (z.heap.size);rw[aK]at aY;have bM:=I aK;clear Q aI i1 i4 i5 i6 i7 i8 aG aH ak Y bb aK;go_wp2_with fail;rw[<-bS.o,bM.o];refine bO.o.mono ?_;rintro e w6 ⟨rfl,ad⟩;have ap:=QP aY.o ad;have j0:=Qk ap;have j1:=Qr ap;have j2:=QJ ap;have bv:Hid (Below d.heap.size d w6):=aR.o.trans (ad.mono aR.o.size);have aZ:=I (PR k u d w6 N ai xv mv cv A ag au aB P.o bv.o a4.o bl a8 (by omega) r.1 r.2.2 (.slice cc r.1.length ce) (.slice ab r.1.length ac) (K5 (ActsV.below aN.o ad).1 af) aN.o.2 (K5 (Xt bJ.o ad) (Qs af aM)) h7);rw[az.o,bP.o]at aZ;clear ad ap;go_wp2_with fail;refine aZ.o.mono ?_;rintro e w7 ⟨rfl,bi⟩;have bT:=I bi;clear bi;go_wp2;go_ret;exact⟨rfl,bT.o⟩
 ·have k1:(K==1)=false:=by rcases hk with rfl|rfl<;>rfl
  have k5:(K==5)=false:=by rcases hk with rfl|rfl<;>rfl
  have k2:(K==2)=false:=by rcases hk with rfl|rfl<;>rfl
  have k3:(K==3)=false:=by rcases hk with rfl|rfl<;>rfl
  have k4:(K==4)=false:=by rcases hk with rfl|rfl<;>rfl
  have l1:=JU P.o.r1;clear hk;by_cases hy0:A=[]
  ·subst hy0;have b6:ag=[]:=Xz l1.symm;subst b6;obtain⟨p0,c0,aL⟩:=AO P.o.o1;subst aL;go_wp2;go_ret;exact⟨rfl,H1.o.more (Nat.le_succ N)⟩
  ·have bk:0<A.length:=List.length_pos_iff.2 hy0;obtain⟨i,hi⟩:=Qe (pickL x.a A.length);have bZ:i<A.length:=by rw[<-hi];exact AE _ bk
   have bL:Hid (∀ W,Calls prog 31 #[.int .i64 x.a,.int .i64 A.length] W fun e w'=>e=.returned (.int .i64 i)/\w'=W):=fun W=>by rw[<-hi];exact Ao x.a A.length W bU bV bk (by omega)
   obtain⟨cx,cm,bx,bm,gx,gm,aL,b1,a5,a6,_,_⟩:=P.o.get i bZ;subst aL b1;have co:((A.length:Int)==0)=false:=by simp;omega
   have ck:¬ A.length=0:=by omega
   clear hi hy0 l1 D;go_wp2_with fail;go_quiet (first|(go_at_call 31;refine Calls.quiet_of_same (bL.o _)));generalize hWW:d.drewN _=V;have Z:∀ a:Addr,V.cell? a=d.cell? a:=fun a=>by rw[<-hWW];rfl
   have a0:Hid (Below d.heap.size d V):=by rw[<-hWW];exact⟨rfl,rfl,rfl,Nat.le_refl _,fun _ _=>rfl⟩
   have s0:=(Z _).trans r0;have s1:=(Z _).trans r1;have s2:=(Z _).trans a5;have s3:=(Z _).trans a6;have s4:=(Z _).trans q0;clear hWW Z q0 q1 q3 q4 q5 q6 q7 r0 r1 a5 a6 ax;go_wp2;go_ret;exact⟨rfl,(H1.o.below a0.o).more (Nat.le_succ N)⟩
theorem RM(u w':World)(b:w'=u.alloc (.cells #[.slice none 0 0,.slice none 0 0,.slice none 0 0,.slice none 0 0] 44)):XZ u.heap.size u 0 w':=by
 subst b;refine⟨fun _=>1,_,_,_,[],[],[],[],⟨QC _ _,Zj,Zj,Zj,trivial,trivial,(fun k h=>nomatch h),(fun k h=>nomatch h),(fun k h=>nomatch h),(fun k _=>rfl),(fun j a=>absurd a (Nat.not_lt_zero _)),Qp _⟩,(fun y h=>nomatch h),Nat.le_refl _,Nat.le_refl _⟩
theorem Df{a:Nat}{u:World}{N:Nat}(h:XZ a u N w):Below a u w/\a<w.heap.size:=by
 obtain⟨d,l,i,f,m,j,k,e,c,g⟩:=h;exact⟨c.b,Qg c.nd⟩
theorem LW(l:List OpD)(v:Value)(y:Nat)(w:World)(h:Ug w v l)(hs:∀ x∈l,UV x)(hl:l.length<=1100000000000)(he:Env w)(hk:w.cell? ⟨y,0,none⟩=some (.int .i64 5)) :
 Calls prog 9 #[v,.slice (some ⟨y,0,none⟩) 1 1] w fun e w'=>e=.returned (.bool true)/\Below w.heap.size w w':=by
 have H:=I h;have HS:=I hs;have HE:=I he;have aL:=I (Mq l v w h hs (by omega));have av:y<w.heap.size:=Qq hk;obtain⟨a,c,R,_⟩:=h;subst R;clear hs he;go_enter func9,ntmps9;go_wp2_with fail;refine aL.o.mono ?_;rintro e u ⟨⟨b,rfl,ax⟩,L⟩;have aj:=I ax;clear ax;have C:=I L;have ay:=L.size;have aB:=I (HE.o.below L);clear L
 cases b with
 |false=>
  go_wp2;go_ret;exact⟨rfl,C.o⟩
 |true=>
  obtain⟨X,Z⟩:=QF (u.alloc (.cells #[.slice none 0 0,.slice none 0 0,.slice none 0 0,.slice none 0 0] 44));have aN:=I Z;have U:=I (RM u X Z);clear Z;obtain⟨z,ae⟩:=Qe (u.heap.size);rw[ae]at U;have V:=I ae;go_upto_block 0 with fail
  rw[<-aN.o];clear ae;go_cut [] (fun S=>Below z u S)
  case first=>
   go_wp2_with fail
   go_loopg [5,7,8,9,10] l.length (fun m _ iv _ _ _ wr=>∃ k:Nat,m=l.length - k/\k<=l.length/\iv=.int .i64 k/\XZ z u k wr)
   case atStart=>exact⟨0,by omega,by omega,rfl,U.o⟩
   case round=>
    obtain⟨k,rfl,aU,rfl,Y⟩:=hrel;have T:=I Y;obtain⟨ar,aW⟩:=Df Y;have J:Hid (Below w.heap.size w wr):=by show Below _ _ _;exact C.o.trans (ar.mono (by rw[<-V.o];exact ay))
    have kc:wr.cell? ⟨y,0,none⟩=some (.int .i64 5):=by rw[J.o.cell (p:=⟨y,0,none⟩) av];exact hk
    have aR:y<wr.heap.size:=Zs av J.o.size;clear Y ar U;by_cases hlt:k<l.length
    ·obtain⟨a',c',R,B⟩:=H.o;obtain⟨g,aX,ha,hc⟩:=B (List.ne_nil_of_length_pos (by omega));have ea:a=a':=by injection R
     subst ea;subst ha;have N:=hc k hlt;have ad:=HS.o l[k] (List.getElem_mem hlt);obtain⟨x,hx⟩:=Qe (l[k]);rw[hx]at N ad;have aM:=I ad;have aK:Hid (SmD x):=by rw[<-hx];first|exact aj.o trivial _ (List.getElem_mem hlt)|exact aj.o rfl _ (List.getElem_mem hlt)
     have aG:Hid (Jz u x.hv x.hs):=N.2.2.2.2.2.2.2.2.2.1.below C.o;have aA:Hid (JD u x.cv x.code):=N.2.2.2.2.2.2.2.2.2.2.below C.o;obtain⟨p0,p1,p2,p3,p4,p5,p6,p7,p8,hh,aO⟩:=N;have au:g<w.heap.size:=Qq p0;have r:∀ j,wr.cell? ⟨g,j,none⟩=w.cell? ⟨g,j,none⟩:=fun j=>J.o.cell (p:=⟨g,j,none⟩) au
     have q0:=(r _).trans p0;have q1:=(r _).trans p1;have q2:=(r _).trans p2;have q3:=(r _).trans p3;have q4:=(r _).trans p4;have q5:=(r _).trans p5;have q6:=(r _).trans p6;have q7:=(r _).trans p7;have q8:=(r _).trans p8;have aS:(k:Int)<(l.length:Int):=by omega
     have aT:g<wr.heap.size:=Zs au J.o.size;obtain⟨D,E,P,_⟩:=aO;obtain⟨F,G,Q,_⟩:=hh;have ai:Hid (opV x=.agg #[.int .i64 x.kind,.int .i64 x.a,.int .i64 x.b,.string (sA x.s),.string (sA x.fr),.string (sA x.tt),.int .i64 x.sz,.slice F x.hs.length G,.slice D x.code.length E]):=by show _=_;unfold opV;rw[Q,P]
     have aC:Hid (∃ a n c,x.hv=.slice a n c):=⟨_,_,_,Q⟩;have aD:Hid (∃ a n c,x.cv=.slice a n c):=⟨_,_,_,P⟩;rw[P]at q8;rw[Q]at q7;obtain⟨d,M⟩:=QF (wr.alloc (.cells #[.int .i64 x.kind,.int .i64 x.a,.int .i64 x.b,.string (sA x.s),.string (sA x.fr),.string (sA x.tt),.int .i64 x.sz,.slice F x.hs.length G,.slice D x.code.length E] 47));have ao:=I M;have q:Hid (Below wr.heap.size wr d):=by show Below _ _ _;rw[M];exact Qp _
     have i:Hid (d.heap[wr.heap.size]?=some (.cells #[.int .i64 x.kind,.int .i64 x.a,.int .i64 x.b,.string (sA x.s),.string (sA x.fr),.string (sA x.tt),.int .i64 x.sz,.slice F x.hs.length G,.slice D x.code.length E] 47)):=by show _=_;rw[M];exact QC _ _
     have ak:Hid (∀ W,Below wr.heap.size wr W->(x.kind=1\/x.kind=5\/x.kind=6\/x.kind=7)->Calls prog 16 #[.pointer (some ⟨z,0,none⟩),.agg #[.int .i64 x.kind,.int .i64 x.a,.int .i64 x.b,.string (sA x.s),.string (sA x.fr),.string (sA x.tt),.int .i64 x.sz,.slice F x.hs.length G,.slice D x.code.length E]] W fun e w'=>e=.returned (.bool true)/\XZ z u (k+1) w'):=by
      intro W hW aQ;rw[<-ai.o];exact Oo z u W k x (T.o.below hW) aB.o V.o (by omega) aM.o aK.o aG.o aA.o aC.o aD.o aQ
     obtain⟨K,hK⟩:=Qe (x.kind);rw[hK]at q0 i ao ak;obtain⟨f,ac⟩:=Qe (wr.heap.size);rw[ac]at i;have aJ:=I ac;clear p0 p1 p2 p3 p4 p5 p6 p7 p8 r hc B R hx ad M P Q ai hK ac;have d0:=Qk i.o;have d1:=Qr i.o;have d2:=QJ i.o;have d3:=QR i.o;have d4:=QV i.o;have d5:=Q9 i.o;have d6:=Zz i.o;have d7:=Yf i.o;have d8:=JG i.o;have dk:d.cell? ⟨y,0,none⟩=some (.int .i64 5):=by rw[q.o.cell (p:=⟨y,0,none⟩) aR];exact kc
     obtain⟨A,ab⟩:=Qe (decide (K=1\/K=5\/K=6\/K=7));have ag:=I ab
     have aP:K=1\/K=6\/K=7\/((K==1)=false/\(K==6)=false/\(K==7)=false/\(K==5)=A):=by
      by_cases h1:K=1
      ·exact Qd h1
      ·by_cases h6:K=6
       ·exact Qc (Qd h6)
       ·by_cases h7:K=7
        ·exact Qc (Qc (Qd h7))
        ·refine Qc (Qc (Qc ⟨by simpa using h1,by simpa using h6,by simpa using h7,?_⟩));rw[<-ab];by_cases B:K=5
         ·rw[B];decide
         ·have:¬(K=1\/K=5\/K=6\/K=7):=fun h=>by rcases h with h|h|h|h;exact h1 h;exact B h;exact h6 h;exact h7 h
          rw[Qh this];simpa using B
     clear ab;go_upto_region 9 with fail
     rw[<-ao.o,aJ.o];clear q0 q1 q2 q3 q4 q5 q6 q7 q8 kc;have aV:f<d.heap.size:=Qg i.o
     have aH:Hid ((K=1\/K=6\/K=7)->A=true):=by
      intro h;rw[<-ag.o];exact Qw (by rcases h with h|h|h<;>simp[h])
     rcases aP with rfl|rfl|rfl | ⟨k1,k6,k7,k2⟩
     all_goals
      go_upto_block 2 with fail
      go_cut [9] (fun bv S=>bv=.bool A/\Below wr.heap.size wr S/\S.heap[f]?=d.heap[f]?)
      case first=>
       go_wp2_with fail;refine wp_loop_rounds 2 ?_;rw[rounds_succ];go_wp2_with fail;go_quiet (fail);go_wp2_with fail;rw[rounds_succ];go_wp2;go_meet
       first
        |exact⟨congrArg Value.bool (aH.o (by simp)).symm,⟨q.o.os,q.o.tape,q.o.output,q.o.size,q.o.block⟩,rfl⟩
        |exact⟨rfl,⟨q.o.os,q.o.tape,q.o.output,q.o.size,q.o.block⟩,rfl⟩
      case rest=>
       obtain⟨rfl,ap,aw⟩:=hcut;have t:=aw.trans i.o;have af:=I ap;clear d0 d1 d2 d3 d4 d5 d6 d7 d8 dk ap aw;have d0:=Qi t 0;have d1:=Qi t 1;have d2:=Qi t 2;have d3:=Qi t 3;have d4:=Qi t 4;have d5:=Qi t 5;have d6:=Qi t 6;have d7:=Qi t 7;have d8:=Qi t 8;have ah:Hid (A=true->_):=fun h=>of_decide_eq_true (ag.o.trans h)
       cases A with
       |false=>
        go_wp2;go_roundg (l.length - (k+1))
        case measure=>omega
        case rel=>exact⟨k+1,rfl,by omega,by go_num,(T.o.below af.o).more (Nat.le_succ k)⟩
       |true=>
        go_wp2_with fail;refine(ak.o _ af.o (by first|exact ah.o rfl|exact ah.o trivial)).mono ?_;rintro e w3 ⟨rfl,aa⟩;have aE:=I aa;have aI:=I (LL z u w3 (k+1) aa (by omega));clear aa;go_wp2_with fail;refine aI.o.mono ?_;rintro e w4 ⟨rfl,aq⟩;have aF:=I (aE.o.below aq);clear aq;go_wp2;go_roundg (l.length - (k+1))
        case measure=>omega
        case rel=>exact⟨k+1,rfl,by omega,by go_num,aF.o⟩
    ·have aS:¬(k:Int)<(l.length:Int):=by omega
     go_wp2;go_meet;exact(Df T.o).1
  case rest=>
   have hb:=hcut;have az:=I hb;clear hb hcut;go_wp2;go_ret;exact⟨rfl,C.o.trans (az.o.mono (by rw[<-V.o];exact ay))⟩
theorem Ug.belowX{l:List OpD}(h:Ug w v l)(d:Below w.heap.size w w'):Ug w' v l:=by
 obtain⟨a,c,i,h⟩:=h;refine⟨a,c,i,fun f=>?_⟩;obtain⟨g,k,b,h⟩:=h f;exact⟨g,k,b,fun j e=>(h j e).below d⟩
theorem O4(l:List OpD)(v:Value)(w:World)(he:Env w)(h:Ug w v l)(i:∀ x∈l,UV x)(n:l.length<=1100000000000) :
 Calls prog 6 #[v] w fun e w'=>e=.returned (.bool true)/\Below w.heap.size w w':=by
 obtain⟨b,f⟩:=QF (w.alloc (.cells #[.int .i64 5] 3));have m:=I f;have d:Hid (Below w.heap.size w b):=by show Below _ _ _;rw[f];exact Qp _
 have k:Hid (b.cell? ⟨w.heap.size,0,none⟩=some (.int .i64 5)):=by show _=_;rw[f];exact Qi (QC _ _) 0
 have HP:=I (LW l v w.heap.size b (Ug.belowX h d.o) i n (he.below d.o) k.o);have q:=d.o.size;obtain⟨a,c,p,_⟩:=h;subst p;clear f he i;go_enter func6,ntmps6;go_wp2_with fail;rw[<-m.o];refine HP.o.mono ?_;rintro e r ⟨rfl,g⟩;have j:=I (d.o.trans (g.mono q));clear g;go_wp2;go_ret;exact⟨rfl,j.o⟩
section
open Go.ChangeShapes Go.WideShapes Go.ChangeAt Go.WideMaps Go.WideElems Go.RowKit
open Go.ChangeMaps (open_string shut_string)
theorem Ru:laidOutB prog=true:=by kernel_rfl
theorem FR(os:Os)(N:os.Started)(H:Type)(enc:TypeId×Value->H) :
 ReturnsInHanded {} Tryz.checked os 6 .any (fun w args=>(Rows.executedSpec.pre enc prog Tryz.f6 [] false w args/\laidMetH prog Gk w)/\sizedMet enc prog Tryz.f6 (OpenSpec.ofChange Rows.executedSpec) false w args)
  (Rows.executedSpec.post enc prog Tryz.f6 false true false false):=by
 refine PL (C:=Tryz.checked) (X:=fun w _=>laidMetH prog Gk w) (fun _ _ _ D h=>h.of_heap D) Tryz.own N (by kernel_rfl) func6
  (ChangeSpec.witness_shaped (enc:=enc) (C:=Tryz.checked) (os:=os) (X:=fun w _=>laidMetH prog Gk w) false (World.doorLaid prog 400 os) #[.slice none 0 0] 8 rfl (World.shaped_of_RefB (by kernel_rfl) (by kernel_rfl)) (by kernel_rfl) (by kernel_rfl) (by kernel_rfl) (SU os _)) ?_
 intro W u args y R Q L m M A K;have r:∀(j:Nat) t v,Tryz.f6.params[j]?=some t->args[j]?=some v->Value.okWide prog W .any u t v:=L;have n:=m;obtain⟨p,q,z,B,rfl,S,U⟩:=m;have g:DataW.TrodAll enc prog W 0 (fun _=>true) true Tryz.f6.params.toList args.toList y p:=z;rw[Tryz.params6]at g r;obtain⟨s,a,rfl,rfl,f⟩:=trodAll_one g;obtain⟨rfl,rfl⟩:=trodVars_none B;have G:∀ x∈p,x.block<W.heap.size:=fun x c=>n.lt x (by simp[c])
 obtain⟨l,F,J,T⟩:=PD (r 0 22 s rfl rfl) f (fun k E=>of_decide_eq_true (List.all_eq_true.1 M k (DataW.weights_mem_each (j:=0) (t:=22) (d:=a) rfl rfl k E)));have i:=Wb A;have b:Rows.executedSpec.fn H ([a]++[])={ results:=[.lit (.bool true)],args:=[a] }:=by simp[Rows.executedSpec]
 refine(O4 l s W ⟨T3 K,i.1,i.2⟩ F J (by omega)).mono fun e P ⟨he,o⟩=>?_
 subst he;refine⟨_,rfl,_,_,_,[],p,[],n,?_,?_,?_,o.frame _,fun h=>by cases h⟩
 ·rw[b];exact trodAll_mk1 (shut_bool underlying4 true)
 ·rw[b];exact trodAll_mk1 (Below.trod Ru (by kernel_rfl) (by rw[Tryz.tyCount];decide) f o (fun x c=>G x (by simpa using c)))
 ·rw[b];rfl
end
theorem FA:joinedFacts prog 6 Tryz.f6 Rows.executedSpec Rows.executedRow=true:=by
 unfold joinedFacts;simp only[Bool.and_eq_true]
 repeat' apply And.intro
 all_goals as_aux_lemma=>kernel_rfl
theorem BI:prog.funcNamed Rows.executedRow.func=some 6:=by kernel_rfl
section
open Go
theorem FY:(Tryz.f6).isInstance prog Rows.executedRow.origin Rows.executedRow.targs:=of_decide_eq_true (by kernel_rfl)
theorem FV:(Tryz.f6).isWrapper prog Rows.executedRow.wrapper Rows.executedRow.mainSum:=by
 unfold Func.isWrapper
 first
  |(rw[if_pos (by decide +kernel)];kernel_rfl)
  |(rw[if_neg (by decide +kernel)];exact⟨rfl,rfl⟩)
theorem FF:Rows.ExecutedSaid:=
 OpenClaim.holds_of_wide 6 Tryz.f6 rfl rfl rfl rfl rfl rfl rfl ⟨rfl,rfl,rfl,rfl,rfl⟩ rfl rfl rfl rfl rfl BI func6 FA
  FY FV (fun os started H enc _=>FR os started H enc)
theorem Hf:∀(j:Nat) (t:TypeId),(Tryz.f6).params[j]?=some t->prog.wantsStandIn t=false:=fun j t ht=>by
 rw[Tryz.params6]at ht
 have a:t∈[22]:=by
  have:=List.mem_of_getElem? (l:=[22]) (by simpa using ht);exact this
 simp only[List.mem_cons,List.not_mem_nil,or_false]at a;subst a;exact(show prog.wantsStandIn 22=false by kernel_rfl)
theorem IQ:Rows.executedRow.wfByText (OpenSpec.ofChange Rows.executedSpec)=true:=by kernel_rfl
theorem Hd:Tryz.pinned.checked.prog.mainIs=some (true, "f92bcb6c8891d389d7e26fd120d8b9519b3e2ba37a68b58703642a3997de0636".toList):=by kernel_rfl
theorem FO:true=Tryz.pinned.checked.prog.looks []:=by kernel_rfl
theorem Ht:false=Rows.executedRow.goesBy Tryz.pinned.checked.prog:=by kernel_rfl
theorem executed_card_holds:Rows.ExecutedCardSaid:=
 Claim7.holds_tied_plain_at .later [] [.data,.data,.data,.handle] true (true, "f92bcb6c8891d389d7e26fd120d8b9519b3e2ba37a68b58703642a3997de0636") true
  FF (fun _ h=>by cases h) IQ (fun _ h=>by cases h) executed_row_tie rfl ⟨rfl,rfl⟩ Hd rfl
  (fun f fn hf hfn=>by
    obtain rfl:f=6:=(Option.some.inj (BI.symm.trans hf)).symm;obtain rfl:fn=Tryz.f6:=(Option.some.inj (func6.symm.trans hfn)).symm
    exact ⟨FO,Hf⟩)
  Ht
end
end Go.Proofs.YtgnkjijocdmniaaGreatDoor
