import Derived.Lib.SmallJoins
import Derived.Deep.Slices
import Derived.Carry
import Derived.SizedLaws
import Derived.JoinedOf
import Derived.KernelRfl
import Derived.Test.YtgnkjijocdmniaaGreatDoorTie
import Derived.Test.YtgnkjijocdmniaaGreatDoorCards
import Derived.SevenTiedAt
import Derived.Test.YtgnkjijocdmniaaGreatDoorZKParts
namespace Go.Proofs.YtgnkjijocdmniaaGreatDoor
set_option linter.unusedVariables false
set_option linter.unusedSimpArgs false
set_option maxRecDepth 100000
set_option maxHeartbeats 4000000
open Go.Proofs.Tryz
section
open Go.RowKit
attribute [local go_sem ↓] Go.wp_at_zero Go.wp_at_succ
theorem QyT:varsB Qb5=true:=(Lib.containsS_iff _ _).2 (List.mem_map_of_mem (by decide))
def Qjv (M:Msg) (y y':List (L8)×List (Qbo 7)):Prop:=(sayL y' M).1=(sayL y M).1∧(Qgh (sayL y' M).2.2).1=(Qgh (sayL y M).2.2).1
theorem Ql7{M:Msg}{l l':L8}{y y':List (L8)×List (Qbo 7)}{r:SS->Except Int (SS×Bool)}(hl:l.length<=600)(aa:l'.length<=600)(h:prL l=.ok y)(h':prL l'=.ok y')(e:∀ s,y.1=Qb5/\Qlq M y.2 s=r s)(e':∀ s,y'.1=Qb5/\Qlq M y'.2 s=r s):Qjv M y y':=by
 obtain⟨a1,a2⟩:=Qro (M:=M) true h hl;obtain⟨b1,b2⟩:=Qro (M:=M) true h' aa;have hy:=(e (ss0 true)).1;have ab:=(e' (ss0 true)).1;rw[(e _).2]at a1 a2;rw[(e' _).2]at b1 b2;unfold Qjv sayL;rw[hy,ab,QyT];refine⟨b1.trans a1.symm,?_⟩;have h6:=b2.trans a2.symm;generalize (execL true (QcF y'.2) M).2.2=p at h6;generalize (execL true (QcF y.2) M).2.2=q at h6;cases p<;>cases q<;>simp[Qgh]at h6 ⊢
 exact h6
structure Qxm (M:Msg) (t a b:L8):Prop where
 q:∀ yP yQ,prL (Qu3 t a b)=.ok yP→prL (Qwl t a b)=.ok yQ→(Qu3 t a b).length≤600→(Qwl t a b).length≤600→Qjv M yP yQ
 u:36 ∉ t→∀ yP yU,prL (Qu3 t a b)=.ok yP→prL (Qwp t a b)=.ok yU→(Qu3 t a b).length≤600→(Qwp t a b).length≤600→Qjv M yP yU
 v:∀ yP yV,prL (Qu3 t a b)=.ok yP→prL (QwJ t a b)=.ok yV→(Qu3 t a b).length≤600→(QwJ t a b).length≤600→Qjv M yP yV
theorem QvZ{M:Msg}{t a b:L8}(h:Qpy t a b)(hl:t.length<=600):Qxm M t a b:=by
 obtain⟨yx,ya,yb,hx,h3,ha,hb⟩:=h;obtain⟨T,hT⟩:=Qyg hx h3;obtain⟨ca,hca⟩:=Qwr ha;obtain⟨cb,hcb⟩:=Qwr hb
 exact ⟨fun yP yQ h1 h2 l1 l2=>Ql7 l1 l2 h1 h2 (QxA hT hca hcb M h1) (QyI hT hca hcb M h2),
  fun h36 yP yU h1 h2 l1 l2=>Ql7 l1 l2 h1 h2 (QxA hT hca hcb M h1) (QyB hT hca hcb M h36 hl h2),
  fun yP yV h1 h2 l1 l2=>Ql7 l1 l2 h1 h2 (QxA hT hca hcb M h1) (QyK hT hca hcb M h2)⟩
theorem QyG(t a b:L8):Qaf QaG++(⟨#[105,102,32]⟩:ByteArray)++Qaf (t++[10])++(⟨#[32,123]⟩:ByteArray)++Qaf (a++[10])++(⟨#[125,32,101,108,115,101,32,123]⟩:ByteArray)++Qaf (b++[10])++(⟨#[125]⟩:ByteArray)=Qaf (Qu3 t a b):=by
 show Qaf QaG++Qaf [105,102,32]++Qaf (t++[10])++Qaf [32,123]++Qaf (a++[10])++Qaf [125,32,101,108,115,101,32,123]++Qaf (b++[10])++Qaf [125]=_
 simp only[QaJ];congr 1;simp only[Qu3,Qc9,kIf,Qch,List.append_assoc,List.cons_append,List.nil_append]
theorem QyL(t a b:L8):Qaf QaG++(⟨#[105,102,32,110,111,116,32]⟩:ByteArray)++Qaf (t++[10])++(⟨#[32,123]⟩:ByteArray)++Qaf (b++[10])++(⟨#[125,32,101,108,115,101,32,123]⟩:ByteArray)++Qaf (a++[10])++(⟨#[125]⟩:ByteArray)=Qaf (Qwl t a b):=by
 show Qaf QaG++Qaf [105,102,32,110,111,116,32]++Qaf (t++[10])++Qaf [32,123]++Qaf (b++[10])++Qaf [125,32,101,108,115,101,32,123]++Qaf (a++[10])++Qaf [125]=_
 simp only[QaJ];congr 1;simp only[Qwl,Qc9,kIf,kNot,Qch,List.append_assoc,List.cons_append,List.nil_append]
theorem QyP(t a b:L8):Qaf QaG++(⟨#[105,102,32,97,108,108,111,102,32,40]⟩:ByteArray)++Qaf (t++[10])++(⟨#[44,32]⟩:ByteArray)++Qaf (t++[10])++(⟨#[41,32,123]⟩:ByteArray)++Qaf (a++[10])++(⟨#[125,32,101,108,115,101,32,123]⟩:ByteArray)++Qaf (b++[10])++(⟨#[125]⟩:ByteArray)=Qaf (Qwp t a b):=by
 show Qaf QaG++Qaf [105,102,32,97,108,108,111,102,32,40]++Qaf (t++[10])++Qaf [44,32]++Qaf (t++[10])++Qaf [41,32,123]++Qaf (a++[10])++Qaf [125,32,101,108,115,101,32,123]++Qaf (b++[10])++Qaf [125]=_
 simp only[QaJ];congr 1;simp only[Qwp,Qc9,kIf,QbW,Qch,List.append_assoc,List.cons_append,List.nil_append]
theorem QyW(t a b:L8):Qaf QaG++(⟨#[105,102,32,97,110,121,111,102,32,40]⟩:ByteArray)++Qaf (t++[10])++(⟨#[41,32,123]⟩:ByteArray)++Qaf (a++[10])++(⟨#[125,32,101,108,115,105,102,32,102,97,108,115,101,32,123,115,116,111,112,59,125,32,101,108,115,101,32,123]⟩:ByteArray)++Qaf (b++[10])++(⟨#[125]⟩:ByteArray)=Qaf (QwJ t a b):=by
 show Qaf QaG++Qaf [105,102,32,97,110,121,111,102,32,40]++Qaf (t++[10])++Qaf [41,32,123]++Qaf (a++[10])++Qaf [125,32,101,108,115,105,102,32,102,97,108,115,101,32,123,115,116,111,112,59,125,32,101,108,115,101,32,123]++Qaf (b++[10])++Qaf [125]=_
 simp only[QaJ];congr 1;simp only[QwJ,Qkg,QuQ,kIf,QbV,QbM,QcD,Qd6,Qch,List.append_assoc,List.cons_append,List.nil_append]
theorem QvY:Qaf QaG=(⟨#[114,101,113,117,105,114,101,32,91,34,118,97,114,105,97,98,108,101,115,34,44,32,34,101,110,118,101,108,111,112,101,34,44,32,34,102,105,108,101,105,110,116,111,34,44,32,34,114,101,106,101,99,116,34,93,59]⟩:ByteArray):=by decide
theorem Qmi(t a b:L8)(M:Msg)(hv:Value)(w:World)(he:Env w)(ht:t.length<=140737488355328)(ha:a.length<=140737488355328)(hbl:b.length<=140737488355328)(hh:QpM w hv M.hdrs)(hb:Qyw M) :
 Calls Tryz.prog 8 #[.string (Qaf t),.string (Qaf a),.string (Qaf b),Qf5 M hv] w fun e w'=>e=.returned (.bool true)/\Below w.heap.size w w':=by
 obtain⟨ah,ch,rfl⟩:=hh.len;have HE:=Qab he;have bR:=Qab hh;have bT:=Qab hb;have hz1:=Qaj t;have hz2:=Qaj a;have hz3:=Qaj b;clear he hh hb;have bf:∀(a:Option Addr) (n c:Nat),Qf5 M (.slice a n c)=.agg #[.string (Qaf M.fr),.string (Qaf M.to),.int .i64 M.size,.slice a n c]:=fun _ _ _=>rfl
 rw[bf];have ar:=Qab bf;clear bf;obtain⟨W0,aP⟩:∃ W0,W0=w.alloc (.cells #[.string (Qaf M.fr),.string (Qaf M.to),.int .i64 M.size,.slice ah M.hdrs.length ch] 28):=⟨_,rfl⟩;have aW:Hid (Below w.heap.size w W0):=by show Below _ _ _;rw[aP];exact(Below.refl _ _).alloc (Nat.le_refl _) _
 have bp:Hid (W0.heap[w.heap.size]?=some (.cells #[.string (Qaf M.fr),.string (Qaf M.to),.int .i64 M.size,.slice ah M.hdrs.length ch] 28)):=by show _=_;rw[aP];exact Qat _ _
 have h0s:=aW.o.size;have h0l:=QaI bp.o;have bV:=Qab aP
 have aa:Hid (∀ W:World,Below (w.heap.size+1) W0 W->Below w.heap.size w W/\Env W/\QpM W (.slice ah M.hdrs.length ch) M.hdrs/\w.heap.size<=W.heap.size/\w.heap.size+1<=W.heap.size/\W.cell? ⟨w.heap.size,0,none⟩=some (.string (Qaf M.fr))/\W.cell? ⟨w.heap.size,1,none⟩=some (.string (Qaf M.to))/\W.cell? ⟨w.heap.size,2,none⟩=some (.int .i64 M.size)/\W.cell? ⟨w.heap.size,3,none⟩=some (.slice ah M.hdrs.length ch)):=fun W hW=>by
  have a4:Below w.heap.size w W:=aW.o.trans (hW.mono (by omega));have aO:W.heap[w.heap.size]?=some _:=(hW.block w.heap.size (by omega)).trans bp.o;have h1:=hW.size;exact⟨a4,HE.o.below a4,bR.o.below a4,by omega,by omega,Qaa aO 0,Qaa aO 1,Qaa aO 2,Qaa aO 3⟩
 clear aP;go_enter func8,ntmps8;go_wp2_with fail;rw[<-bV.o];refine(QvA W0 (HE.o.below aW.o)).mono ?_;rintro e w1 ⟨rfl,bw⟩;have a5:Below (w.heap.size+1) W0 w1:=bw.mono (by omega);have bi:=Qab a5;obtain⟨_,_,_,h1s,bW,m0,m1,m2,m3⟩:=aa.o w1 a5;clear bw a5;go_wp2_with fail;rw[<-ar.o];refine(Qs8 M _ w1 (aa.o w1 bi.o).2.2.1 bT.o).mono ?_;rintro e w2 ⟨rfl,bx⟩;have a6:Below (w.heap.size+1) W0 w2:=bi.o.trans (bx.mono bW);have aH:=Qab a6;have bX:=(aa.o w2 a6).2.2.2.2.1;clear bx a6 m0 m1 m2 m3;by_cases hsm:QwB M<=16384;rotate_left
 ·have hd:decide (QwB M<=16384)=false:=decide_eq_false hsm;rw[hd];clear hd hsm;go_wp2;go_ret;exact⟨rfl,(aa.o w2 aH.o).1⟩
 have hd:decide (QwB M<=16384)=true:=decide_eq_true hsm;rw[hd];have az:=Qab (Qni hsm);clear hd hsm;by_cases h250:t.length+a.length+b.length<=250;rotate_left
 ·have aB:(250:Int)<(t.length:Int)+(a.length:Int)+(b.length:Int):=by omega
  go_wp2;go_ret;exact⟨rfl,(aa.o w2 aH.o).1⟩
 have aB:¬(250:Int)<(t.length:Int)+(a.length:Int)+(b.length:Int):=by omega
 go_wp2_with fail;rw[<-QvY];have cc:=Qaj QaG;rw[Qns]at cc;refine(Qsf t a b w2 (aa.o w2 aH.o).2.1 h250).mono ?_;rintro e w3 ⟨bz,aA,rfl,bG⟩;have a7:Below (w.heap.size+1) W0 w3:=aH.o.trans (bz.mono bX);have aI:=Qab a7;obtain⟨_,_,_,h3s,bY,m0,m1,m2,m3⟩:=aa.o w3 a7;clear bz a7;cases aA
 ·go_wp2;go_ret;exact⟨rfl,(aa.o w3 aI.o).1⟩
 have aJ:=Qab (QvZ (M:=M) (bG rfl) (by omega));have bl:=Qab (QyG t a b);have aY:=Qab (QyL t a b);have bm:=Qab (QyP t a b);have bn:=Qab (QyW t a b);have ht1:Qaf t++(⟨#[10]⟩:ByteArray)=Qaf (t++[10]):=QaJ t [10];have ha1:Qaf a++(⟨#[10]⟩:ByteArray)=Qaf (a++[10]):=QaJ a [10];have hb1:Qaf b++(⟨#[10]⟩:ByteArray)=Qaf (b++[10]):=QaJ b [10];have hz4:(Qaf (t++[10])).size=t.length+1:=by rw[Qaj];simp
 have hz5:(Qaf (a++[10])).size=a.length+1:=by rw[Qaj];simp
 have hz6:(Qaf (b++[10])).size=b.length+1:=by rw[Qaj];simp
 clear bG;generalize hK:Qaf QaG=K at *;clear hK;go_wp2_with fail;rw[bl.o,<-ar.o];refine(Qhc (Qu3 t a b) _ M w3 (aa.o w3 aI.o).2.1 (aa.o w3 aI.o).2.2.1 az.o).mono ?_;rintro e w4 ⟨bA,hP⟩;have a8:Below (w.heap.size+1) W0 w4:=aI.o.trans (bA.mono bY);have ao:=Qab a8;clear m0 m1 m2 m3;obtain⟨_,_,_,h4s,bv,m0,m1,m2,m3⟩:=aa.o w4 a8;clear bA a8;rcases hP with⟨yP,lvP,aR,aQ,rfl,aL⟩ | ⟨er,rfl⟩
 rotate_left
 ·go_wp2_with fail;rw[aY.o,<-ar.o];refine(Qhc (Qwl t a b) _ M w4 (aa.o w4 ao.o).2.1 (aa.o w4 ao.o).2.2.1 az.o).mono ?_;rintro e w5 ⟨aw,hQ⟩;have ap:=Qab (ao.o.trans (aw.mono bv))
  have b9:∃ v i c,e=.returned (.tuple #[v,.int .i64 i,.bool c]):=by
   rcases hQ with⟨_,lv,_,_,rfl,_⟩ | ⟨er,rfl⟩<;>exact⟨_,_,_,rfl⟩
  obtain⟨v5,i5,c5,rfl⟩:=b9;clear aw hQ;go_wp2;go_ret;exact⟨rfl,(aa.o w5 ap.o).1⟩
 obtain⟨LP,aE⟩:∃ LP,(sayL yP M).1=LP:=⟨_,rfl⟩;obtain⟨eP,aF⟩:∃ eP,(Qgh (sayL yP M).2.2).1=eP:=⟨_,rfl⟩;rw[aE]at aL;rw[aF]
 have bq:Hid (∀ yQ,prL (Qwl t a b)=.ok yQ->(Qwl t a b).length<=600->(sayL yQ M).1=LP/\(Qgh (sayL yQ M).2.2).1=eP):=fun yQ h1 h2=>by
  have:=aJ.o.q yP yQ aR h1 aQ h2;rw[<-aE,<-aF];exact this
 have br:Hid (36 ∉ t->∀ yQ,prL (Qwp t a b)=.ok yQ->(Qwp t a b).length<=600->(sayL yQ M).1=LP/\(Qgh (sayL yQ M).2.2).1=eP):=fun h36 yQ h1 h2=>by
  have:=aJ.o.u h36 yP yQ aR h1 aQ h2;rw[<-aE,<-aF];exact this
 have bs:Hid (∀ yQ,prL (QwJ t a b)=.ok yQ->(QwJ t a b).length<=600->(sayL yQ M).1=LP/\(Qgh (sayL yQ M).2.2).1=eP):=fun yQ h1 h2=>by
  have:=aJ.o.v yP yQ aR h1 aQ h2;rw[<-aE,<-aF];exact this
 clear aR aQ aE aF aJ bl;have bN:=Qab aL;obtain⟨la,lc,aj⟩:=QaD aL.1;subst aj;clear aL;go_wp2_with fail;rw[aY.o,<-ar.o];refine(Qhc (Qwl t a b) _ M w4 (aa.o w4 ao.o).2.1 (aa.o w4 ao.o).2.2.1 az.o).mono ?_;rintro e w5 ⟨aw,hQ⟩;have a9:Below (w.heap.size+1) W0 w5:=ao.o.trans (aw.mono bv);have ap:=Qab a9;have aS:=Qab (bN.o.below aw);clear m0 m1 m2 m3;obtain⟨_,_,_,h5s,bZ,m0,m1,m2,m3⟩:=aa.o w5 a9;clear aw a9;rcases hQ with⟨yQ,lvQ,bM,bJ,rfl,aM⟩ | ⟨er,rfl⟩
 rotate_left
 ·go_wp2;go_ret;exact⟨rfl,(aa.o w5 ap.o).1⟩
 obtain⟨bK,bL⟩:=bq.o yQ bM bJ;rw[bK]at aM;rw[bL];have bO:=Qab aM;obtain⟨lb,ld,aj⟩:=QaD aM.1;subst aj;clear aM bM bJ bK bL bq aY;go_wp2_with fail;rw[bm.o,<-ar.o];refine(Qhc (Qwp t a b) _ M w5 (aa.o w5 ap.o).2.1 (aa.o w5 ap.o).2.2.1 az.o).mono ?_;rintro e w6 ⟨aN,hU⟩;have ba:Below (w.heap.size+1) W0 w6:=ap.o.trans (aN.mono bZ);have aX:=Qab ba;have aT:=Qab (aS.o.below aN);have aU:=Qab (bO.o.below aN);clear m0 m1 m2 m3;obtain⟨_,_,_,h6s,b0,m0,m1,m2,m3⟩:=aa.o w6 ba;clear ba
 have b4:∃(ax:Value) (eU:Int) (ab:Bool),e=.returned (.tuple #[ax,.int .i64 eU,.bool ab])/\(ab=true->∃ LU,ActsV w6 w5.heap.size ax LU/\(36 ∉ t->LU=LP/\eU=eP)):=by
  rcases hU with⟨yU,ax,ca,b7,rfl,b2⟩ | ⟨er,rfl⟩
  ·exact⟨_,_,_,rfl,fun _=>⟨_,b2,fun h36=>br.o h36 yU ca b7⟩⟩
  ·exact⟨_,_,_,rfl,fun h=>by cases h⟩
 obtain⟨ax,eU,ab,rfl,bE⟩:=b4;have bt:=Qab bE;clear hU bE aN br bm;go_wp2_with fail;rw[bn.o,<-ar.o];refine(Qhc (QwJ t a b) _ M w6 (aa.o w6 aX.o).2.1 (aa.o w6 aX.o).2.2.1 az.o).mono ?_;rintro e w7 ⟨aC,hV⟩;have bC:Below (w.heap.size+1) W0 w7:=aX.o.trans (aC.mono b0);have bj:=Qab bC;have ay:=Qab (aT.o.below aC);have aV:=Qab (aU.o.below aC)
 have bu:Hid (ab=true->∃ LU,ActsV w7 w5.heap.size ax LU/\(36 ∉ t->LU=LP/\eU=eP)):=fun h=>by
  obtain⟨LU,h1,h2⟩:=bt.o h;exact⟨LU,h1.below aC,h2⟩
 have b5:∃(ak:Value) (eV:Int) (ad:Bool),e=.returned (.tuple #[ak,.int .i64 eV,.bool ad])/\(ad=true->ActsV w7 w6.heap.size ak LP/\eV=eP):=by
  rcases hV with⟨yV,ak,cb,b8,rfl,av⟩ | ⟨er,rfl⟩
  ·obtain⟨h1,h2⟩:=bs.o yV cb b8;rw[h1]at av;exact⟨_,_,_,rfl,fun _=>⟨av,h2⟩⟩
  ·exact⟨_,_,_,rfl,fun h=>by cases h⟩
 obtain⟨ak,eV,ad,rfl,bF⟩:=b5;have a0:=Qab bF;clear hV bF aC bC bs bn bt m0 m1 m2 m3;have b1:=(aa.o w7 bj.o).2.2.2.2.1;go_wp2_with fail;refine(Qj4 _ _ _ _ LP w7 ay.o aV.o).mono ?_;rintro e w8 ⟨rfl,aD⟩;have ai:=Qab (bj.o.trans (aD.mono b1));have ac:=Qab (ay.o.below aD)
 have aZ:Hid (ab=true->∃ LU,ActsV w8 w5.heap.size ax LU/\(36 ∉ t->LU=LP/\eU=eP)):=fun h=>by
  obtain⟨LU,h1,h2⟩:=bu.o h;exact⟨LU,h1.below aD,h2⟩
 have af:Hid (ad=true->ActsV w8 w6.heap.size ak LP/\eV=eP):=fun h=>⟨(a0.o h).1.below aD,(a0.o h).2⟩
 have au:=(aa.o w8 ai.o).2.2.2.2.1;clear aD bu a0;have aG:(t++[10]).length=t.length+1:=by simp
 have bo:=Qab aG;clear aG;cases ab
 case' false=>
  have aq:=ai;have ag:=ac;have a1:=af;have a3:=au;clear ai ac af au aZ;go_wp2
 case' true=>
  obtain⟨LU,bb,bD⟩:=aZ.o rfl;have bS:=Qab bD;have bh:=Qab bb;obtain⟨lu,lw,aj⟩:=QaD bb.1;subst aj;clear bb bD aZ;by_cases h36:36∈t
  case' pos=>
   go_wp2_with fail;refine(Qsb _ _ _ _ LP LU w8 ac.o bh.o).mono ?_;rintro e w9 ⟨⟨r,rfl⟩,ae⟩;have aq:=Qab (ai.o.trans (ae.mono au));have ag:=Qab (ac.o.below ae);have a1:Hid (ad=true->ActsV w9 w6.heap.size ak LP/\eV=eP):=fun h=>⟨(af.o h).1.below ae,(af.o h).2⟩
   have a3:=(aa.o w9 aq.o).2.2.2.2.1;clear ae ai ac af au;cases r;case' false=>go_wp2
   case' true=>go_wp2
  case' neg=>
   obtain⟨rfl,rfl⟩:=bS.o h36;go_wp2_with fail;refine(Qj4 _ _ _ _ LU w8 ac.o bh.o).mono ?_;rintro e w9 ⟨rfl,ae⟩;have aq:=Qab (ai.o.trans (ae.mono au));have ag:=Qab (ac.o.below ae);have a1:Hid (ad=true->ActsV w9 w6.heap.size ak LU/\eV=eU):=fun h=>⟨(af.o h).1.below ae,(af.o h).2⟩
   have a3:=(aa.o w9 aq.o).2.2.2.2.1;clear ae ai ac af au;go_wp2
 all_goals
  go_loop [26,27] (fun y i=>∃(k:Nat) (c:Bool),k<=t.length+1/\i=.int .i64 k/\y=.bool c/\(c=true\/(36∈t/\36 ∉ (t++[10]).take k))) (fun _ i=>t.length+1 - (intOf i).toNat)
  case atStart=>first|exact⟨0,_,Nat.zero_le _,rfl,rfl,Or.inl rfl⟩|exact⟨0,_,Nat.zero_le _,rfl,rfl,Or.inr ⟨h36,by simp⟩⟩
  case round=>
   obtain⟨k,c,hk,rfl,rfl,bH⟩:=hrel;have bk:=Qab bH;clear bH;by_cases hlt:k<(Qaf (t++[10])).size
   ·have bd:(k:Int)<(t.length:Int)+1:=by omega
    cases c
    ·obtain⟨a2,bg⟩:36∈t/\36 ∉ (t++[10]).take k:=bk.o.resolve_left (by decide);have bI:k<(t++[10]).length:=by rw[bo.o];omega
     have bc:(t++[10])[k]=(Qaf (t++[10]))[k]:=(QwR _ k hlt bI).symm;by_cases hd:(Qaf (t++[10]))[k]=36
     ·have aK:(((Qaf (t++[10]))[k].toNat:Int)==36)=true:=by rw[hd];rfl
      clear hd bc bg;go_wp2;go_round
      case rel=>exact⟨k+1,true,by omega,by go_num,by first|rfl|exact congrArg Value.bool aK,Or.inl rfl⟩
      case measure=>simp[intOf];omega
     ·have aK:(((Qaf (t++[10]))[k].toNat:Int)==36)=false:=by
       have h:¬(Qaf (t++[10]))[k].toNat=36:=fun h=>hd (UInt8.toNat_inj.1 h)
       simp;omega
      have bU:Hid (36 ∉ (t++[10]).take (k+1)):=by
       show _ ∉ _
       rw[List.take_succ_eq_append_getElem bI,bc];intro hm;rcases List.mem_append.1 hm with hm|hm
       ·exact bg hm
       ·exact hd (List.mem_singleton.1 hm).symm
      clear hd bc bg;go_wp2;go_round
      case rel=>exact⟨k+1,false,by omega,by go_num,by exact congrArg Value.bool aK,Or.inr ⟨a2,bU.o⟩⟩
      case measure=>simp[intOf];omega
    ·go_wp2;go_round
     case rel=>exact⟨k+1,true,by omega,by go_num,by first|rfl|exact congrArg Value.bool aK,Or.inl rfl⟩
     case measure=>simp[intOf];omega
   ·have hke:k=t.length+1:=by omega
    have b6:c=true:=bk.o.resolve_right (fun h=>h.2 (by rw[List.take_of_length_le (by rw[bo.o];omega)];exact List.mem_append_left _ h.1));subst b6;have bd:¬(k:Int)<(t.length:Int)+1:=by omega
    cases ad
    ·go_wp2;go_ret;exact⟨rfl,(aa.o _ aq.o).1⟩
    ·obtain⟨av,b3⟩:=a1.o rfl;subst b3;have bP:=Qab av;obtain⟨lx,ly,aj⟩:=QaD av.1;subst aj;clear av;go_wp2_with fail;refine(Qj4 _ _ _ _ _ _ ag.o bP.o).mono ?_;rintro e wz ⟨rfl,bB⟩;have bQ:=Qab (aq.o.trans (bB.mono a3));clear bB;go_wp2;go_ret;exact⟨rfl,(aa.o wz bQ.o).1⟩
end
section
open Go.ChangeShapes Go.WideShapes Go.ChangeAt Go.WideMaps Go.WideElems Go.RowKit Go.Joins Go.Deep
theorem Tryz.laidOut:laidOutB Tryz.prog=true:=by kernel_rfl
theorem Tryz.cellsMsg:Tryz.prog.cellsOf 28=4:=by kernel_rfl
theorem Tryz.cellsHdr:Tryz.prog.cellsOf 50=2:=by kernel_rfl
theorem Tryz.bytesHdr:Tryz.prog.bytesOf 50=32:=by kernel_rfl
theorem Tryz.cellsStr:Tryz.prog.cellsOf 9=1:=by kernel_rfl
theorem Tryz.oneMsg:oneCellFields Tryz.prog #[{ name:= "From",type:=9,offset:=0,embedded:=false,tag:= "",pkgPath:= "",byteOffset:=0 },{ name:= "To",type:=9,offset:=1,embedded:=false,tag:= "",pkgPath:= "",byteOffset:=16 },{ name:= "Size",type:=3,offset:=2,embedded:=false,tag:= "",pkgPath:= "",byteOffset:=32 },{ name:= "Headers",type:=26,offset:=3,embedded:=false,tag:= "",pkgPath:= "",byteOffset:=40 }]=true:=by kernel_rfl
theorem QrC:reachBytes=140737488351232:=rfl
theorem Qgs{H:Type}{P:Program}{e:TypeId}:∀ {l:List (DataW H)} {d:DataW H},d∈l->∀ n∈d.weights P e,n∈DataW.weightsAll P e l
 |d'::r,d,hd,n,hn=>by
  simp only[DataW.weightsAll,List.mem_append];rcases List.mem_cons.1 hd with rfl|h
  ·exact Or.inl hn
  ·exact Or.inr (Qgs h n hn)
theorem Qer(s:ByteArray):Qaf s.data.toList=s:=by
 cases s;rfl
theorem QvQ{H:Type}{enc:TypeId×Value->H}{W:World}{aa:Nat->Bool}{ad:Bool}{n:Nat}{cs:List Value}{y:DataW H×List MemPlace}(h:DataW.trod enc Tryz.prog W 0 aa ad n 50 cs=some y) :
 ∃ a b:ByteArray,cs=[.string a,.string b]/\y.1=.agg [.lit (.string a.data.toList),.lit (.string b.data.toList)]:=by
 obtain⟨y0,y1,m,hx,hl,h0,h1⟩:=trod_struct2 underlying50 h;rw[Tryz.cellsHdr]at hl
 obtain⟨c0,c1,rfl⟩:∃ c0 c1,cs=[c0,c1]:=by
  match cs,hl with
  | [c0,c1],_=>exact⟨c0,c1,rfl⟩
 obtain⟨a,e0,f0,_⟩:=DataW.trod_string underlying9 h0;obtain⟨b,e1,f1,_⟩:=DataW.trod_string underlying9 h1;rw[Tryz.cellsStr]at e0 e1;have ab:[c0]=[Value.string a]:=e0;have ac:[c1]=[Value.string b]:=e1;injection ab with ab
 injection ac with ac
 subst ab ac f0 f1;exact⟨a,b,rfl,by rw[hx]⟩
theorem Qwf{H:Type}{enc:TypeId×Value->H}{W:World}{r:Reach}{b0:Nat}{v:Value}{d:DataW H}{p:List MemPlace}(hv:Value.okWide Tryz.prog W r b0 28 v)(h:DataW.Trod enc Tryz.prog W 0 (fun _=>true) true 28 v d p)
 (hw:∀ k∈d.weights Tryz.prog 28,k<=reachBytes):∃(M:Msg) (hv:Value),v=Qf5 M hv/\QpM W hv M.hdrs/\Qyw M:=by
 obtain⟨c0,c1,c2,c3,y0,y1,y2,y3,n,rfl,rfl,rfl,h0,h1,h2,h3⟩:=open_agg4 underlying28 Tryz.oneMsg Tryz.cellsMsg hv h;obtain⟨fr,e0,f0,_⟩:=DataW.trod_string underlying9 h0;obtain⟨ad,e1,f1,_⟩:=DataW.trod_string underlying9 h1;obtain⟨sz,e2,f2,_⟩:=DataW.trod_int underlying3 h2;injection e0 with e0
 injection e1 with e1
 injection e2 with e2
 subst e0 e1 e2 f0 f1 f2
 have aq:(DataW.agg [DataW.lit (Lit.string fr.data.toList),DataW.lit (Lit.string ad.data.toList),DataW.lit (Lit.int .i64 sz),y3.1]:DataW H).weights Tryz.prog 28=[fr.data.toList.length,ad.data.toList.length]++(y3.1.weights Tryz.prog 26):=by
  simp[DataW.weights,DataW.weightsEach,underlying28]
 rw[aq]at hw;have hr:=QrC;have w1:=hw fr.data.toList.length (by simp);have w2:=hw ad.data.toList.length (by simp);have w3:∀ k∈y3.1.weights Tryz.prog 26,k<=reachBytes:=fun k hk=>hw k (List.mem_append_right _ hk)
 clear hw aq
 have ap:∀(hs:List (L8×L8)),(∀ x∈hs,x.1.length<=reachBytes/\x.2.length<=reachBytes)->hs.length<=reachBytes->Qyw ⟨fr.data.toList,ad.data.toList,sz,hs⟩:=fun hs h1 h2=>
  ⟨by show fr.data.toList.length<=_;omega,by show ad.data.toList.length<=_;omega,by show hs.length<=_;omega,fun x hx=>by have:=h1 x hx;omega⟩
 rcases open_slice underlying26 h3 with⟨ac,hx⟩ | ⟨a,aa,ar,m,nn,D,Pl,ac,_,hl,hm,ay,hx,ao⟩
 ·injection ac with ac
  subst ac;refine⟨⟨fr.data.toList,ad.data.toList,sz,[]⟩,.slice none 0 0,?_,⟨none,0,rfl,fun h=>absurd rfl h⟩,ap [] (fun x hx=>nomatch hx) (Nat.zero_le _)⟩;unfold Qf5;rw[Qer,Qer]
 ·injection ac with ac
  subst ac;have ax:m=ar:=by rw[ay];rfl
  subst ax;rw[Tryz.cellsHdr]at ao
  have au:∀ i,i<aa->∃ x:ByteArray×ByteArray,W.cell? (a.add (i*2))=some (.string x.1)/\W.cell? ((a.add (i*2)).add 1)=some (.string x.2)/\D i=.agg [.lit (.string x.1.data.toList),.lit (.string x.2.data.toList)]:=fun i hi=>by
   obtain⟨cs',hc,ht⟩:=ao i (by omega);obtain⟨x,y,rfl,hd⟩:=QvQ ht;obtain⟨_,_,ab⟩:=World.cells?_some hc;refine⟨(x,y),?_,?_,hd⟩
   ·have:=ab 0 (by omega);simpa[Addr.add]using this
   ·have:=ab 1 (by omega);simpa using this
  obtain⟨f,hf⟩:=choose_lt (α:=ByteArray×ByteArray) au;have hs:∃ hs:List (L8×L8),hs=(List.range aa).map fun i=>((f i).1.data.toList,(f i).2.data.toList):=⟨_,rfl⟩
  obtain⟨hs,ag⟩:=hs;have ai:hs.length=aa:=by rw[ag];simp
  have af:∀ j (hj:j<hs.length),hs[j]=((f j).1.data.toList,(f j).2.data.toList):=fun j hj=>by simp[ag]
  have hwy:∀ k∈DataW.weights Tryz.prog 26 (.slice ((List.range aa).map D) ((List.range (m - aa)).map fun j=>D (aa+j))),k<=reachBytes:=fun k hk=>w3 k (by rw[hx];exact hk)
  have hlen:(aa+(m - aa))*32<=reachBytes:=hwy _ (by simp[DataW.weights,underlying26,Tryz.bytesHdr]);refine⟨⟨fr.data.toList,ad.data.toList,sz,hs⟩,.slice (some a) aa m,?_,⟨some a,m,by rw[ai],fun hne=>?_⟩,ap hs (fun x hx'=>?_) (by omega)⟩
  ·unfold Qf5;rw[Qer,Qer]
  ·have ah:0<aa:=by rw[<-ai];exact List.length_pos_iff.2 hne
   obtain⟨b,aj,ak⟩:=a
   have ae:ak=none:=by
    have:=World.cell?_spot (hf 0 ah).1;simpa[Addr.add]using this
   subst ae;refine⟨b,aj,rfl,fun j hj=>?_⟩;have aw:j<aa:=by rw[<-ai];exact hj
   obtain⟨g1,g2,_⟩:=hf j aw;rw[Addr.add_lit]at g1;rw[Addr.add_lit,Addr.add_lit]at g2;have hg:=af j hj;show W.cell? ⟨b,aj+j*2,none⟩=some (.string (Qaf hs[j].1))/\W.cell? ⟨b,aj+j*2+1,none⟩=some (.string (Qaf hs[j].2))
   rw[hg];dsimp only;rw[Qer,Qer];exact⟨g1,g2⟩
  ·rw[ag]at hx';obtain⟨i,hi,rfl⟩:=List.mem_map.1 hx';have av:i<aa:=List.mem_range.1 hi;obtain⟨_,_,hd⟩:=hf i av;have hmem:D i∈(List.range aa).map D:=List.mem_map.2 ⟨i,hi,rfl⟩
   have hall:∀ k∈(D i).weights Tryz.prog 50,k≤reachBytes:=fun k hk=>hwy k (by
    simp only[DataW.weights,underlying26,List.mem_cons,List.mem_append]
    exact Or.inr (Or.inl (Qgs hmem k hk)))
   rw[hd]at hall
   have az:(DataW.agg [DataW.lit (Lit.string (f i).1.data.toList),DataW.lit (Lit.string (f i).2.data.toList)]:DataW H).weights Tryz.prog 50=[(f i).1.data.toList.length,(f i).2.data.toList.length]:=by
    simp[DataW.weights,DataW.weightsEach,underlying50]
   rw[az]at hall;exact⟨hall _ (by simp),hall _ (by simp)⟩
end
section
open Go.ChangeShapes Go.WideShapes Go.ChangeAt Go.WideMaps Go.WideElems Go.RowKit
open Go.ChangeMaps (open_string shut_string)
theorem Qmv(os:Os)(ab:os.Started)(H:Type)(enc:TypeId×Value->H) :
 ReturnsInHanded {} Tryz.checked os 8 .any (fun w args=>(Rows.turnedSpec.pre enc Tryz.prog Tryz.f8 [] false w args/\laidMetH Tryz.prog Qtr w)/\sizedMet enc Tryz.prog Tryz.f8 (OpenSpec.ofChange Rows.turnedSpec) false w args)
  (Rows.turnedSpec.post enc Tryz.prog Tryz.f8 false true false false):=by
 refine Qtw (C:=Tryz.checked) (X:=fun w _=>laidMetH Tryz.prog Qtr w) (fun _ _ _ hh h=>h.of_heap hh) Tryz.own ab (by kernel_rfl) func8
  (ChangeSpec.witness_shaped (enc:=enc) (C:=Tryz.checked) (os:=os) (X:=fun w _=>laidMetH Tryz.prog Qtr w) false (World.doorLaid Tryz.prog 400 os) #[.string ⟨#[]⟩,.string ⟨#[]⟩,.string ⟨#[]⟩,.agg #[.string ⟨#[]⟩,.string ⟨#[]⟩,.int .i64 0,.slice none 0 0]] 8 rfl (World.shaped_of_RefB (by kernel_rfl) (by kernel_rfl)) (by kernel_rfl) (by kernel_rfl) (by kernel_rfl) (QvR os _)) ?_
 intro W ae args ds gs before ac hW ad hL aq;have aa:∀(j:Nat) t v,Tryz.f8.params[j]?=some t->args[j]?=some v->Value.okWide Tryz.prog W .any ae t v:=ac;have ag:=hW;obtain⟨p,q,ah,hV,rfl,hfz,hnd⟩:=hW;have hA:DataW.TrodAll enc Tryz.prog W 0 (fun _=>true) true Tryz.f8.params.toList args.toList ds p:=ah;rw[Tryz.params8]at hA aa;obtain⟨v0,v1,v2,v3,d0,d1,d2,d3,p0,p1,p2,p3,rfl,rfl,ak,h0,h1,h2,h3⟩:=trodAll_four hA;obtain⟨rfl,rfl⟩:=trodVars_none hV;have aj:∀ x∈p,x.block<W.heap.size:=fun x hx=>ag.lt x (by simp[hx])
 obtain⟨s,rfl,rfl,rfl,hs⟩:=open_string underlying9 (aa 0 9 v0 rfl rfl) h0;obtain⟨s1,rfl,rfl,rfl,ao⟩:=open_string underlying9 (aa 1 9 v1 rfl rfl) h1;obtain⟨s2,rfl,rfl,rfl,ap⟩:=open_string underlying9 (aa 2 9 v2 rfl rfl) h2;obtain⟨M,hv,rfl,hG,ai⟩:=Qwf (aa 3 28 v3 rfl rfl) h3 (fun k hk=>of_decide_eq_true (List.all_eq_true.1 ad k (DataW.weights_mem_each (j:=3) (t:=28) (d:=d3) rfl rfl k hk)));have af:=QwP hL;have e2:=QrC;have z0:=sized_string (j:=0) (t:=9) (bytes:=s.data.toList) ad (by rfl) (by rfl);have z1:=sized_string (j:=1) (t:=9) (bytes:=s1.data.toList) ad (by rfl) (by rfl);have z2:=sized_string (j:=2) (t:=9) (bytes:=s2.data.toList) ad (by rfl) (by rfl);have e1:Rows.turnedSpec.fn H ([.lit (.string s.data.toList),.lit (.string s1.data.toList),.lit (.string s2.data.toList),d3]++[])={ results:=[.lit (.bool true)],args:=[.lit (.string s.data.toList),.lit (.string s1.data.toList),.lit (.string s2.data.toList),d3] }:=by simp[Rows.turnedSpec]
 refine(Qmi s.data.toList s1.data.toList s2.data.toList M hv W ⟨QxE aq,af.1,af.2⟩ (by omega) (by omega) (by omega) hG ai).mono fun e W' ⟨he,hb⟩=>?_
 subst he;refine⟨_,rfl,_,_,_,[],p,[],ag,?_,?_,?_,hb.frame _,fun h=>by cases h⟩
 ·rw[e1];exact trodAll_mk1 (shut_bool underlying4 true)
 ·rw[e1];subst ak;exact trodAll_mk4 (shut_string underlying9 hs) (shut_string underlying9 ao) (shut_string underlying9 ap) (Below.trod Tryz.laidOut (by kernel_rfl) (by rw[Tryz.tyCount];decide) h3 hb (fun x hx=>aj x (by simp[hx])))
 ·rw[e1];rfl
end
theorem Qmx:joinedFacts Tryz.prog 8 Tryz.f8 Rows.turnedSpec Rows.turnedRow=true:=by
 unfold joinedFacts;simp only[Bool.and_eq_true]
 repeat' apply And.intro
 all_goals as_aux_lemma=>kernel_rfl
theorem Qit:Tryz.prog.funcNamed Rows.turnedRow.func=some 8:=by kernel_rfl
section
open Go
theorem Qpb:(Tryz.f8).isInstance Tryz.prog Rows.turnedRow.origin Rows.turnedRow.targs:=of_decide_eq_true (by kernel_rfl)
theorem Qpk:(Tryz.f8).isWrapper Tryz.prog Rows.turnedRow.wrapper Rows.turnedRow.mainSum:=by
 unfold Func.isWrapper
 first
  |(rw[if_pos (by decide +kernel)];kernel_rfl)
  |(rw[if_neg (by decide +kernel)];exact⟨rfl,rfl⟩)
theorem Qnd:Rows.TurnedSaid:=
 OpenClaim.holds_of_wide 8 Tryz.f8 rfl rfl rfl rfl rfl rfl rfl ⟨rfl,rfl,rfl,rfl,rfl⟩ rfl rfl rfl rfl rfl Qit func8 Qmx
  Qpb Qpk (fun os started H enc _=>Qmv os started H enc)
theorem Qo3:∀(j:Nat) (t:TypeId),(Tryz.f8).params[j]?=some t->Tryz.prog.wantsStandIn t=false:=fun j t ht=>by
 rw[Tryz.params8]at ht
 have hm:t∈[9,9,9,28]:=by
  have:=List.mem_of_getElem? (l:=[9,9,9,28]) (by simpa using ht);exact this
 simp only[List.mem_cons,List.not_mem_nil,or_false]at hm;rcases hm with rfl|rfl|rfl|rfl
 ·exact(show Tryz.prog.wantsStandIn 9=false by kernel_rfl)
 ·exact(show Tryz.prog.wantsStandIn 9=false by kernel_rfl)
 ·exact(show Tryz.prog.wantsStandIn 9=false by kernel_rfl)
 ·exact(show Tryz.prog.wantsStandIn 28=false by kernel_rfl)
theorem QtR:Rows.turnedRow.wfByText (OpenSpec.ofChange Rows.turnedSpec)=true:=by kernel_rfl
theorem QqF:Tryz.pinned.checked.prog.mainIs=some (true, "f92bcb6c8891d389d7e26fd120d8b9519b3e2ba37a68b58703642a3997de0636".toList):=by kernel_rfl
theorem Qn8:true=Tryz.pinned.checked.prog.looks []:=by kernel_rfl
theorem QqJ:false=Rows.turnedRow.goesBy Tryz.pinned.checked.prog:=by kernel_rfl
theorem turned_card_holds:Rows.TurnedCardSaid:=
 Claim7.holds_tied_plain_at .later [] [.data,.data,.data,.handle] true (true, "f92bcb6c8891d389d7e26fd120d8b9519b3e2ba37a68b58703642a3997de0636") true
  Qnd (fun _ h=>by cases h) QtR (fun _ h=>by cases h) turned_row_tie rfl ⟨rfl,rfl⟩ QqF rfl
  (fun f fn hf hfn=>by
    obtain rfl:f=8:=(Option.some.inj (Qit.symm.trans hf)).symm;obtain rfl:fn=Tryz.f8:=(Option.some.inj (func8.symm.trans hfn)).symm
    exact ⟨Qn8,Qo3⟩)
  QqJ
end
end Go.Proofs.YtgnkjijocdmniaaGreatDoor
