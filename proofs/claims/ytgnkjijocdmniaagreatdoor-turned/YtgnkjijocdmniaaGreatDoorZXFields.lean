import Derived.Test.YtgnkjijocdmniaaGreatDoorZCCode
import Derived.Test.YtgnkjijocdmniaaGreatDoorZMExec
namespace Go.Proofs.YtgnkjijocdmniaaGreatDoor
set_option linter.unusedVariables false
set_option linter.unusedSimpArgs false
set_option maxRecDepth 100000
set_option maxHeartbeats 4000000
open Go.Proofs.Tryz
section
open Go.RowKit
attribute [local go_sem ↓] Go.wp_at_zero Go.wp_at_succ
theorem Qxg{v:Bool}{aa:List Ins}{M:Msg}{w w5:World}{lv x0 y0:Value}{l:List (Int×L8)}{d B:Nat}(hx:execL v aa M=(l,d,none))(hB:Below w.heap.size w w5)(hv:ActsV w5 B lv l)(c0:w5.cell? ⟨w.heap.size+1,0,none⟩=some x0)(c1:w5.cell? ⟨w.heap.size+1+1,0,none⟩=some y0)(ac:w.heap.size+1+1<B) :
 ∃ W,W=(w5.setCell ⟨w.heap.size+1,0,none⟩ lv).setCell ⟨w.heap.size+1+1,0,none⟩ .nilIface/\W.cell? ⟨w.heap.size+1,0,none⟩=some lv/\W.cell? ⟨w.heap.size+1+1,0,none⟩=some .nilIface/\Hid (Qr4 (execL v aa M) w (.returned (.tuple #[lv,.int .i64 (d:Int),.nilIface])) W):=by
 refine⟨_,rfl,?_,?_,?_⟩
 ·rw[World.cell?_setCell_other _ _ _ _ (by simp),World.cell?_setCell_same _ _ _ c0]
 ·have ab:(w5.setCell ⟨w.heap.size+1,0,none⟩ lv).cell? ⟨w.heap.size+1+1,0,none⟩=some y0:=by rw[World.cell?_setCell_other _ _ _ _ (by simp)];exact c1
  exact World.cell?_setCell_same _ _ _ ab
 ·rw[hx];exact⟨(hB.setCell (show w.heap.size<=w.heap.size+1 by omega) _).setCell (show w.heap.size<=w.heap.size+1+1 by omega) _,Or.inl ⟨lv,rfl,rfl,((hv.set (by omega) _ _).set ac _ _).lo (by omega)⟩⟩
theorem MI.atNext{w:World}{B xb sb:Nat}{M:Msg}{m:MS}{aa:Nat}{kv:Value}(h:MI w B xb sb M m aa kv)(hlt:m.next<aa):MAt ((w.setCell ⟨xb,2,none⟩ (.int .i64 (m.next:Int))).setCell ⟨xb,3,none⟩ (.int .i64 ((m.next:Int)+1))).drew.drew B xb sb M (atL m) aa/\Fr (PMc B xb) w ((w.setCell ⟨xb,2,none⟩ (.int .i64 (m.next:Int))).setCell ⟨xb,3,none⟩ (.int .i64 ((m.next:Int)+1))).drew.drew:=by
 have hcl:=h.cl;have f1:=h.set 2 (.int .i64 (m.next:Int)) ⟨m.st,m.stack,m.next,m.next⟩ kv rfl rfl (Qcc h.stack h.row _ _) h.sl (show m.next<=400 by omega) h.nx;have f2:=f1.1.set 3 (.int .i64 ((m.next:Int)+1)) (atL m) kv rfl rfl (Qcc f1.1.stack f1.1.row _ _) h.sl (show m.next<=400 by omega) (show m.next+1<=aa by omega);obtain⟨X,hX⟩:∃ X,X=(w.setCell ⟨xb,2,none⟩ (.int .i64 (m.next:Int))).setCell ⟨xb,3,none⟩ (.int .i64 ((m.next:Int)+1)):=⟨_,rfl⟩;rw[<-hX]at f2 ⊢;have hb:Below X.heap.size X X.drew.drew:=Qar (Qar (Below.refl X.heap.size X));exact⟨⟨_,f2.1.below hb⟩,((f1.2.trans f2.2).mono (fun _ _=>PMc.k)).trans (Fr.of_below hb)⟩
theorem Qr5(v:Bool)(cv hv:Value)(aa:List Ins)(M:Msg)(w:World)(hc:QfU w cv aa)(hh:QkG w hv M.hdrs)(hb:SBd M (ss0 v))(h1:1<w.heap.size)(hm:∃ m,w.cell? ⟨1,0,none⟩=some (.int .i64 m))(ht:Tab w)(hn:aa.length<=1000000)(hlong:¬ 400<aa.length) :
 Calls Tryz.prog 65 #[.bool v,cv,Qf5 M hv] w (Qr4 (execL v aa M) w):=by
 have hmf:∀(fn:Fn) (first cap:Array Value) (w:World),(Instr.makeFunc fn first cap).run Tryz.prog w=.ok (.func fn first cap) w:=fun _ _ _ _=>rfl
 obtain⟨ca,cc,bm⟩:=hc.len;subst bm;obtain⟨ha,aO,bn⟩:=hh.len;subst bn;unfold Qf5;have hlong':¬(400:Int)<(aa.length:Int):=by omega
 have HC:=Qab hc;have HH:=Qab hh;have aX:=Qab hb;have HT:=Qab ht;have a8:=Qab hm;clear hc hh hb ht hm;go_enter_defers func65,ntmps65;go_wp2_with fail;obtain⟨V,hV⟩:∃ V,V=((w.alloc (.cells #[.string (Qaf M.fr),.string (Qaf M.to),.int .i64 M.size,.slice ha M.hdrs.length aO] 28)).alloc (.cells #[.slice none 0 0] 32)).alloc (.cells #[.nilIface] 84):=⟨_,rfl⟩;have hzV:V.heap.size=w.heap.size+3:=by rw[hV];simp
 have hP:V.heap[w.heap.size+1]?=some (.cells #[.slice none 0 0] 32):=by rw[hV];exact Qae (Qaw (by simp))
 have hQ:V.heap[w.heap.size+1+1]?=some (.cells #[.nilIface] 84):=by rw[hV];exact Qaw (by simp)
 have au:Below w.heap.size w V:=by rw[hV];exact(((Below.refl _ _).alloc (Nat.le_refl _) _).alloc (by simp) _).alloc (by simp;omega) _
 rw[<-hV];clear hV;have bf:=Qab au;have HP:=Qab hP;have HQ:=Qab hQ;refine(QxH v M (.slice ha M.hdrs.length aO) V (HH.o.fr (P:=fun _ _=>False) (Fr.of_below au) (fun _ _ h=>h)) aX.o (by omega) (by obtain⟨m,hm⟩:=a8.o;exact⟨m,(au.cell (p:=⟨1,0,none⟩) (Qau hm)).trans hm⟩)).mono ?_;rintro e w1 ⟨sb,rfl,hs,aC⟩;have HS:=Qab hs;have aK:=Qab aC;have aV:=aC.size;clear au hP hQ hs aC;go_wp2_with fail;refine(QtI _).mono ?_;rintro e w2 ⟨rfl,aT,aP,aW⟩;obtain⟨xb,ai⟩:∃ xb,xb=w1.heap.size:=⟨_,rfl⟩;have aJ:w2.heap.size=xb+7:=by rw[aW,ai];simp
 have aU:(w1.alloc (.cells (QeU sb (.slice none 0 0) 0 0 aa.length) 188)).heap.size=xb+1:=by rw[ai];simp
 have ao:Qfc w2 (xb+1):=by rw[<-aU];exact aT
 have ag:Below (w1.alloc (.cells (QeU sb (.slice none 0 0) 0 0 aa.length) 188)).heap.size (w1.alloc (.cells (QeU sb (.slice none 0 0) 0 0 aa.length) 188)) w2:=aP;have ak:w2.heap[xb]?=some (.cells (QeU sb (.slice none 0 0) 0 0 aa.length) 188):=by rw[ai];exact Qal (Qat _ _) ag
 have bl:aa.length<=400:=by omega
 have ad:Below w1.heap.size w1 w2:=((Below.refl _ _).alloc (Nat.le_refl _) _).trans (ag.mono (by simp));have bc:Hid (MAt w2 V.heap.size xb sb M (ms0 v) aa.length):=⟨.slice none 0 0,by omega,ak,HS.o.below ad,World.ownsRow_nil _ _ _ _,Nat.zero_le _,Nat.zero_le _,Nat.zero_le _,bl,by omega⟩;have bg:=Qab ao;have af:=Qab (bf.o.trans ((aK.o.trans (ad.mono aV)).mono (by omega)));have ab:=Qab (aK.o.trans (ad.mono aV));have bq:w1.heap.size+6=xb+6:=by omega
 have br:w1.heap.size+1+5=xb+6:=by omega
 have aI:∀ o:Obj,(w1.alloc o).heap.size=xb+1:=fun o=>by rw[ai];simp
 rw[aI,<-ai];clear aT aP ag ak ad ao aU aW;have hxbV:V.heap.size<=xb:=by omega
 have hx2l:xb+7<=w2.heap.size:=by omega
 clear ai bq br aJ;go_wp2_with fail
 go_loopw [7] (fun dn wr=>∃(m:MS) (d:Nat),dn=.int .i64 (d:Int)/\MAt wr V.heap.size xb sb M m aa.length/\Fr (PMc V.heap.size xb) w2 wr/\d<=m.next/\∃ F,aa.length - m.next<=F/\QdH M aa aa.length (ms0 v) 0=QdH M aa F m d) (fun dn _=>aa.length - (intOf dn).toNat)
 case atStart=>exact⟨ms0 v,0,rfl,bc.o,Fr.refl _ _,Nat.le_refl _,aa.length,Nat.sub_le _ _,rfl⟩
 case round=>
  obtain⟨m,d,rfl,bp,aQ,hdm,F,hF,ae⟩:=hrel;obtain⟨kv,ah⟩:=bp;have aq:=Qab ah;have aj:=Qab aQ;have az:=Qab ae;have c0:wr.cell? ⟨xb,0,none⟩=some (.pointer (some ⟨sb,0,none⟩)):=Qaa ah.blk 0;have c3:wr.cell? ⟨xb,3,none⟩=some (.int .i64 (m.next:Int)):=Qaa ah.blk 3;have c4:wr.cell? ⟨xb,4,none⟩=some (.int .i64 (aa.length:Int)):=Qaa ah.blk 4;have hnx:=ah.nx;clear ah aQ ae;by_cases hlt:m.next<aa.length;rotate_left
  ·have aF:¬(m.next:Int)<(aa.length:Int):=by omega
   have HL:Hid (QdH M aa aa.length (ms0 v) 0=(.ok m,d)):=by
    show _=_
    rw[az.o]
    cases F with
    |zero=>rfl
    |succ F=>unfold QdH;rw[if_neg hlt]
   have HX:=Qab (QvD (v:=v) hlong HL.o);go_wp2_with fail;go_region_held3 (fun w'=>w'.cell? ⟨xb,3,none⟩=some (.int .i64 (m.next:Int))/\w'.cell? ⟨xb,4,none⟩=some (.int .i64 (aa.length:Int))) (first|go_keep) (fail)
   all_goals go_wp2_with fail
   all_goals refine(QqI V.heap.size sb M m.st _ ((aq.o.st).below (Qar (Below.refl _ _)))).mono ?_
   all_goals rintro e w5 ⟨lv,rfl,aH,aw⟩
   all_goals obtain⟨a5,k5,aG⟩:=QaD aH.1
   all_goals subst aG
   all_goals have aA:w5.heap[w.heap.size+1]?=some (.cells #[.slice none 0 0] 32):=Qal (show wr.drew.heap[w.heap.size+1]?=_ from aj.o.block _ _ (Qal HP.o ab.o) (PMc.not (by decide) (by decide) (by decide) (by decide))) aw
   all_goals have aB:w5.heap[w.heap.size+1+1]?=some (.cells #[.nilIface] 84):=Qal (show wr.drew.heap[w.heap.size+1+1]?=_ from aj.o.block _ _ (Qal HQ.o ab.o) (PMc.not (by decide) (by decide) (by decide) (by decide))) aw
   all_goals have x1:w5.cell? ⟨w.heap.size+1,0,none⟩=some (.slice none 0 0):=Qaa aA 0
   all_goals have x2:w5.cell? ⟨w.heap.size+1+1,0,none⟩=some .nilIface:=Qaa aB 0
   all_goals have z1:=Qao aA
   all_goals have z2:=Qao aB
   all_goals have hwr:w.heap.size+3<=wr.heap.size:=by have h1:=aj.o.size;have h2:=ab.o.size;omega
   all_goals have aL:Below w.heap.size w w5:=(af.o.trans ((aj.o.below (B:=w.heap.size) (fun k o h=>by have:=h.1;omega) af.o.size).trans (((Qar (Below.refl wr.heap.size wr)).trans (aw.mono (Nat.le_refl _))).mono (by omega))))
   all_goals have aY:=Qab aL
   all_goals have bd:=Qab aH
   all_goals clear aL aH aA aB aw
   all_goals go_wp2
   all_goals refine leaves_cons (f:=101) (args:=#[.pointer (some ⟨w.heap.size+1,0,none⟩),.pointer (some ⟨w.heap.size+1+1,0,none⟩)]) (by simp) (by simp[go_sem]) ?_
   all_goals refine(Qpe ⟨w.heap.size+1,0,none⟩ ⟨w.heap.size+1+1,0,none⟩ _).mono ?_
   all_goals rintro e u' bt ⟨rfl,rfl,rfl⟩
   all_goals obtain⟨W,hW,e0,e1,ac⟩:=Qxg HX.o aY.o bd.o x1 x2 (show w.heap.size+1+1<wr.drew.heap.size from by show _<wr.heap.size;omega)
   all_goals rw[<-hW]
   all_goals clear hW
   all_goals simp[Leaves,settle,results,results65,go_sem,e0,e1]
   all_goals exact ac.o
  ·have aF:(m.next:Int)<(aa.length:Int):=by omega
   have z0:=Qao aq.o.blk;go_wp2_with fail;go_region_held3 (fun w'=>w'.cell? ⟨xb,3,none⟩=some (.int .i64 (m.next:Int))/\w'.cell? ⟨xb,4,none⟩=some (.int .i64 (aa.length:Int))) (first|go_keep) (fail)
   all_goals go_wp2_with fail
   all_goals have c2:wr.cell? ⟨xb,2,none⟩=some (.int .i64 (m.now:Int)):=Qaa aq.o.blk 2
   all_goals have hnx8:(m.next:Int)<400:=by omega
   all_goals have hnx0:(0:Int)<=(m.next:Int):=by omega
   all_goals refine wp_region_noPanic ?_
   all_goals go_region
   all_goals refine NoPanic.normal ?_
   all_goals obtain⟨ay,aD⟩:=aq.o.atNext hlt
   all_goals obtain⟨W,hW⟩:∃ W,W=((wr.setCell ⟨xb,2,none⟩ (.int .i64 (m.next:Int))).setCell ⟨xb,3,none⟩ (.int .i64 ((m.next:Int)+1))).drew.drew:=⟨_,rfl⟩
   all_goals rw[<-hW]at ay aD
   all_goals rw[<-hW]
   all_goals clear hW
   all_goals have ar:Fr (PMc V.heap.size xb) w2 W:=aj.o.trans aD
   all_goals obtain⟨g,cs,bo,hg,av,bv,a1,a2,a3,a4,a5,a6,a7,ho⟩:=((HC.o.below af.o).pm ar).get' m.next hlt
   all_goals subst bo
   all_goals have e0:W.cell? ⟨g,m.next*7,none⟩=some (.int .i64 aa[m.next].op):=(Qaa hg _).trans a1
   all_goals have e1:W.cell? ⟨g,m.next*7+1,none⟩=some (.int .i64 aa[m.next].n):=(Qaa hg _).trans a2
   all_goals have e2:W.cell? ⟨g,m.next*7+2,none⟩=some (.int .i64 aa[m.next].tag):=(Qaa hg _).trans a3
   all_goals have e3:W.cell? ⟨g,m.next*7+3,none⟩=some (.bool aa[m.next].oct):=(Qaa hg _).trans a4
   all_goals have e4:W.cell? ⟨g,m.next*7+4,none⟩=some av:=(Qaa hg _).trans a5
   all_goals have e5:W.cell? ⟨g,m.next*7+5,none⟩=some bv:=(Qaa hg _).trans a6
   all_goals have e6:W.cell? ⟨g,m.next*7+6,none⟩=some (.int .i64 aa[m.next].at_):=(Qaa hg _).trans a7
   all_goals have en:W.cell? ⟨xb,2,none⟩=some (.int .i64 (m.next:Int)):=ay.now
   all_goals have a9:=Qab ay
   all_goals have ap:=Qab ar
   all_goals have HO:=Qab ho
   all_goals have aZ:=Qab (af.o.trans (ar.below (B:=w.heap.size) (fun k o h=>by have:=h.1;omega) af.o.size))
   all_goals clear ay aD ar hg a1 a2 a3 a4 a5 a6 a7 c0 c2 c3 c4 z0
   all_goals go_wp2_with fail
   all_goals refine(QxU aa[m.next] av bv V.heap.size xb sb M (atL m) aa.length W a9.o HO.o (bg.o.fr ap.o) (HT.o.below aZ.o)).mono ?_
   all_goals rintro e w6 ⟨ax,h6⟩
   all_goals have hgd:aa.getD m.next QyA=aa[m.next]:=by simp[List.getD,hlt]
   all_goals cases hr:stepL M aa.length aa[m.next] (atL m)with
   |ok m'=>
    rw[hr]at h6;obtain⟨rfl,aR⟩:=h6;have aS:=QhI hr (show m.next+1<=aa.length by omega);have hn1:m.next+1<=m'.next:=aS.1
    have ac:Hid (∃ F,aa.length - m'.next<=F/\QdH M aa aa.length (ms0 v) 0=QdH M aa F m' (d+1)):=by
     show ∃ F,_
     rw[az.o]
     cases F with
     |zero=>omega
     |succ F=>exact⟨F,by omega,by rw[QdH,if_pos hlt,hgd,hr]⟩
    have ba:=Qab aR;have a0:=Qab (ap.o.trans ax);clear aR ax aS hr;go_wp2_with fail;refine⟨⟨m',d+1,rfl,ba.o,a0.o,by omega,ac.o⟩,?_⟩;simp[intOf];omega
   |error f=>
    rw[hr]at h6;obtain⟨bb,hbb,rfl,bi⟩:=h6;have aE:Fr (PMc V.heap.size xb) w2 w6:=ap.o.trans ax;have hWz:w.heap.size+3<=W.heap.size:=by have h1:=ap.o.size;have h2:=ab.o.size;omega
    have hW6:W.heap.size<=w6.heap.size:=ax.size;have aM:w6.heap[w.heap.size+1]?=some (.cells #[.slice none 0 0] 32):=aE.block _ _ (Qal HP.o ab.o) (PMc.not (by decide) (by decide) (by decide) (by decide));have aN:w6.heap[w.heap.size+1+1]?=some (.cells #[.nilIface] 84):=aE.block _ _ (Qal HQ.o ab.o) (PMc.not (by decide) (by decide) (by decide) (by decide));have bh:Below w.heap.size w w6:=af.o.trans (aE.below (B:=w.heap.size) (fun k o h=>by have:=h.1;omega) af.o.size)
    have HR:=Qab (Qti (v:=v) (f:=f) (d:=d+1) hlong (by
     rw[az.o]
     cases F with
     |zero=>omega
     | succ F=>rw [QdH,if_pos hlt,hgd,hr]))
    have x1:w6.cell? ⟨w.heap.size+1,0,none⟩=some (.slice none 0 0):=Qaa aM 0;have x2:w6.cell? ⟨w.heap.size+1+1,0,none⟩=some .nilIface:=Qaa aN 0;have z1:=Qao aM;have z2:=Qao aN;refine leaves_cons (f:=101) (args:=#[.pointer (some ⟨w.heap.size+1,0,none⟩),.pointer (some ⟨w.heap.size+1+1,0,none⟩)]) (by simp) (by simp[go_sem]) ?_;refine(Qfb (w.heap.size+1) (w.heap.size+1+1) _ _ ⟨bb,0,none⟩ [] _ x1 x2 z1 z2 (by omega)).mono ?_;rintro e u' bt ⟨rfl,rfl,lv,w7,bs,bk,rfl⟩;obtain⟨X,hX,y0,y1,hB,hA,bj⟩:=QlC (f:=f) (bb:=bb) (P:=w.heap.size+1) bh (by omega) (by omega) bs bk (by omega) (by omega) (by omega) bi _ _ x1 x2;rw[<-hX]
    have ac:Hid (Qr4 (execL v aa M) w (.returned (.tuple #[lv,.int .i64 ((d:Int)+1),.iface 125 (.pointer (some ⟨bb,0,none⟩))])) X):=by
     rw[HR.o];exact⟨hB,Or.inr ⟨lv,f,_,rfl,rfl,hA,by omega,bj⟩⟩
    obtain⟨la,lk,aG⟩:=QaD hA.1;subst aG;simp[Leaves,settle,results,results65,go_sem,y0,y1];exact ac.o
theorem Qwi(v:Bool)(cv hv:Value)(aa:List Ins)(M:Msg)(w:World)(hc:QfU w cv aa)(hh:QkG w hv M.hdrs)(hb:SBd M (ss0 v))(h1:1<w.heap.size)(hm:∃ m,w.cell? ⟨1,0,none⟩=some (.int .i64 m))(ht:Tab w)(hn:aa.length<=1000000) :
 Calls Tryz.prog 65 #[.bool v,cv,Qf5 M hv] w (Qr4 (execL v aa M) w):=by
 by_cases hl:400<aa.length
 ·exact Quk v cv hv aa M w hc hh hb h1 hm ht hn hl
 ·exact Qr5 v cv hv aa M w hc hh hb h1 hm ht hn hl
theorem Qsl.codeV{w:World}{B:Nat}{cv:Value}{ab:List Ins}(h:Qsl w B cv ab):QfU w cv ab:=by
 obtain⟨ps,rfl,ho,hk,hn⟩:=h;by_cases h0:ps=[]
 ·subst h0;exact Or.inl ⟨hn rfl,rfl⟩
 ·rcases ho.2 with⟨_,h2⟩ | ⟨g,ad,ac,hv,hg,hb,hc,_,hs,ht⟩
  ·exact absurd (List.eq_nil_of_length_eq_zero h2) h0
  ·refine Or.inr ⟨g,ad,ac,by rw[List.length_map];exact hv,hb,fun j hj=>?_⟩;rw[List.length_map]at hj
   have aa:∀ k,k<7->ac[j*7+k]?=(Qh8 ps[j])[k]?:=fun k hk=>by
    rw[<-Qj5 ps j hj k hk,<-ht,List.getElem?_take_of_lt (by omega)];simp
   have hi:(ps.map Prod.fst)[j]'(by simpa using hj)=ps[j].1:=by simp
   rw[hi];exact⟨ps[j].2.1,ps[j].2.2,aa 0 (by omega),aa 1 (by omega),aa 2 (by omega),aa 3 (by omega),aa 4 (by omega),aa 5 (by omega),aa 6 (by omega),hk _ (List.getElem_mem hj)⟩
theorem Qud(g:Nat)(y:List (L8)×List (Qbo 7))(rv lv:Value)(w:World)(X:Nat->Prop)(h:w.heap[g]?=some (.cells #[rv,lv] 124))(hr:Qk6 X y.1 w rv)(hb:blX X (QhW 7) y.2 w lv)(ha:∀ c∈y.2,allC (WfT y.1) (WfC y.1) 7 c)(hl:(textL y).length<=100000) :
 Calls Tryz.prog 57 #[.pointer (some ⟨g,0,none⟩)] w fun e w'=>∃ cv,e=.returned cv/\Qsl w' w.heap.size cv (QcF y.2)/\Below w.heap.size w w':=by
 obtain⟨a1,n1,c1,rfl⟩:∃ a n c,rv=.slice a n c:=by
  rcases hr with⟨_,rfl⟩ | ⟨g',c',rfl,_⟩
  ·exact⟨_,_,_,rfl⟩
  ·exact⟨_,_,_,rfl⟩
 obtain⟨a2,n2,c2,rfl⟩:=hb.form;have H:=Qab h;have ah:=Qab hb;clear h hr hb;go_enter func57,ntmps57;go_wp2_with fail;refine(QlQ g a1 a2 n1 c1 n2 c2 w H.o).mono ?_;rintro e w1 ⟨rfl,aa⟩;have af:=Qab aa;have ad:=aa.size;have ab:=Qab (ah.o.keep (QaX 7) (fun k _ hk=>aa.block k hk));clear aa;go_wp2_with fail;refine(QxW y _ _ X _ ⟨_,_,_,rfl⟩ ab.o ha hl).mono ?_;rintro e w2 ⟨cv,rfl,ac,ae⟩;have ag:=Qab (af.o.trans (ae.mono ad));obtain⟨a5,k5,aj⟩:=ac.len;subst aj;have ai:=Qab ac;clear ae ac;go_wp2;go_ret;obtain⟨ps,e1,e2,e3,e4⟩:=ai.o;exact⟨_,rfl,⟨ps,e1,Qkz e2 ad,e3,e4⟩,ag.o⟩
def varsB (req:List (L8)):Bool:=Lib.containsS (req.map Qaf) (Qaf Qbw)
theorem QtL(a b:Value)(W:World):(Instr.field 91 (.agg #[a,b]) 0).run Tryz.prog W=.ok a W:=by kernel_rfl
def QoZ (r:List (Int×L8)×Nat×Option FZ) (w:World) (e:Ending) (w':World):Prop:=
 Below w.heap.size w w'∧((∃ lv,r.2.2=none∧e=.returned (.tuple #[lv,.nilIface])∧ActsV w' w.heap.size lv r.1)∨
  (∃ lv f bb,r.2.2=some f∧e=.returned (.tuple #[lv,.iface 125 (.pointer (some ⟨bb,0,none⟩))])∧ActsV w' w.heap.size lv r.1∧w.heap.size≤bb∧w'.heap[bb]?=some (.cells #[.int .i64 f.1,.int .i64 f.2] 130)))
theorem Qmj(X:Nat->Prop)(req:List (L8))(rv:Value)(w:World)(hr:Qk6 X req w rv)(hl:req.length<=1000000) :
 Calls Tryz.prog 64 #[rv,.string (Qaf Qbw)] w fun e w'=>e=.returned (.bool (varsB req))/\w'=w:=by
 rcases hr with⟨h0,rfl⟩ | ⟨g,c,rfl,_,ht,hne⟩
 ·subst h0;exact Tryz.slices_Contains_string_empty none 0 (Qaf Qbw) w
 ·have:=Tryz.slices_Contains_string g 0 req.length c (req.map Qaf) (Qaf Qbw) w (by simp) (by omega) (fun j hj=>by
   rw[List.length_map]at hj;rw[Nat.zero_add,ht j hj,List.getD_eq_getElem?_getD,List.getD_eq_getElem?_getD,List.getElem?_map,List.getElem?_eq_getElem hj]
   rfl)
  rw[List.take_of_length_le (by simp)]at this;exact this
theorem QvH(g:Nat)(y:List (L8)×List (Qbo 7))(rv lv hv:Value)(M:Msg)(w:World)(X:Nat->Prop)(h:w.heap[g]?=some (.cells #[rv,lv] 124))(hr:Qk6 X y.1 w rv)(hb:blX X (QhW 7) y.2 w lv)(ha:∀ c∈y.2,allC (WfT y.1) (WfC y.1) 7 c)(hl:(textL y).length<=100000)(az:y.1.length<=1000000)
 (hh:QkG w hv M.hdrs) (ak:∀ v,SBd M (ss0 v)) (h1:1<w.heap.size) (hm:∃ m,w.cell? ⟨1,0,none⟩=some (.int .i64 m)) (ht:Tab w) :
 Calls Tryz.prog 41 #[.pointer (some ⟨g,0,none⟩),Qf5 M hv] w (QoZ (execL (varsB y.1) (QcF y.2) M) w):=by
 obtain⟨a1,n1,c1,rfl⟩:∃ a n c,rv=.slice a n c:=by
  rcases hr with⟨_,rfl⟩ | ⟨g',c',rfl,_⟩
  ·exact⟨_,_,_,rfl⟩
  ·exact⟨_,_,_,rfl⟩
 obtain⟨a2,n2,c2,rfl⟩:=hb.form;obtain⟨ah,ch,rfl⟩:=hh.len;have ao:(QcF y.2).length<=1000000:=by have:=Qq0 ha;omega
 have H:=Qab h;have HR:=Qab hr;have aq:=Qab hb;have HHD:=Qab hh;have HT:=Qab ht;have HM:=Qab hm;have HBD:=Qab ak;have HCL:=Qab ao;clear h hr hb hh ht hm ak ao;unfold Qf5;have hft:=QtL;go_enter func41,ntmps41;obtain⟨W0,ac⟩:∃ W0,W0=w.alloc (.cells #[.string (Qaf M.fr),.string (Qaf M.to),.int .i64 M.size,.slice ah M.hdrs.length ch] 28):=⟨_,rfl⟩;have ad:Hid (Below w.heap.size w W0):=by show Below _ _ _;rw[ac];exact(Below.refl _ _).alloc (Nat.le_refl _) _
 have ar:Hid (W0.heap[w.heap.size]?=some (.cells #[.string (Qaf M.fr),.string (Qaf M.to),.int .i64 M.size,.slice ah M.hdrs.length ch] 28)):=by show _=_;rw[ac];exact Qat _ _
 have aw:=ad.o.size;have aj:=Qab ac;clear ac;go_wp2_with (first|(go_at_call 64;refine(Qmj X y.1 _ _ au.o az).mono ?_;rintro e w2 ⟨rfl,ap⟩;rw[ap];clear ap;skip)|(go_at_call 38;rw[<-aj.o];refine(QlQ g a1 a2 n1 c1 n2 c2 W0 (Qal H.o ad.o)).mono ?_;rintro e w1 ⟨rfl,ae⟩;have aa:=Qab (ad.o.trans (ae.mono aw));have ab:=Qab (Qal ar.o ae);have au:=Qab (HR.o.keep (w':=w1) (fun k _ hk=>aa.o.block k hk));clear ae;skip));have c0:w1.cell? ⟨w.heap.size,0,none⟩=some (.string (Qaf M.fr)):=Qaa ab.o 0;have c1:w1.cell? ⟨w.heap.size,1,none⟩=some (.string (Qaf M.to)):=Qaa ab.o 1;have c2:w1.cell? ⟨w.heap.size,2,none⟩=some (.int .i64 M.size):=Qaa ab.o 2;have c3:w1.cell? ⟨w.heap.size,3,none⟩=some (.slice ah M.hdrs.length ch):=Qaa ab.o 3;have h1l:=QaI ab.o;have ax:=aa.o.size;obtain⟨vb,ai⟩:∃ vb,varsB y.1=vb:=⟨_,rfl⟩;rw[ai];have av:=Qab ai;clear ai aj
 go_region_held3 (fun w'=>w'.cell? ⟨w.heap.size,0,none⟩=some (.string (Qaf M.fr))∧w'.cell? ⟨w.heap.size,1,none⟩=some (.string (Qaf M.to))∧w'.cell? ⟨w.heap.size,2,none⟩=some (.int .i64 M.size)∧w'.cell? ⟨w.heap.size,3,none⟩=some (.slice ah M.hdrs.length ch)) (first | go_keep | exact ⟨Qaa HM3.o 0,Qaa HM3.o 1,Qaa HM3.o 2,Qaa HM3.o 3⟩) (first
  |(go_at_call 57;refine(Qud g y _ _ _ X (Qal (w:=w) (w':=w1.drew) H.o aa.o.drew) (HR.o.keep (w':=w1.drew) (fun k _ hk=>aa.o.block k hk)) (aq.o.keep (QaX 7) (w':=w1.drew) (fun k _ hk=>aa.o.block k hk)) ha hl).mono ?_;rintro e w2 ⟨cv,rfl,ag,af⟩;obtain⟨a5,k5,aA⟩:=ag.len;subst aA;have HC2:=Qab ag;have HB2:=Qab (aa.o.drew.trans (af.mono ax));have HM2:=Qab (Qal (w:=w1.drew) ab.o af);have d0:w2.cell? ⟨w.heap.size,0,none⟩=some (.string (Qaf M.fr)):=Qaa HM2.o 0;have d1:w2.cell? ⟨w.heap.size,1,none⟩=some (.string (Qaf M.to)):=Qaa HM2.o 1;have d2:w2.cell? ⟨w.heap.size,2,none⟩=some (.int .i64 M.size):=Qaa HM2.o 2;have d3:w2.cell? ⟨w.heap.size,3,none⟩=some (.slice ah M.hdrs.length ch):=Qaa HM2.o 3;have h2s:=HB2.o.size;clear ag af;skip)
  | (go_at_call 65;refine (Qwi vb _ _ (QcF y.2) M w2 HC2.o.codeV (HHD.o.fr (P:=fun _ _=>False) (Fr.of_below HB2.o) (fun _ _ h=>h)) (HBD.o _) (by omega) (by obtain ⟨m,hm⟩:=HM.o;exact ⟨m,(HB2.o.cell (p:=⟨1,0,none⟩) h1).trans hm⟩) (HT.o.below HB2.o) HCL.o).mono ?_;rintro e w3 ⟨hB3,hX⟩;have HB3:=Qab (HB2.o.trans (hB3.mono h2s));have HM3:=Qab (Qal HM2.o hB3);clear hB3;have hX':∃ lv' ev',e=.returned (.tuple #[lv',.int .i64 ((execL vb (QcF y.2) M).2.1:Int),ev']):=(by rcases hX with ⟨lv,_,he,_⟩ | ⟨lv,f,bb,_,he,_⟩ <;> exact ⟨_,_,he⟩);have HX:=Qab hX;obtain ⟨lv',ev',he⟩:=hX';subst he;clear hX;skip))
 all_goals (
  have HFIN:Hid (QoZ (execL vb (QcF y.2) M) w (.returned (.tuple #[lv',ev'])) w3):=by
   refine⟨HB3.o,?_⟩;rcases HX.o with⟨lv,h1,he,h3⟩ | ⟨lv,f,bb,h1,he,h3,h4,h5⟩
   ·injection he with he
    injection he with he
    simp at he;obtain⟨rfl,rfl⟩:=he;exact Or.inl ⟨_,h1,rfl,h3.lo h2s⟩
   ·injection he with he
    injection he with he
    simp at he;obtain⟨rfl,rfl⟩:=he;exact Or.inr ⟨_,f,bb,h1,rfl,h3.lo h2s,Nat.le_trans h2s h4,h5⟩
  obtain⟨la3,lc3,ay⟩:∃ a c,lv'=.slice a (execL vb (QcF y.2) M).1.length c:=by
   rcases HX.o with⟨lv,h1,he,h3⟩ | ⟨lv,f,bb,h1,he,h3,h4,h5⟩
   ·injection he with he
    injection he with he
    simp at he;obtain⟨rfl,rfl⟩:=he;exact QaD h3.1
   ·injection he with he
    injection he with he
    simp at he;obtain⟨rfl,rfl⟩:=he;exact QaD h3.1
  clear HX;subst ay;go_wp2;refine bodyPost_ret (v:=.tuple #[_,ev']) (by simp[results,results41,go_sem];rfl) rfl ?_;rw[av.o]
  exact HFIN.o)
def hcells (l:List (L8×L8)):List Value:=l.flatMap fun a=>[.string (Qaf a.1),.string (Qaf a.2)]
theorem Qhj(l:List (L8×L8)):(hcells l).length=l.length*2:=by
 induction l with
 |nil=>rfl
 |cons p r ih=>simp only[hcells,List.flatMap_cons,List.length_append,List.length_cons,List.length_nil]at ih ⊢;omega
theorem Qm1(l:List (L8×L8))(j:Nat)(hj:j<l.length):(hcells l)[j*2]?=some (.string (Qaf l[j].1))/\(hcells l)[j*2+1]?=some (.string (Qaf l[j].2)):=by
 induction l generalizing j with
 |nil=>exact absurd hj (Nat.not_lt_zero _)
 |cons p r ih=>
  cases j with
  |zero=>exact⟨rfl,rfl⟩
  |succ j=>
   have:=ih j (by simpa using hj);have e:hcells (p::r)=.string (Qaf p.1) :: .string (Qaf p.2)::hcells r:=rfl;have e1:(j+1)*2=j*2+1+1:=by omega
   have e2:(j+1)*2+1=(j*2+1)+1+1:=by omega
   rw[e,e1,List.getElem?_cons_succ,List.getElem?_cons_succ,List.getElem?_cons_succ,List.getElem?_cons_succ];exact this
theorem Qs7(l:List (L8×L8)):∀ u∈hcells l,u.oneCell'=true:=by
 intro u hu;unfold hcells at hu;obtain⟨a,_,ha⟩:=List.mem_flatMap.1 hu;simp at ha;rcases ha with rfl|rfl<;>rfl
theorem Qs9{l:List (L8×L8)}{j:Nat}{u:Value}(h:(hcells l)[j]?=some u):∃ k,∃ hk:k<l.length,(j=k*2/\u=.string (Qaf l[k].1))\/(j=k*2+1/\u=.string (Qaf l[k].2)):=by
 have hj:j<l.length*2:=by
  rw[<-Qhj];exact(List.getElem?_eq_some_iff.1 h).1
 have hk:j / 2<l.length:=by omega
 have:=Qm1 l (j / 2) hk;by_cases e:j % 2=0
 ·have e1:j=j / 2*2:=by omega
  refine⟨j / 2,hk,Or.inl ⟨e1,?_⟩⟩;rw[e1,this.1]at h;exact(Option.some.inj h).symm
 ·have e1:j=j / 2*2+1:=by omega
  refine⟨j / 2,hk,Or.inr ⟨e1,?_⟩⟩;rw[e1,this.2]at h;exact(Option.some.inj h).symm
theorem Tryz.infoHeader:(Tryz.prog.info? 50).map (fun i=>(i.zero,i.size,i.bytes))=some (some (.agg #[.string ⟨#[]⟩,.string ⟨#[]⟩]),2,32):=by kernel_rfl
def QuS (w:World) (B:Nat) (hv:Value) (hs:List (L8×L8)):Prop:=w.ownsRow B 50 2 hv hs.length (hcells hs)
theorem QuS.hdrV{w:World}{B:Nat}{hv:Value}{hs:List (L8×L8)}(h:QuS w B hv hs):QkG w hv hs:=by
 rcases h.2 with⟨h1,h2⟩ | ⟨g,aa,ab,ac,hg,hb,hc,_,hs',ht⟩
 ·exact Or.inl ⟨h1,List.eq_nil_of_length_eq_zero h2⟩
 ·refine Or.inr ⟨g,aa,ab,ac,hb,fun j hj=>?_⟩;obtain⟨a1,a2⟩:=Qm1 hs j hj;rw[<-ht,List.getElem?_take_of_lt (by omega)]at a1 a2;exact⟨by rw[<-a1];simp,by rw[<-a2];simp⟩
def QpM (w:World) (v:Value) (hs:List (L8×L8)):Prop:=
 ∃ a c,v=.slice a hs.length c∧(hs≠[]→∃ b off,a=some ⟨b,off,none⟩∧∀ j (hj:j < hs.length),w.cell? ⟨b,off+j*2,none⟩=some (.string (Qaf hs[j].1))∧w.cell? ⟨b,off+j*2+1,none⟩=some (.string (Qaf hs[j].2)))
theorem QpM.len{w:World}{v:Value}{hs:List (L8×L8)}(h:QpM w v hs):∃ a c,v=.slice a hs.length c:=by
 obtain⟨a,c,h,_⟩:=h;exact⟨a,c,h⟩
theorem QpM.below{w w':World}{v:Value}{hs:List (L8×L8)}(h:QpM w v hs)(hb:Below w.heap.size w w'):QpM w' v hs:=by
 obtain⟨a,c,h,hc⟩:=h;refine⟨a,c,h,fun hne=>?_⟩;obtain⟨b,ab,rfl,aa⟩:=hc hne;refine⟨b,ab,rfl,fun j hj=>?_⟩;obtain⟨h1,h2⟩:=aa j hj;exact⟨(hb.cell (Qau h1)).trans h1,(hb.cell (Qau h2)).trans h2⟩
theorem QkG.g{w:World}{v:Value}{hs:List (L8×L8)}(h:QkG w v hs):QpM w v hs:=by
 obtain⟨a,c,rfl⟩:=h.len;refine⟨a,c,rfl,fun hne=>?_⟩;obtain⟨g,c',hv,_⟩:=h.cells 0 (List.length_pos_iff.2 hne);injection hv with hv
 refine⟨g,0,hv,fun j hj=>?_⟩;obtain⟨g2,c2,aa,_,h1,h2⟩:=h.cells j hj;injection aa with aa
 rw[hv]at aa;injection aa with aa
 injection aa with aa
 subst aa;rw[Nat.zero_add];exact⟨h1,h2⟩
theorem Qqn(M:Msg)(g aa c:Nat)(w:World)(hh:∀ j (hj:j<M.hdrs.length),w.cell? ⟨g,aa+j*2,none⟩=some (.string (Qaf M.hdrs[j].1))/\w.cell? ⟨g,aa+j*2+1,none⟩=some (.string (Qaf M.hdrs[j].2)))(aj:M.hdrs≠[])(hl:M.hdrs.length<=100000) :
 Calls Tryz.prog 40 #[Qf5 M (.slice (some ⟨g,aa,none⟩) M.hdrs.length c)] w fun e w'=>∃ a k,e=.returned (Qf5 M (.slice a M.hdrs.length k))/\QuS w' w.heap.size (.slice a M.hdrs.length k) M.hdrs/\Below w.heap.size w w':=by
 obtain⟨i0,hi,ao,ap,aq⟩:=info_parts Tryz.infoHeader;have ai:g<w.heap.size:=Qau (hh 0 (List.length_pos_iff.2 aj)).1
 have HC:Hid (∀ j u,(hcells M.hdrs)[j]?=some u->w.cell? ⟨g,aa+j,none⟩=some u):=fun j u hj=>by
  obtain⟨k,hk,⟨rfl,rfl⟩ | ⟨rfl,rfl⟩⟩:=Qs9 hj
  ·exact(hh k hk).1
  ·exact(hh k hk).2
 clear hh
 have HW:Hid (∀ j u,(hcells M.hdrs)[j]?=some u->((w.alloc (.cells #[.string (Qaf M.fr),.string (Qaf M.to),.int .i64 M.size,.slice (some ⟨g,aa,none⟩) M.hdrs.length c] 28)).alloc (.cells #[.string ⟨#[]⟩,.string ⟨#[]⟩,.int .i64 0,.slice none 0 0] 28)).cell? ((⟨g,aa,none⟩:Addr).add j)=some u):=fun j u hj=>by
  rw[Addr.add_lit,World.cell?_of_block (a:=⟨g,aa+j,none⟩) (w:=w) ((Below.heap_alloc _ _ _ (by simp;omega)).trans (Below.heap_alloc _ _ _ ai))];exact HC.o j u hj
 have HP:Hid (((w.alloc (.cells #[.string (Qaf M.fr),.string (Qaf M.to),.int .i64 M.size,.slice (some ⟨g,aa,none⟩) M.hdrs.length c] 28)).alloc (.cells #[.string ⟨#[]⟩,.string ⟨#[]⟩,.int .i64 0,.slice none 0 0] 28)).heap[w.heap.size]?=some (.cells #[.string (Qaf M.fr),.string (Qaf M.to),.int .i64 M.size,.slice (some ⟨g,aa,none⟩) M.hdrs.length c] 28)):=Qae (Qat _ _);have HQ:Hid (((w.alloc (.cells #[.string (Qaf M.fr),.string (Qaf M.to),.int .i64 M.size,.slice (some ⟨g,aa,none⟩) M.hdrs.length c] 28)).alloc (.cells #[.string ⟨#[]⟩,.string ⟨#[]⟩,.int .i64 0,.slice none 0 0] 28)).heap[w.heap.size+1]?=some (.cells #[.string ⟨#[]⟩,.string ⟨#[]⟩,.int .i64 0,.slice none 0 0] 28)):=Qaw (by simp);unfold Qf5;go_enter func40,ntmps40;go_wp2_with (at_builtin;refine wpList_append_own _ rfl _ _ 26 rfl (w.heap.size+2) 50 i0 _ 2 32 underlying26 hi ao ap aq rfl (by decide) _ _ _ rfl (World.ownsRow_nil _ _ _ _) ⟨g,aa,none⟩ M.hdrs.length c (hcells M.hdrs) rfl (Qhj _) HW.o (Qs7 _) (by unfold maxLen;omega) (by omega) (by simp) ?_;intro v5 w5 af ae _;obtain⟨a5,k5,ak⟩:=QaD af;subst ak;have ab:=(ae.block w.heap.size (by simp;omega) (fun e=>nomatch e)).trans HP.o;have ac:=(ae.block (w.heap.size+1) (by simp) (fun e=>nomatch e)).trans HQ.o;have ah:=Qab af;have ag:=Qab (QfP (((Below.refl w.heap.size w).alloc (Nat.le_refl _) (.cells #[.string (Qaf M.fr),.string (Qaf M.to),.int .i64 M.size,.slice (some ⟨g,aa,none⟩) M.hdrs.length c] 28)).alloc (by simp) (.cells #[.string ⟨#[]⟩,.string ⟨#[]⟩,.int .i64 0,.slice none 0 0] 28)) ae (by simp;omega) (fun k hk=>nomatch hk));have HP5:=Qab ab;have HQ5:=Qab ac;have pf:=Qao ab;have qf:=Qao ac;have p0:w5.cell? ⟨w.heap.size,0,none⟩=some (.string (Qaf M.fr)):=Qaa ab 0;have p1:w5.cell? ⟨w.heap.size,1,none⟩=some (.string (Qaf M.to)):=Qaa ab 1;have p2:w5.cell? ⟨w.heap.size,2,none⟩=some (.int .i64 M.size):=Qaa ab 2;have p3:w5.cell? ⟨w.heap.size,3,none⟩=some (.slice (some ⟨g,aa,none⟩) M.hdrs.length c):=Qaa ab 3;have z0:w5.cell? ⟨w.heap.size+1,0,none⟩=some (.string ⟨#[]⟩):=Qaa ac 0;have z1:w5.cell? ⟨w.heap.size+1,1,none⟩=some (.string ⟨#[]⟩):=Qaa ac 1;have z2:w5.cell? ⟨w.heap.size+1,2,none⟩=some (.int .i64 0):=Qaa ac 2;have z3:w5.cell? ⟨w.heap.size+1,3,none⟩=some (.slice none 0 0):=Qaa ac 3;clear af ae ab ac);refine bodyPost_ret (v:=.agg #[.string (Qaf M.fr),.string (Qaf M.to),.int .i64 M.size,.slice a5 M.hdrs.length k5]) (by simp[results,results40,go_sem,z0,z1,z2,z3]) rfl ?_
 have ho:w5.ownsRow (w.heap.size+2) 50 2 (.slice a5 M.hdrs.length k5) M.hdrs.length (hcells M.hdrs):=by
  have:=ah.o;rw[Nat.zero_add,List.nil_append]at this;exact this
 have ad:∀ b,b<w.heap.size+2->(Value.slice a5 M.hdrs.length k5).ownBlock≠some b:=fun b hb e=>by have:=(ho.lt b e).1;omega
 refine⟨a5,k5,rfl,Qkz (Qdg (Qdg (Qdg (Qdg (Qdg ho (ad _ (by omega)) _ _) (ad _ (by omega)) _ _) (ad _ (by omega)) _ _) (ad _ (by omega)) _ _) (ad _ (by omega)) _ _) (by omega),?_⟩;exact((((ag.o.setCell (show w.heap.size<=w.heap.size from Nat.le_refl _) _).setCell (show w.heap.size<=w.heap.size+1 by omega) _).setCell (show w.heap.size<=w.heap.size+1 by omega) _).setCell (show w.heap.size<=w.heap.size+1 by omega) _).setCell (show w.heap.size<=w.heap.size+1 by omega) _
theorem QsO(M:Msg)(a:Option Addr)(c:Nat)(w:World)(h0:M.hdrs=[]) :
 Calls Tryz.prog 40 #[Qf5 M (.slice a 0 c)] w fun e w'=>∃ a k,e=.returned (Qf5 M (.slice a M.hdrs.length k))/\QuS w' w.heap.size (.slice a M.hdrs.length k) M.hdrs/\Below w.heap.size w w':=by
 have HR:Hid (M.hdrs.length=0):=by show _=_;rw[h0];rfl
 have H0:=Qab h0;clear h0;unfold Qf5
 cases a with
 |none=>
  go_enter func40,ntmps40;go_wp2;refine bodyPost_ret (v:=.agg #[.string (Qaf M.fr),.string (Qaf M.to),.int .i64 M.size,.slice none 0 0]) (by simp[results,results40,go_sem]) rfl ?_;refine⟨none,0,by rw[HR.o],?_,?_⟩
  ·unfold QuS;rw[H0.o];exact World.ownsRow_nil _ _ _ _
  ·exact((Below.refl _ _).alloc (Nat.le_refl _) _).alloc (by simp) _
 |some a=>
  go_enter func40,ntmps40;go_wp2;refine bodyPost_ret (v:=.agg #[.string (Qaf M.fr),.string (Qaf M.to),.int .i64 M.size,.slice none 0 0]) (by simp[results,results40,go_sem]) rfl ?_;refine⟨none,0,by rw[HR.o],?_,?_⟩
  ·unfold QuS;rw[H0.o];exact World.ownsRow_nil _ _ _ _
  ·exact((Below.refl _ _).alloc (Nat.le_refl _) _).alloc (by simp) _
theorem QsM(M:Msg)(hv:Value)(w:World)(hh:QpM w hv M.hdrs)(hl:M.hdrs.length<=100000) :
 Calls Tryz.prog 40 #[Qf5 M hv] w fun e w'=>∃ a k,e=.returned (Qf5 M (.slice a M.hdrs.length k))/\QuS w' w.heap.size (.slice a M.hdrs.length k) M.hdrs/\Below w.heap.size w w':=by
 obtain⟨a,c,rfl,hc⟩:=hh;by_cases h0:M.hdrs=[]
 ·have e:M.hdrs.length=0:=by rw[h0];rfl
  rw[e];have:=QsO M a c w h0;rw[e]at this;exact this
 ·obtain⟨b,ab,rfl,aa⟩:=hc h0;exact Qqn M b ab c w aa h0 hl
theorem QqX(M:Msg)(a:Option Addr)(k B:Nat)(w:World)(hh:QuS w B (.slice a M.hdrs.length k) M.hdrs)(hl:M.hdrs.length<=100000) :
 Calls Tryz.prog 42 #[Qf5 M (.slice a M.hdrs.length k)] w fun e w'=>e=.returned (.tuple #[])/\Fr (fun k o=>B<=k/\∃ cs,o=.cells cs 50) w w':=by
 obtain⟨W0,ac⟩:∃ W0,W0=w.alloc (.cells #[.string (Qaf M.fr),.string (Qaf M.to),.int .i64 M.size,.slice a M.hdrs.length k] 28):=⟨_,rfl⟩;have ad:Hid (Below w.heap.size w W0):=by show Below _ _ _;rw[ac];exact(Below.refl _ _).alloc (Nat.le_refl _) _
 have ae:Hid (W0.heap[w.heap.size]?=some (.cells #[.string (Qaf M.fr),.string (Qaf M.to),.int .i64 M.size,.slice a M.hdrs.length k] 28)):=by show _=_;rw[ac];exact Qat _ _
 have af:Hid (W0.ownsRow B 50 2 (.slice a M.hdrs.length k) M.hdrs.length (hcells M.hdrs)):=by show World.ownsRow _ _ _ _ _ _ _;rw[ac];exact World.ownsRow.alloc hh _
 have ag:=Qab ac;generalize hn:M.hdrs.length=n at *;clear hh ac;unfold Qf5;go_enter func42,ntmps42;go_wp2_with fail;rw[<-ag.o]
 go_loopw [2,6] (fun _ i wr=>∃(j:Nat) (xs:List Value),j<=n/\i=.int .i64 (j:Int)/\wr.ownsRow B 50 2 (.slice a n k) n xs/\Fr (fun k o=>B<=k/\∃ cs,o=.cells cs 50) W0 wr) (fun _ i _=>n - (intOf i).toNat)
 case atStart=>exact⟨0,_,Nat.zero_le _,by go_num,af.o,Fr.refl _ _⟩
 case round=>
  obtain⟨j,xs,hj,rfl,aa,hF⟩:=hrel;have hM:=hF.block _ _ ae.o (fun h=>by obtain⟨_,cs,e⟩:=h;injection e with _ e;exact absurd e (by decide));have c3:wr.cell? ⟨w.heap.size,3,none⟩=some (.slice a n k):=Qaa hM 3;by_cases hlt:j<n
  ·obtain⟨g,c,hv,hbg,hgl,hcells⟩:=Qc6 aa (by omega);injection hv with hv1 hv2 hv3
   subst hv1 hv3;have ai:=aa.1;obtain⟨u1,hu1⟩:∃ u,wr.cell? ⟨g,j*2,none⟩=some u:=⟨xs[j*2]'(by omega),hcells _ _ (List.getElem?_eq_getElem (by omega))⟩;obtain⟨u2,hu2⟩:∃ u,wr.cell? ⟨g,j*2+1,none⟩=some u:=⟨xs[j*2+1]'(by omega),hcells _ _ (List.getElem?_eq_getElem (by omega))⟩;have hfz:∀ o,wr.frozen? ⟨g,o,none⟩=false:=aa.frozenAt;have hP:∀ W:World,W.ownsRow B 50 2 (.slice (some ⟨g,0,none⟩) n k) n xs->True:=fun _ _=>trivial
   obtain⟨s1,g1⟩:=aa.stored (j*2) (.string ⟨#[109,105,110,101]⟩);obtain⟨s2,g2⟩:=s1.stored (j*2+1) (.string ⟨#[109,105,110,101]⟩);have ab:∀(u v:World) (ys:List Value),u.ownsRow B 50 2 (.slice (some ⟨g,0,none⟩) n k) n ys->u.grownBy v (some g)->Fr (fun k o=>B<=k/\∃ cs,o=.cells cs 50) u v:=fun u v ys ho hg=>(Fr.refl _ u).grown hg (fun k' o e ho'=>Qcg ho k' o e ho')
   have HS:=Qab (And.intro s2 ((hF.trans (ab _ _ _ aa g1)).trans (ab _ _ _ s1 g2)));clear hP ab s1 s2 g1 g2 aa hF hM hcells ai;go_wp2;go_roundw
   case rel=>exact⟨j+1,_,by omega,by go_num,HS.o.1,HS.o.2⟩
   case measure=>simp[intOf];omega
  ·have HF:=Qab hF;have ah:j=n:=by omega
   subst ah;clear hF hM aa;go_wp2;go_end0;exact⟨rfl,(Fr.of_below ad.o).trans HF.o⟩
end
end Go.Proofs.YtgnkjijocdmniaaGreatDoor
