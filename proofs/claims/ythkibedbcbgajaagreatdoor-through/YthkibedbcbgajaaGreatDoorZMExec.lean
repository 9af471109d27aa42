import Derived.Test.YthkibedbcbgajaaGreatDoorZGSettle
import Derived.Test.YthkibedbcbgajaaGreatDoorZMActW
namespace Go.Proofs.YthkibedbcbgajaaGreatDoor
set_option linter.unusedVariables false
set_option linter.unusedSimpArgs false
set_option maxRecDepth 100000
set_option maxHeartbeats 4000000
open Go.Proofs.Tryz
section
open Go.RowKit
attribute [local go_sem ↓] Go.wp_at_zero Go.wp_at_succ
def ActsV (w:World) (B:Nat) (v:Value) (l:List (Int×L8)):Prop:=
 w.ownsRow B 34 2 v l.length (Qbj l)∧(l=[]→v=.slice none 0 0)
theorem Qp4(w:World):Calls Tryz.prog 63 #[] w fun e w'=>∃ v,e=.returned v/\ActsV w' w.heap.size v [(1,[])]/\Below w.heap.size w w':=by
 go_enter func63,ntmps63;go_wp2;go_ret;refine⟨_,rfl,⟨?_,fun h=>by cases h⟩,(Below.refl _ _).alloc (Nat.le_refl _) _⟩;exact World.ownsRow_lit (e:=34) (size:=2) w #[.int .i64 1,.string (sA [])] 1 (Nat.le_refl _) (by unfold maxLen;omega) rfl
theorem QwI(W:World):(binOp .eql 29 (.slice none 0 0) (.slice none 0 0)).run Tryz.prog W=.ok (.bool true) W:=by kernel_rfl
theorem Qve(W:World)(a:Addr)(n c:Nat):(binOp .eql 29 (.slice (some a) n c) (.slice none 0 0)).run Tryz.prog W=.ok (.bool false) W:=by kernel_rfl
theorem QqF(l:List (Int×L8)):∀ u∈Qbj l,u.oneCell'=true:=by
 intro u hu;unfold Qbj at hu;obtain⟨a,_,ha⟩:=List.mem_flatMap.1 hu;simp at ha;rcases ha with rfl|rfl<;>rfl
theorem Qnj(base:Nat)(met:List (Int×L8))(mv:Value)(w:World)(ho:w.ownsRow base 34 2 mv met.length (Qbj met))(hn:met=[]->mv=.slice none 0 0)(hl:met.length<=6) :
 Calls Tryz.prog 191 #[mv] w fun e w'=>∃ v,e=.returned v/\ActsV w' w.heap.size v met/\Below w.heap.size w w':=by
 obtain⟨i0,hi,ai,ah,ae⟩:=info_parts Tryz.infoAction;have q1:=QwI;have q2:=Qve;by_cases h0:met=[]
 ·subst h0;have aj:=hn rfl;subst aj;go_enter func191,ntmps191;go_wp2;go_ret;exact⟨_,rfl,⟨World.ownsRow_nil _ _ _ _,fun _=>rfl⟩,Below.refl _ _⟩
 ·have ab:=List.length_pos_iff.2 h0;obtain⟨g,c,hv,hbg,af,hcells⟩:=Qcq ho ab;subst hv;have HC:=Qab hcells;clear hcells ho hn;go_enter func191,ntmps191
  have HN:Hid (∀ j u,(Qbj met)[j]?=some u->(w.alloc (.cells #[] 34)).cell? ((⟨g,0,none⟩:Addr).add j)=some u):=fun j u hj=>by
   rw[Qbu,World.cell?_of_block (a:=⟨g,j,none⟩) (w:=w) (Below.heap_alloc _ _ _ af)];exact HC.o j u hj
  go_wp2_with (at_builtin;refine wpList_append_own _ rfl _ _ 29 rfl w.heap.size 34 i0 _ 2 24 underlying29 hi ai ah ae rfl (by decide) _ _ _ rfl (World.ownsRow_made w #[] 0 (Nat.le_refl _) (Nat.zero_le _) rfl) ⟨g,0,none⟩ met.length c (Qbj met) rfl (QdZ met) HN.o (QqF met) (by unfold maxLen;omega) (by omega) (by simp) ?_;intro v5 w5 aa ac _;obtain⟨a5,k5,ad⟩:=Qat aa;subst ad;have ak:=Qab aa;have ag:=Qab (Qe5 ((Below.refl _ _).alloc (Nat.le_refl _) _) ac (by simp) (fun k hk=>((World.ownsRow_made (e:=34) (size:=2) w #[] 0 (Nat.le_refl _) (Nat.zero_le _) rfl).lt k hk).1));clear aa ac);go_ret;refine⟨_,rfl,⟨?_,fun h=>absurd h h0⟩,ag.o⟩;have:=ak.o;rw[Nat.zero_add,List.nil_append]at this;exact this
theorem QuN(B sb:Nat)(M:Msg)(s:SS)(ad:Bool)(w:World)(h:SAt w B sb M s)(hd:ad=s.disc) :
 Calls Tryz.prog 140 #[.pointer (some ⟨sb,7,none⟩),.bool ad] w fun e w'=>∃ v,e=.returned v/\ActsV w' w.heap.size v (Qwn s)/\Below w.heap.size w w':=by
 obtain⟨hv,mb,tv,mv,ae⟩:=h;have c7:w.cell? ⟨sb,7,none⟩=some mv:=ae.cell 7;have hn:=ae.mn;have ho:=ae.met;have ah:=ae.bd.met;obtain⟨la,lc,ai⟩:=Qat ho;subst ai;have HR:Hid (Qwn s=if s.met=[]/\s.disc=false then [(1,[])]else s.met):=rfl;clear ae;by_cases h0:s.met=[]/\s.disc=false
 ·rw[if_pos h0]at HR;rw[h0.2]at hd;subst hd;have af:((s.met.length:Int)==0)=true:=by rw[h0.1];rfl
  have hl1:s.met.length=0:=by rw[h0.1];rfl
  go_enter func140,ntmps140;go_wp2_with (go_at_call 63;refine(Qp4 _).mono ?_;rintro e w1 ⟨v,rfl,aa,ab⟩;obtain⟨a5,k5,ac⟩:=Qat aa.1;subst ac;have HV:=Qab aa;have HB:=Qab ab;clear aa ab);go_ret;exact⟨_,rfl,by rw[HR.o];exact HV.o,HB.o⟩
 ·rw[if_neg h0]at HR;have HC:=Qab (Qnj B s.met (.slice la s.met.length lc) w ho hn ah);by_cases hl:s.met=[]
  ·have ag:s.disc=true:=by cases hh:s.disc with|true=>rfl|false=>exact absurd ⟨hl,hh⟩ h0
   rw[ag]at hd;subst hd;have af:((s.met.length:Int)==0)=true:=by rw[hl];rfl
   clear h0 hn hl;go_enter func140,ntmps140;go_wp2_with (go_at_call 191;refine HC.o.mono ?_;rintro e w1 ⟨v,rfl,aa,ab⟩;obtain⟨a5,k5,ac⟩:=Qat aa.1;subst ac;have HV:=Qab aa;have HB:=Qab ab;clear aa ab);go_ret;exact⟨_,rfl,by rw[HR.o];exact HV.o,HB.o⟩
  ·have af:((s.met.length:Int)==0)=false:=by have:=List.length_pos_iff.2 hl;simp;omega
   clear h0 hn;go_enter func140,ntmps140;go_wp2_with (go_at_call 191;refine HC.o.mono ?_;rintro e w1 ⟨v,rfl,aa,ab⟩;obtain⟨a5,k5,ac⟩:=Qat aa.1;subst ac;have HV:=Qab aa;have HB:=Qab ab;clear aa ab);go_ret;exact⟨_,rfl,by rw[HR.o];exact HV.o,HB.o⟩
theorem Qn5(B sb:Nat)(M:Msg)(s:SS)(w:World)(h:SAt w B sb M s) :
 Calls Tryz.prog 68 #[.pointer (some ⟨sb,0,none⟩)] w fun e w'=>∃ v,e=.returned v/\ActsV w' w.heap.size v (Qwn s)/\Below w.heap.size w w':=by
 have HS:=Qab (h.below (Qas (Below.refl _ _)));obtain⟨hv,mb,tv,mv,ab⟩:=h;have c8:w.cell? ⟨sb,8,none⟩=some (.bool s.disc):=ab.cell 8;have af:=ab.lt;clear ab;go_enter func68,ntmps68;go_wp2_with fail;go_region_held3 (fun w'=>w'.cell? ⟨sb,8,none⟩=some (.bool s.disc)) (first|go_keep|exact d8) (first|(go_at_call 140;refine(QuN B sb M s s.disc w.drew HS.o rfl).mono ?_;rintro e w1 ⟨v,rfl,aa,ad⟩;have ac:=QaT ad;have d8:w1.cell? ⟨sb,8,none⟩=some (.bool s.disc):=(ac.cell (p:=⟨sb,8,none⟩) af).trans c8;obtain⟨a5,k5,ae⟩:=Qat aa.1;subst ae;have HV:=Qab aa;have HB:=Qab ac;clear aa ad ac;skip))
 all_goals go_wp2
 all_goals go_ret
 all_goals exact⟨_,rfl,HV.o,HB.o⟩
theorem Qoo(p q:Addr)(w:World) :
 CallsD Tryz.prog 62 #[.pointer (some p),.pointer (some q)] .returning w fun e u' w'=>e=.returned (.tuple #[])/\u'=.returning/\w'=w:=by
 refine callsD_of_wpS func62 rfl fun c₀ cs hu=>?_
 apply wpS_seq;apply wpS_region;simp[wpOpsS,go_sem,recoverD,hu,ntmps62,Exit.thenS];refine(QjR w).mono ?_;rintro e w' ⟨rfl,rfl⟩;apply wpS_seq;apply wpS_region;simp[wpOpsS,go_sem,Exit.thenS];refine wpS_cond (t:=false) (by simp[Act.eval,Array.replicate]) ?_;simp only[Bool.false_eq_true,if_false];refine wpS_of_wp (wp_skip ?_);cases c₀;simp_all [bodyPostS,results,results62]
theorem Qer(P Q:Nat)(x1 x3:Value)(a:Addr)(aa:List PanicEntry)(w:World)(ac:w.cell? ⟨P,0,none⟩=some x1)(ad:w.cell? ⟨Q,0,none⟩=some x3)(ai:∀ j,w.frozen? ⟨P,j,none⟩=false)(aj:∀ j,w.frozen? ⟨Q,j,none⟩=false)(af:P≠Q) :
 CallsD Tryz.prog 62 #[.pointer (some ⟨P,0,none⟩),.pointer (some ⟨Q,0,none⟩)] (.panicking ({ v:=.iface 76 (.pointer (some a)),recovered:=false }::aa)) w fun e u' w'=>
  e=.returned (.tuple #[])/\u'=.panicking ({ v:=.iface 76 (.pointer (some a)),recovered:=true }::aa)/\∃ v w1,ActsV w1 w.heap.size v [(1,[])]/\Below w.heap.size w w1/\w'=(w1.setCell ⟨P,0,none⟩ v).setCell ⟨Q,0,none⟩ (.iface 76 (.pointer (some a))):=by
 refine callsD_of_wpS func62 rfl fun c₀ cs hu=>?_
 apply wpS_seq;apply wpS_region;simp[wpOpsS,go_sem,recoverD,hu,ntmps62,Exit.thenS];refine(Qhp a w).mono ?_;rintro e w' ⟨rfl,rfl⟩;apply wpS_seq;apply wpS_region;simp[wpOpsS,go_sem,Exit.thenS];refine wpS_cond (t:=true) (by simp[Act.eval,Array.replicate]) ?_;simp only[if_true];apply wpS_region;simp[wpOpsS,go_sem,Exit.thenS];refine(Qp4 _).mono ?_;rintro e w1 ⟨v,rfl,ae,ab⟩;obtain⟨a5,k5,ag⟩:=Qat ae.1;subst ag;have d1:w1.cell? ⟨P,0,none⟩=some x1:=(ab.cell (p:=⟨P,0,none⟩) (Qau ac)).trans ac;have d3:w1.cell? ⟨Q,0,none⟩=some x3:=(ab.cell (p:=⟨Q,0,none⟩) (Qau ad)).trans ad;have z1:∀ j,w1.frozen? ⟨P,j,none⟩=false:=fun j=>(ab.frozen (p:=⟨P,j,none⟩) (show P<_ from Qau (a:=⟨P,0,none⟩) ac)).trans (ai j)
 have z2:∀ j,w1.frozen? ⟨Q,j,none⟩=false:=fun j=>(ab.frozen (p:=⟨Q,j,none⟩) (show Q<_ from Qau (a:=⟨Q,0,none⟩) ad)).trans (aj j)
 have ah:Q≠P:=Ne.symm af;simp[wpOpsS,go_sem,d1,d3,z1,z2,af,ah,bodyPostS,results,results62];exact⟨_,w1,ae,ab,rfl⟩
theorem Qwu(i:Ins)(av bv:Value)(B xb sb:Nat)(M:Msg)(m:MS)(ae:Nat)(w:World)(h:MAt w B xb sb M m ae)(ho:QbY w i av bv)(ht:Tab w) :
 Calls Tryz.prog 135 #[.pointer (some ⟨xb,0,none⟩),Qde i av bv] w (QaC (QkB i m) B xb sb M ae w):=by
 obtain⟨aa,ac,aL⟩:=ho.a.len;obtain⟨ba,bc,aJ⟩:=ho.b.len;subst aL aJ;have HM:=Qab h;have HO:=Qab ho;have hxl:xb<w.heap.size:=Qau h.now;have ab:=(h.box (.cells #[.int .i64 i.op,.int .i64 i.n,.int .i64 i.tag,.bool i.oct,.slice aa i.a.length ac,.slice ba i.b.length bc,.int .i64 i.at_] 147)).now;have ak:=Qab (h.below (Qak (.cells #[.int .i64 i.op,.int .i64 i.n,.int .i64 i.tag,.bool i.oct,.slice aa i.a.length ac,.slice ba i.b.length bc,.int .i64 i.at_] 147)));have ar:=Qab (ho.below (Qak (.cells #[.int .i64 i.op,.int .i64 i.n,.int .i64 i.tag,.bool i.oct,.slice aa i.a.length ac,.slice ba i.b.length bc,.int .i64 i.at_] 147)));clear h ho;unfold Qde;have aw:Tab (w.alloc (.cells #[.int .i64 i.op,.int .i64 i.n,.int .i64 i.tag,.bool i.oct,.slice aa i.a.length ac,.slice ba i.b.length bc,.int .i64 i.at_] 147)).drew:=ht.below (Qak _);have aD:=Qab aw;clear ht aw;by_cases hc:0<=i.tag/\i.tag<=3/\i.a≠[]/\i.b≠[];rotate_left
 ·have HR:Hid (QkB i m=.error (12,(m.now:Int))):=by show _=_;unfold QkB Qb1;rw[if_neg hc]
  have ah:(decide (0<=i.tag)&&decide (i.tag<=3)&&decide (0<i.a.length)&&decide (0<i.b.length))=false:=by
   rw[Bool.eq_false_iff];intro h;simp only[Bool.and_eq_true,decide_eq_true_eq]at h;exact hc ⟨h.1.1.1,h.1.1.2,List.length_pos_iff.1 h.1.2,List.length_pos_iff.1 h.2⟩
  clear hc;by_cases h1:0<=i.tag
  ·have d1:=decide_eq_true h1;by_cases h2:i.tag<=3
   ·have d2:=decide_eq_true h2;by_cases h3:0<i.a.length
    ·have d3:=decide_eq_true h3;have aK:(0:Int)<(i.a.length:Int):=by omega
     have d4:decide (0<i.b.length)=false:=by rw[d1,d2,d3]at ah;simpa using ah
     have h4:¬(0:Int)<(i.b.length:Int):=by have:=of_decide_eq_false d4;omega
     clear ah;go_enter func135,ntmps135;go_wp2_with (go_at_call 139;refine(Qci _ _ _ ab).mono ?_;rintro e w' ⟨⟨bb,hz,rfl,ag⟩,hb⟩);exact⟨rfl,by rw[HR.o];exact QaC.from (QaC.err rfl (Fr.of_below hb) ⟨bb,hz,rfl,ag⟩) (QcP _ _)⟩
    ·have d3:=decide_eq_false h3;have aK:¬(0:Int)<(i.a.length:Int):=by omega
     clear ah;go_enter func135,ntmps135;go_wp2_with (go_at_call 139;refine(Qci _ _ _ ab).mono ?_;rintro e w' ⟨⟨bb,hz,rfl,ag⟩,hb⟩);exact⟨rfl,by rw[HR.o];exact QaC.from (QaC.err rfl (Fr.of_below hb) ⟨bb,hz,rfl,ag⟩) (QcP _ _)⟩
   ·have d2:=decide_eq_false h2;clear ah;go_enter func135,ntmps135;go_wp2_with (go_at_call 139;refine(Qci _ _ _ ab).mono ?_;rintro e w' ⟨⟨bb,hz,rfl,ag⟩,hb⟩);exact⟨rfl,by rw[HR.o];exact QaC.from (QaC.err rfl (Fr.of_below hb) ⟨bb,hz,rfl,ag⟩) (QcP _ _)⟩
  ·have d1:=decide_eq_false h1;clear ah;go_enter func135,ntmps135;go_wp2_with (go_at_call 139;refine(Qci _ _ _ ab).mono ?_;rintro e w' ⟨⟨bb,hz,rfl,ag⟩,hb⟩);exact⟨rfl,by rw[HR.o];exact QaC.from (QaC.err rfl (Fr.of_below hb) ⟨bb,hz,rfl,ag⟩) (QcP _ _)⟩
 obtain⟨h1,h2,ha,hb⟩:=hc;obtain⟨x,r,af⟩:∃ x r,i.a=x::r:=by cases hh:i.a with|nil=>exact absurd hh ha|cons x r=>exact⟨x,r,rfl⟩
 obtain⟨y,q,ad⟩:∃ y q,i.b=y::q:=by cases hh:i.b with|nil=>exact absurd hh hb|cons x r=>exact⟨x,r,rfl⟩
 have HR:Hid (QkB i m=.ok (stL m (Qyg m.st x i.tag y))):=by show _=_;unfold QkB;rw[if_pos ⟨h1,h2,ha,hb⟩,af,ad];rfl
 have hyl2:=HO.o.bl y (by rw[ad];simp);have aH:=Qab (Qx4 B sb M m.st x i.tag y (w.alloc (.cells #[.int .i64 i.op,.int .i64 i.n,.int .i64 i.tag,.bool i.oct,.slice aa i.a.length ac,.slice ba i.b.length bc,.int .i64 i.at_] 147)).drew ak.o.sat aD.o (by omega));obtain⟨g,aB,hgl,aA⟩:=HO.o.a.get' 0 (by rw[af];simp);obtain⟨k,ay,hkl,ax⟩:=HO.o.b.get' 0 (by rw[ad];simp);have hgc':w.cell? ⟨g,0,none⟩=some (.string (sA x)):=by rw[aA];congr 3;simp[af]
 have hkc':w.cell? ⟨k,0,none⟩=some (.string (sA y)):=by rw[ax];congr 3;simp[ad]
 have aI:0<i.a.length:=by rw[af];simp
 have aE:0<i.b.length:=by rw[ad];simp
 have hp':(0:Int)<(i.a.length:Int):=by omega
 have hq':(0:Int)<(i.b.length:Int):=by omega
 have d1:=decide_eq_true h1;have d2:=decide_eq_true h2;have d3:=decide_eq_true aI;have d4:=decide_eq_true aE
 have au:Hid (∀ W,Fr (PMc B xb) (w.alloc (.cells #[.int .i64 i.op,.int .i64 i.n,.int .i64 i.tag,.bool i.oct,.slice aa i.a.length ac,.slice ba i.b.length bc,.int .i64 i.at_] 147)).drew W->W.cell? ⟨g,0,none⟩=some (.string (sA x))/\W.cell? ⟨k,0,none⟩=some (.string (sA y))):=fun W hf=>by
  have e1:=ar.o.a.pm hf;have e2:=ar.o.b.pm hf;obtain⟨g',aj,_,aG⟩:=e1.get' 0 (by rw[af];simp);obtain⟨k',ai,_,aF⟩:=e2.get' 0 (by rw[ad];simp);rw[aB]at aj;rw[ay]at ai;injection aj with aj
  injection aj with aj
  injection ai with ai
  injection ai with ai
  subst aj ai;refine⟨?_,?_⟩
  ·rw[aG];congr 3;simp[af]
  ·rw[aF];congr 3;simp[ad]
 have hgne:¬ g=w.heap.size:=by omega
 have hkne:¬ k=w.heap.size:=by omega
 clear aA ax;subst aB ay;clear af ad ha hb;go_enter func135,ntmps135;go_wp2_with (go_at_call 139;refine(Qbv _ _).mono ?_;rintro e w' ⟨rfl,aC⟩;rw[aC];clear aC);refine wp_region_held (S:=fun w'=>w'.cell? ⟨xb,0,none⟩=some (.pointer (some ⟨sb,0,none⟩))/\w'.cell? ⟨w.heap.size,2,none⟩=some (.int .i64 i.tag)/\w'.cell? ⟨w.heap.size,4,none⟩=some (.slice (some ⟨g,0,none⟩) i.a.length ac)/\w'.cell? ⟨w.heap.size,5,none⟩=some (.slice (some ⟨k,0,none⟩) i.b.length bc)/\w'.cell? ⟨g,0,none⟩=some (.string (sA x))/\w'.cell? ⟨k,0,none⟩=some (.string (sA y))) (by kernel_rfl) ?_;have hS:(w.alloc (.cells #[.int .i64 i.op,.int .i64 i.n,.int .i64 i.tag,.bool i.oct,.slice (some ⟨g,0,none⟩) i.a.length ac,.slice (some ⟨k,0,none⟩) i.b.length bc,.int .i64 i.at_] 147)).drew.cell? ⟨xb,0,none⟩=some (.pointer (some ⟨sb,0,none⟩))/\(w.alloc (.cells #[.int .i64 i.op,.int .i64 i.n,.int .i64 i.tag,.bool i.oct,.slice (some ⟨g,0,none⟩) i.a.length ac,.slice (some ⟨k,0,none⟩) i.b.length bc,.int .i64 i.at_] 147)).drew.cell? ⟨w.heap.size,2,none⟩=some (.int .i64 i.tag)/\(w.alloc (.cells #[.int .i64 i.op,.int .i64 i.n,.int .i64 i.tag,.bool i.oct,.slice (some ⟨g,0,none⟩) i.a.length ac,.slice (some ⟨k,0,none⟩) i.b.length bc,.int .i64 i.at_] 147)).drew.cell? ⟨w.heap.size,4,none⟩=some (.slice (some ⟨g,0,none⟩) i.a.length ac)/\(w.alloc (.cells #[.int .i64 i.op,.int .i64 i.n,.int .i64 i.tag,.bool i.oct,.slice (some ⟨g,0,none⟩) i.a.length ac,.slice (some ⟨k,0,none⟩) i.b.length bc,.int .i64 i.at_] 147)).drew.cell? ⟨w.heap.size,5,none⟩=some (.slice (some ⟨k,0,none⟩) i.b.length bc)/\(w.alloc (.cells #[.int .i64 i.op,.int .i64 i.n,.int .i64 i.tag,.bool i.oct,.slice (some ⟨g,0,none⟩) i.a.length ac,.slice (some ⟨k,0,none⟩) i.b.length bc,.int .i64 i.at_] 147)).drew.cell? ⟨g,0,none⟩=some (.string (sA x))/\(w.alloc (.cells #[.int .i64 i.op,.int .i64 i.n,.int .i64 i.tag,.bool i.oct,.slice (some ⟨g,0,none⟩) i.a.length ac,.slice (some ⟨k,0,none⟩) i.b.length bc,.int .i64 i.at_] 147)).drew.cell? ⟨k,0,none⟩=some (.string (sA y)):=⟨(Qav ak.o (Fr.refl _ _)).1,(Qav ak.o (Fr.refl _ _)).2 2,(Qav ak.o (Fr.refl _ _)).2 4,(Qav ak.o (Fr.refl _ _)).2 5,au.o _ (Fr.refl _ _)⟩;refine Qao 0 26 (.pointer (some ⟨xb,0,none⟩)) rfl hS (fun w' ⟨s1,s2,s3,s4,s5,s6⟩=>by go_simp) ?_;simp only[pt,sz,sc];refine Qao 1 27 (.pointer (some ⟨xb,0,none⟩)) rfl hS (fun w' ⟨s1,s2,s3,s4,s5,s6⟩=>by go_simp) ?_;simp only[pt,sz,sc];refine Qao 2 28 (.pointer (some ⟨xb,0,none⟩)) rfl hS (fun w' ⟨s1,s2,s3,s4,s5,s6⟩=>by go_simp) ?_;simp only[pt,sz,sc];refine Qao 3 29 (.pointer (some ⟨sb,0,none⟩)) rfl hS (fun w' ⟨s1,s2,s3,s4,s5,s6⟩=>by go_simp) ?_;simp only[pt,sz,sc];refine Qao 4 30 (.pointer (some ⟨w.heap.size,4,none⟩)) rfl hS (fun w' ⟨s1,s2,s3,s4,s5,s6⟩=>by go_simp) ?_;simp only[pt,sz,sc];refine Qao 5 31 (.slice (some ⟨g,0,none⟩) i.a.length ac) rfl hS (fun w' ⟨s1,s2,s3,s4,s5,s6⟩=>by go_simp) ?_;simp only[pt,sz,sc];refine Qao 6 32 (.pointer (some ⟨g,0,none⟩)) rfl hS (fun w' ⟨s1,s2,s3,s4,s5,s6⟩=>by go_simp) ?_;simp only[pt,sz,sc];refine Qao 7 33 (.string (sA x)) rfl hS (fun w' ⟨s1,s2,s3,s4,s5,s6⟩=>by go_simp) ?_;simp only[pt,sz,sc];refine Qao 8 34 (.pointer (some ⟨w.heap.size,2,none⟩)) rfl hS (fun w' ⟨s1,s2,s3,s4,s5,s6⟩=>by go_simp) ?_;simp only[pt,sz,sc];refine Qao 9 35 (.int .i64 i.tag) rfl hS (fun w' ⟨s1,s2,s3,s4,s5,s6⟩=>by go_simp) ?_;simp only[pt,sz,sc];refine Qao 10 36 (.pointer (some ⟨w.heap.size,5,none⟩)) rfl hS (fun w' ⟨s1,s2,s3,s4,s5,s6⟩=>by go_simp) ?_;simp only[pt,sz,sc];refine Qao 11 37 (.slice (some ⟨k,0,none⟩) i.b.length bc) rfl hS (fun w' ⟨s1,s2,s3,s4,s5,s6⟩=>by go_simp) ?_;simp only[pt,sz,sc];refine Qao 12 38 (.pointer (some ⟨k,0,none⟩)) rfl hS (fun w' ⟨s1,s2,s3,s4,s5,s6⟩=>by go_simp) ?_;simp only[pt,sz,sc];refine Qao 13 39 (.string (sA y)) rfl hS (fun w' ⟨s1,s2,s3,s4,s5,s6⟩=>by go_simp) ?_;simp only[pt,sz,sc];clear hS;refine wpAnyH_all (rs:=[14]) (by kernel_rfl) (by decide) (fun j hj=>?_);simp only[List.mem_singleton]at hj;subst hj;refine QaB rfl (by rfl) ?_;go_simp;refine aH.o.mono ?_;rintro e w2 ⟨hf,rfl,hs⟩;have az:=Qab (ak.o.st' hs hf);have aq:=Qab (hf.mono (fun _ _=>PMc.st (xb:=xb)));have ap:=Qab (au.o w2 aq.o);have ao:=Qab (Qav az.o aq.o);clear hs hf;refine⟨⟨(ao.o).1,(ao.o).2 2,(ao.o).2 4,(ao.o).2 5,ap.o⟩,wpAnyH_done (by kernel_rfl) ?_ _⟩
 try simp only[Act.put,List.setIfInBounds_toArray,List.set_cons_zero,List.set_cons_succ]
 go_wp2;go_end0;exact QaC.from (QaC.ok HR.o aq.o az.o) (Fr.of_below (Qak _))
theorem Qsr(b:Bool)(w:World):Calls Tryz.prog 127 #[.bool b] w fun e w'=>e=.returned (.func (.func 181) #[] #[.pointer (some ⟨w.heap.size,0,none⟩)])/\w'=w.alloc (.cells #[.bool b] 4):=by
 have hmf:∀(fn:Fn) (first cap:Array Value) (w:World),(Instr.makeFunc fn first cap).run Tryz.prog w=.ok (.func fn first cap) w:=fun _ _ _ _=>rfl
 go_enter func127,ntmps127;go_wp2;go_ret;exact⟨rfl,rfl⟩
theorem QsT(F:Nat)(w:World):Calls Tryz.prog 128 #[.func (.func F) #[] #[]] w fun e w'=>e=.returned (.func (.func 182) #[] #[.pointer (some ⟨w.heap.size,0,none⟩)])/\w'=w.alloc (.cells #[.func (.func F) #[] #[]] 233):=by
 have hmf:∀(fn:Fn) (first cap:Array Value) (w:World),(Instr.makeFunc fn first cap).run Tryz.prog w=.ok (.func fn first cap) w:=fun _ _ _ _=>rfl
 go_enter func128,ntmps128;go_wp2;go_ret;exact⟨rfl,rfl⟩
def fnV (F:Nat):Value:=.func (.func F) #[] #[]
def clV (F p:Nat):Value:=.func (.func F) #[] #[.pointer (some ⟨p,0,none⟩)]
def Qxg (n:Nat):Array Value:=
 #[.nilFunc,fnV 124,fnV 125,fnV 126,clV 181 n,clV 181 (n+1),clV 182 (n+2),clV 182 (n+3),clV 182 (n+4),
  fnV 132,fnV 133,fnV 134,fnV 135,fnV 136,fnV 138]
structure Qeo (w:World) (n:Nat):Prop where
 p0:w.heap[n]?=some (.cells #[.bool true] 4)
 p1:w.heap[n+1]?=some (.cells #[.bool false] 4)
 p2:w.heap[n+2]?=some (.cells #[fnV 129] 233)
 p3:w.heap[n+3]?=some (.cells #[fnV 130] 233)
 p4:w.heap[n+4]?=some (.cells #[fnV 131] 233)
 tb:w.heap[n+5]?=some (.cells (Qxg n) 230)
theorem Qeo.fr{w w':World}{B xb:Nat}(h:Qeo w (xb+1))(hf:Fr (PMc B xb) w w'):Qeo w' (xb+1):=by
 have hb:∀(k:Nat) (b:Bool),k<xb+7->¬ PMc B xb k (.cells #[.bool b] 4):=fun k b hk hh=>by
  have:=hh.2;unfold kO stO at this;simp at this;omega
 exact⟨hf.block _ _ h.p0 (hb _ _ (by omega)),hf.block _ _ h.p1 (hb _ _ (by omega)),hf.block _ _ h.p2 (PMc.not (by decide) (by decide) (by decide) (by decide)),hf.block _ _ h.p3 (PMc.not (by decide) (by decide) (by decide) (by decide)),hf.block _ _ h.p4 (PMc.not (by decide) (by decide) (by decide) (by decide)),hf.block _ _ h.tb (PMc.not (by decide) (by decide) (by decide) (by decide))⟩
theorem Qeo.below{w w':World}{n:Nat}(h:Qeo w n)(hb:Below w.heap.size w w'):Qeo w' n:=
 ⟨Qai h.p0 hb,Qai h.p1 hb,Qai h.p2 hb,Qai h.p3 hb,Qai h.p4 hb,Qai h.tb hb⟩
theorem QsC(w:World):Calls Tryz.prog 66 #[] w fun e w'=>e=.returned (.slice (some ⟨w.heap.size+5,0,none⟩) 15 15)/\Qeo w' w.heap.size/\Below w.heap.size w w'/\w'.heap.size=w.heap.size+6:=by
 go_enter func66,ntmps66;go_wp2_with (first|(go_at_call 127;refine(Qsr _ _).mono ?_;rintro e w' ⟨rfl,rfl⟩)|(go_at_call 128;refine(QsT _ _).mono ?_;rintro e w' ⟨rfl,rfl⟩));go_ret;refine⟨by simp,?_,?_,by simp⟩
 ·exact⟨Qac (Qac (Qac (Qac (Qac (Qam _ _))))),Qac (Qac (Qac (Qac (Qaq (by simp))))),Qac (Qac (Qac (Qaq (by simp)))),Qac (Qac (Qaq (by simp))),Qac (Qaq (by simp)),Qaq (by simp)⟩
 ·exact(((((((Below.refl _ _).alloc (Nat.le_refl _) _).alloc (by simp) _).alloc (by simp;omega) _).alloc (by simp;omega) _).alloc (by simp;omega) _).alloc (by simp;omega) _)
def QfV (M:Msg) (hv:Value):Value:=.agg #[.string (sA M.fr),.string (sA M.to),.int .i64 M.size,hv]
theorem Qw0(v:Bool)(M:Msg)(hv:Value)(w:World)(hh:QjG w hv M.hdrs)(hb:SBd M (ss0 v))(h1:1<w.heap.size)(hm:∃ m,w.cell? ⟨1,0,none⟩=some (.int .i64 m)) :
 Calls Tryz.prog 65 #[.bool v,QfV M hv] w fun e w'=>∃ sb,e=.returned (.pointer (some ⟨sb,0,none⟩))/\SAt w' w.heap.size sb M (ss0 v)/\Below w.heap.size w w':=by
 obtain⟨ha,hc,rfl⟩:=hh.len;have HH:=Qab hh;have hmm:∀(w:World),(Instr.makeMap 223 none).run Tryz.prog w=.ok (.map (some w.heap.size)) (w.alloc (Obj.map #[] 0)):=fun _=>rfl
 clear hh;unfold QfV;go_enter func65,ntmps65;go_wp2;go_ret;have hB:Below w.heap.size w (((w.alloc (.cells #[.string (sA M.fr),.string (sA M.to),.int .i64 M.size,.slice ha M.hdrs.length hc] 28)).alloc (Obj.map #[] 0)).alloc (.cells (QlJ M (.slice ha M.hdrs.length hc) v (w.heap.size+1) (.slice none 0 0) (.slice none 0 0) false) 227)):=(((Below.refl _ _).alloc (Nat.le_refl _) _).alloc (by simp) _).alloc (by simp;omega) _;obtain⟨m,hm⟩:=hm;refine⟨w.heap.size+1+1,rfl,⟨.slice ha M.hdrs.length hc,w.heap.size+1,.slice none 0 0,.slice none 0 0,by omega,by omega,h1,⟨m,?_⟩,?_,?_,⟨#[],0,?_,Qug.empty⟩,Or.inl ⟨rfl,rfl⟩,World.ownsRow_nil _ _ _ _,fun _=>rfl,hb⟩,hB⟩
 ·exact(hB.cell (p:=⟨1,0,none⟩) h1).trans hm
 ·exact Qaq (by simp)
 ·exact HH.o.fr (P:=fun _ _=>False) (Fr.of_below hB) (fun _ _ h=>h)
 ·exact Qac (Qaq (by simp))
theorem QwO(W:World):(binOp .neq 230 .nilFunc .nilFunc).run Tryz.prog W=.ok (.bool false) W:=by kernel_rfl
theorem Qwe(W:World)(f:Fn)(a b:Array Value):(binOp .neq 230 (.func f a b) .nilFunc).run Tryz.prog W=.ok (.bool true) W:=by kernel_rfl
theorem QkC(k:Nat)(f:FuncId)(R:Except FZ MS)(n tag:Int)(oct:Bool)(a b:List (L8))(ab:Int)(aa ba:Option Addr)(ac bc:Nat)(B xb sb:Nat)(M:Msg)(m:MS)(ad:Nat)(w:World)(hcf:∀ args W,(callFunc f args).run Tryz.prog W=.ok (.enter f args) W)(hk1:1<=k)(hk2:k<=14)(h:MAt w B xb sb M m ad)(hw:Qeo w (xb+1))(ah:(Qxg (xb+1))[k]?=some (.func (.func f) #[] #[]))
 (ag:Calls Tryz.prog f #[.pointer (some ⟨xb,0,none⟩),.agg #[.int .i64 (k:Int),.int .i64 n,.int .i64 tag,.bool oct,.slice aa a.length ac,.slice ba b.length bc,.int .i64 ab]] (w.alloc (.cells #[.int .i64 (k:Int),.int .i64 n,.int .i64 tag,.bool oct,.slice aa a.length ac,.slice ba b.length bc,.int .i64 ab] 147)).drew (QaC R B xb sb M ad (w.alloc (.cells #[.int .i64 (k:Int),.int .i64 n,.int .i64 tag,.bool oct,.slice aa a.length ac,.slice ba b.length bc,.int .i64 ab] 147)).drew)) :
 Calls Tryz.prog 67 #[.pointer (some ⟨xb,0,none⟩),.slice (some ⟨xb+6,0,none⟩) 15 15,.agg #[.int .i64 (k:Int),.int .i64 n,.int .i64 tag,.bool oct,.slice aa a.length ac,.slice ba b.length bc,.int .i64 ab]] w (QaC R B xb sb M ad w):=by
 have af:=Qab (h.below (Qak (.cells #[.int .i64 (k:Int),.int .i64 n,.int .i64 tag,.bool oct,.slice aa a.length ac,.slice ba b.length bc,.int .i64 ab] 147)));have ar:=Qab (hw.below (Qak (.cells #[.int .i64 (k:Int),.int .i64 n,.int .i64 tag,.bool oct,.slice aa a.length ac,.slice ba b.length bc,.int .i64 ab] 147)));have hn:=Qwe;have c6:w.cell? ⟨xb+6,k,none⟩=some (.func (.func f) #[] #[]):=(Qaa hw.tb k).trans ah;have hx6:¬ xb+6=w.heap.size:=by have:=Qar hw.tb;omega
 have hx6l:xb+6<w.heap.size:=Qar hw.tb;have ai:=Qab ag;have ao:Hid (∀ W,Fr (PMc B xb) (w.alloc (.cells #[.int .i64 (k:Int),.int .i64 n,.int .i64 tag,.bool oct,.slice aa a.length ac,.slice ba b.length bc,.int .i64 ab] 147)).drew W->W.cell? ⟨xb+6,k,none⟩=some (.func (.func f) #[] #[])):=fun W hf=>(Qaa (ar.o.fr hf).tb k).trans ah
 have aq:(0:Int)<=(k:Int):=by omega
 have ak:(k:Int)<15:=by omega
 have d1:decide ((0:Int)<=(k:Int))=true:=decide_eq_true aq;have d2:decide ((k:Int)<15)=true:=decide_eq_true ak;clear h hw ag ah;go_enter func67,ntmps67;go_wp2_with (go_at_call 139;refine(Qbv _ _).mono ?_;rintro e w' ⟨rfl,ap⟩;rw[ap];clear ap);refine wp_region_held (S:=fun w'=>w'.cell? ⟨xb+6,k,none⟩=some (.func (.func f) #[] #[])/\w'.cell? ⟨w.heap.size,0,none⟩=some (.int .i64 (k:Int))/\w'.cell? ⟨w.heap.size,1,none⟩=some (.int .i64 n)/\w'.cell? ⟨w.heap.size,2,none⟩=some (.int .i64 tag)/\w'.cell? ⟨w.heap.size,3,none⟩=some (.bool oct)/\w'.cell? ⟨w.heap.size,4,none⟩=some (.slice aa a.length ac)/\w'.cell? ⟨w.heap.size,5,none⟩=some (.slice ba b.length bc)/\w'.cell? ⟨w.heap.size,6,none⟩=some (.int .i64 ab)) (by kernel_rfl) ?_;have hS:(fun w':World=>w'.cell? ⟨xb+6,k,none⟩=some (.func (.func f) #[] #[])/\w'.cell? ⟨w.heap.size,0,none⟩=some (.int .i64 (k:Int))/\w'.cell? ⟨w.heap.size,1,none⟩=some (.int .i64 n)/\w'.cell? ⟨w.heap.size,2,none⟩=some (.int .i64 tag)/\w'.cell? ⟨w.heap.size,3,none⟩=some (.bool oct)/\w'.cell? ⟨w.heap.size,4,none⟩=some (.slice aa a.length ac)/\w'.cell? ⟨w.heap.size,5,none⟩=some (.slice ba b.length bc)/\w'.cell? ⟨w.heap.size,6,none⟩=some (.int .i64 ab)) (w.alloc (.cells #[.int .i64 (k:Int),.int .i64 n,.int .i64 tag,.bool oct,.slice aa a.length ac,.slice ba b.length bc,.int .i64 ab] 147)).drew:=⟨ao.o _ (Fr.refl _ _),(Qav af.o (Fr.refl _ _)).2 0,(Qav af.o (Fr.refl _ _)).2 1,(Qav af.o (Fr.refl _ _)).2 2,(Qav af.o (Fr.refl _ _)).2 3,(Qav af.o (Fr.refl _ _)).2 4,(Qav af.o (Fr.refl _ _)).2 5,(Qav af.o (Fr.refl _ _)).2 6⟩;refine Qao 0 26 (.slice (some ⟨xb+6,0,none⟩) 15 15) rfl hS (fun w' ⟨s1,s2,s3,s4,s5,s6,s7,s8⟩=>by go_simp) ?_;simp only[pt,sz,sc];refine Qao 1 27 (.pointer (some ⟨w.heap.size,0,none⟩)) rfl hS (fun w' ⟨s1,s2,s3,s4,s5,s6,s7,s8⟩=>by go_simp) ?_;simp only[pt,sz,sc];refine Qao 2 28 (.int .i64 (k:Int)) rfl hS (fun w' ⟨s1,s2,s3,s4,s5,s6,s7,s8⟩=>by go_simp) ?_;simp only[pt,sz,sc];refine Qao 3 29 (.pointer (some ⟨xb+6,k,none⟩)) rfl hS (fun w' ⟨s1,s2,s3,s4,s5,s6,s7,s8⟩=>by go_simp) ?_;simp only[pt,sz,sc];refine Qao 4 30 (.func (.func f) #[] #[]) rfl hS (fun w' ⟨s1,s2,s3,s4,s5,s6,s7,s8⟩=>by go_simp) ?_;simp only[pt,sz,sc];refine Qao 5 31 (.pointer (some ⟨xb,0,none⟩)) rfl hS (fun w' ⟨s1,s2,s3,s4,s5,s6,s7,s8⟩=>by go_simp) ?_;simp only[pt,sz,sc];refine Qao 6 32 (.agg #[.int .i64 (k:Int),.int .i64 n,.int .i64 tag,.bool oct,.slice aa a.length ac,.slice ba b.length bc,.int .i64 ab]) rfl hS (fun w' ⟨s1,s2,s3,s4,s5,s6,s7,s8⟩=>by go_simp) ?_;simp only[pt,sz,sc];clear hS;refine wpAnyH_all (rs:=[7]) (by kernel_rfl) (by decide) (fun j hj=>?_);simp only[List.mem_singleton]at hj;subst hj;refine QaB rfl (by rfl) ?_;go_simp;refine ai.o.mono ?_;intro e w2 h2;rcases h2.cases with⟨hf,⟨m',hr,rfl,hm⟩ | ⟨f,hr,bb,hz,rfl,hcc⟩⟩
 rotate_left
 ·exact⟨rfl,QaC.from h2 (Fr.of_below (Qak _))⟩
 have H2:=Qab h2;have aj:=Qab (ao.o w2 hf);have ae:=Qab (Qav hm hf);clear hm hf h2;refine⟨⟨aj.o,(ae.o).2 0,(ae.o).2 1,(ae.o).2 2,(ae.o).2 3,(ae.o).2 4,(ae.o).2 5,(ae.o).2 6⟩,wpAnyH_done (by kernel_rfl) ?_ _⟩
 try simp only[Act.put,List.setIfInBounds_toArray,List.set_cons_zero,List.set_cons_succ]
 go_wp2;go_end0;exact QaC.from H2.o (Fr.of_below (Qak _))
theorem Qtd(k:Nat)(f:FuncId)(q:Nat)(R:Except FZ MS)(n tag:Int)(oct:Bool)(a b:List (L8))(ab:Int)(aa ba:Option Addr)(ac bc:Nat)(B xb sb:Nat)(M:Msg)(m:MS)(ad:Nat)(w:World)(hcf:∀ args W,(callFunc f args).run Tryz.prog W=.ok (.enter f args) W)(hk1:1<=k)(hk2:k<=14)(h:MAt w B xb sb M m ad)(hw:Qeo w (xb+1))(ah:(Qxg (xb+1))[k]?=some (.func (.func f) #[] #[.pointer (some ⟨q,0,none⟩)]))
 (ag:Calls Tryz.prog f #[.pointer (some ⟨xb,0,none⟩),.agg #[.int .i64 (k:Int),.int .i64 n,.int .i64 tag,.bool oct,.slice aa a.length ac,.slice ba b.length bc,.int .i64 ab],.pointer (some ⟨q,0,none⟩)] (w.alloc (.cells #[.int .i64 (k:Int),.int .i64 n,.int .i64 tag,.bool oct,.slice aa a.length ac,.slice ba b.length bc,.int .i64 ab] 147)).drew (QaC R B xb sb M ad (w.alloc (.cells #[.int .i64 (k:Int),.int .i64 n,.int .i64 tag,.bool oct,.slice aa a.length ac,.slice ba b.length bc,.int .i64 ab] 147)).drew)) :
 Calls Tryz.prog 67 #[.pointer (some ⟨xb,0,none⟩),.slice (some ⟨xb+6,0,none⟩) 15 15,.agg #[.int .i64 (k:Int),.int .i64 n,.int .i64 tag,.bool oct,.slice aa a.length ac,.slice ba b.length bc,.int .i64 ab]] w (QaC R B xb sb M ad w):=by
 have af:=Qab (h.below (Qak (.cells #[.int .i64 (k:Int),.int .i64 n,.int .i64 tag,.bool oct,.slice aa a.length ac,.slice ba b.length bc,.int .i64 ab] 147)));have ar:=Qab (hw.below (Qak (.cells #[.int .i64 (k:Int),.int .i64 n,.int .i64 tag,.bool oct,.slice aa a.length ac,.slice ba b.length bc,.int .i64 ab] 147)));have hn:=Qwe;have c6:w.cell? ⟨xb+6,k,none⟩=some (.func (.func f) #[] #[.pointer (some ⟨q,0,none⟩)]):=(Qaa hw.tb k).trans ah;have hx6:¬ xb+6=w.heap.size:=by have:=Qar hw.tb;omega
 have hx6l:xb+6<w.heap.size:=Qar hw.tb;have ai:=Qab ag;have ao:Hid (∀ W,Fr (PMc B xb) (w.alloc (.cells #[.int .i64 (k:Int),.int .i64 n,.int .i64 tag,.bool oct,.slice aa a.length ac,.slice ba b.length bc,.int .i64 ab] 147)).drew W->W.cell? ⟨xb+6,k,none⟩=some (.func (.func f) #[] #[.pointer (some ⟨q,0,none⟩)])):=fun W hf=>(Qaa (ar.o.fr hf).tb k).trans ah
 have aq:(0:Int)<=(k:Int):=by omega
 have ak:(k:Int)<15:=by omega
 have d1:decide ((0:Int)<=(k:Int))=true:=decide_eq_true aq;have d2:decide ((k:Int)<15)=true:=decide_eq_true ak;clear h hw ag ah;go_enter func67,ntmps67;go_wp2_with (go_at_call 139;refine(Qbv _ _).mono ?_;rintro e w' ⟨rfl,ap⟩;rw[ap];clear ap);refine wp_region_held (S:=fun w'=>w'.cell? ⟨xb+6,k,none⟩=some (.func (.func f) #[] #[.pointer (some ⟨q,0,none⟩)])/\w'.cell? ⟨w.heap.size,0,none⟩=some (.int .i64 (k:Int))/\w'.cell? ⟨w.heap.size,1,none⟩=some (.int .i64 n)/\w'.cell? ⟨w.heap.size,2,none⟩=some (.int .i64 tag)/\w'.cell? ⟨w.heap.size,3,none⟩=some (.bool oct)/\w'.cell? ⟨w.heap.size,4,none⟩=some (.slice aa a.length ac)/\w'.cell? ⟨w.heap.size,5,none⟩=some (.slice ba b.length bc)/\w'.cell? ⟨w.heap.size,6,none⟩=some (.int .i64 ab)) (by kernel_rfl) ?_;have hS:(fun w':World=>w'.cell? ⟨xb+6,k,none⟩=some (.func (.func f) #[] #[.pointer (some ⟨q,0,none⟩)])/\w'.cell? ⟨w.heap.size,0,none⟩=some (.int .i64 (k:Int))/\w'.cell? ⟨w.heap.size,1,none⟩=some (.int .i64 n)/\w'.cell? ⟨w.heap.size,2,none⟩=some (.int .i64 tag)/\w'.cell? ⟨w.heap.size,3,none⟩=some (.bool oct)/\w'.cell? ⟨w.heap.size,4,none⟩=some (.slice aa a.length ac)/\w'.cell? ⟨w.heap.size,5,none⟩=some (.slice ba b.length bc)/\w'.cell? ⟨w.heap.size,6,none⟩=some (.int .i64 ab)) (w.alloc (.cells #[.int .i64 (k:Int),.int .i64 n,.int .i64 tag,.bool oct,.slice aa a.length ac,.slice ba b.length bc,.int .i64 ab] 147)).drew:=⟨ao.o _ (Fr.refl _ _),(Qav af.o (Fr.refl _ _)).2 0,(Qav af.o (Fr.refl _ _)).2 1,(Qav af.o (Fr.refl _ _)).2 2,(Qav af.o (Fr.refl _ _)).2 3,(Qav af.o (Fr.refl _ _)).2 4,(Qav af.o (Fr.refl _ _)).2 5,(Qav af.o (Fr.refl _ _)).2 6⟩;refine Qao 0 26 (.slice (some ⟨xb+6,0,none⟩) 15 15) rfl hS (fun w' ⟨s1,s2,s3,s4,s5,s6,s7,s8⟩=>by go_simp) ?_;simp only[pt,sz,sc];refine Qao 1 27 (.pointer (some ⟨w.heap.size,0,none⟩)) rfl hS (fun w' ⟨s1,s2,s3,s4,s5,s6,s7,s8⟩=>by go_simp) ?_;simp only[pt,sz,sc];refine Qao 2 28 (.int .i64 (k:Int)) rfl hS (fun w' ⟨s1,s2,s3,s4,s5,s6,s7,s8⟩=>by go_simp) ?_;simp only[pt,sz,sc];refine Qao 3 29 (.pointer (some ⟨xb+6,k,none⟩)) rfl hS (fun w' ⟨s1,s2,s3,s4,s5,s6,s7,s8⟩=>by go_simp) ?_;simp only[pt,sz,sc];refine Qao 4 30 (.func (.func f) #[] #[.pointer (some ⟨q,0,none⟩)]) rfl hS (fun w' ⟨s1,s2,s3,s4,s5,s6,s7,s8⟩=>by go_simp) ?_;simp only[pt,sz,sc];refine Qao 5 31 (.pointer (some ⟨xb,0,none⟩)) rfl hS (fun w' ⟨s1,s2,s3,s4,s5,s6,s7,s8⟩=>by go_simp) ?_;simp only[pt,sz,sc];refine Qao 6 32 (.agg #[.int .i64 (k:Int),.int .i64 n,.int .i64 tag,.bool oct,.slice aa a.length ac,.slice ba b.length bc,.int .i64 ab]) rfl hS (fun w' ⟨s1,s2,s3,s4,s5,s6,s7,s8⟩=>by go_simp) ?_;simp only[pt,sz,sc];clear hS;refine wpAnyH_all (rs:=[7]) (by kernel_rfl) (by decide) (fun j hj=>?_);simp only[List.mem_singleton]at hj;subst hj;refine QaB rfl (by rfl) ?_;go_simp;refine ai.o.mono ?_;intro e w2 h2;rcases h2.cases with⟨hf,⟨m',hr,rfl,hm⟩ | ⟨f,hr,bb,hz,rfl,hcc⟩⟩
 rotate_left
 ·exact⟨rfl,QaC.from h2 (Fr.of_below (Qak _))⟩
 have H2:=Qab h2;have aj:=Qab (ao.o w2 hf);have ae:=Qab (Qav hm hf);clear hm hf h2;refine⟨⟨aj.o,(ae.o).2 0,(ae.o).2 1,(ae.o).2 2,(ae.o).2 3,(ae.o).2 4,(ae.o).2 5,(ae.o).2 6⟩,wpAnyH_done (by kernel_rfl) ?_ _⟩
 try simp only[Act.put,List.setIfInBounds_toArray,List.set_cons_zero,List.set_cons_succ]
 go_wp2;go_end0;exact QaC.from H2.o (Fr.of_below (Qak _))
theorem QxN(i:Ins)(av bv:Value)(B xb sb:Nat)(M:Msg)(m:MS)(ab:Nat)(w:World)(h:MAt w B xb sb M m ab)(ho:QbY w i av bv)(hw:Qeo w (xb+1))(hop:i.op<1\/14<i.op) :
 Calls Tryz.prog 67 #[.pointer (some ⟨xb,0,none⟩),.slice (some ⟨xb+6,0,none⟩) 15 15,Qde i av bv] w (QaC (.error (12,(m.now:Int))) B xb sb M ab w):=by
 obtain⟨aa,ac,ak⟩:=ho.a.len;obtain⟨ba,bc,aj⟩:=ho.b.len;subst ak aj;obtain⟨op,n,ag,ah,a,b,af⟩:=i;have ad:=(h.box (.cells #[.int .i64 op,.int .i64 n,.int .i64 ag,.bool ah,.slice aa a.length ac,.slice ba b.length bc,.int .i64 af] 147)).now;have hxl:xb<w.heap.size:=Qau h.now;have c6:w.cell? ⟨xb+6,0,none⟩=some .nilFunc:=Qaa hw.tb 0;have hx6:¬ xb+6=w.heap.size:=by have:=Qar hw.tb;omega
 have hx6l:xb+6<w.heap.size:=Qar hw.tb;have hn:=QwO;dsimp only at hop;clear h ho hw;unfold Qde;dsimp only;have ai:Hid (∀(e:Ending) (w':World),QdO (12,(m.now:Int)) (w.alloc (.cells #[.int .i64 op,.int .i64 n,.int .i64 ag,.bool ah,.slice aa a.length ac,.slice ba b.length bc,.int .i64 af] 147)) e w'->Below (w.alloc (.cells #[.int .i64 op,.int .i64 n,.int .i64 ag,.bool ah,.slice aa a.length ac,.slice ba b.length bc,.int .i64 af] 147)).heap.size (w.alloc (.cells #[.int .i64 op,.int .i64 n,.int .i64 ag,.bool ah,.slice aa a.length ac,.slice ba b.length bc,.int .i64 af] 147)) w'->QaC (.error (12,(m.now:Int))) B xb sb M ab w e w'):=fun e w' h1 h2=>QaC.from (QaC.err rfl (Fr.of_below h2) h1) (QcP _ _)
 rcases(by omega:op<0\/op=0\/14<op)with hop|hop|hop
 ·have d1:decide (0<=op)=false:=decide_eq_false (by omega);have ao:¬ 0<=op:=by omega
  go_enter func67,ntmps67;go_wp2_with (go_at_call 139;refine(Qci _ _ _ ad).mono ?_;rintro e w' ⟨⟨bb,hz,rfl,ae⟩,hb⟩);exact⟨rfl,ai.o _ _ ⟨bb,hz,rfl,ae⟩ hb⟩
 ·subst hop;go_enter func67,ntmps67;go_wp2_with (go_at_call 139;refine(Qci _ _ _ ad).mono ?_;rintro e w' ⟨⟨bb,hz,rfl,ae⟩,hb⟩);exact⟨rfl,ai.o _ _ ⟨bb,hz,rfl,ae⟩ hb⟩
 ·have d1:decide (0<=op)=true:=decide_eq_true (by omega);have ao:0<=op:=by omega
  have d2:decide (op<15)=false:=decide_eq_false (by omega);have d2':¬ op<15:=by omega
  go_enter func67,ntmps67;go_wp2_with (go_at_call 139;refine(Qci _ _ _ ad).mono ?_;rintro e w' ⟨⟨bb,hz,rfl,ae⟩,hb⟩);exact⟨rfl,ai.o _ _ ⟨bb,hz,rfl,ae⟩ hb⟩
theorem Qx6(i:Ins)(av bv:Value)(B xb sb:Nat)(M:Msg)(m:MS)(ab:Nat)(w:World)(h:MAt w B xb sb M m ab)(ho:QbY w i av bv)(hw:Qeo w (xb+1))(ht:Tab w) :
 Calls Tryz.prog 67 #[.pointer (some ⟨xb,0,none⟩),.slice (some ⟨xb+6,0,none⟩) 15 15,Qde i av bv] w (QaC (Qk9 M ab i m) B xb sb M ab w):=by
 by_cases hop:i.op<1\/14<i.op
 ·have hr:Qk9 M ab i m=.error (12,(m.now:Int)):=by
   unfold Qk9 Qb1;rw[if_neg (by omega),if_neg (by omega),if_neg (by omega),if_neg (by omega),if_neg (by omega),if_neg (by omega),if_neg (by omega),if_neg (by omega),if_neg (by omega),if_neg (by omega),if_neg (by omega),if_neg (by omega),if_neg (by omega),if_neg (by omega)]
  rw[hr];exact QxN i av bv B xb sb M m ab w h ho hw hop
 obtain⟨op,n,ae,af,a,b,ad⟩:=i;dsimp only at hop;obtain⟨aa,ac,ah⟩:=ho.a.len;obtain⟨ba,bc,ag⟩:=ho.b.len;subst ah ag;rcases(by omega:op=1\/op=2\/op=3\/op=4\/op=5\/op=6\/op=7\/op=8\/op=9\/op=10\/op=11\/op=12\/op=13\/op=14)with rfl|rfl|rfl|rfl|rfl|rfl|rfl|rfl|rfl|rfl|rfl|rfl|rfl|rfl
 ·exact QkC 1 124 (Qgo ⟨1,n,ae,af,a,b,ad⟩ m) n ae af a b ad aa ba ac bc B xb sb M m ab w (fun _ _=>by kernel_rfl) (by decide) (by decide) h hw rfl (Quy ⟨1,n,ae,af,a,b,ad⟩ _ _ B xb sb M m ab _ (h.below (Qak _)) (ho.below (Qak _)) )
 ·exact QkC 2 125 (QlC m) n ae af a b ad aa ba ac bc B xb sb M m ab w (fun _ _=>by kernel_rfl) (by decide) (by decide) h hw rfl (Quu ⟨2,n,ae,af,a,b,ad⟩ _ _ B xb sb M m ab _ (h.below (Qak _)) (ho.below (Qak _)) )
 ·exact QkC 3 126 (QgA ab ⟨3,n,ae,af,a,b,ad⟩ m) n ae af a b ad aa ba ac bc B xb sb M m ab w (fun _ _=>by kernel_rfl) (by decide) (by decide) h hw rfl (Qvl ⟨3,n,ae,af,a,b,ad⟩ _ _ B xb sb M m ab _ (h.below (Qak _)) (ho.below (Qak _)) )
 ·exact Qtd 4 181 (xb+1) (doCond true ab ⟨4,n,ae,af,a,b,ad⟩ m) n ae af a b ad aa ba ac bc B xb sb M m ab w (fun _ _=>by kernel_rfl) (by decide) (by decide) h hw rfl (Qkn true (xb+1) ⟨4,n,ae,af,a,b,ad⟩ _ _ B xb sb M m ab _ (h.below (Qak _)) (ho.below (Qak _)) (hw.below (Qak _)).p0 (by omega))
 ·exact Qtd 5 181 (xb+1+1) (doCond false ab ⟨5,n,ae,af,a,b,ad⟩ m) n ae af a b ad aa ba ac bc B xb sb M m ab w (fun _ _=>by kernel_rfl) (by decide) (by decide) h hw rfl (Qkn false (xb+1+1) ⟨5,n,ae,af,a,b,ad⟩ _ _ B xb sb M m ab _ (h.below (Qak _)) (ho.below (Qak _)) (hw.below (Qak _)).p1 (by omega))
 ·exact Qtd 6 182 (xb+1+2) (doAsk (fieldsL M (a.map (expL m.st))) ⟨6,n,ae,af,a,b,ad⟩ m) n ae af a b ad aa ba ac bc B xb sb M m ab w (fun _ _=>by kernel_rfl) (by decide) (by decide) h hw rfl (QrA (xb+1+2) ⟨6,n,ae,af,a,b,ad⟩ _ _ B xb sb M m ab _ (h.below (Qak _)) (ho.below (Qak _)) (hw.below (Qak _)).p2)
 ·exact Qtd 7 182 (xb+1+3) (doAsk (QiQ M a) ⟨7,n,ae,af,a,b,ad⟩ m) n ae af a b ad aa ba ac bc B xb sb M m ab w (fun _ _=>by kernel_rfl) (by decide) (by decide) h hw rfl (QmW (xb+1+3) ⟨7,n,ae,af,a,b,ad⟩ _ _ B xb sb M m ab _ (h.below (Qak _)) (ho.below (Qak _)) (hw.below (Qak _)).p3)
 ·exact Qtd 8 182 (xb+1+4) (doAsk (a.map (expL m.st)) ⟨8,n,ae,af,a,b,ad⟩ m) n ae af a b ad aa ba ac bc B xb sb M m ab w (fun _ _=>by kernel_rfl) (by decide) (by decide) h hw rfl (Qpd (xb+1+4) ⟨8,n,ae,af,a,b,ad⟩ _ _ B xb sb M m ab _ (h.below (Qak _)) (ho.below (Qak _)) (hw.below (Qak _)).p4)
 ·exact QkC 9 132 (Qjz (existsL M (a.map (expL m.st))) m) n ae af a b ad aa ba ac bc B xb sb M m ab w (fun _ _=>by kernel_rfl) (by decide) (by decide) h hw rfl (QrF ⟨9,n,ae,af,a,b,ad⟩ _ _ B xb sb M m ab _ (h.below (Qak _)) (ho.below (Qak _)) )
 ·exact QkC 10 133 (Qf1 M ⟨10,n,ae,af,a,b,ad⟩ m) n ae af a b ad aa ba ac bc B xb sb M m ab w (fun _ _=>by kernel_rfl) (by decide) (by decide) h hw rfl (Qus ⟨10,n,ae,af,a,b,ad⟩ _ _ B xb sb M m ab _ (h.below (Qak _)) (ho.below (Qak _)) )
 ·exact QkC 11 134 (QgK ⟨11,n,ae,af,a,b,ad⟩ m) n ae af a b ad aa ba ac bc B xb sb M m ab w (fun _ _=>by kernel_rfl) (by decide) (by decide) h hw rfl (QwQ ⟨11,n,ae,af,a,b,ad⟩ _ _ B xb sb M m ab _ (h.below (Qak _)) (ho.below (Qak _)) )
 ·exact QkC 12 135 (QkB ⟨12,n,ae,af,a,b,ad⟩ m) n ae af a b ad aa ba ac bc B xb sb M m ab w (fun _ _=>by kernel_rfl) (by decide) (by decide) h hw rfl (Qwu ⟨12,n,ae,af,a,b,ad⟩ _ _ B xb sb M m ab _ (h.below (Qak _)) (ho.below (Qak _)) (ht.below (Qak _)))
 ·exact QkC 13 136 (.ok (stL m (QvF m.st))) n ae af a b ad aa ba ac bc B xb sb M m ab w (fun _ _=>by kernel_rfl) (by decide) (by decide) h hw rfl (Qpe ⟨13,n,ae,af,a,b,ad⟩ _ _ B xb sb M m ab _ (h.below (Qak _)) (ho.below (Qak _)) )
 ·exact QkC 14 138 (.ok (goL m ab)) n ae af a b ad aa ba ac bc B xb sb M m ab w (fun _ _=>by kernel_rfl) (by decide) (by decide) h hw rfl (QuC ⟨14,n,ae,af,a,b,ad⟩ _ _ B xb sb M m ab _ (h.below (Qak _)) (ho.below (Qak _)) )
def QxY (w:World) (cs:Array Value) (j:Nat) (i:Ins):Prop:=
 ∃ av bv,cs[j*7]?=some (.int .i64 i.op)∧cs[j*7+1]?=some (.int .i64 i.n)∧cs[j*7+2]?=some (.int .i64 i.tag)∧cs[j*7+3]?=some (.bool i.oct)∧cs[j*7+4]?=some av∧cs[j*7+5]?=some bv∧cs[j*7+6]?=some (.int .i64 i.at_)∧QbY w i av bv
def QeM (w:World) (cv:Value) (code:List Ins):Prop:=
 (cv=.slice none 0 0∧code=[])∨∃ g c cs,cv=.slice (some ⟨g,0,none⟩) code.length c∧w.heap[g]?=some (.cells cs 147)∧∀ j (hj:j < code.length),QxY w cs j code[j]
theorem QeM.fr{P:Nat->Obj->Prop}{w w':World}{cv:Value}{aa:List Ins}(h:QeM w cv aa)(hf:Fr P w w')(h1:∀ k cs,¬ P k (.cells cs 147))(h2:∀ k cs,¬ P k (.cells cs 9)):QeM w' cv aa:=by
 rcases h with h | ⟨g,c,cs,hv,hb,hc⟩
 ·exact Or.inl h
 ·refine Or.inr ⟨g,c,cs,hv,hf.block _ _ hb (h1 _ _),fun j hj=>?_⟩;obtain⟨av,bv,a1,a2,a3,a4,a5,a6,a7,ho⟩:=hc j hj;exact⟨av,bv,a1,a2,a3,a4,a5,a6,a7,ho.fr hf h2⟩
theorem QeM.pm{B xb:Nat}{w w':World}{cv:Value}{code:List Ins}(h:QeM w cv code)(hf:Fr (PMc B xb) w w'):QeM w' cv code:=h.fr hf (fun _ _=>PMc.not (by decide) (by decide) (by decide) (by decide)) (fun _ _=>PMc.not (by decide) (by decide) (by decide) (by decide))
theorem QeM.below{w w':World}{cv:Value}{code:List Ins}(h:QeM w cv code)(hb:Below w.heap.size w w'):QeM w' cv code:=h.fr (P:=fun _ _=>False) (Fr.of_below hb) (fun _ _ h=>h) (fun _ _ h=>h)
theorem QeM.len{w:World}{cv:Value}{aa:List Ins}(h:QeM w cv aa):∃ a c,cv=.slice a aa.length c:=by
 rcases h with⟨h,rfl⟩ | ⟨g,c,cs,h,_⟩
 ·exact⟨none,0,h⟩
 ·exact⟨_,_,h⟩
theorem QeM.get'{w:World}{la:Option Addr}{n lc:Nat}{aa:List Ins}(h:QeM w (.slice la n lc) aa)(j:Nat)(hj:j<aa.length):∃ g cs,la=some ⟨g,0,none⟩/\w.heap[g]?=some (.cells cs 147)/\QxY w cs j aa[j]:=by
 rcases h with⟨_,rfl⟩ | ⟨g,c,cs,hv,hb,hc⟩
 ·exact absurd hj (Nat.not_lt_zero _)
 ·injection hv with h1 h2 h3
  exact⟨g,cs,h1,hb,hc j hj⟩
def Qr8 (r:List (Int×L8)×Nat×Option FZ) (w:World) (e:Ending) (w':World):Prop:=
 Below w.heap.size w w'∧((∃ lv,r.2.2=none∧e=.returned (.tuple #[lv,.int .i64 (r.2.1:Int),.nilIface])∧ActsV w' w.heap.size lv r.1)∨
  (∃ lv f bb,r.2.2=some f∧e=.returned (.tuple #[lv,.int .i64 (r.2.1:Int),.iface 76 (.pointer (some ⟨bb,0,none⟩))])∧ActsV w' w.heap.size lv r.1∧w.heap.size≤bb∧w'.heap[bb]?=some (.cells #[.int .i64 f.1,.int .i64 f.2] 81)))
theorem ActsV.set{w:World}{B:Nat}{v:Value}{l:List (Int×L8)}(h:ActsV w B v l){b:Nat}(hb:b<B)(j:Nat)(x:Value):ActsV (w.setCell ⟨b,j,none⟩ x) B v l:=
 ⟨QbU h.1 (fun e=>by have:=(h.1.lt _ e).1;omega) j x,h.2⟩
theorem ActsV.lo{w:World}{B B':Nat}{v:Value}{l:List (Int×L8)}(h:ActsV w B v l)(hb:B'<=B):ActsV w B' v l:=⟨Qig h.1 hb,h.2⟩
theorem Qkm{w V w1:World}{lv:Value}{f:FZ}{bb P:Nat}{l:List (Int×L8)}(ab:Below w.heap.size w V)(hP:w.heap.size<=P)(ac:P+1<V.heap.size)(ad:ActsV w1 V.heap.size lv l)(aa:Below V.heap.size V w1)(hbb:w.heap.size<=bb)(ae:bb≠P)(af:bb≠P+1)(hF:V.heap[bb]?=some (.cells #[.int .i64 f.1,.int .i64 f.2] 81))(x0 x1:Value)(c0:V.cell? ⟨P,0,none⟩=some x0)(c1:V.cell? ⟨P+1,0,none⟩=some x1) :
 ∃ W,W=(w1.setCell ⟨P,0,none⟩ lv).setCell ⟨P+1,0,none⟩ (.iface 76 (.pointer (some ⟨bb,0,none⟩)))/\W.cell? ⟨P,0,none⟩=some lv/\W.cell? ⟨P+1,0,none⟩=some (.iface 76 (.pointer (some ⟨bb,0,none⟩)))/\Below w.heap.size w W/\ActsV W w.heap.size lv l/\W.heap[bb]?=some (.cells #[.int .i64 f.1,.int .i64 f.2] 81):=by
 have hz:=ab.size;have d0:w1.cell? ⟨P,0,none⟩=some x0:=(aa.cell (p:=⟨P,0,none⟩) (show P<_ by omega)).trans c0;have d1:w1.cell? ⟨P+1,0,none⟩=some x1:=(aa.cell (p:=⟨P+1,0,none⟩) ac).trans c1;have ah:Below w.heap.size w w1:=ab.trans (aa.mono hz);refine⟨_,rfl,?_,?_,(ah.setCell hP _).setCell (show w.heap.size<=P+1 by omega) _,((ad.set (by omega) _ _).set ac _ _).lo hz,?_⟩
 ·rw[World.cell?_setCell_other _ _ _ _ (by simp),World.cell?_setCell_same _ _ _ d0]
 ·have ag:(w1.setCell ⟨P,0,none⟩ lv).cell? ⟨P+1,0,none⟩=some x1:=by rw[World.cell?_setCell_other _ _ _ _ (by simp)];exact d1
  exact World.cell?_setCell_same _ _ _ ag
 ·rw[Below.heap_setCell _ _ _ _ af,Below.heap_setCell _ _ _ _ ae,aa.block bb (Qar hF)];exact hF
theorem Qr5{v:Bool}{aa:List Ins}{M:Msg}(h:400<aa.length):execL v aa M=([(1,[])],0,some (12,400)):=by unfold execL;rw[if_pos h]
theorem Quo{v:Bool}{aa:List Ins}{M:Msg}{m:MS}{d:Nat}(h:¬ 400<aa.length)(hl:QfL M aa aa.length (ms0 v) 0=(.ok m,d)):execL v aa M=(Qwn m.st,d,none):=by unfold execL;rw[if_neg h,hl]
theorem QsP{v:Bool}{aa:List Ins}{M:Msg}{f:FZ}{d:Nat}(h:¬ 400<aa.length)(hl:QfL M aa aa.length (ms0 v) 0=(.error f,d)):execL v aa M=([(1,[])],d,some f):=by unfold execL;rw[if_neg h,hl]
theorem QsO(v:Bool)(cv hv:Value)(aa:List Ins)(M:Msg)(w:World)(hc:QeM w cv aa)(hh:QjG w hv M.hdrs)(hb:SBd M (ss0 v))(h1:1<w.heap.size)(hm:∃ m,w.cell? ⟨1,0,none⟩=some (.int .i64 m))(ht:Tab w)(hn:aa.length<=1000000)(ab:400<aa.length) :
 Calls Tryz.prog 39 #[.bool v,cv,QfV M hv] w (Qr8 (execL v aa M) w):=by
 have hmf:∀(fn:Fn) (first cap:Array Value) (w:World),(Instr.makeFunc fn first cap).run Tryz.prog w=.ok (.func fn first cap) w:=fun _ _ _ _=>rfl
 obtain⟨ca,cc,ai⟩:=hc.len;subst ai;obtain⟨ha,ag,ah⟩:=hh.len;subst ah;unfold QfV;have hlong':(400:Int)<(aa.length:Int):=by omega
 have HR:=Qab (Qr5 (v:=v) (M:=M) ab);clear hc hh hb ht hm;go_enter_defers func39,ntmps39;go_wp2_with (go_at_call 64;refine(Qa4 _ _ _).mono ?_;rintro e w3 ⟨rfl,rfl⟩);obtain⟨V,hV⟩:∃ V,V=(((w.alloc (.cells #[.string (sA M.fr),.string (sA M.to),.int .i64 M.size,.slice ha M.hdrs.length ag] 28)).alloc (.cells #[.slice none 0 0] 29)).alloc (.cells #[.nilIface] 61)).alloc (.cells #[.int .i64 12,.int .i64 400] 81):=⟨_,rfl⟩;have hzV:V.heap.size=w.heap.size+4:=by rw[hV];simp
 have hP:V.heap[w.heap.size+1]?=some (.cells #[.slice none 0 0] 29):=by rw[hV];exact Qac (Qac (Qaq (by simp)))
 have hQ:V.heap[w.heap.size+1+1]?=some (.cells #[.nilIface] 61):=by rw[hV];exact Qac (Qaq (by simp))
 have hF:V.heap[w.heap.size+1+1+1]?=some (.cells #[.int .i64 12,.int .i64 400] 81):=by rw[hV];exact Qaq (by simp)
 have ae:Below w.heap.size w V:=by rw[hV];exact((((Below.refl _ _).alloc (Nat.le_refl _) _).alloc (by simp) _).alloc (by simp;omega) _).alloc (by simp;omega) _
 rw[<-hV];clear hV;have c0:V.cell? ⟨w.heap.size+1,0,none⟩=some (.slice none 0 0):=Qaa hP 0;have c2:V.cell? ⟨w.heap.size+1+1,0,none⟩=some .nilIface:=Qaa hQ 0;have z1:=Qah hP;have z2:=Qah hQ;refine leaves_cons (f:=62) (args:=#[.pointer (some ⟨w.heap.size+1,0,none⟩),.pointer (some ⟨w.heap.size+1+1,0,none⟩)]) (by simp) (by simp[go_sem]) ?_;refine(Qer (w.heap.size+1) (w.heap.size+1+1) _ _ ⟨w.heap.size+1+1+1,0,none⟩ [] _ c0 c2 z1 z2 (by omega)).mono ?_;rintro e u' w'' ⟨rfl,rfl,lv,w1,ad,ak,rfl⟩;obtain⟨W,hW,e0,e1,hB,hA,af⟩:=Qkm (f:=(12,400)) (bb:=w.heap.size+1+1+1) (P:=w.heap.size+1) ae (by omega) (by omega) ad ak (by omega) (by omega) (by omega) hF _ _ c0 c2;rw[<-hW]
 have ac:Hid (Qr8 (execL v aa M) w (.returned (.tuple #[lv,.int .i64 0,.iface 76 (.pointer (some ⟨w.heap.size+1+1+1,0,none⟩))])) W):=by
  rw[HR.o];exact⟨hB,Or.inr ⟨lv,(12,400),_,rfl,rfl,hA,by omega,af⟩⟩
 obtain⟨la,lk,aj⟩:=Qat hA.1;subst aj;simp[Leaves,settle,results,results39,go_sem,e0,e1];exact ac.o
end
end Go.Proofs.YthkibedbcbgajaaGreatDoor
