import Derived.Test.YtgnkjijocdmniaaGreatDoorZAList
namespace Go.Proofs.YtgnkjijocdmniaaGreatDoor
set_option linter.unusedVariables false
set_option linter.unusedSimpArgs false
set_option maxRecDepth 100000
set_option maxHeartbeats 4000000
open Go.Proofs.Tryz
open Go.RowKit
attribute [local go_sem ↓] Go.wp_at_zero Go.wp_at_succ
theorem QsR(s:ByteArray)(w:World)(h:s.size<=1000000):Calls Tryz.prog 272 #[.string s] w fun e w'=>e=.returned (.string s)/\Below w.heap.size w w':=by
 go_enter func272,ntmps272;go_wp2_with fail;refine(Tryz.stringslite_Clone s w (by omega)).mono ?_;rintro e w1 ⟨rfl,aa⟩;have ab:=Qab aa;clear aa;go_wp2;go_ret;exact⟨rfl,ab.o⟩
def QxP (met:List (Int×L8)) (kind:Int):Bool:=!met.isEmpty && (decide (kind=4) || decide ((met.headD (0,[])).1=4))
theorem Qfw(a b:Int):(a==b)=decide (a=b):=rfl
theorem QlW(base sb:Nat)(met:List (Int×L8))(mv:Value)(a:Int×L8)(w:World)(hc:w.cell? ⟨sb,7,none⟩=some mv)(ho:w.ownsRow base 52 2 mv met.length (Qcp met))(hl:met.length<=1000000) :
 Calls Tryz.prog 271 #[.pointer (some ⟨sb,7,none⟩),.agg #[.int .i64 a.1,.string (Qaf a.2)]] w fun e w'=>e=.returned (.bool (QxP met a.1))/\Below w.heap.size w w':=by
 obtain⟨la,lc,ac⟩:=QaD ho;subst ac;have ad:=Qau hc;have hsl':sb<w.heap.size:=ad;by_cases h0:met.length=0
 ·have hm:met=[]:=List.eq_nil_of_length_eq_zero h0;subst hm;go_enter func271,ntmps271;go_wp2;go_ret;exact⟨rfl,(Below.refl _ _).alloc (Nat.le_refl _) _⟩
 obtain⟨x,r,rfl⟩:∃ x r,met=x::r:=by cases met with|nil=>exact absurd rfl h0|cons x r=>exact⟨x,r,rfl⟩
 have aa:(0:Int)<((x::r).length:Int):=by simp
 obtain⟨g,c,ab,hbg,hgl,hcells⟩:=Qc6 ho (by simp);injection ab with hla1 hla2 hla3
 subst hla1;have c1:w.cell? ⟨g,0,none⟩=some (.int .i64 x.1):=hcells 0 _ rfl;have HR:Hid (QxP (x::r) a.1=(decide (a.1=4) || decide (x.1=4))):=rfl;have e1:=Qfw a.1 4;have e2:=Qfw x.1 4;obtain⟨n,hn⟩:∃ n,(x::r).length=n:=⟨_,rfl⟩;rw[hn]at hc aa hl;generalize decide (a.1=4)=b1 at *;generalize decide (x.1=4)=b2 at *;clear hcells ho hla3 hn h0
 cases b1<;>cases b2 <;>
 (go_enter func271,ntmps271
  go_wp2;go_ret
  exact ⟨QaZ (by rw [HR.o];rfl),(Below.refl _ _).alloc (Nat.le_refl _) _⟩)
theorem SBd.met'{M:Msg}{s:SS}(b:SBd M s)(l:List (Int×L8))(h:l.length<=6):SBd M (Qxa s l):=⟨b.fr,b.tu,b.hl,b.hd,b.told,b.tl,b.vals,h⟩
theorem SI.regrow{w w5:World}{B sb:Nat}{M:Msg}{s:SS}{hv:Value}{mb:Nat}{tv mv:Value}(h:SI w B sb M s hv mb tv mv)(hf:Fr (fun k _=>mv.ownBlock=some k) w w5)(v':Value)(aa:List (Int×L8))(ho:w5.ownsRow B 52 2 v' aa.length (Qcp aa))(hm:aa.length<=6)(ak:aa≠[]):SI (w5.setCell ⟨sb,7,none⟩ v') B sb M (Qxa s aa) hv mb tv v'/\Fr (PSt B) w (w5.setCell ⟨sb,7,none⟩ v'):=by
 have ae:∀(k:Nat) (o:Obj),w.heap[k]?=some o->(∀ cs,o≠.cells cs 52)->w5.heap[k]?=some o:=fun k o hk ho=>by
  refine hf.block k o hk (fun e=>?_);obtain⟨_,cs,af⟩:=Qcg h.met k o e hk;exact ho cs af
 have ac:=ae sb _ h.blk (fun cs e=>by injection e with e1 e2;exact absurd e2 (by decide));have ai:Fr (fun k _=>k=sb) w5 (w5.setCell ⟨sb,7,none⟩ v'):=(Fr.refl _ w5).set ac rfl 7 v';have ad:∀(k:Nat) (o:Obj),w5.heap[k]?=some o->(∀ cs,o≠.cells cs 274)->(w5.setCell ⟨sb,7,none⟩ v').heap[k]?=some o:=fun k o hk ho=>ai.block k o hk (fun e=>by subst e;rw[ac]at hk;cases hk;exact ho _ rfl)
 obtain⟨es,c,aj,hu⟩:=h.mp;obtain⟨m,h7⟩:=h.m1;have hl1:∃ o,w.heap[1]?=some o:=⟨_,Array.getElem?_eq_getElem (Qau h7)⟩;obtain⟨o1,hl1⟩:=hl1;refine⟨⟨h.bs,h.bm,h.b1,⟨m,?_⟩,?_,?_,⟨es,c,ad _ _ (ae _ _ aj (fun cs e=>by cases e)) (fun cs e=>by cases e),hu⟩,?_,?_,fun e=>absurd e ak,h.bd.met' aa hm⟩,?_⟩
 ·have n1:(1:Nat)≠sb:=by have:=h.b1;have:=h.bs;omega
  have n2:w5.heap[1]?=some o1:=hf.block 1 o1 hl1 (fun e=>by
   obtain⟨hb,_⟩:=Qcg h.met 1 o1 e hl1
   have:=h.b1;omega)
  rw[World.cell?_of_block (a:=⟨1,0,none⟩) (w:=w) ((Below.heap_setCell _ _ _ _ n1).trans (n2.trans hl1.symm))];exact h7
 ·exact Qah _ _ _ _ _ _ ac
 ·rcases h.hd with h' | ⟨g,c,cs,ab,hb,hc⟩
  ·exact Or.inl h'
  ·exact Or.inr ⟨g,c,cs,ab,ad _ _ (ae _ _ hb (fun cs e=>by injection e with e1 e2;exact absurd e2 (by decide))) (fun cs e=>by injection e with e1 e2;exact absurd e2 (by decide)),hc⟩
 ·rcases h.told with h' | ⟨g,c,ab,cs,hb,hc⟩
  ·exact Or.inl h'
  ·exact Or.inr ⟨g,c,ab,cs,ad _ _ (ae _ _ hb (fun cs e=>by injection e with e1 e2;exact absurd e2 (by decide))) (fun cs e=>by injection e with e1 e2;exact absurd e2 (by decide)),hc⟩
 ·obtain⟨h1,h2⟩:=ho;refine⟨h1,?_⟩;rcases h2 with h2 | ⟨g,ag,ah,ab,hg,hh,r⟩
  ·exact Or.inl h2
  ·exact Or.inr ⟨g,ag,ah,ab,hg,ad _ _ hh (fun cs e=>by injection e with e1 e2;exact absurd e2 (by decide)),r⟩
 ·refine(Fr.mono ⟨hf.os,hf.tape,hf.output,hf.size,fun k o hk hn=>?_⟩ (fun k o h=>h)).set ac ⟨h.bs,rfl⟩ 7 v'
  exact hf.block k o hk (fun e=>hn (by
   obtain⟨hb,cs,af⟩:=Qcg h.met k o e hk;subst af
   exact ⟨hb,rfl⟩))
theorem Qcc{w:World}{base:Nat}{e:TypeId}{size:Nat}{v:Value}{n:Nat}{xs:List Value}(h:w.ownsRow base e size v n xs){b:Nat}(ac:v.ownBlock≠some b)(j:Nat)(x:Value):(w.setCell ⟨b,j,none⟩ x).ownsRow base e size v n xs:=by
 obtain⟨h1,h2⟩:=h;refine⟨h1,?_⟩;rcases h2 with h2 | ⟨g,aa,ab,hv,hg,hh,r⟩
 ·exact Or.inl h2
 ·refine Or.inr ⟨g,aa,ab,hv,hg,?_,r⟩;rw[Below.heap_setCell _ _ _ _ (show g≠b from fun e=>ac (by rw[hv,e];rfl))];exact hh
def QfQ (s:SS) (kind:Int) (arg:L8) (B sb:Nat) (M:Msg) (w:World) (e:Ending) (w':World):Prop:=
 e=.returned (.int .i64 (addL s.met kind arg).1)∧SAt w' B sb M (Qxa s (addL s.met kind arg).2)∧Fr (PSt B) w w'
theorem QuW{met:List (Int×L8)}{kind:Int}{arg:L8}(h2:¬(kind=2/\Qdp arg=false))(h3:¬(kind=3/\Qcw arg=false)):addL met kind arg =
 (if Qu5 (kind,cutArg kind arg) met=true then(0,met)else if QxP met kind=true then(10,met)else if met.length=6 then(11,met)else(0,met++[(kind,cutArg kind arg)])):=by
 unfold addL;rw[if_neg h2,if_neg h3];by_cases hm:(kind,cutArg kind arg)∈met
 ·rw[if_pos hm,if_pos ((Qrq _ _).2 hm)]
 rw[if_neg hm,if_neg (fun h=>hm ((Qrq _ _).1 h))]
 have hc:QxP met kind=true↔(met≠[]/\(kind=4\/(met.headD (0,[])).1=4)):=by
  unfold QxP;cases met<;>simp
 by_cases hcc:met≠[]/\(kind=4\/(met.headD (0,[])).1=4)
 ·rw[if_pos hcc,if_pos (hc.2 hcc)]
 ·rw[if_neg hcc,if_neg (fun h=>hcc (hc.1 h))]
theorem Qw7(w:World)(x:Int×L8)(t:TypeId):∀ j u,[Value.int .i64 x.1,.string (Qaf x.2)][j]?=some u->(w.alloc (.cells #[.int .i64 x.1,.string (Qaf x.2)] t)).cell? ((⟨w.heap.size,0,none⟩:Addr).add j)=some u:=by
 intro j u hj
 match j,hj with
 |0,hj=>simp at hj;subst hj;simp[Addr.add]
 |1,hj=>simp at hj;subst hj;simp[Addr.add]
theorem Qxn(x:Int×L8):∀ u∈[Value.int .i64 x.1,Value.string (Qaf x.2)],u.oneCell'=true:=by
 intro u hu;simp at hu;rcases hu with rfl|rfl<;>rfl
theorem QwV(B sb:Nat)(M:Msg)(s:SS)(kind:Int)(arg:L8)(w:World)(h:SAt w B sb M s)(hl:arg.length<=1000000) :
 Calls Tryz.prog 252 #[.pointer (some ⟨sb,7,none⟩),.agg #[.int .i64 kind,.string (Qaf arg)]] w (QfQ s kind arg B sb M w):=by
 have HS:=Qab h;obtain⟨hv,mb,tv,mv,ah⟩:=h;have aD:=Qab ah;have a4:=ah.lt;have c7:w.cell? ⟨sb,7,none⟩=some mv:=ah.cell 7;obtain⟨la,lc,a2⟩:=QaD ah.met;subst a2;have hm6:=ah.bd.met;have hz:=Qaj arg;have ax:=Qfw kind 2;have ay:=Qfw kind 3;have az:=Qfw kind 4;obtain⟨i0,hi,a5,a6,a7⟩:=info_parts Tryz.infoAction;clear ah;by_cases h2:kind=2/\Qdp arg=false
 ·obtain⟨rfl,hb⟩:=h2;have hr:addL s.met 2 arg=(8,s.met):=by unfold addL;rw[if_pos ⟨rfl,hb⟩]
  have HR:=Qab hr;clear hr;go_enter func252,ntmps252;go_wp2_with (go_at_call 268;refine(Qob _ _ (by rw[Qaj];omega)).mono ?_;rintro e w' ⟨rfl,rfl⟩;rw[show Qdp (Qaf arg).data.toList=false from hb]);go_ret;unfold QfQ;rw[HR.o];exact⟨rfl,HS.o.below ((Below.refl _ _).alloc (Nat.le_refl _) _),(Fr.refl _ _).alloc _⟩
 by_cases h3:kind=3/\Qcw arg=false
 ·obtain⟨rfl,hb⟩:=h3;have hr:addL s.met 3 arg=(9,s.met):=by unfold addL;rw[if_neg h2,if_pos ⟨rfl,hb⟩]
  have HR:=Qab hr;clear hr;go_enter func252,ntmps252;go_wp2_with (go_at_call 269;refine(Qg7 _ _ (by rw[Qaj];omega)).mono ?_;rintro e w' ⟨rfl,rfl⟩;rw[show Qcw (Qaf arg).data.toList=false from hb]);go_ret;unfold QfQ;rw[HR.o];exact⟨rfl,HS.o.below ((Below.refl _ _).alloc (Nat.le_refl _) _),(Fr.refl _ _).alloc _⟩
 have ad:=QuW (met:=s.met) (kind:=kind) (arg:=arg) h2 h3;obtain⟨z,aC⟩:∃ z,cutArg kind arg=z:=⟨_,rfl⟩;rw[aC]at ad;have HZ:=Qab aC
 have hzl:z.length<=1000000:=by
  rw[<-aC];unfold cutArg;split
  ·rw[List.length_take];omega
  ·exact hl
 have aa:=Qab ad;clear ad;have aO:kind=2->Qdp arg=true:=fun e=>by cases hb:Qdp arg with|true=>rfl|false=>exact absurd ⟨e,hb⟩ h2
 have aN:kind=3->Qcw arg=true:=fun e=>by cases hb:Qcw arg with|true=>rfl|false=>exact absurd ⟨e,hb⟩ h3
 have aU:=Qab aO;have aT:=Qab aN;clear h2 h3 aO aN aC;rcases(by omega:kind=2\/kind=3\/kind=4\/(kind≠2/\kind≠3/\kind≠4))with k2|k3|k4|k0
 case' neg.inl=>
  have hb:Qdp arg=true:=aU.o k2;have aw:z=arg:=by have:=HZ.o;unfold cutArg at this;rw[if_neg (by omega)]at this;exact this.symm
  subst aw;rw[decide_eq_true k2]at ax;rw[decide_eq_false (by omega)]at ay az;clear k2;go_enter func252,ntmps252;go_wp2_with (go_at_call 268;refine(Qob _ _ (by rw[Qaj];omega)).mono ?_;rintro e w' ⟨rfl,aG⟩;rw[aG];rw[show Qdp (Qaf z).data.toList=true from hb])
 case' neg.inr.inl=>
  have hb:Qcw arg=true:=aT.o k3;have aw:z=arg:=by have:=HZ.o;unfold cutArg at this;rw[if_neg (by omega)]at this;exact this.symm
  subst aw;rw[decide_eq_true k3]at ay;rw[decide_eq_false (by omega)]at ax az;clear k3;go_enter func252,ntmps252;go_wp2_with (go_at_call 269;refine(Qg7 _ _ (by rw[Qaj];omega)).mono ?_;rintro e w' ⟨rfl,aG⟩;rw[aG];rw[show Qcw (Qaf z).data.toList=true from hb])
 case' neg.inr.inr.inl=>
  obtain⟨q,aP⟩:∃ q:Nat,q=min arg.length 48:=⟨_,rfl⟩;have hq:min (arg.length:Int) 48=(q:Int):=by omega
  have hq1:(q:Int)<=(arg.length:Int):=by omega
  have hex:(Qaf arg).extract 0 q=Qaf z:=by
   rw[Qb1,<-HZ.o,aP];unfold cutArg;rw[if_pos k4];rcases Nat.le_total arg.length 48 with hh|hh
   ·rw[Nat.min_eq_left hh,List.take_of_length_le (Nat.le_refl _),List.take_of_length_le hh]
   ·rw[Nat.min_eq_right hh]
  rw[decide_eq_true k4]at az;rw[decide_eq_false (by omega)]at ax ay;clear aP k4;go_enter func252,ntmps252;go_wp2_with fail
 case' neg.inr.inr.inr=>
  have aw:z=arg:=by have:=HZ.o;unfold cutArg at this;rw[if_neg k0.2.2]at this;exact this.symm
  subst aw;rw[decide_eq_false k0.1]at ax;rw[decide_eq_false k0.2.1]at ay;rw[decide_eq_false k0.2.2]at az;clear k0;go_enter func252,ntmps252;go_wp2_with fail
 all_goals
  obtain⟨W,hW⟩:∃ W,W=w.alloc (.cells #[.int .i64 kind,.string (Qaf z)] 52):=⟨_,rfl⟩;have ag:Hid (Below w.heap.size w W):=by rw[hW];exact(Below.refl _ _).alloc (Nat.le_refl _) _
  have ao:W.heap[w.heap.size]?=some (.cells #[.int .i64 kind,.string (Qaf z)] 52):=by rw[hW];exact Qat _ _
  have aZ:=Qab ao;rw[<-hW];clear hW;have d7:W.cell? ⟨sb,7,none⟩=some (.slice la s.met.length lc):=(ag.o.cell (p:=⟨sb,7,none⟩) a4).trans c7;have b0:W.cell? ⟨w.heap.size,0,none⟩=some (.int .i64 kind):=Qaa ao 0;have b1:W.cell? ⟨w.heap.size,1,none⟩=some (.string (Qaf z)):=Qaa ao 1;have aB:=QaI ao;have aR:sb<W.heap.size:=by omega
  have aE:Hid (W.ownsRow B 52 2 (.slice la s.met.length lc) s.met.length (Qcp s.met)):=QbL (P:=fun _ _=>False) aD.o.met (Fr.of_below ag.o) (fun _ _ h=>h);clear ao;cases hmem:Qu5 (kind,z) s.met;rotate_left
  ·rw[hmem]at aa;go_region_held3 (fun w'=>w'.cell? ⟨sb,7,none⟩=some (.slice la s.met.length lc)/\w'.cell? ⟨w.heap.size,0,none⟩=some (.int .i64 kind)/\w'.cell? ⟨w.heap.size,1,none⟩=some (.string (Qaf z))) (first|go_keep|exact⟨q7,q0,q1⟩) (first|(go_at_call 270;refine(Qfp B s.met _ (kind,z) W.drew aE.o (by omega)).mono ?_;rintro e w1 ⟨rfl,aq⟩;rw[hmem];have ab:=Qbk aq;have q7:w1.cell? ⟨sb,7,none⟩=some (.slice la s.met.length lc):=(ab.cell (p:=⟨sb,7,none⟩) aR).trans d7;have q0:w1.cell? ⟨w.heap.size,0,none⟩=some (.int .i64 kind):=(ab.cell (p:=⟨w.heap.size,0,none⟩) aB).trans b0;have q1:w1.cell? ⟨w.heap.size,1,none⟩=some (.string (Qaf z)):=(ab.cell (p:=⟨w.heap.size,1,none⟩) aB).trans b1;have ai:=Qab (ag.o.trans (ab.mono ag.o.size));clear aq ab;skip))
   all_goals go_wp2
   all_goals go_ret
   all_goals unfold QfQ
   all_goals rw[aa.o]
   all_goals exact⟨rfl,HS.o.below ai.o,Fr.of_below ai.o⟩
  rw[hmem]at aa;go_region_held3 (fun w'=>w'.cell? ⟨sb,7,none⟩=some (.slice la s.met.length lc)/\w'.cell? ⟨w.heap.size,0,none⟩=some (.int .i64 kind)/\w'.cell? ⟨w.heap.size,1,none⟩=some (.string (Qaf z))) (first|go_keep|exact⟨q7,q0,q1⟩) (first|(go_at_call 270;refine(Qfp B s.met _ (kind,z) W.drew aE.o (by omega)).mono ?_;rintro e w1 ⟨rfl,aq⟩;rw[hmem];have ab:=Qbk aq;have q7:w1.cell? ⟨sb,7,none⟩=some (.slice la s.met.length lc):=(ab.cell (p:=⟨sb,7,none⟩) aR).trans d7;have q0:w1.cell? ⟨w.heap.size,0,none⟩=some (.int .i64 kind):=(ab.cell (p:=⟨w.heap.size,0,none⟩) aB).trans b0;have q1:w1.cell? ⟨w.heap.size,1,none⟩=some (.string (Qaf z)):=(ab.cell (p:=⟨w.heap.size,1,none⟩) aB).trans b1;have ai:=Qab (ag.o.trans (ab.mono ag.o.size));have aL:=Qab (QbL (P:=fun _ _=>False) aE.o (Fr.of_below ab) (fun _ _ h=>h));have aS:=Qab (Qal aZ.o ab);clear aq ab;skip))
  all_goals go_wp2_with fail
  all_goals refine(QlW B sb s.met _ (kind,z) w1 q7 aL.o (by omega)).mono ?_
  all_goals rintro e w2 ⟨rfl,ab⟩
  all_goals have af:=Qab (ai.o.trans (ab.mono ai.o.size))
  all_goals have aW:=Qab (QbL (P:=fun _ _=>False) aL.o (Fr.of_below ab) (fun _ _ h=>h))
  all_goals have aH:=Qab (Qal aS.o ab)
  all_goals have r7:w2.cell? ⟨sb,7,none⟩=some (.slice la s.met.length lc):=(ab.cell (p:=⟨sb,7,none⟩) (Qau q7)).trans q7
  all_goals have r1:w2.cell? ⟨w.heap.size,1,none⟩=some (.string (Qaf z)):=Qaa aH.o 1
  all_goals clear ab q7 q0 q1
  all_goals dsimp only
  all_goals cases hcon:QxP s.met kind
  rotate_left
  ·rw[hcon]at aa;go_wp2;go_ret;unfold QfQ;rw[aa.o];exact⟨rfl,HS.o.below af.o,Fr.of_below af.o⟩
  rw[hcon]at aa;by_cases h6:s.met.length=6
  ·rw[if_pos h6]at aa;have a0:((s.met.length:Int)==6)=true:=by rw[h6];rfl
   go_wp2;go_ret;unfold QfQ;rw[aa.o];exact⟨rfl,HS.o.below af.o,Fr.of_below af.o⟩
  rw[if_neg h6]at aa;have a0:((s.met.length:Int)==6)=false:=by simp;omega
  go_wp2_with fail;refine(QsR (Qaf z) w2 (by rw[Qaj];omega)).mono ?_;rintro e w3 ⟨rfl,ar⟩;have aJ:=Qab (af.o.trans (ar.mono af.o.size));have aM:=Qab (QbL (P:=fun _ _=>False) aW.o (Fr.of_below ar) (fun _ _ h=>h));have ap:=Qal aH.o ar;have s0:w3.cell? ⟨w.heap.size,0,none⟩=some (.int .i64 kind):=Qaa ap 0;have s1:w3.cell? ⟨w.heap.size,1,none⟩=some (.string (Qaf z)):=Qaa ap 1;have sf:=Qao ap;have s7:w3.cell? ⟨sb,7,none⟩=some (.slice la s.met.length lc):=(ar.cell (p:=⟨sb,7,none⟩) (Qau r7)).trans r7;have aI:=Qab ap;have a3:¬ sb=w.heap.size:=by omega
  have hne':¬ w.heap.size=sb:=by omega
  clear ar ap r7 r1;go_wp2_with fail;obtain⟨V,hV⟩:∃ V,V=w3.setCell ⟨w.heap.size,1,none⟩ (.string (Qaf z)):=⟨_,rfl⟩;have aK:Hid (Below w.heap.size w V):=by rw[hV];exact aJ.o.setCell (Nat.le_refl _) _
  have aA:V.heap[w.heap.size]?=some (.cells #[.int .i64 kind,.string (Qaf z)] 52):=by rw[hV];exact Qah _ _ _ _ _ _ aI.o
  have aY:Hid (V.ownsRow B 52 2 (.slice la s.met.length lc) s.met.length (Qcp s.met)):=by
   rw[hV];exact Qcc aM.o (fun e=>by have:=(aD.o.met.lt _ e).2;omega) _ _
  have v7:V.cell? ⟨sb,7,none⟩=some (.slice la s.met.length lc):=by rw[hV,World.cell?_of_block (a:=⟨sb,7,none⟩) (Below.heap_setCell _ _ _ _ a3)];exact s7
  have v0:V.cell? ⟨w.heap.size,0,none⟩=some (.int .i64 kind):=Qaa aA 0;have v1:V.cell? ⟨w.heap.size,1,none⟩=some (.string (Qaf z)):=Qaa aA 1;have ak:=Qab (aD.o.below aK.o);have hVl:=QaI aA;have aQ:sb<V.heap.size:=by omega
  rw[<-hV];have HBs:=ak.o.bs
  have av:¬(Value.slice la s.met.length lc).ownBlock=some sb:=fun e=>by
   obtain⟨_,cs,a1⟩:=Qcg ak.o.met sb _ e ak.o.blk;injection a1 with e1 e2
   exact absurd e2 (by decide)
  have aj:=Qab av;clear hV aA s7 s0 s1 sf av aJ aM aI;have hBV:B<=V.heap.size:=by omega
  go_region_law (refine step_append_lies _ rfl (.tmp 52) (.tmp 54) 32 rfl B 52 i0 (.agg #[.int .i64 0,.string ⟨#[]⟩]) 2 24 underlying32 hi a5 a6 a7 rfl (by decide) (.slice la s.met.length lc) s.met.length (Qcp s.met) (by simp[Act.eval,Act.put]) (aY.o.alloc _) ⟨V.heap.size,0,none⟩ 1 1 [.int .i64 kind,.string (Qaf z)] (by simp[Act.eval,Act.put]) rfl (Qw7 _ (kind,z) _) (Qxn (kind,z)) (by decide) (by unfold maxLen;omega) (by omega) (by simp;omega) _ rfl ?_;intro g' aF w5 ae ac hat hlt5;have aX:=Qab ae;have aV:=Qab ac;have t7:w5.cell? ⟨sb,7,none⟩=some (.slice la s.met.length lc):=ac.cell (a:=⟨sb,7,none⟩) ((World.cell?_of_block (a:=⟨sb,7,none⟩) (w:=V) (Below.heap_alloc _ _ _ aQ)).trans v7) (fun e=>aj.o e.symm);have hft:∀ j,w5.frozen? ⟨sb,j,none⟩=false:=fun j=>(World.frozen?_of_block (a:=⟨sb,j,none⟩) (w:=V) ((ac.block sb (by simp;omega) (fun e=>aj.o e.symm)).trans (Below.heap_alloc _ _ _ aQ))).trans (ak.o.frozen j);clear ae ac;skip)
  all_goals go_wp2
  all_goals go_ret
  all_goals unfold QfQ
  all_goals rw[aa.o]
  all_goals have au:=ak.o.regrow ((((Fr.refl _ V).alloc _).drew).grown aV.o (fun k o e _=>e)) (.slice (some ⟨g',0,none⟩) (s.met.length+1) aF) (s.met++[(kind,z)]) (by rw[List.length_append,<-QqG];exact aX.o) (by rw[List.length_append];simp;omega) (by simp)
  all_goals exact⟨rfl,⟨_,_,_,_,au.1⟩,(Fr.of_below aK.o).trans au.2⟩
end Go.Proofs.YtgnkjijocdmniaaGreatDoor
