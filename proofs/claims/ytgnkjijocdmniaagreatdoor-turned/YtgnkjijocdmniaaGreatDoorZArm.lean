import Derived.Test.YtgnkjijocdmniaaGreatDoorSize
namespace Go.Proofs.YtgnkjijocdmniaaGreatDoor
set_option linter.unusedVariables false
set_option linter.unusedSimpArgs false
set_option maxRecDepth 100000
set_option maxHeartbeats 4000000
open Go.Proofs.Tryz
section
open Go.RowKit
attribute [local go_sem ↓] Go.wp_at_zero Go.wp_at_succ
theorem Qwk(hw:L8)(hp:Nat)(d:Int)(b:Nat)(t:ByteArray)(s:PS)(rv:Value)(mc mt:Nat)(w:World)(h:RC w b t s rv mc mt) :
 Calls Tryz.prog 121 #[.pointer (some ⟨b,0,none⟩),QcH hw hp,.int .i64 d] w (Qap (paL t.data.toList [[59]] s) b t rv mc mt w (fun _ _ v=>v=.iface 269 (.agg #[.string (Qaf hw),.int .i64 hp,.int .i64 1,.string ⟨#[]⟩]))):=by
 have H:=Qab h;have hlt:=h.at_.lt;clear h;unfold QcH;go_enter func121,ntmps121;go_wp2_with fail;have HP:=Qab (QcV b (w.heap.size+1) 1 1 [[59]] t s rv mc mt _ ((H.o.alloc (.cells #[.string (Qaf hw),.int .i64 hp] 216)).alloc (.cells (QaN [[59]]).toArray 9)) (QbI _ _ (by simp)) rfl (by decide));refine HP.o.mono ?_;intro e w1 h1;rcases h1.cases with⟨y,v,hy,rfl,hv,hc,hm⟩ | ⟨f,hf,⟨bb,hz,rfl,ab⟩,hm⟩
 rotate_left
 ·exact⟨rfl,Qap.err hf ((((Mod.refl b w).alloc _).alloc _).trans hm) ⟨bb,by simp at hz;omega,rfl,ab⟩⟩
 unfold QlE at hv;subst hv;have aa:=QaU (g:=w.heap.size) (o:=.cells #[.string (Qaf hw),.int .i64 hp] 216) (Qae (Qat _ _)) hm (by omega);have hh0:w1.cell? ⟨w.heap.size,0,none⟩=some (.string (Qaf hw)):=Qaa aa 0;have hh1:w1.cell? ⟨w.heap.size,1,none⟩=some (.int .i64 hp):=Qaa aa 1;have HY:=Qab hy;have HC:=Qab hc;have HM:=Qab ((((Mod.refl b w).alloc _).alloc _).trans hm);clear h1 hy hc hm aa HP;go_wp2;go_ret;exact Qap.ok HY.o HM.o rfl HC.o
theorem Qqz(hw:L8)(hp:Nat)(d:Int)(b:Nat)(t:ByteArray)(s:PS)(rv:Value)(mc mt:Nat)(w:World)(h:RC w b t s rv mc mt) :
 Calls Tryz.prog 122 #[.pointer (some ⟨b,0,none⟩),QcH hw hp,.int .i64 d] w (Qap (paL t.data.toList [[59]] s) b t rv mc mt w (fun _ _ v=>v=.iface 294 (.agg #[.string (Qaf hw),.int .i64 hp]))):=by
 have H:=Qab h;have hlt:=h.at_.lt;clear h;unfold QcH;go_enter func122,ntmps122;go_wp2_with fail;have HP:=Qab (QcV b (w.heap.size+1) 1 1 [[59]] t s rv mc mt _ ((H.o.alloc (.cells #[.string (Qaf hw),.int .i64 hp] 216)).alloc (.cells (QaN [[59]]).toArray 9)) (QbI _ _ (by simp)) rfl (by decide));refine HP.o.mono ?_;intro e w1 h1;rcases h1.cases with⟨y,v,hy,rfl,hv,hc,hm⟩ | ⟨f,hf,⟨bb,hz,rfl,ab⟩,hm⟩
 rotate_left
 ·exact⟨rfl,Qap.err hf ((((Mod.refl b w).alloc _).alloc _).trans hm) ⟨bb,by simp at hz;omega,rfl,ab⟩⟩
 unfold QlE at hv;subst hv;have aa:=QaU (g:=w.heap.size) (o:=.cells #[.string (Qaf hw),.int .i64 hp] 216) (Qae (Qat _ _)) hm (by omega);have hh0:w1.cell? ⟨w.heap.size,0,none⟩=some (.string (Qaf hw)):=Qaa aa 0;have hh1:w1.cell? ⟨w.heap.size,1,none⟩=some (.int .i64 hp):=Qaa aa 1;have HY:=Qab hy;have HC:=Qab hc;have HM:=Qab ((((Mod.refl b w).alloc _).alloc _).trans hm);clear h1 hy hc hm aa HP;go_wp2;go_ret;exact Qap.ok HY.o HM.o rfl HC.o
theorem Qwe(hw:L8)(hp:Nat)(d:Int)(b:Nat)(t:ByteArray)(s:PS)(rv:Value)(mc mt:Nat)(w:World)(h:RC w b t s rv mc mt) :
 Calls Tryz.prog 123 #[.pointer (some ⟨b,0,none⟩),QcH hw hp,.int .i64 d] w (Qap (paL t.data.toList [[59]] s) b t rv mc mt w (fun _ _ v=>v=.iface 295 (.agg #[.string (Qaf hw),.int .i64 hp]))):=by
 have H:=Qab h;have hlt:=h.at_.lt;clear h;unfold QcH;go_enter func123,ntmps123;go_wp2_with fail;have HP:=Qab (QcV b (w.heap.size+1) 1 1 [[59]] t s rv mc mt _ ((H.o.alloc (.cells #[.string (Qaf hw),.int .i64 hp] 216)).alloc (.cells (QaN [[59]]).toArray 9)) (QbI _ _ (by simp)) rfl (by decide));refine HP.o.mono ?_;intro e w1 h1;rcases h1.cases with⟨y,v,hy,rfl,hv,hc,hm⟩ | ⟨f,hf,⟨bb,hz,rfl,ab⟩,hm⟩
 rotate_left
 ·exact⟨rfl,Qap.err hf ((((Mod.refl b w).alloc _).alloc _).trans hm) ⟨bb,by simp at hz;omega,rfl,ab⟩⟩
 unfold QlE at hv;subst hv;have aa:=QaU (g:=w.heap.size) (o:=.cells #[.string (Qaf hw),.int .i64 hp] 216) (Qae (Qat _ _)) hm (by omega);have hh0:w1.cell? ⟨w.heap.size,0,none⟩=some (.string (Qaf hw)):=Qaa aa 0;have hh1:w1.cell? ⟨w.heap.size,1,none⟩=some (.int .i64 hp):=Qaa aa 1;have HY:=Qab hy;have HC:=Qab hc;have HM:=Qab ((((Mod.refl b w).alloc _).alloc _).trans hm);clear h1 hy hc hm aa HP;go_wp2;go_ret;exact Qap.ok HY.o HM.o rfl HC.o
def Qx3 (l:L8) (s:PS):Except Flt (L8×PS):=Qa2 (sL l (fun _=>0) s) fun x s1=>semi l s1 x
theorem Qmo(hw:L8)(hp:Nat)(d:Int)(pr pk kd:Nat)(b:Nat)(t:ByteArray)(s:PS)(rv:Value)(mc mt:Nat)(w:World)(h:RC w b t s rv mc mt)(ab:Qm4 w pr b)(ah:w.cell? ⟨pk,0,none⟩=some (.int .i64 kd))(ae:pk≠b) :
 Calls Tryz.prog 178 #[QcH hw hp,.int .i64 d,.pointer (some ⟨pr,0,none⟩),.pointer (some ⟨pk,0,none⟩)] w (Qap (Qx3 t.data.toList s) b t rv mc mt w (fun x _ v=>v=.iface 269 (.agg #[.string (Qaf hw),.int .i64 hp,.int .i64 kd,.string (Qaf x)]))):=by
 have ar:=ab.lt;have hb:=h.at_.lt;have h':(w.alloc (.cells #[.string (Qaf hw),.int .i64 hp] 216)).cell? ⟨pr,0,none⟩=some (.pointer (some ⟨b,0,none⟩)):=by rw[World.cell?_alloc_past _ _ _ ar];exact ab.1
 have H:=Qab h;have ap:=Qab ab;have ao:=Qab ah;clear h ab;unfold QcH;go_enter func178,ntmps178;go_wp2_with fail;refine(QdX b t s rv mc mt _ (H.o.alloc _)).mono ?_;intro e w1 h1;rcases h1.cases with⟨y,v,hy,rfl,hv,hc,hm⟩ | ⟨f,hf,⟨bb,hz,rfl,ac⟩,hm⟩
 rotate_left
 ·exact⟨rfl,Qap.err (Qad hf) (((Mod.refl b w).alloc _).trans hm) ⟨bb,by simp at hz;omega,rfl,ac⟩⟩
 unfold Qtf at hv;subst hv;have HY:=Qab hy;have HC:=Qab hc;have HM:=Qab (((Mod.refl b w).alloc (.cells #[.string (Qaf hw),.int .i64 hp] 216)).trans hm);have HH:=Qab (QaU (g:=w.heap.size) (Qat w (.cells #[.string (Qaf hw),.int .i64 hp] 216)) hm (by omega));have au:=(ap.o.mod HM.o).1;clear h1 hy hc hm h' ah;go_wp2_with fail;have HP:=Qab (QcV b w1.heap.size 1 1 [[59]] t y.2 rv mc mt _ (HC.o.alloc (.cells (QaN [[59]]).toArray 9)) (QbI _ _ rfl) rfl (by decide));refine HP.o.mono ?_;intro e w2 h2;rcases h2.cases with⟨y2,v2,aj,rfl,ai,ag,aa⟩ | ⟨f,hf,⟨bb,hz,rfl,ac⟩,aa⟩
 rotate_left
 ·exact⟨rfl,Qap.err ((Qac HY.o).trans (Qad hf)) ((HM.o.alloc _).trans aa) ⟨bb,Nat.le_trans (HM.o.alloc _).size hz,rfl,ac⟩⟩
 unfold QlE at ai;subst ai;have ad:=QaU (Qae HH.o) aa (by omega);have hh0:w2.cell? ⟨w.heap.size,0,none⟩=some (.string (Qaf hw)):=Qaa ad 0;have hh1:w2.cell? ⟨w.heap.size,1,none⟩=some (.int .i64 hp):=Qaa ad 1;have aq:=Qab aj;have ak:=Qab ag;have af:=Qab ((HM.o.alloc (.cells (QaN [[59]]).toArray 9)).trans aa);have hk2:=Qb3 ao.o af.o ae;clear h2 aj ag aa ad HP au;go_wp2;go_ret;exact Qap.ok ((Qac HY.o).trans (Qac aq.o)) af.o rfl ak.o
end
section
open Go.RowKit
theorem Tryz.infoCommand:(Tryz.prog.info? 179).map (fun i=>(i.zero,i.size,i.bytes))=some (some .nilIface,1,16):=by kernel_rfl
def blX {α:Type} (X:Nat→Prop) (P:(Nat→Prop)→α→World→Value→Prop) (xs:List α) (w:World) (v:Value):Prop:=
 (xs=[]∧v=.slice none 0 0)∨(xs≠[]∧trX X P xs w v)
theorem blX.keep{α:Type}{X:Nat->Prop}{P:(Nat->Prop)->α->World->Value->Prop}(hP:TreeP P){xs:List α}{w w':World}{v:Value}(h:blX X P xs w v)(hm:AbvX X w w'):blX X P xs w' v:=by
 rcases h with h | ⟨h1,h2⟩
 ·exact Or.inl h
 ·exact Or.inr ⟨h1,h2.keep hP hm⟩
theorem blX.weak{α:Type}{X Y:Nat->Prop}{P:(Nat->Prop)->α->World->Value->Prop}(hP:TreeP P){xs:List α}{w:World}{v:Value}(h:blX X P xs w v)(hB:∀ k,X k->k<w.heap.size->Y k):blX Y P xs w v:=by
 rcases h with h | ⟨h1,h2⟩
 ·exact Or.inl h
 ·exact Or.inr ⟨h1,trX.weak hP h1 h2 hB⟩
theorem blX.of_owns{α:Type}{P:(Nat->Prop)->α->World->Value->Prop}(hP:TreeP P){w:World}{base n:Nat}{e:TypeId}{v:Value}{xs:List α}{vs:List Value}(h:w.ownsRow base e 1 v n vs)(hn:n=xs.length)(aa:xs=[]->v=.slice none 0 0)(hr:QlN (fun a u=>Qhz P base w v a u) xs vs):blX (fromB base) P xs w v:=by
 by_cases hx:xs=[]
 ·exact Or.inl ⟨hx,aa hx⟩
 ·exact Or.inr ⟨hx,trX.of_owns hP h hn hx hr⟩
theorem blX.form{α:Type}{X:Nat->Prop}{P:(Nat->Prop)->α->World->Value->Prop}{xs:List α}{w:World}{v:Value}(h:blX X P xs w v):∃ a n c,v=.slice a n c:=by
 rcases h with⟨_,h⟩ | ⟨_,h⟩
 ·exact⟨_,_,_,h⟩
 ·obtain⟨g,n,c,h⟩:=h.form;exact⟨_,_,_,h⟩
theorem QiP{α:Type}{l:L8}{sub:PS->Except Flt (α×PS)}{f:Nat}{aa:List α}{s:PS}{e:Flt}(h:mayL l [[125]] s=.error e):bMr l sub (f+1) aa s=.error e:=by rw[bMr];exact Qad h
theorem Ql6{α:Type}{l:L8}{sub:PS->Except Flt (α×PS)}{f:Nat}{aa:List α}{s:PS}{y:Nat×PS}(h:mayL l [[125]] s=.ok y)(h1:¬ y.1=0):bMr l sub (f+1) aa s=.ok (aa,y.2):=by rw[bMr,Qac h,if_neg h1]
theorem QiS{α:Type}{l:L8}{sub:PS->Except Flt (α×PS)}{f:Nat}{aa:List α}{s:PS}{y:Nat×PS}{e:Flt}(h:mayL l [[125]] s=.ok y)(h1:y.1=0)(h2:sub y.2=.error e):bMr l sub (f+1) aa s=.error e:=by rw[bMr,Qac h,if_pos h1];exact Qad h2
theorem Qox{α:Type}{l:L8}{sub:PS->Except Flt (α×PS)}{f:Nat}{aa:List α}{s:PS}{y:Nat×PS}{z:α×PS}(h:mayL l [[125]] s=.ok y)(h1:y.1=0)(h2:sub y.2=.ok z):bMr l sub (f+1) aa s=bMr l sub f (aa++[z.1]) z.2:=by rw[bMr,Qac h,if_pos h1];exact Qac h2
theorem Qwa:∀ z∈([[125]]:List (L8)),z≠[]:=by decide
theorem Qoj{α:Type}(sub:PS->Except Flt (α×PS))(P:(Nat->Prop)->α->World->Value->Prop)(d:Int)(b F:Nat)(t:ByteArray)(s:PS)(rv:Value)(mc mt:Nat)(w:World)(h:RC w b t s rv mc mt)(hF:2*t.size+1<F)(hP:TreeP P)(hS:SubMu t.size sub)(ho:Qfd 143 w b t rv mc mt d sub P) :
 Calls Tryz.prog 184 #[.pointer (some ⟨b,0,none⟩),.int .i64 d] w (Qap (blockL t.data.toList F sub s) b t rv mc mt w (blX (fromB w.heap.size) P)):=by
 have H:=Qab h;have HO:=Qab ho;have HP:=Qab hP;have a0:=Qab hS;have hlt:=h.at_.lt;clear h ho hP hS;obtain⟨i0,hi,a7,a8,a9⟩:=info_parts Tryz.infoCommand;go_enter func184,ntmps184;go_wp2_with fail;have aM:=Qab (QcV b w.heap.size 1 1 [[123]] t s rv mc mt _ (H.o.alloc (.cells (QaN [[123]]).toArray 9)) (QbI _ _ rfl) rfl (by decide));refine aM.o.mono ?_;intro e w1 h1;rcases h1.cases with⟨y,v,hy,rfl,hv,hc,hm⟩ | ⟨f,hf,⟨bb,hz,rfl,aj⟩,hm⟩
 rotate_left
 ·exact⟨rfl,Qap.err (Qad hf) (((Mod.refl b w).alloc _).trans hm) ⟨bb,by simp at hz;omega,rfl,aj⟩⟩
 unfold QlE at hv;subst hv;have HY:=Qab hy;have HC:=Qab hc;have aS:=Qab (((Mod.refl b w).alloc (.cells (QaN [[123]]).toArray 9)).trans hm);have aB:=HC.o.mu_le;have ak:=HC.o.mu_lt hF;clear h1 hy hc hm aM;go_wp2_with fail
 go_loopw [5] (fun v wr=>∃(s':PS) (ae:List α) (vs:List Value) (f:Nat),wr.ownsRow w.heap.size 179 1 v ae.length vs/\QlN (fun a u=>Qhz P w.heap.size wr v a u) ae vs/\(ae=[]->v=.slice none 0 0)/\RC wr b t s' rv mc mt/\Mod b w wr/\mu t.size s'<f/\ae.length+mu t.size s'<=1300/\blockL t.data.toList F sub s=bMr t.data.toList sub f ae s') (fun _ wr=>muW wr b t.size)
 case atStart=>
  exact⟨y.2,[],[],F,World.ownsRow_nil _ _ _ _,trivial,fun _=>rfl,HC.o,aS.o,ak,by simp;omega,Qac HY.o⟩
 case round=>
  obtain⟨s',ae,vs,f,ap,ab,ao,aN,af,hf,hbd,aO⟩:=hrel;obtain⟨f,rfl⟩:∃ g,f=g+1:=⟨f - 1,by omega⟩;have HR:=Qab aN;have aH:=Qab af;have ar:=Qab aO;have aX:=Qab ap;have aZ:=Qab ab;have aV:=Qab ao;have hwr:w.heap.size<=wr.heap.size:=af.size;clear aN af aO ap ab ao HC HY aB ak;go_wp2_with fail;refine(QhT b wr.heap.size 1 1 [[125]] t s' rv mc mt _ (HR.o.alloc _) (Qba wr [[125]] _ _ rfl) rfl (by decide)).mono ?_;intro e w3 h3;rcases h3.cases with⟨y3,v3,aD,rfl,aP,aJ,av⟩ | ⟨f3,a5,⟨bb,hz,rfl,aj⟩,av⟩
  rotate_left
  ·exact⟨rfl,Qap.err (ar.o.trans (QiP a5)) ((aH.o.alloc _).trans av) ⟨bb,by simp at hz;omega,rfl,aj⟩⟩
  have ag:=Qkp (l:=t.data.toList) (by simpa using HR.o.le) HR.o.e0 Qwa aD;rw[bal]at ag;replace ag:=ag.1;have au:=((Mod.refl b wr).alloc (.cells #[.string ⟨#[125]⟩] 9)).trans av;have ah:=Qab (aH.o.trans au);have ay:=Qab aD;have aq:=Qab aJ;have ax:=Qab (Qbt (b:=b) aX.o au (by omega));have aI:=Qab (aZ.o.imp (fun a u hu=>Qhz.mod HP.o (b:=b) (w':=w3) hu au (by omega)));unfold QlE at aP;subst aP;clear h3 aD aJ av au;by_cases h1:y3.1=0;rotate_left
  ·have a4:((y3.1:Int)==0)=false:=by simp;omega
   have H1:=Qab h1;have HT:=Qab (blX.of_owns HP.o ax.o rfl aV.o aI.o);clear h1;go_wp2;go_ret;exact Qap.ok (ar.o.trans (Ql6 ay.o H1.o)) ah.o HT.o aq.o
  have a4:((y3.1:Int)==0)=true:=by simp;omega
  have H1:=Qab h1;clear h1;go_wp2_with fail;refine(HO.o _ y3.2 ah.o aq.o).mono ?_;intro e w4 h4;rcases h4.cases with⟨z4,v4,aE,rfl,aC,aK,ai⟩ | ⟨f4,a6,⟨bb,hz,rfl,aj⟩,ai⟩
  rotate_left
  ·exact⟨rfl,Qap.err (ar.o.trans (QiS ay.o H1.o a6)) (ah.o.trans ai) ⟨bb,Nat.le_trans ah.o.size hz,rfl,aj⟩⟩
  have hmu4:=a0.o y3.2 z4 aq.o.le aq.o.e0 aE;have a1:=Qab aC;obtain⟨aw,x4,rfl⟩:=HP.o.form _ _ _ _ aC;have aG:=Qab (ah.o.trans ai);have a3:=Qab aE;have aQ:=Qab aK;have ac:=Qbt (b:=b) ax.o ai (by omega);have a2:=Qab (aI.o.imp (fun a u hu=>Qhz.mod HP.o (b:=b) (w':=w4) hu ai (by omega)));have aA:=Qab (fun k hk=>(ax.o.lt k hk).2);have aR:=Qab (Qhz.new HP.o (base:=w.heap.size) a1.o ah.o.size aA.o);have hz4:w.heap.size<=w4.heap.size:=aG.o.size;clear h4 aE aK ai aC;go_wp2_with (at_builtin;refine wpList_append_own_at _ rfl _ _ 89 rfl w.heap.size 179 i0 .nilIface 1 16 underlying89 hi a7 a8 a9 rfl (by decide) _ _ _ rfl (ac.alloc _) ⟨w4.heap.size,0,none⟩ 1 1 [.iface aw x4] rfl rfl ?c1 ?c2 ?c3 ?c4 ?c5 ?_)
  case c1=>
   intro j u hj
   match j,hj with
   |0,hj=>simp at hj;subst hj;simp[Addr.add]
  case c2=>intro u hu;simp at hu;subst hu;rfl
  case c3=>unfold maxLen;omega
  case c4=>omega
  case c5=>simp;omega
  ·intro v' w5 ad aa _ az;have ab:∀ k,(u5).ownBlock=some k->w.heap.size<=k:=fun k hk=>(ac.lt k hk).1
   have aT:=Qab ((aG.o.alloc (Obj.cells #[.iface aw x4] 179)).grown aa (fun k hk=>by have:=ab k hk;omega));have aF:=Qab ((aQ.o.alloc (Obj.cells #[.iface aw x4] 179)).grown aa (fun k hk=>by have:=ab k hk;omega));have aW:=Qab ad;have aY:=Qab (QlN.snoc (P:=fun a u=>Qhz P w.heap.size w5 v' a u) (aR.o.grown HP.o aa az) (a2.o.imp (fun a u hu=>Qhz.grown HP.o hu aa az)));have aL:muW w5 b t.size<muW wr b t.size:=by rw[aF.o.muEq,HR.o.muEq];omega
   have aU:=Qab aL;clear ad aa aL ac ab az;go_wp2;go_roundw
   case rel=>exact⟨z4.2,ae++[z4.1],vs++[.iface aw x4],f,by simpa using aW.o,aY.o,fun hh=>absurd hh (by simp),aF.o,aT.o,by omega,by simp;omega,ar.o.trans (Qox ay.o H1.o a3.o)⟩
   case measure=>exact aU.o
def Qy2 {α β:Type} (X:Nat→Prop) (P1:(Nat→Prop)→β→World→Value→Prop) (P2:(Nat→Prop)→α→World→Value→Prop) (a:β×List α) (w:World) (v:Value):Prop:=
 ∃ u bv,v=.agg #[u,bv]∧P1 X a.1 w u∧blX X P2 a.2 w bv
theorem QnU{b B:Nat}(h:b<B):¬ fromB B b:=by unfold fromB;omega
theorem QtU{α β:Type}(ay:PS->Except Flt (β×PS))(P1:(Nat->Prop)->β->World->Value->Prop)(sub:PS->Except Flt (α×PS))(P2:(Nat->Prop)->α->World->Value->Prop)(d:Int)(b F:Nat)(t:ByteArray)(s:PS)(rv:Value)(mc mt:Nat)(w:World)(h:RC w b t s rv mc mt)(hF:2*t.size+1<F)(hd0:0<=d)(hd1:d<=100)(ak:TreeP P1)(ao:TreeP P2)(hS:SubMu t.size sub)(ar:Qfd 186 w b t rv mc mt (d+1) ay P1)(au:Qfd 143 w b t rv mc mt (d+1) sub P2) :
 Calls Tryz.prog 183 #[.pointer (some ⟨b,0,none⟩),.int .i64 d] w (Qap (armL t.data.toList F ay sub s) b t rv mc mt w (Qy2 (fromB w.heap.size) P1 P2)):=by
 have H:=Qab h;have aB:=Qab ar;have aC:=Qab au;have ab:=Qab ak;have ae:=Qab ao;have aD:=Qab hS;have aq:=h.at_.lt;clear h ar au ak ao hS;go_enter func183,ntmps183;go_wp2_with fail;have af:=Qab ((Mod.refl b w).alloc (.cells #[.nilIface,.slice none 0 0] 298));refine(aB.o _ s af.o (H.o.alloc _)).mono ?_;intro e w1 h1;rcases h1.cases with⟨y,v,hy,rfl,hv,hc,hm⟩ | ⟨f,hf,⟨bb,hz,rfl,ah⟩,hm⟩
 rotate_left
 ·exact⟨rfl,Qap.err (Qad hf) (af.o.trans hm) ⟨bb,by simp at hz;omega,rfl,ah⟩⟩
 have HV:=Qab hv;obtain⟨ty,x,rfl⟩:=ab.o.form _ _ _ _ hv;have HY:=Qab hy;have HC:=Qab hc;have ad:=Qab (af.o.trans hm);have aj:=Qab (QaU (Qat w (.cells #[.nilIface,.slice none 0 0] 298)) hm (by omega));have hz1:w.heap.size<w1.heap.size:=QaI aj.o;clear h1 hy hc hm hv;go_wp2_with fail;refine(Qoj sub P2 (d+1) b F t y.2 rv mc mt _ HC.o hF ae.o aD.o (aC.o.mod ad.o)).mono ?_;intro e w2 h2;rcases h2.cases with⟨z,v2,ax,rfl,ai,ap,aa⟩ | ⟨f,hf,⟨bb,hz,rfl,ah⟩,aa⟩
 rotate_left
 ·exact⟨rfl,Qap.err ((Qac HY.o).trans (Qad hf)) (ad.o.trans aa) ⟨bb,Nat.le_trans ad.o.size hz,rfl,ah⟩⟩
 have aF:=Qab ai;obtain⟨ba,bn,bc,rfl⟩:=ai.form;have aE:=Qab (ab.o.keep _ _ _ _ _ HV.o (aa.abvX (QnU (by simp;omega))));have aG:=Qab ax;have az:=Qab ap;have aA:=Qab (ad.o.trans aa);have ag:=Qab (QaU aj.o aa (by omega));have r0:w2.cell? ⟨w.heap.size,0,none⟩=some .nilIface:=Qaa ag.o 0;have r1:w2.cell? ⟨w.heap.size,1,none⟩=some (.slice none 0 0):=Qaa ag.o 1;have rf:=Qao ag.o;clear h2 ax ap aa ai;go_wp2;have av:¬ fromB (w.heap.size+1) w.heap.size:=by unfold fromB;omega
 have aw:¬ fromB w1.heap.size w.heap.size:=by unfold fromB;omega
 have ac:=aE.o;rw[show(w.alloc (.cells #[.nilIface,.slice none 0 0] 298)).heap.size=w.heap.size+1 from by simp]at ac;refine bodyPost_ret (v:=.agg #[.iface ty x,.slice ba bn bc]) (by simp[results,results183,go_sem,r0,r1]) rfl (Qap.ok ((Qac HY.o).trans (Qac aG.o)) ((aA.o.setNew (Nat.le_refl _) _ _).setNew (Nat.le_refl _) _ _) ⟨_,_,rfl,?_,?_⟩ ((az.o.setNew aq _ _).setNew aq _ _))
 ·exact ab.o.weak _ _ _ _ _ (ab.o.keep _ _ _ _ _ (ab.o.keep _ _ _ _ _ ac (AbvX.set av _ _)) (AbvX.set av _ _)) (fun k hk _=>by unfold fromB at *;omega)
 ·exact blX.weak ae.o ((aF.o.keep ae.o (AbvX.set aw _ _)).keep ae.o (AbvX.set aw _ _)) (fun k hk _=>by unfold fromB at *;omega)
end
end Go.Proofs.YtgnkjijocdmniaaGreatDoor
