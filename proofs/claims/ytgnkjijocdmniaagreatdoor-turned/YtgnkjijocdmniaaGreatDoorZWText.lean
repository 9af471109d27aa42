import Derived.Test.YtgnkjijocdmniaaGreatDoorBeginC
import Derived.Test.YtgnkjijocdmniaaGreatDoorWCmd
namespace Go.Proofs.YtgnkjijocdmniaaGreatDoor
set_option linter.unusedVariables false
set_option linter.unusedSimpArgs false
set_option maxRecDepth 100000
set_option maxHeartbeats 4000000
open Go.Proofs.Tryz
section
open Go.RowKit
attribute [local go_sem ↓] Go.wp_at_zero Go.wp_at_succ
theorem QrF{l:L8}{chk:L8->Nat}:∀(f:Nat) (aa:List (L8)) (s:PS),Gd l s->∀ y,moreL l chk f aa s=.ok y->2*y.1.length+mu l.length y.2<=2*aa.length+mu l.length s
 |0,aa,s,h=>fun y e=>by cases e;exact Nat.le_refl _
 |f+1,aa,s,h=>fun y e=>by
  rw[moreL]at e
  cases hp:paL l [[44],[93]] s with
  |error g=>rw[hp]at e;cases e
  |ok z=>
   rw[hp]at e;obtain⟨h1,h2⟩:=Qcu (zs:=[[44],[93]]) h (by decide) z hp;dsimp only at e
   split at e
   ·cases hs:sL l chk z.2 with
    |error g=>rw[hs]at e;cases e
    |ok x=>
     rw[hs]at e;obtain⟨h3,h4⟩:=QbH h1 x hs;have h6:=QrF f _ x.2 h3 y e;simp only[List.length_append,List.length_cons,List.length_nil]at h6;omega
   ·cases e;dsimp only;omega
theorem Qp6{l:L8}{chk:L8->Nat}{F:Nat}{s:PS}(h:Gd l s):∀ y,sLs l chk F s=.ok y->2*y.1.length+mu l.length y.2<=mu l.length s+1:=fun y e=>by
 unfold sLs at e
 cases hm:mayL l [[91]] s with
 |error g=>rw[hm]at e;cases e
 |ok z=>
  rw[hm]at e;obtain⟨h1,h2⟩:=Qdz (zs:=[[91]]) h (by decide) z hm;dsimp only at e
  cases hs:sL l chk z.2 with
  |error g=>rw[hs]at e;cases e
  |ok x=>
   rw[hs]at e;obtain⟨h3,h4⟩:=QbH h1 x hs;dsimp only at e
   split at e
   ·cases e;simp only[List.length_cons,List.length_nil];omega
   ·have h6:=QrF F _ x.2 h3 y e;simp only[List.length_cons,List.length_nil]at h6;omega
theorem Ql0(req:List (L8))(x:L8):(Qcr req x).length<=req.length+1:=by
 unfold Qcr;split<;>simp
theorem Qgq:∀(xs req:List (L8)),(xs.foldl Qcr req).length<=req.length+xs.length
 | [],req=>by simp
 |x::r,req=>by
  have h1:=Qgq r (Qcr req x);have h2:=Ql0 req x;rw[List.foldl_cons,List.length_cons];omega
theorem Qm7{w:World}{base b:Nat}{rv:Value}{req:List (L8)}(h:w.ownsRow base 9 1 rv req.length (QaN req))(aa:req=[]->rv=.slice none 0 0)(hb:b<base)(hl:req.length<=1000):QmC w b rv req:=by
 by_cases hr:req=[]
 ·exact Or.inl ⟨aa hr,hr⟩
 ·obtain⟨g,c,hv,hg,ht,hx⟩:=slB.of_owns h rfl hr;exact Or.inr ⟨g,c,hv,by omega,ht,hx,hl⟩
theorem QjD.mod{w w':World}{p1 p2 g n c er b:Nat}{zs:List (L8)}(h:QjD w p1 p2 g n c er zs)(hm:Mod b w w')(h1:p1≠b)(h2:p2≠b)(h3:g≠b):QjD w' p1 p2 g n c er zs:=
 ⟨Qb3 h.1 hm h1,Qb3 h.2.1 hm h2,fun j hj=>Qb3 (h.2.2.1 j hj) hm h3,h.2.2.2.1,h.2.2.2.2⟩
def Qjg:List (L8):=[QaL,QaO,Qbc,Qbw]
theorem RC.setReq{w:World}{b:Nat}{t:ByteArray}{s:PS}{rv:Value}{mc mt:Nat}(h:RC w b t s rv mc mt)(v:Value):RC (w.setCell ⟨b,7,none⟩ v) b t s v mc mt:=
 h.step ((Mod.refl b w).setCell 7 v) (Qah w b 7 v _ _ h.at_) h.le h.sz h.e0 h.nm
def QxB (r:Except Flt (List (L8)×PS)) (b:Nat) (t:ByteArray) (mc mt:Nat) (w:World) (e:Ending) (w':World):Prop:=
 Mod b w w'∧((∃ y rv,r=.ok y∧e=.returned (.tuple #[])∧RC w' b t y.2 rv mc mt∧QmC w' b rv y.1∧∀ k,rv.ownBlock=some k→w.heap.size≤k)∨(∃ f,r=.error f∧Qc8 f w e w'))
theorem Qqb(b F:Nat)(t:ByteArray)(s:PS)(mc mt:Nat)(w:World)(h:RC w b t s (.slice none 0 0) mc mt)(hF:2*t.size+1<F) :
 Calls Tryz.prog 142 #[.pointer (some ⟨b,0,none⟩)] w (QxB (reqMore t.data.toList F F [] s) b t mc mt w):=by
 have H:=Qab h;have hlt:=h.at_.lt;have aW:=h.mu_le;have aA:=h.mu_lt hF;clear h;obtain⟨i0,hi,bH,bI,bJ⟩:=info_parts Tryz.infoStr;go_enter func142,ntmps142;go_wp2_with fail
 go_loopw [] (fun wr=>∃(s':PS) (ac:List (L8)) (rv:Value) (f:Nat),RC wr b t s' rv mc mt/\wr.ownsRow w.heap.size 9 1 rv ac.length (QaN ac)/\(ac=[]->rv=.slice none 0 0)/\Mod b w wr/\mu t.size s'<f/\2*ac.length+mu t.size s'<=1300/\reqMore t.data.toList F F [] s=reqMore t.data.toList F f ac s') (fun wr=>muW wr b t.size)
 case atStart=>exact⟨s,[],.slice none 0 0,F,H.o,World.ownsRow_nil _ _ _ _,fun _=>rfl,Mod.refl _ _,aA,by simp;omega,rfl⟩
 case round=>
  obtain⟨s',ac,rv,f,ar,af,ae,ad,hf,hbd,bi⟩:=hrel;obtain⟨f,rfl⟩:∃ g,f=g+1:=⟨f - 1,by omega⟩;have hmuR:=ar.muEq;have hszR:wr.heap.size=wr.heap.size:=rfl;generalize hMR:muW wr b t.size=MR at *;have HR:=Qab ar;have aP:=Qab ad;have aw:=Qab bi;have a9:=Qab af;have aQ:=Qab ae;have hwr:w.heap.size<=wr.heap.size:=ad.size;clear ar ad bi af ae aW aA;go_wp2_with fail;refine(QhT b wr.heap.size 1 1 [kRequire] t s' rv mc mt _ (HR.o.alloc _) (Qba wr [kRequire] _ _ rfl) rfl (by decide)).mono ?_;intro e w3 h3;rcases h3.cases with⟨y3,v3,a3,rfl,bj,bf,aK⟩ | ⟨f3,bw,⟨bb,hz,rfl,ax⟩,aK⟩
  rotate_left
  ·exact⟨rfl,⟨(aP.o.alloc _).trans aK,Or.inr ⟨f3,aw.o.trans (Qad bw),⟨bb,by simp at hz;omega,rfl,ax⟩⟩⟩⟩
  have ah:=Qkp (l:=t.data.toList) (by simpa using HR.o.le) HR.o.e0 (by decide) a3;rw[bal]at ah;have ai:=ah.2.1;replace ah:=ah.1;have aT:=((Mod.refl b wr).alloc (.cells #[.string (Qaf kRequire)] 9)).trans aK;have aD:=Qab (aP.o.trans aT);have aI:=Qab a3;have aM:=Qab bf;have aF:=Qab (Qbt (b:=b) a9.o aT (by omega));unfold QlE at bj;subst bj;clear h3 a3 bf aK aT;by_cases h1:y3.1=0
  ·have bv:¬(0:Int)<(y3.1:Int):=by omega
   have H1:=Qab h1;clear h1;go_wp2;go_end0;exact⟨aD.o,Or.inl ⟨(ac,y3.2),rv,aw.o.trans ((Qac aI.o).trans (if_pos H1.o)),rfl,aM.o,Qm7 aF.o aQ.o (by omega) (show ac.length<=1000 by omega),fun k hk=>(aF.o.lt k hk).1⟩⟩
  have bv:(0:Int)<(y3.1:Int):=by omega
  have hmu3'':=ai h1;have H1:=Qab h1;clear h1 ai;go_wp2_with (go_at_call 137;refine(Qj8 _ _ _ _ _).mono ?_;rintro e w' ⟨rfl,rfl⟩);obtain⟨U,hU⟩:∃ U,U=((w3.alloc (.cells #[.string ⟨#[101,110,118,101,108,111,112,101]⟩,.string ⟨#[102,105,108,101,105,110,116,111]⟩,.string ⟨#[114,101,106,101,99,116]⟩,.string ⟨#[118,97,114,105,97,98,108,101,115]⟩] 9)).alloc (.cells #[.int .i64 6] 33)).alloc (.cells #[.slice (some ⟨w3.heap.size,0,none⟩) 4 4] 61):=⟨_,rfl⟩;have hw3:w.heap.size<=w3.heap.size:=aD.o.size
  have bs:Hid (QjD U (w3.heap.size+1+1) (w3.heap.size+1) w3.heap.size 4 4 6 Qjg):=by
   rw[hU];refine⟨?_,?_,?_,rfl,by decide⟩
   ·exact Qaa (Qaw (by simp)) 0
   ·exact Qaa (Qae (Qaw (by simp))) 0
   ·exact((Qba w3 Qjg _ _ rfl).below ((Below.refl _ _).alloc (Nat.le_refl _) _)).below ((Below.refl _ _).alloc (Nat.le_refl _) _)
  have aG:Hid (RC U b t y3.2 rv mc mt):=by rw[hU];exact((aM.o.alloc _).alloc _).alloc _
  have ao:Mod b w3 U:=by rw[hU];exact(((Mod.refl b w3).alloc _).alloc _).alloc _
  have aO:=Qab (aD.o.trans ao);have av:=Qab (Qbt (b:=b) aF.o ao (by omega));have hzU:U.heap.size=w3.heap.size+1+1+1:=by rw[hU];simp
  rw[<-hU];clear hU ao;refine(QeR (.func (.func 190) #[] #[.pointer (some ⟨w3.heap.size+1+1,0,none⟩),.pointer (some ⟨w3.heap.size+1,0,none⟩)]) (QcL 6 Qjg) b F t y3.2 rv mc mt _ aG.o (fun W s hm hc=>Qiv _ _ _ 4 4 6 Qjg b t s rv mc mt W hc (bs.o.mod hm (by omega) (by omega) (by omega))) (by have:=aG.o.mu_lt hF;exact this)).mono ?_;intro e w5 h5;rcases h5.cases with⟨y5,v5,a4,rfl,bF,bg,az⟩ | ⟨f5,bx,⟨bb,hz,rfl,ax⟩,az⟩
  rotate_left
  ·exact⟨rfl,⟨aO.o.trans az,Or.inr ⟨f5,aw.o.trans ((Qac aI.o).trans ((if_neg H1.o).trans (Qad bx))),⟨bb,Nat.le_trans aO.o.size hz,rfl,ax⟩⟩⟩⟩
  have ay:=Qp6 (l:=t.data.toList) ⟨by simpa using aG.o.le,aG.o.e0⟩ y5 a4;rw[bal]at ay;obtain⟨xg,xc,rfl,hxg,aB,a2⟩:=bF;have aR:=Qab aB;have a7:=Qab (aO.o.trans az);have bc:=Qab a4;have aN:=Qab bg;have a8:=Qab (Qbt (b:=b) av.o az (by omega));have aZ:∀ k,rv.ownBlock=some k->k<U.heap.size:=fun k hk=>(av.o.lt k hk).2
  clear h5 a4 bg az aB;go_wp2_with fail
  go_loopw [13] (fun i wi=>∃(k:Nat) (ag:Value),i=.int .i64 k/\k<=y5.1.length/\RC wi b t y5.2 ag mc mt/\wi.ownsRow w.heap.size 9 1 ag ((y5.1.take k).foldl Qcr ac).length (QaN ((y5.1.take k).foldl Qcr ac))/\((y5.1.take k).foldl Qcr ac=[]->ag=.slice none 0 0)/\Mod b w wi/\TxtAt wi xg y5.1/\(∀ g,ag.ownBlock=some g->g≠xg)/\muW wi b t.size=mu t.size y5.2/\xg<wi.heap.size) (fun i _=>y5.1.length - (intOf i).toNat)
  case atStart=>exact⟨0,rv,rfl,Nat.zero_le _,aN.o,a8.o,aQ.o,a7.o,aR.o,fun k hk e=>by have:=aZ k hk;omega,aN.o.muEq,Qau (aR.o 0 (List.length_pos_iff.2 a2))⟩
  case round=>
   obtain⟨k,ag,rfl,hk,ar,af,ae,ad,aB,a0,aX,hxl⟩:=hrel;have bA:=Qgq (y5.1.take k) ac;have htk:(y5.1.take k).length=k:=by rw[List.length_take];omega
   have ak:=Qab ar;have aj:=Qab af;have aE:=Qab ae;have au:=Qab ad;have aS:=Qab aB;have hwi:w.heap.size<=wr.heap.size:=ad.size;clear ar af ae ad aB aN a8 a7 aR HR a9 aQ aP aF aM aD;by_cases hkl:k<y5.1.length
   ·have hx:(y5.1.take (k+1)).foldl Qcr ac=Qcr ((y5.1.take k).foldl Qcr ac) (y5.1.getD k []):=by
     rw[List.take_add_one,List.foldl_append,List.getElem?_eq_getElem hkl,List.getD_eq_getElem?_getD,List.getElem?_eq_getElem hkl];rfl
    have aH:=Qab hx;have hck:wr.cell? ⟨xg,k,none⟩=some (.string (Qaf (y5.1.getD k []))):=aS.o k hkl;have h7:wr.cell? ⟨b,7,none⟩=some ag:=ak.o.at_.cell 7;generalize hR:(y5.1.take k).foldl Qcr ac=R at *;generalize y5.1.getD k []=x at *;have aC:=Qab (Qii wr b ag R x (Qm7 aj.o aE.o (by omega) (by omega)))
    obtain⟨ra,rn,rc,bD⟩:∃ a n c,ag=.slice a n c:=by
     obtain⟨_,h2⟩:=aj.o;rcases h2 with⟨h,_⟩ | ⟨g,cap,cur,h,_⟩
     ·exact⟨_,_,_,h⟩
     ·exact⟨_,_,_,h⟩
    subst bD;clear hx hR;by_cases hw0:0<wL R x
    ·rw[decide_eq_true hw0]at aC;have HA:Hid (Qcr R x=R):=by show _=_;unfold Qcr;rw[if_pos hw0]
     clear hw0;go_wp2_with (go_at_call 64;refine aC.o.mono ?_;rintro e w' ⟨rfl,bG⟩;subst w');go_roundw
     case rel=>exact⟨k+1,_,by go_num,by omega,ak.o,by rw[aH.o,HA.o];exact aj.o,fun hh=>aE.o (by rw[aH.o,HA.o]at hh;exact hh),au.o,aS.o,a0,aX,hxl⟩
     case measure=>simp[intOf];omega
    ·rw[decide_eq_false hw0]at aC;have HA:Hid (Qcr R x=R++[x]):=by show _=_;unfold Qcr;rw[if_neg hw0]
     clear hw0;have hfz:wr.frozen? ⟨b,7,none⟩=false:=ak.o.at_.frozen 7;go_wp2_with (first|(go_at_call 64;refine aC.o.mono ?_;rintro e w' ⟨rfl,bG⟩;subst w')|(at_builtin;refine wpList_append_own_at _ rfl _ _ 61 rfl w.heap.size 9 i0 (.string ⟨#[]⟩) 1 16 underlying61 hi bH bI bJ rfl (by decide) _ _ _ rfl (aj.o.alloc _) ⟨wr.heap.size,0,none⟩ 1 1 [.string (Qaf x)] rfl rfl ?c1 ?c2 ?c3 ?c4 ?c5 ?_))
     case c1=>exact cell_one_new _ _ _
     case c2=>intro u hu;simp at hu;subst hu;rfl
     case c3=>unfold maxLen;omega
     case c4=>omega
     case c5=>simp;omega
     ·intro v' w6 ab aa _ aV;have bC:R.length+1=(R++[x]).length:=by simp
      rw[show QaN R++[.string (Qaf x)]=QaN (R++[x])from Qci R x,bC]at ab;obtain⟨g',c',rfl,hg',_,_⟩:=slB.of_owns ab rfl (by simp);obtain⟨nn,aY⟩:∃ n,n=(R++[x]).length:=⟨_,rfl⟩;rw[<-aY]at ab aV ⊢;have aq:∀ k,(Value.slice ra rn rc).ownBlock=some k->w.heap.size<=k:=fun k hk=>(aj.o.lt k hk).1
      have bl:TxtAt w6 xg y5.1:=fun j hj=>by
       rw [World.cell?_of_block (w:=wr) (a:=⟨xg,j,none⟩) (by
        rw[aa.block xg (by simp;omega) (fun e=>a0 xg e.symm rfl)]
        exact Below.heap_alloc _ _ _ hxl)]
       exact aS.o j hj
      have hgx:g'≠xg:=by
       rcases aV with h|h
       ·exact a0 g' (by rw[<-h];rfl)
       ·simp[Value.ownBlock]at h;omega
      have aJ:=(ak.o.alloc (Obj.cells #[.string (Qaf x)] 9)).grown aa (fun k hk=>by have:=aq k hk;omega);have bd:=(au.o.alloc (Obj.cells #[.string (Qaf x)] 9)).grown aa (fun k hk=>aq k hk);have h76:w6.cell? ⟨b,7,none⟩=some (.slice ra rn rc):=aJ.at_.cell 7;have hfz6:w6.frozen? ⟨b,7,none⟩=false:=aJ.at_.frozen 7;have a1:xg<w6.heap.size:=by have:=aa.size;simp at this;omega
      have ba:=Qab (aJ.setReq (.slice (some ⟨g',0,none⟩) nn c'));have bm:=Qab (bd.setCell 7 (.slice (some ⟨g',0,none⟩) nn c'));have bq:=Qab (QjB (T:=b) (o:=7) (x:=.slice (some ⟨g',0,none⟩) nn c') ab (fun k hk=>by simp[Value.ownBlock]at hk;omega))
      have bt:Hid (TxtAt (w6.setCell ⟨b,7,none⟩ (.slice (some ⟨g',0,none⟩) nn c')) xg y5.1):=fun j hj=>by
       rw[World.cell?_setCell_other _ _ _ _ (by simp;try omega)];exact bl j hj
      have bK:(w6.setCell ⟨b,7,none⟩ (.slice (some ⟨g',0,none⟩) nn c')).heap.size=w6.heap.size:=by simp[World.setCell]
      have bp:=Qab aY;clear aY ab aa aV aq bl aJ bd;go_wp2;go_roundw
      case rel=>exact⟨k+1,_,by go_num,by omega,ba.o,by rw[aH.o,HA.o,<-bp.o];exact bq.o,fun hh=>by rw[aH.o,HA.o]at hh;simp at hh,bm.o,bt.o,fun g hg=>by simp[Value.ownBlock]at hg;omega,ba.o.muEq,by rw[bK];exact a1⟩
      case measure=>simp[intOf];omega
   ·have bB:k=y5.1.length:=by omega
    subst bB;have bE:y5.1.take y5.1.length=y5.1:=List.take_length;rw[bE]at aj aE bA;go_wp2_with fail;have HP:=Qab (QcV b wr.heap.size 1 1 [[59]] t y5.2 ag mc mt _ (ak.o.alloc (.cells (QaN [[59]]).toArray 9)) (QbI _ _ rfl) rfl (by decide));refine HP.o.mono ?_;intro e w8 h8;rcases h8.cases with⟨y8,v8,a5,rfl,bk,bh,aL⟩ | ⟨f8,bz,⟨bb,hz,rfl,ax⟩,aL⟩
    rotate_left
    ·exact⟨rfl,⟨(au.o.alloc _).trans aL,Or.inr ⟨f8,aw.o.trans ((Qac aI.o).trans ((if_neg H1.o).trans ((Qac bc.o).trans (Qad bz)))),⟨bb,Nat.le_trans (au.o.alloc _).size hz,rfl,ax⟩⟩⟩⟩
    have ap:=Qjd (l:=t.data.toList) (by simpa using ak.o.le) ak.o.e0 (by decide) a5;rw[bal]at ap;replace ap:=ap.1;have aU:=((Mod.refl b wr).alloc (.cells (QaN [[59]]).toArray 9)).trans aL;have bn:=Qab (au.o.trans aU);have br:=Qab (Qbt (b:=b) aj.o aU (by omega));have a6:=Qab bh;have bu:=Qab a5;unfold QlE at bk;subst bk;clear h8 a5 bh aL aU HP
    have bo:Hid (muW w8 b t.size<MR):=by
     show _<_
     rw[a6.o.muEq];omega
    go_wp2;go_roundw
    case rel=>exact⟨y8.2,y5.1.foldl Qcr ac,ag,f,a6.o,br.o,aE.o,bn.o,by omega,by omega,aw.o.trans ((Qac aI.o).trans ((if_neg H1.o).trans ((Qac bc.o).trans (Qac bu.o))))⟩
    case measure=>exact bo.o
def ps0:PS:=(⟨0,0,[],[],0⟩,0)
def Qk6 (X:Nat→Prop) (req:List (L8)) (w:World) (v:Value):Prop:=
 (req=[]∧v=.slice none 0 0)∨slX X req w v
def Qys (X:Nat→Prop) (y:List (L8)×List (Qbo 7)) (w:World) (v:Value):Prop:=
 ∃ rv lv,v=.agg #[rv,lv]∧Qk6 X y.1 w rv∧blX X (QhW 7) y.2 w lv
theorem Qk6.keep{X:Nat->Prop}{req:List (L8)}{w w':World}{v:Value}(h:Qk6 X req w v)(hk:AbvX X w w'):Qk6 X req w' v:=by
 rcases h with h|h
 ·exact Or.inl h
 ·exact Or.inr (h.keep hk)
theorem Qk6.weak{X Y:Nat->Prop}{req:List (L8)}{w:World}{v:Value}(h:Qk6 X req w v)(hB:∀ k,X k->k<w.heap.size->Y k):Qk6 Y req w v:=by
 rcases h with h|h
 ·exact Or.inl h
 ·exact Or.inr (h.weak hB)
theorem Qk6.of{w:World}{b B:Nat}{rv:Value}{req:List (L8)}(h:QmC w b rv req)(hB:∀ k,rv.ownBlock=some k->B<=k):Qk6 (fromB B) req w rv:=by
 rcases h with⟨h1,h2⟩ | ⟨g,c,hv,_,ht,aa,_⟩
 ·exact Or.inl ⟨h2,h1⟩
 ·exact Or.inr ⟨g,c,hv,hB g (by rw[hv];rfl),ht,aa⟩
theorem Qk6.form{X:Nat->Prop}{req:List (L8)}{w:World}{v:Value}(h:Qk6 X req w v):∃ a n c,v=.slice a n c:=by
 rcases h with⟨_,h⟩ | ⟨g,c,h,_⟩
 ·exact⟨_,_,_,h⟩
 ·exact⟨_,_,_,h⟩
def QyU (r:Except Flt (List (L8)×List (Qbo 7))) (b:Nat) (w:World) (e:Ending) (w':World):Prop:=
 Mod b w w'∧((∃ y v,r=.ok y∧e=.returned v∧Qys (fromB w.heap.size) y w' v)∨(∃ f,r=.error f∧Qc8 f w e w'))
theorem QkR{l:L8}{f:Flt}(h:nL l 0=.error f):prL l=.error f:=by unfold prL;rw[h]
theorem Qmg{l:L8}{s:PS}{f:Flt}(h:nL l 0=.ok s)(h2:reqMore l (2*l.length+10) (2*l.length+10) [] s=.error f):prL l=.error f:=by unfold prL;rw[h];dsimp only;rw[h2]
theorem Qmu{l:L8}{s:PS}{y:List (L8)×PS}{f:Flt}(h:nL l 0=.ok s)(h2:reqMore l (2*l.length+10) (2*l.length+10) [] s=.ok y)(h3:cMr (cmdL l y.1 (2*l.length+10) 7) (2*l.length+10) [] y.2=.error f):prL l=.error f:=by unfold prL;rw[h];dsimp only;rw[h2];dsimp only;rw[h3]
theorem Quz{l:L8}{s:PS}{y:List (L8)×PS}{cs:List (Qbo 7)}(h:nL l 0=.ok s)(h2:reqMore l (2*l.length+10) (2*l.length+10) [] s=.ok y)(h3:cMr (cmdL l y.1 (2*l.length+10) 7) (2*l.length+10) [] y.2=.ok cs):prL l=.ok (y.1,cs):=by unfold prL;rw[h];dsimp only;rw[h2];dsimp only;rw[h3]
theorem QoK{α:Type}{sub:PS->Except Flt (α×PS)}{f:Nat}{aa:List α}{s:PS}(h:s.1.kind=0):cMr sub (f+1) aa s=.ok aa:=by rw[cMr,if_pos h]
theorem Qna{α:Type}{sub:PS->Except Flt (α×PS)}{f:Nat}{aa:List α}{s:PS}{e:Flt}(h:¬ s.1.kind=0)(h2:sub s=.error e):cMr sub (f+1) aa s=.error e:=by rw[cMr,if_neg h,h2]
theorem QoY{α:Type}{sub:PS->Except Flt (α×PS)}{f:Nat}{aa:List α}{s:PS}{y:α×PS}(h:¬ s.1.kind=0)(h2:sub s=.ok y):cMr sub (f+1) aa s=cMr sub f (aa++[y.1]) y.2:=by rw[cMr,if_neg h,h2]
theorem Qsy(b:Nat)(t:ByteArray)(mc mt pr pt pf p1 k1 p2 k2 p3 k3:Nat)(w:World)(h:RC w b t ps0 (.slice none 0 0) mc mt)(ht:Qo5 w b mt pr pt pf)(aS:QsJ w b mc p1 k1 p2 k2 p3 k3) :
 Calls Tryz.prog 90 #[.pointer (some ⟨b,0,none⟩)] w (QyU (prL t.data.toList) b w):=by
 have H:=Qab h;have HT:=Qab ht;have aZ:=Qab aS;have hlt:=h.at_.lt;have ar:2*t.size+1<2*t.data.toList.length+10:=by rw[bal];omega
 generalize hFe:2*t.data.toList.length+10=F at ar;clear h ht aS;obtain⟨i0,hi,bg,bh,bi⟩:=info_parts Tryz.infoCommand;go_enter func90,ntmps90;go_wp2_with fail;have aL:=Qab ((Mod.refl b w).alloc (.cells #[.slice none 0 0,.slice none 0 0] 91));have aX:=Qab (Qat w (.cells #[.slice none 0 0,.slice none 0 0] 91));refine(QcU b t ps0 _ mc mt _ (H.o.alloc _)).mono ?_;rintro e w1 (⟨y,hy,rfl,hc,hm⟩ | ⟨f2,aA,⟨bb,hz,rfl,aj⟩,hm⟩);rotate_left
 ·exact⟨rfl,aL.o.trans hm,Or.inr ⟨f2,QkR aA,⟨bb,by simp at hz;omega,rfl,aj⟩⟩⟩
 have HY:=Qab hy;have HC:=Qab hc;have HM:=Qab (aL.o.trans hm);have aH:=Qab (QaU aX.o hm (by omega));clear hy hc hm;go_wp2_with fail;refine(Qqb b F t y mc mt _ HC.o ar).mono ?_;rintro e w2 ⟨av,⟨y2,rv,aW,rfl,au,aD,aU⟩ | ⟨f2,aA,⟨bb,hz,rfl,aj⟩⟩⟩;rotate_left
 ·exact⟨rfl,HM.o.trans av,Or.inr ⟨f2,Qmg HY.o (by rw[hFe];exact aA),⟨bb,Nat.le_trans HM.o.size hz,rfl,aj⟩⟩⟩
 have hz1':=QaI aH.o;have aQ:=Qab aW;have aJ:=Qab au;have ai:=Qab (HM.o.trans av);have aI:=Qab (QaU aH.o av (by omega));have a5:=Qab aD;have a7:Hid (∀ k,rv.ownBlock=some k->w.heap.size+1<=k):=fun k hk=>by have:=aU k hk;omega
 have HO:=Qab (Qji y2.1 b F t rv mc mt pr pt pf p1 k1 p2 k2 p3 k3 ar 7 (Nat.le_refl _) w2 (HT.o.mod ai.o) (aZ.o.mod ai.o) aD);rw[show(7:Int) - ((7:Nat):Int)=0 from rfl]at HO;have aC:=au.mu_le;have ak:=au.mu_lt ar;have hz2':=QaI aI.o;clear aW au av aD aU;go_wp2_with fail
 go_loopw [3] (fun v wr=>∃(s':PS) (ad:List (Qbo 7)) (vs:List Value) (f:Nat),wr.ownsRow w2.heap.size 179 1 v ad.length vs/\QlN (fun a u=>Qhz (QhW 7) w2.heap.size wr v a u) ad vs/\(ad=[]->v=.slice none 0 0)/\RC wr b t s' rv mc mt/\Mod b w2 wr/\mu t.size s'<f/\ad.length+mu t.size s'<=1300/\cMr (cmdL t.data.toList y2.1 F 7) F [] y2.2=cMr (cmdL t.data.toList y2.1 F 7) f ad s') (fun _ wr=>muW wr b t.size)
 case atStart=>
  exact⟨y2.2,[],[],F,World.ownsRow_nil _ _ _ _,trivial,fun _=>rfl,aJ.o,Mod.refl _ _,ak,by simp;omega,rfl⟩
 case round=>
  obtain⟨s',ad,vs,f,ap,ab,ao,aE,ag,hf,hbd,aV⟩:=hrel;obtain⟨f,rfl⟩:∃ g,f=g+1:=⟨f - 1,by omega⟩;have HR:=Qab aE;have af:=Qab ag;have ay:=Qab aV;have ax:=Qab ap;have aO:=Qab ab;have a3:=Qab ao;have aq:=Qab (QaU aI.o ag (by omega));have hzr:=QaI aq.o;have hk1:wr.cell? ⟨b,1,none⟩=some (.int .i64 s'.1.kind):=aE.at_.cell 1;clear aE ag aV ap ab ao aJ aC ak;by_cases h1:s'.1.kind=0
  ·have bc:((s'.1.kind:Int) != 0)=false:=by simp;omega
   have H1:=Qab h1;have aP:=Qab (blX.of_owns (QaX 7) ax.o rfl a3.o aO.o);obtain⟨la,ln,lc,rfl⟩:=aP.o.form;have aN:=Qab (Qk6.of (a5.o.mod af.o) a7.o);obtain⟨ra,rn,rc,rfl⟩:=aN.o.form;have h7:wr.cell? ⟨b,7,none⟩=some (.slice ra rn rc):=HR.o.at_.cell 7;have r0:wr.cell? ⟨w.heap.size,0,none⟩=some (.slice none 0 0):=Qaa aq.o 0;have r1:wr.cell? ⟨w.heap.size,1,none⟩=some (.slice none 0 0):=Qaa aq.o 1;have rf:=Qao aq.o;clear h1;go_wp2;have hq:¬ fromB (w.heap.size+1) w.heap.size:=by unfold fromB;omega
   have bf:∀ k,fromB (w.heap.size+1) k->k<((wr.setCell ⟨w.heap.size,0,none⟩ (.slice ra rn rc)).setCell ⟨w.heap.size,1,none⟩ (.slice la ln lc)).heap.size->fromB w.heap.size k:=fun k hk _=>by unfold fromB at *;omega
   refine bodyPost_ret (v:=.agg #[.slice ra rn rc,.slice la ln lc]) (by simp[results,results90,go_sem,r0,r1]) rfl ⟨((ai.o.trans af.o).setNew (Nat.le_refl _) _ _).setNew (Nat.le_refl _) _ _,Or.inl ⟨(y2.1,ad),_,Quz HY.o (by rw[hFe];exact aQ.o) (by rw[hFe,ay.o];exact QoK H1.o),rfl,⟨_,_,rfl,?_,?_⟩⟩⟩
   ·exact((aN.o.keep (AbvX.set hq _ _)).keep (AbvX.set hq _ _)).weak bf
   ·have hq:¬ fromB w2.heap.size w.heap.size:=by unfold fromB;omega
    refine blX.weak (QaX 7) ((aP.o.keep (QaX 7) (AbvX.set hq _ _)).keep (QaX 7) (AbvX.set hq _ _)) (fun k hk _=>by unfold fromB at *;omega)
  have bc:((s'.1.kind:Int) != 0)=true:=by simp;omega
  have H1:=Qab h1;clear h1;go_wp2_with fail;refine(HO.o _ s' af.o HR.o).mono ?_;intro e w4 h4;rcases h4.cases with⟨z4,v4,aG,rfl,aF,aR,ah⟩ | ⟨f4,bd,⟨bb,hz,rfl,aj⟩,ah⟩
  rotate_left
  ·exact⟨rfl,(ai.o.trans af.o).trans ah,Or.inr ⟨f4,Qmu HY.o (by rw[hFe];exact aQ.o) (by rw[hFe,ay.o];exact Qna H1.o bd),⟨bb,Nat.le_trans (ai.o.trans af.o).size hz,rfl,aj⟩⟩⟩
  have hmu4:=QwD t y2.1 F 7 s' z4 HR.o.le HR.o.e0 aG;have a8:=Qab aF;obtain⟨aw,x4,rfl⟩:=(QaX 7).form _ _ _ _ aF;have aM:=Qab (af.o.trans ah);have ba:=Qab aG;have aY:=Qab aR;have ac:=Qbt (b:=b) ax.o ah (by omega);have a9:=Qab (aO.o.imp (fun a u hu=>Qhz.mod (QaX 7) (b:=b) (w':=w4) hu ah (by omega)));have aB:=Qab (fun k hk=>(ax.o.lt k hk).2);have a0:=Qab (Qhz.new (QaX 7) (base:=w2.heap.size) a8.o af.o.size aB.o);have hz4:w2.heap.size<=w4.heap.size:=aM.o.size;clear h4 aG aR ah aF;go_wp2_with (at_builtin;refine wpList_append_own_at _ rfl _ _ 89 rfl w2.heap.size 179 i0 .nilIface 1 16 underlying89 hi bg bh bi rfl (by decide) _ _ _ rfl (ac.alloc _) ⟨w4.heap.size,0,none⟩ 1 1 [.iface aw x4] rfl rfl ?c1 ?c2 ?c3 ?c4 ?c5 ?_)
  case c1=>exact cell_one_new _ _ _
  case c2=>intro u hu;simp at hu;subst hu;rfl
  case c3=>unfold maxLen;omega
  case c4=>omega
  case c5=>simp;omega
  ·intro v' w5 ae aa _ az;have ab:∀ k,(u3).ownBlock=some k->w2.heap.size<=k:=fun k hk=>(ac.lt k hk).1
   have a1:=Qab ((aM.o.alloc (Obj.cells #[.iface aw x4] 179)).grown aa (fun k hk=>ab k hk));have aK:=Qab ((aY.o.alloc (Obj.cells #[.iface aw x4] 179)).grown aa (fun k hk=>by have:=ab k hk;omega));have a4:=Qab ae;have a6:=Qab (QlN.snoc (P:=fun a u=>Qhz (QhW 7) w2.heap.size w5 v' a u) (a0.o.grown (QaX 7) aa az) (a9.o.imp (fun a u hu=>Qhz.grown (QaX 7) hu aa az)));have aT:muW w5 b t.size<muW wr b t.size:=by rw[aK.o.muEq,HR.o.muEq];omega
   have a2:=Qab aT;clear ae aa aT ac ab az;go_wp2;go_roundw
   case rel=>exact⟨z4.2,ad++[z4.1],vs++[.iface aw x4],f,by simpa using a4.o,a6.o,fun hh=>absurd hh (by simp),aK.o,a1.o,by omega,by simp;omega,ay.o.trans (QoY H1.o ba.o)⟩
   case measure=>exact a2.o
def CmdIH (req:List (L8)) (n:Nat):Prop:=
 ∀ (X:Nat→Prop) (x:Qbo n) (i:L8) (w:World) (v:Value),QhW n X x w v→allC (WfT req) (WfC req) n x→Tab w→(Qa0 n x i).length≤4294967200→
  Calls Tryz.prog 99 #[v,.string (Qaf i)] w fun e w'=>e=.returned (.string (Qaf (Qa0 n x i)))∧Below w.heap.size w w'
theorem Qkt{req:List (L8)}{n:Nat}(ih:CmdIH req n)(X:Nat->Prop)(cs:List (Qbo n))(i:L8)(w:World)(v:Value)(h:blX X (QhW n) cs w v)(ha:∀ c∈cs,allC (WfT req) (WfC req) n c)(ht:Tab w)(hl:(linesL (Qa0 n) cs i).length<=4294967200):Qlp w v i (linesL (Qa0 n) cs i):=fun W hW=>by
 rw[Qq4]at hl ⊢;rcases h with⟨rfl,rfl⟩ | ⟨ag,g,c,rfl,hg,hx⟩
 ·exact QuU i W
 ·have aa:(cs.map fun c=>Qa0 n c i).length=cs.length:=by simp
  rw[<-aa];refine Qsc i g c _ W (by simpa using ag) (by omega) (fun j hj=>?_);rw[aa]at hj;obtain⟨u,ad,ae⟩:=hx j hj;obtain⟨ty,y,rfl⟩:=(QaX n).form _ _ _ _ ae;refine⟨ty,y,by rw[hW.cell (p:=⟨g,j,none⟩) (Qau ad)];exact ad,?_⟩;have ab:cs[j]∈cs:=List.getElem_mem hj
  have hd:(cs.map fun c=>Qa0 n c i).getD j []=Qa0 n cs[j] i:=by
   rw[List.getD_eq_getElem?_getD,List.getElem?_map,List.getElem?_eq_getElem hj];rfl
  rw[hd];intro W2 af;have ac:=hW.trans (af.mono hW.size);exact ih X cs[j] i W2 _ ((QaX n).keep _ _ _ _ _ ae (fun k _ hk=>ac.block k hk)) (ha _ ab) (ht.below ac) (Nat.le_trans (QhE i (cs.map fun c=>Qa0 n c i) _ (List.mem_map_of_mem (f:=fun c=>Qa0 n c i) ab)) hl)
theorem Qjn(req:List (L8)):∀ n,CmdIH req n
 |0=>fun X x i w v h ha _ _=>ha.elim
 |n+1=>fun X x i w v h ha ht hlen=>by
  have ih:=Qjn req n;obtain⟨hw,ab,ac⟩:=ha;have h:QhV X (TestV n) (QhW n) x w v:=h;have hlen:(Qbh x.1 i (x.2.1.map fun a=>(Qay n a.1,linesL (Qa0 n) a.2 (i++[32,32]))) (linesL (Qa0 n) x.2.2 (i++[32,32]))).length<=4294967200:=hlen;show Calls Tryz.prog 99 #[v,.string (Qaf i)] w fun e w'=>e=.returned (.string (Qaf (Qbh x.1 i (x.2.1.map fun a=>(Qay n a.1,linesL (Qa0 n) a.2 (i++[32,32]))) (linesL (Qa0 n) x.2.2 (i++[32,32])))))/\Below w.heap.size w w'
  generalize hal:(x.2.1.map fun a=>(Qay n a.1,linesL (Qa0 n) a.2 (i++[32,32])))=al at hlen;generalize heb:linesL (Qa0 n) x.2.2 (i++[32,32])=eb at hlen;unfold QhV at h
  split at h
  ·rename_i e;subst h;have et:Qbh x.1 i al eb=Qfk++[59]:=by unfold Qbh;rw[e];rfl
   rw[et];exact QnD Qfk i [] _ w (by decide)
  ·rename_i e;subst h;have et:Qbh x.1 i al eb=Qb0++[59]:=by unfold Qbh;rw[e];rfl
   rw[et];exact Qjt Qb0 i _ w (by decide)
  ·rename_i e;subst h;have et:Qbh x.1 i al eb=Qd6++[59]:=by unfold Qbh;rw[e];rfl
   rw[et];exact Qm6 Qd6 i _ w (by decide)
  ·rename_i e;subst h;have et:Qbh x.1 i al eb=phraseL [QaO,quotedL x.1.arg]++[59]:=by unfold Qbh;rw[e];rfl
   rw[et]at hlen ⊢;rw[List.length_append]at hlen;exact QgF QaO i _ _ 2 w (by omega) (by omega) (by omega)
  ·rename_i e;subst h;have et:Qbh x.1 i al eb=phraseL [Qbl,quotedL x.1.arg]++[59]:=by unfold Qbh;rw[e];rfl
   rw[et]at hlen ⊢;rw[List.length_append]at hlen;exact QgF Qbl i _ _ 3 w (by omega) (by omega) (by omega)
  ·rename_i e;subst h;have et:Qbh x.1 i al eb=phraseL [Qbc,quotedL x.1.arg]++[59]:=by unfold Qbh;rw[e];rfl
   rw[et]at hlen ⊢;rw[List.length_append]at hlen;exact QgF Qbc i _ _ 4 w (by omega) (by omega) (by omega)
  ·rename_i e;subst h;have et:Qbh x.1 i al eb=phraseL [QhB,tagTextL x.1.tag [QbT,QbU,Qbr],quotedL x.1.var,quotedL x.1.arg]++[59]:=by unfold Qbh;rw[e];rfl
   rw[et]at hlen ⊢;rw[List.length_append]at hlen;exact Qps QhB i _ _ _ _ w hw.tag (by omega)
  ·rename_i h0 h1 h2 h3 h4 h5 h6;obtain⟨av,ev,rfl,ak,ao,ag⟩:=h
   have e:x.1.kind=7:=by
    have a0:x.1.kind≠0:=h0;have a1:x.1.kind≠1:=h1;have a2:x.1.kind≠2:=h2;have a3:x.1.kind≠3:=h3;have a4:x.1.kind≠4:=h4;have a5:x.1.kind≠5:=h5;have a6:x.1.kind≠6:=h6;have:=hw.kind;omega
   have et:Qbh x.1 i al eb=Qa9 i kIf al++(if x.1.els then QeI++eb++i else [])++[125]:=by unfold Qbh;rw[e];rfl
   rw[et]at hlen ⊢;obtain⟨g,c,rfl,hg,hx⟩:=ak;obtain⟨ea,en,ec,rfl⟩:=ag.form;have aa:al.length=x.2.1.length:=by rw[<-hal];simp
   have hl1:(Qa9 i kIf al).length<=4294967200:=by rw[List.length_append,List.length_append]at hlen;omega
   rw[<-aa];refine Qtd kIf i _ _ g _ c _ ea en ec w (fun W hW=>?_);refine QkX i _ g c x.1.els ea en ec al eb W (by rw[<-hal];simpa using ao) (fun j hj=>?_) (fun he=>?_) (by omega)
   ·have ah:j<x.2.1.length:=by rw[<-aa];exact hj
    obtain⟨u,bv,hu,hb,hp,hq⟩:=hx j ah;obtain⟨ty,y,rfl⟩:=(Qbf n).form _ _ _ _ hp;obtain⟨a,m,c',rfl⟩:=hq.form;have ae:x.2.1[j]∈x.2.1:=List.getElem_mem ah
    have ad:al[j]=(Qay n x.2.1[j].1,linesL (Qa0 n) x.2.1[j].2 (i++[32,32])):=by
     simp only[<-hal,List.getElem_map]
    have aj:=QgO i al kIf al[j] (List.getElem_mem hj);rw[ad]at aj ⊢;obtain⟨m1,m2⟩:=aj;have hT:=ab _ ae;refine⟨ty,y,a,m,c',by rw[hW.cell (p:=⟨g,2*j,none⟩) (Qau hu)];exact hu,by rw[hW.cell (p:=⟨g,2*j+1,none⟩) (Qau hb)];exact hb,fun W2 hW2=>?_,?_⟩
    ·have af:=hW.trans (hW2.mono hW.size);exact Qip n X _ W2 _ ((Qbf n).keep _ _ _ _ _ hp (fun k _ hk=>af.block k hk)) hT.1 (ht.below af) (by dsimp only at m1;omega)
    ·exact(Qkt ih X _ _ w _ hq hT.2 ht (by dsimp only at m2;omega)).below hW
   ·have ai:eb.length<=4294967200:=by
     rw[he]at hlen;simp only[if_true,List.length_append]at hlen;omega
    rw[<-heb]at ai ⊢;exact(Qkt ih X _ _ w _ ag ac ht ai).below hW
theorem Qoa(y:List (L8)×List (Qbo 7))(rv lv:Value)(w:World)(X:Nat->Prop)(hr:Qk6 X y.1 w rv)(hb:blX X (QhW 7) y.2 w lv)(ht:Tab w)(ha:∀ c∈y.2,allC (WfT y.1) (WfC y.1) 7 c)(hl:(textL y).length<=4294967200) :
 Calls Tryz.prog 39 #[.agg #[rv,lv]] w fun e w'=>e=.returned (.string (Qaf (textL y)))/\Below w.heap.size w w':=by
 have ah:=Qkt (Qjn y.1 7) X y.2 [] w lv hb ha ht (by unfold textL at hl;rw[List.length_append]at hl;omega);have HX:Hid (textL y=requireTxt y.1++linesL (Qa0 7) y.2 []):=rfl;have ag:(requireTxt y.1).length+(linesL (Qa0 7) y.2 []).length<=4294967200:=by unfold textL at hl;rw[List.length_append]at hl;exact hl
 obtain⟨la,ln,lc,rfl⟩:=hb.form;generalize linesL (Qa0 7) y.2 []=L at HX ah ag;have ap:=Qab ah;clear ah hb ha;have aq:∀ o,Below w.heap.size w (w.alloc o):=fun o=>(Below.refl _ _).alloc (Nat.le_refl _) o
 have ad:=Qab aq;have hsA:∀ x:L8,(Qaf x).size=x.length:=Qaj;clear aq;rcases hr with⟨h0,rfl⟩ | ⟨gr,cr,rfl,hgr,au,ai⟩
 ·have hR:requireTxt y.1=[]:=by unfold requireTxt;rw[if_pos h0]
  rw[hR,List.nil_append]at HX;have ae:Hid (textL y=L):=HX.o;clear HX hl;have q1:¬ 9223372036854775807<L.length:=by omega
  have af:(⟨#[]⟩:ByteArray)++Qaf L=Qaf L:=QaJ [] L;go_enter func39,ntmps39;go_wp2_with fail;refine(ap.o _ (ad.o _)).mono ?_;rintro e w1 ⟨rfl,aa⟩;have ab:=Qab ((ad.o _).trans (aa.mono (by simp)));clear aa;go_wp2;go_ret;exact⟨by rw[ae.o];rfl,ab.o⟩
 ·have hR:requireTxt y.1=kRequire++[32]++Qam y.1++[59,10]:=by unfold requireTxt;rw[if_neg ai]
  have ao:(requireTxt y.1).length=10+(Qam y.1).length:=by
   rw[hR];simp only[List.length_append,List.length_cons,List.length_nil,show kRequire.length=7 from rfl];omega
  have ak:(Qam y.1).length<=4294967280:=by omega
  have aj:(0:Int)<(y.1.length:Int):=by have:=List.length_pos_iff.2 ai;omega
  have ax:Hid (∀ o,TxtAt (w.alloc o) gr y.1):=fun o=>au.alloc o
  generalize hQ:Qam y.1=Q at hR ao ak;obtain⟨A,hA⟩:∃ A,kRequire++[32]++Q=A:=⟨_,rfl⟩;rw[hA]at hR;have aA:A.length=8+Q.length:=by rw[<-hA];simp only[List.length_append,List.length_cons,List.length_nil,show kRequire.length=7 from rfl]
  generalize requireTxt y.1=R at HX hR ao ag;obtain⟨Z,hZ⟩:∃ Z,R++L=Z:=⟨_,rfl⟩;have ae:Hid (textL y=Z):=by rw[<-hZ];exact HX.o
  have af:(⟨#[114,101,113,117,105,114,101,32]⟩:ByteArray)++Qaf Q=Qaf A:=by rw[<-hA];exact QaJ (kRequire++[32]) Q
  have hap2:Qaf A++(⟨#[59,10]⟩:ByteArray)=Qaf R:=by rw[hR];exact QaJ A [59,10]
  have hap3:Qaf R++Qaf L=Qaf Z:=by rw[<-hZ];exact QaJ R L
  have q1:¬ 9223372036854775807<8+Q.length:=by omega
  have q2:¬ 9223372036854775807<A.length+2:=by omega
  have q3:¬ 9223372036854775807<R.length+L.length:=by omega
  have HQ:=Qab hQ;have aw:Hid ((Qam y.1).length<=4294967280):=by show(Qam y.1).length<=_;rw[hQ];exact ak
  clear HX hl hQ hA hR ao aA hZ ag au ak;generalize hyn:y.1.length=yn at aj;have ay:=Qab hyn;clear hyn;go_enter func39,ntmps39;go_wp2_with fail;refine(Qcm y.1 gr yn cr _ (ax.o _) ay.o.symm ai aw.o).mono ?_;rintro e w1 ⟨rfl,aa⟩;rw[HQ.o];have ab:=Qab ((ad.o _).trans (aa.mono (by simp)));have ac:=Qal (Qat w (.cells #[.slice (some ⟨gr,0,none⟩) yn cr,.slice la ln lc] 91)) aa;have c1:w1.cell? ⟨w.heap.size,1,none⟩=some (.slice la ln lc):=Qaa ac 1;have az:=ab.o.size;clear aa ac;go_wp2_with fail;refine(ap.o _ ab.o).mono ?_;rintro e w2 ⟨rfl,ar⟩;have av:=Qab (ab.o.trans (ar.mono az));clear ar;go_wp2;go_ret;exact⟨by rw[ae.o];rfl,av.o⟩
theorem QkT(g:Nat)(y:List (L8)×List (Qbo 7))(rv lv:Value)(w:World)(X:Nat->Prop)(h:w.heap[g]?=some (.cells #[rv,lv] 124))(hr:Qk6 X y.1 w rv)(hb:blX X (QhW 7) y.2 w lv)(ht:Tab w)(ha:∀ c∈y.2,allC (WfT y.1) (WfC y.1) 7 c)(hl:(textL y).length<=4294967200) :
 Calls Tryz.prog 20 #[.pointer (some ⟨g,0,none⟩)] w fun e w'=>e=.returned (.string (Qaf (textL y)))/\Below w.heap.size w w':=by
 obtain⟨a1,n1,c1,rfl⟩:∃ a n c,rv=.slice a n c:=by
  rcases hr with⟨_,rfl⟩ | ⟨g',c',rfl,_⟩
  ·exact⟨_,_,_,rfl⟩
  ·exact⟨_,_,_,rfl⟩
 obtain⟨a2,n2,c2,rfl⟩:=hb.form;have H:=Qab h;have HR:=Qab hr;have af:=Qab hb;have HT:=Qab ht;clear h hr hb ht;go_enter func20,ntmps20;go_wp2_with fail;refine(QlQ g a1 a2 n1 c1 n2 c2 w H.o).mono ?_;rintro e w1 ⟨rfl,aa⟩;have ad:=Qab aa;have ai:=aa.size;have ag:=Qab (HR.o.keep (fun k _ hk=>aa.block k hk));have ab:=Qab (af.o.keep (QaX 7) (fun k _ hk=>aa.block k hk));have ah:=Qab (HT.o.below aa);clear aa;go_wp2_with fail;refine(Qoa y _ _ _ X ag.o ab.o ah.o ha hl).mono ?_;rintro e w2 ⟨rfl,ac⟩;have ae:=Qab (ad.o.trans (ac.mono ai));clear ac;go_wp2;go_ret;exact⟨rfl,ae.o⟩
end
end Go.Proofs.YtgnkjijocdmniaaGreatDoor
