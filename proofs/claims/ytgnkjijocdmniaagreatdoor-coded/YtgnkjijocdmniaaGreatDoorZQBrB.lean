import Derived.Test.YtgnkjijocdmniaaGreatDoorZQCmdL
namespace Go.Proofs.YtgnkjijocdmniaaGreatDoor
set_option linter.unusedVariables false
set_option linter.unusedSimpArgs false
set_option maxRecDepth 100000
set_option maxHeartbeats 4000000
open Go.Proofs.Tryz
variable{α:Type}{F n pos:Nat}{l:L8}{st:Qb PS}{sub:PS->Qb (α×PS)}{xs:List Value}
section
open Go.RowKit
attribute [local go_sem ↓] Go.wp_at_zero Go.wp_at_succ
theorem Tryz.infoPtrTest:(prog.info? 158).map (fun i=>(i.zero,i.size,i.bytes))=some (some (.pointer none),1,8):=by kernel_rfl
theorem QuE:stOf (bindS st (tBd l F sub 3 pos))=stOf (bindS st (groupL l F sub))/\∀ y,bindS st (tBd l F sub 3 pos)=.ok y->∃ z,bindS st (groupL l F sub)=.ok z/\y.1=(⟨3,pos,0,false,[],[],0⟩,z.1):=by
 cases st with
 |error g=>exact⟨rfl,fun y e=>by cases e⟩
 |ok s=>
  simp only[bindS,tBd]
  cases groupL l F sub s with
  |error g=>exact⟨rfl,fun y e=>by cases e⟩
  |ok z=>exact⟨rfl,fun y e=>⟨z,rfl,by cases e;rfl⟩⟩
theorem Qu2:stOf (bindS st (tBd l F sub 4 pos))=stOf (bindS st (groupL l F sub))/\∀ y,bindS st (tBd l F sub 4 pos)=.ok y->∃ z,bindS st (groupL l F sub)=.ok z/\y.1=(⟨4,pos,0,false,[],[],0⟩,z.1):=by
 cases st with
 |error g=>exact⟨rfl,fun y e=>by cases e⟩
 |ok s=>
  simp only[bindS,tBd]
  cases groupL l F sub s with
  |error g=>exact⟨rfl,fun y e=>by cases e⟩
  |ok z=>exact⟨rfl,fun y e=>⟨z,rfl,by cases e;rfl⟩⟩
theorem JA{w:World}{base T o:Nat}{x:Value}{e:TypeId}{size:Nat}{v:Value}(h:w.ownsRow base e size v n xs)(k:T<base):(w.setCell ⟨T,o,none⟩ x).ownsRow base e size v n xs:=by
 obtain⟨d,a⟩:=h;refine⟨d,?_⟩;rcases a with a | ⟨g,b,c,j,f,i,r⟩
 ·exact Qd a
 ·exact Qc ⟨g,b,c,j,f,by rw[Below.heap_setCell _ _ _ _ (show g≠T by omega)];exact i,r⟩
def US(w:World)(gb:Nat)(nm:L8)(tv:Value):Prop:=w.heap[gb]?=some (.cells #[.string (sA nm),tv,.slice none 0 0,.slice none 0 0,.int .i64 0,.bool false,.int .i64 0] 200)
theorem Ok(rb tb:Nat)(nv:Value)(rq:Qa)(l:L8)(F n aa:Nat)(st:Qb PS)(w:World)(hr:RdI w rb tb nv rq)(h:TSt w tb l st)(Q:l.length<=600)(hF:2*l.length+2<=F)(hd:aa+n=6)(hI:TOk rb tb nv rq l F n (aa+1))(d:(O l st).1=119)(hw:(O l st).2.1=YF) :
 Calls prog 214 #[.pointer (some ⟨rb,0,none⟩),.int .i64 aa] w (QS (bindS st (Qq l rq F (n+1))) tb l w (RTest (n+1) (fromB w.heap.size)) XA):=by
 have HX:Hid (bindS st (Qq l rq F (n+1))=bindS (nextS l st) (tBd l F (Qq l rq F n) 3 (O l st).2.2.2)):=by
  show _=_
  rw[Kq h d (by rw[hw];decide),hw,UV (by decide) (by decide)];rfl
 have r0:=Qj hr.r;obtain⟨c2,c4,c5,c6,c7⟩:=h.cells;have H:=I h;have HR:=I hr;have bq:=Qh hr.r;have br:=h.lt;have N:w.heap.size≠tb:=by omega
 obtain⟨s0,aZ,_,_⟩:=ZZ h d;have he:errS st=0:=by rw[aZ];rfl
 have aS:((errS st:Int) != 0)=false:=by simp;omega
 have aT:(((O l st).1:Int) != 119)=false:=by simp;omega
 have bo:decide ((6:Int)<(aa:Int))=false:=Qr (by omega);obtain⟨p,aX⟩:=Qf ((O l st).2.1);rw[aX]at c5 hw;have C:=hw;have e0:=Ql [116,114,117,101] C rfl
 have e1:=Ql [102,97,108,115,101] C rfl
 have e2:=Ql [110,111,116] C rfl
 have e3:=Zz [97,108,108,111,102] C rfl
 obtain⟨D,ab⟩:=QE (w.alloc (.cells #[.string (sA p),.slice none 0 0,.slice none 0 0,.slice none 0 0,.int .i64 0,.bool false,.int .i64 0] 200));have bd:=I ab;have aF:Hid (Mod tb w D):=by show Mod _ _ _;rw[ab];exact(Mod.refl _ _).alloc _
 have aH:Hid (XF D w.heap.size p 0 false):=by show D.heap[w.heap.size]?=_;rw[ab];exact QA _ _
 have aM:Hid (TSt D tb l st):=by show TSt _ _ _ _;rw[ab];exact h.below (Qs _)
 clear h hr ab aZ he d aX;have bc:=I hw;clear hw C;have HI:=I hI;clear hI;have bn:aa<=6:=by omega
 have HP:=I (QuE (l:=l) (F:=F) (pos:=(O l st).2.2.2) (sub:=Qq l rq F n) (st:=nextS l st));have a3:=I (fun s hs=>U4 (l:=l) (req:=rq) (F:=F) n s hs);obtain⟨i0,hi,bk,bl,bm⟩:=info_parts Tryz.infoPtrTest;go_enter func214,ntmps214;go_wp2_with fail;rw[<-bd.o];refine(ZU tb l st D aM.o Q).mono ?_;rintro e w1 ⟨rfl,ax,a0⟩;have ap:=I (aF.o.trans ax);have aI:=I (Qu aH.o ax N);have aN:=I a0;clear ax a0;go_wp2_with fail;refine(Yi rb tb nv l 40 _ _ (HR.o.mod ap.o).r aN.o Q).mono ?_;rintro e w2 ⟨rfl,ay,ak⟩;have aq:=I (ap.o.trans ay);have af:Hid (US w2 w.heap.size p (.slice none 0 0)):=Qu aI.o ay N;have au:=I ak;have ao:=I (E0 (F:=F) (sub:=Qq l rq F n) aN.o ak Q hF);have aW:=VK ak Q;have bs:w.heap.size+1<=w2.heap.size:=Qh af.o;clear ay ak ap aI aH aF aM;generalize bindS (nextS l st) (groupL l F (Qq l rq F n))=R at *;go_upto_block 1 with fail
 go_cut [] (fun wx=>∃(c:Qb PS) (m:List Value) (i:Value),US wx w.heap.size p i/\wx.ownsRow (w.heap.size+1) 158 1 i m.length m/\TSt wx tb l c/\Mod tb w wx/\stOf R=signS l 41 c/\∀ y,R=.ok y->y.1≠[]/\QZ (fun a u=>Q5 (RTest n) (w.heap.size+1) wx i a u) y.1 m)
 case first=>
  go_wp2_with fail
  go_loopg [7] (muS l (signS l 40 (nextS l st))) (fun k _ wr=>∃(c:Qb PS) (V:List (QQ n)) (m:List Value) (i:Value),k=muS l c/\US wr w.heap.size p i/\wr.ownsRow (w.heap.size+1) 158 1 i m.length m/\TSt wr tb l c/\Mod tb w wr/\GY R l (Qq l rq F n) c V/\m.length+muS l c<=1300/\∀ s,c=.ok s->QZ (fun a u=>Q5 (RTest n) (w.heap.size+1) wr i a u) V m)
  case atStart=>exact⟨_,[],[],_,rfl,af.o,World.ownsRow_nil _ _ _ _,au.o,aq.o,ao.o,by simp;omega,fun _ _=>trivial⟩
  case round=>
   obtain⟨c,V,m,i,rfl,S,ae,T,B,G,aU,aY⟩:=hrel;have ag:=I S;have Z:=I ae;have aO:=I T;have aG:=I B;have aE:=I G;have a9:=I aY;have bi:w.heap.size+1<=wr.heap.size:=Qh S;have bu:wr.cell? ⟨rb,0,none⟩=some (.pointer (some ⟨tb,0,none⟩)):=Qn (HR.o.mod B).r 0;have aD:=I (HI.o c wr (HR.o.mod B) T);clear ae T B G aY S ao au af aq aW;go_wp2_with fail;refine aD.o.mono ?_;rintro e J h3;obtain⟨t,U,v,rfl,⟨M,rfl⟩,a2⟩:=h3.st;have W:=I (E1 a3.o aE.o aO.o U);have X:=I (aG.o.trans t);have K:=I U;have az:=ZV (b:=tb) Z.o t (by omega);have aj:=Qu ag.o t N;have Y:=I aj;have bt:w.heap.size+1<=J.heap.size:=Qh aj;have t1:=Qo aj;have bg:=I (fun k d=>(Z.o.lt k d).2)
   have ba:Hid (∀ z,bindS c (Qq l rq F n)=.ok z->QZ (fun a u=>Q5 (RTest n) (w.heap.size+1) J i a u) (V++[z.1]) (m++[.pointer (some ⟨M,0,none⟩)])):=by
    intro z g
    obtain⟨s,hs⟩:∃ s,c=.ok s:=by
     cases c with
     |ok s=>exact⟨s,rfl⟩
     |error f=>cases g
    exact QZ.snoc (P:=fun a u=>Q5 (RTest n) (w.heap.size+1) J i a u) (GathQ.new (ZB n) (a2 z g) bi bg.o) ((a9.o s hs).imp (fun a u x=>GathQ.mod (ZB n) (b:=tb) x t (by omega)))
   obtain⟨q,aC⟩:=Qf (stOf (bindS c (Qq l rq F n)));rw[aC]at W K;clear h3 t U a2 aj Z ag aO aG aE aD;go_wp2_with (at_builtin;refine wpList_append_own_at _ rfl _ _ 152 rfl (w.heap.size+1) 158 i0 (.pointer none) 1 8 underlying152 hi bk bl bm rfl (by decide) _ _ _ rfl (az.alloc _) ⟨J.heap.size,0,none⟩ 1 1 [.pointer (some ⟨M,0,none⟩)] rfl rfl ?c1 ?c2 ?c3 ?c4 ?c5 ?_)
   case c1=>
    intro j u G
    match j,G with
    |0,G=>simp at G;subst G;simp[Addr.add]
   case c2=>intro u x;simp at x;subst x;rfl
   case c3=>unfold maxLen;omega
   case c4=>omega
   case c5=>simp;omega
   ·intro v' w5 aA ai _ aR;have aB:∀ k,i.ownBlock=some k->w.heap.size+1<=k:=fun k d=>(az.lt k d).1
    have aV:=(X.o.alloc (Obj.cells #[.pointer (some ⟨M,0,none⟩)] 158)).grown ai (fun k d=>by have:=aB k d;omega)
    have aw:∀ k,k<w.heap.size+1->w5.heap[k]?=J.heap[k]?:=fun k d=>by
     rw[ai.block k (by simp;omega) (fun e=>by have:=aB k e.symm;omega)];exact Below.heap_alloc _ _ _ (by omega)
    have ad:=(aw w.heap.size (by omega)).trans Y.o;obtain⟨p5,m5,ah,rfl⟩:=Uu aA;obtain⟨A,E⟩:=QE (w5.setCell ⟨w.heap.size,1,none⟩ (.slice p5 m5 ah));have aP:=I E;have ar:Hid (Mod tb w A):=by show Mod _ _ _;rw[E];exact aV.setNew Qt _ _
    have aJ:Hid (US A w.heap.size p (.slice p5 m5 ah)):=by show A.heap[w.heap.size]?=_;rw[E];exact Qv _ _ _ _ _ _ ad
    have aK:Hid (A.ownsRow (w.heap.size+1) 158 1 (.slice p5 m5 ah) (m++[Value.pointer (some ⟨M,0,none⟩)]).length (m++[.pointer (some ⟨M,0,none⟩)])):=by
     show World.ownsRow _ _ _ _ _ _ _
     rw[E];exact JA (by simpa using aA) (by omega)
    have av:Hid (TSt A tb l q):=by
     show TSt _ _ _ _
     rw[E];exact(K.o.block (aw tb (by omega))).block (Below.heap_setCell _ _ _ _ (Ne.symm N))
    have aL:Hid (∀ z,bindS c (Qq l rq F n)=.ok z->QZ (fun a u=>Q5 (RTest n) (w.heap.size+1) A (.slice p5 m5 ah) a u) (V++[z.1]) (m++[.pointer (some ⟨M,0,none⟩)])):=by
     intro z g;rw[E];exact(ba.o z g).imp (fun a u x=>GathQ.set (ZB n) (GathQ.grown (ZB n) x ai aR) (by omega) _ _)
    have f5:=fun o=>Qz ad o
    have t5:=Qo ad;have bp:w.heap.size<w5.heap.size:=Qh ad;obtain⟨q2,q4,_,_,_⟩:=av.o.cells;have qr:A.cell? ⟨rb,0,none⟩=some (.pointer (some ⟨tb,0,none⟩)):=Qn (HR.o.mod ar.o).r 0;clear aA ai az aB aR aV aw ad E;by_cases d:(O l q).1=44
    ·obtain⟨he,bh,z,g,C⟩:=W.o.1 d;have aT:(((O l q).1:Int) != 44)=false:=by simp;omega
     have aS:((errS q:Int) != 0)=false:=by simp;omega
     have bf:=I C;have HZ:=I g;clear C g W aC K Y X;go_wp2_with (rw[<-aP.o]);go_wp2_with fail;refine(ZU tb l q _ (av.o.block rfl) Q).mono ?_;rintro e w7 ⟨rfl,ac,a1⟩;have a4:=I (ar.o.trans ac);have bb:=I a1;have a7:=I (ZV (b:=tb) aK.o ac (by omega));have a5:=I (Qu aJ.o ac N);have a8:=I ((aL.o z HZ.o).imp (fun a u x=>GathQ.mod (ZB n) (b:=tb) x ac (by omega)));clear ac a1;go_wp2;go_roundg (muS l (nextS l q))
     case measure=>exact bh
     case rel=>exact⟨nextS l q,V++[z.1],_,_,rfl,a5.o,a7.o,bb.o,a4.o,bf.o,by simp;omega,fun _ _=>a8.o⟩
    ·obtain⟨hR,hy⟩:=W.o.2 d;have aT:(((O l q).1:Int) != 44)=true:=by simp;omega
     have L:=I hy;clear hy W aC K Y X;cases aS:((errS q:Int) != 0)
     all_goals go_wp2_with (rw[<-aP.o])
     all_goals go_wp2
     all_goals go_meet
     all_goals
      refine⟨q,_,_,aJ.o,aK.o,av.o,ar.o,hR,fun y e=>?_⟩;obtain⟨z,g,h⟩:=L.o y e;rw[h];exact⟨by simp,aL.o z g⟩
 case rest=>
  obtain⟨c,m,i,S,ae,T,B,hR,hy⟩:=hcut;have HS:=I (Yi rb tb nv l 41 c wc (HR.o.mod B).r T Q);have Z:=I ae;have HM:=I B;have L:=I hy;have ag:=I S;clear T B ae hy S ao au af aq aW;go_wp2_with fail;refine HS.o.mono ?_;rintro e J ⟨rfl,t,U⟩;have X:=I (HM.o.trans t);have K:=I U;have a6:=I (ZV (b:=tb) Z.o t (by omega));have Y:=I (Qu ag.o t N);have aQ:=I (fun y e=>(L.o y e).2.imp (fun a u x=>GathQ.mod (ZB n) (b:=tb) x t (by omega)));clear t U;go_wp2;go_ret;refine QS.mk X.o (by rw[(congrArg stOf HX.o).trans HP.o.1,hR];exact K.o) ⟨_,rfl⟩ (fun y e=>?_);obtain⟨z,g,bj⟩:=HP.o.2 y (HX.o.symm.trans e);rw[bj];refine Kt Qt Y.o bc.o.symm (Qc ⟨(L.o z g).1,?_⟩) (Qd ⟨rfl,rfl⟩) (Qd ⟨rfl,rfl⟩);have aU:=Kj (aQ.o z g);have ho:=a6.o;rw[<-aU]at ho;exact trX.weakQ (ZB n) (L.o z g).1 (trX.of_ownsQ (ZB n) ho rfl (L.o z g).1 (aQ.o z g)) (fun k d _=>Qm (Nat.le_succ _) d)
theorem Ol(rb tb:Nat)(nv:Value)(rq:Qa)(l:L8)(F n aa:Nat)(st:Qb PS)(w:World)(hr:RdI w rb tb nv rq)(h:TSt w tb l st)(Q:l.length<=600)(hF:2*l.length+2<=F)(hd:aa+n=6)(hI:TOk rb tb nv rq l F n (aa+1))(d:(O l st).1=119)(hw:(O l st).2.1=YG) :
 Calls prog 214 #[.pointer (some ⟨rb,0,none⟩),.int .i64 aa] w (QS (bindS st (Qq l rq F (n+1))) tb l w (RTest (n+1) (fromB w.heap.size)) XA):=by
 have HX:Hid (bindS st (Qq l rq F (n+1))=bindS (nextS l st) (tBd l F (Qq l rq F n) 4 (O l st).2.2.2)):=by
  show _=_
  rw[Kq h d (by rw[hw];decide),hw,UV (by decide) (by decide)];rfl
 have r0:=Qj hr.r;obtain⟨c2,c4,c5,c6,c7⟩:=h.cells;have H:=I h;have HR:=I hr;have bq:=Qh hr.r;have br:=h.lt;have N:w.heap.size≠tb:=by omega
 obtain⟨s0,aZ,_,_⟩:=ZZ h d;have he:errS st=0:=by rw[aZ];rfl
 have aS:((errS st:Int) != 0)=false:=by simp;omega
 have aT:(((O l st).1:Int) != 119)=false:=by simp;omega
 have bo:decide ((6:Int)<(aa:Int))=false:=Qr (by omega);obtain⟨p,aX⟩:=Qf ((O l st).2.1);rw[aX]at c5 hw;have B:=hw;have e0:=Ql [116,114,117,101] B rfl
 have e1:=Ql [102,97,108,115,101] B rfl
 have e2:=Ql [110,111,116] B rfl
 have e3:=Ql [97,108,108,111,102] B rfl
 have e4:=Zz [97,110,121,111,102] B rfl
 obtain⟨D,ab⟩:=QE (w.alloc (.cells #[.string (sA p),.slice none 0 0,.slice none 0 0,.slice none 0 0,.int .i64 0,.bool false,.int .i64 0] 200));have bd:=I ab;have aF:Hid (Mod tb w D):=by show Mod _ _ _;rw[ab];exact(Mod.refl _ _).alloc _
 have aH:Hid (XF D w.heap.size p 0 false):=by show D.heap[w.heap.size]?=_;rw[ab];exact QA _ _
 have aM:Hid (TSt D tb l st):=by show TSt _ _ _ _;rw[ab];exact h.below (Qs _)
 clear h hr ab aZ he d aX;have bc:=I hw;clear hw B;have HI:=I hI;clear hI;have bn:aa<=6:=by omega
 have HP:=I (Qu2 (l:=l) (F:=F) (pos:=(O l st).2.2.2) (sub:=Qq l rq F n) (st:=nextS l st));have a3:=I (fun s hs=>U4 (l:=l) (req:=rq) (F:=F) n s hs);obtain⟨i0,hi,bk,bl,bm⟩:=info_parts Tryz.infoPtrTest;go_enter func214,ntmps214;go_wp2_with fail;rw[<-bd.o];refine(ZU tb l st D aM.o Q).mono ?_;rintro e w1 ⟨rfl,ax,a0⟩;have ap:=I (aF.o.trans ax);have aI:=I (Qu aH.o ax N);have aN:=I a0;clear ax a0;go_wp2_with fail;refine(Yi rb tb nv l 40 _ _ (HR.o.mod ap.o).r aN.o Q).mono ?_;rintro e w2 ⟨rfl,ay,ak⟩;have aq:=I (ap.o.trans ay);have af:Hid (US w2 w.heap.size p (.slice none 0 0)):=Qu aI.o ay N;have au:=I ak;have ao:=I (E0 (F:=F) (sub:=Qq l rq F n) aN.o ak Q hF);have aW:=VK ak Q;have bs:w.heap.size+1<=w2.heap.size:=Qh af.o;clear ay ak ap aI aH aF aM;generalize bindS (nextS l st) (groupL l F (Qq l rq F n))=R at *;go_upto_block 1 with fail
 go_cut [] (fun wx=>∃(c:Qb PS) (m:List Value) (i:Value),US wx w.heap.size p i/\wx.ownsRow (w.heap.size+1) 158 1 i m.length m/\TSt wx tb l c/\Mod tb w wx/\stOf R=signS l 41 c/\∀ y,R=.ok y->y.1≠[]/\QZ (fun a u=>Q5 (RTest n) (w.heap.size+1) wx i a u) y.1 m)
 case first=>
  go_wp2_with fail
  go_loopg [7] (muS l (signS l 40 (nextS l st))) (fun k _ wr=>∃(c:Qb PS) (V:List (QQ n)) (m:List Value) (i:Value),k=muS l c/\US wr w.heap.size p i/\wr.ownsRow (w.heap.size+1) 158 1 i m.length m/\TSt wr tb l c/\Mod tb w wr/\GY R l (Qq l rq F n) c V/\m.length+muS l c<=1300/\∀ s,c=.ok s->QZ (fun a u=>Q5 (RTest n) (w.heap.size+1) wr i a u) V m)
  case atStart=>exact⟨_,[],[],_,rfl,af.o,World.ownsRow_nil _ _ _ _,au.o,aq.o,ao.o,by simp;omega,fun _ _=>trivial⟩
  case round=>
   obtain⟨c,V,m,i,rfl,S,ae,T,C,G,aU,aY⟩:=hrel;have ag:=I S;have Z:=I ae;have aO:=I T;have aG:=I C;have aE:=I G;have a9:=I aY;have bi:w.heap.size+1<=wr.heap.size:=Qh S;have bu:wr.cell? ⟨rb,0,none⟩=some (.pointer (some ⟨tb,0,none⟩)):=Qn (HR.o.mod C).r 0;have aD:=I (HI.o c wr (HR.o.mod C) T);clear ae T C G aY S ao au af aq aW;go_wp2_with fail;refine aD.o.mono ?_;rintro e J h3;obtain⟨t,U,v,rfl,⟨M,rfl⟩,a2⟩:=h3.st;have W:=I (E1 a3.o aE.o aO.o U);have X:=I (aG.o.trans t);have K:=I U;have az:=ZV (b:=tb) Z.o t (by omega);have aj:=Qu ag.o t N;have Y:=I aj;have bt:w.heap.size+1<=J.heap.size:=Qh aj;have t1:=Qo aj;have bg:=I (fun k d=>(Z.o.lt k d).2)
   have ba:Hid (∀ z,bindS c (Qq l rq F n)=.ok z->QZ (fun a u=>Q5 (RTest n) (w.heap.size+1) J i a u) (V++[z.1]) (m++[.pointer (some ⟨M,0,none⟩)])):=by
    intro z g
    obtain⟨s,hs⟩:∃ s,c=.ok s:=by
     cases c with
     |ok s=>exact⟨s,rfl⟩
     |error f=>cases g
    exact QZ.snoc (P:=fun a u=>Q5 (RTest n) (w.heap.size+1) J i a u) (GathQ.new (ZB n) (a2 z g) bi bg.o) ((a9.o s hs).imp (fun a u x=>GathQ.mod (ZB n) (b:=tb) x t (by omega)))
   obtain⟨q,aC⟩:=Qf (stOf (bindS c (Qq l rq F n)));rw[aC]at W K;clear h3 t U a2 aj Z ag aO aG aE aD;go_wp2_with (at_builtin;refine wpList_append_own_at _ rfl _ _ 152 rfl (w.heap.size+1) 158 i0 (.pointer none) 1 8 underlying152 hi bk bl bm rfl (by decide) _ _ _ rfl (az.alloc _) ⟨J.heap.size,0,none⟩ 1 1 [.pointer (some ⟨M,0,none⟩)] rfl rfl ?c1 ?c2 ?c3 ?c4 ?c5 ?_)
   case c1=>
    intro j u G
    match j,G with
    |0,G=>simp at G;subst G;simp[Addr.add]
   case c2=>intro u x;simp at x;subst x;rfl
   case c3=>unfold maxLen;omega
   case c4=>omega
   case c5=>simp;omega
   ·intro v' w5 aA ai _ aR;have aB:∀ k,i.ownBlock=some k->w.heap.size+1<=k:=fun k d=>(az.lt k d).1
    have aV:=(X.o.alloc (Obj.cells #[.pointer (some ⟨M,0,none⟩)] 158)).grown ai (fun k d=>by have:=aB k d;omega)
    have aw:∀ k,k<w.heap.size+1->w5.heap[k]?=J.heap[k]?:=fun k d=>by
     rw[ai.block k (by simp;omega) (fun e=>by have:=aB k e.symm;omega)];exact Below.heap_alloc _ _ _ (by omega)
    have ad:=(aw w.heap.size (by omega)).trans Y.o;obtain⟨p5,m5,ah,rfl⟩:=Uu aA;obtain⟨A,E⟩:=QE (w5.setCell ⟨w.heap.size,1,none⟩ (.slice p5 m5 ah));have aP:=I E;have ar:Hid (Mod tb w A):=by show Mod _ _ _;rw[E];exact aV.setNew Qt _ _
    have aJ:Hid (US A w.heap.size p (.slice p5 m5 ah)):=by show A.heap[w.heap.size]?=_;rw[E];exact Qv _ _ _ _ _ _ ad
    have aK:Hid (A.ownsRow (w.heap.size+1) 158 1 (.slice p5 m5 ah) (m++[Value.pointer (some ⟨M,0,none⟩)]).length (m++[.pointer (some ⟨M,0,none⟩)])):=by
     show World.ownsRow _ _ _ _ _ _ _
     rw[E];exact JA (by simpa using aA) (by omega)
    have av:Hid (TSt A tb l q):=by
     show TSt _ _ _ _
     rw[E];exact(K.o.block (aw tb (by omega))).block (Below.heap_setCell _ _ _ _ (Ne.symm N))
    have aL:Hid (∀ z,bindS c (Qq l rq F n)=.ok z->QZ (fun a u=>Q5 (RTest n) (w.heap.size+1) A (.slice p5 m5 ah) a u) (V++[z.1]) (m++[.pointer (some ⟨M,0,none⟩)])):=by
     intro z g;rw[E];exact(ba.o z g).imp (fun a u x=>GathQ.set (ZB n) (GathQ.grown (ZB n) x ai aR) (by omega) _ _)
    have f5:=fun o=>Qz ad o
    have t5:=Qo ad;have bp:w.heap.size<w5.heap.size:=Qh ad;obtain⟨q2,q4,_,_,_⟩:=av.o.cells;have qr:A.cell? ⟨rb,0,none⟩=some (.pointer (some ⟨tb,0,none⟩)):=Qn (HR.o.mod ar.o).r 0;clear aA ai az aB aR aV aw ad E;by_cases d:(O l q).1=44
    ·obtain⟨he,bh,z,g,B⟩:=W.o.1 d;have aT:(((O l q).1:Int) != 44)=false:=by simp;omega
     have aS:((errS q:Int) != 0)=false:=by simp;omega
     have bf:=I B;have HZ:=I g;clear B g W aC K Y X;go_wp2_with (rw[<-aP.o]);go_wp2_with fail;refine(ZU tb l q _ (av.o.block rfl) Q).mono ?_;rintro e w7 ⟨rfl,ac,a1⟩;have a4:=I (ar.o.trans ac);have bb:=I a1;have a7:=I (ZV (b:=tb) aK.o ac (by omega));have a5:=I (Qu aJ.o ac N);have a8:=I ((aL.o z HZ.o).imp (fun a u x=>GathQ.mod (ZB n) (b:=tb) x ac (by omega)));clear ac a1;go_wp2;go_roundg (muS l (nextS l q))
     case measure=>exact bh
     case rel=>exact⟨nextS l q,V++[z.1],_,_,rfl,a5.o,a7.o,bb.o,a4.o,bf.o,by simp;omega,fun _ _=>a8.o⟩
    ·obtain⟨hR,hy⟩:=W.o.2 d;have aT:(((O l q).1:Int) != 44)=true:=by simp;omega
     have L:=I hy;clear hy W aC K Y X;cases aS:((errS q:Int) != 0)
     all_goals go_wp2_with (rw[<-aP.o])
     all_goals go_wp2
     all_goals go_meet
     all_goals
      refine⟨q,_,_,aJ.o,aK.o,av.o,ar.o,hR,fun y e=>?_⟩;obtain⟨z,g,h⟩:=L.o y e;rw[h];exact⟨by simp,aL.o z g⟩
 case rest=>
  obtain⟨c,m,i,S,ae,T,C,hR,hy⟩:=hcut;have HS:=I (Yi rb tb nv l 41 c wc (HR.o.mod C).r T Q);have Z:=I ae;have HM:=I C;have L:=I hy;have ag:=I S;clear T C ae hy S ao au af aq aW;go_wp2_with fail;refine HS.o.mono ?_;rintro e J ⟨rfl,t,U⟩;have X:=I (HM.o.trans t);have K:=I U;have a6:=I (ZV (b:=tb) Z.o t (by omega));have Y:=I (Qu ag.o t N);have aQ:=I (fun y e=>(L.o y e).2.imp (fun a u x=>GathQ.mod (ZB n) (b:=tb) x t (by omega)));clear t U;go_wp2;go_ret;refine QS.mk X.o (by rw[(congrArg stOf HX.o).trans HP.o.1,hR];exact K.o) ⟨_,rfl⟩ (fun y e=>?_);obtain⟨z,g,bj⟩:=HP.o.2 y (HX.o.symm.trans e);rw[bj];refine Kt Qt Y.o bc.o.symm (Qc ⟨(L.o z g).1,?_⟩) (Qd ⟨rfl,rfl⟩) (Qd ⟨rfl,rfl⟩);have aU:=Kj (aQ.o z g);have ho:=a6.o;rw[<-aU]at ho;exact trX.weakQ (ZB n) (L.o z g).1 (trX.of_ownsQ (ZB n) ho rfl (L.o z g).1 (aQ.o z g)) (fun k d _=>Qm (Nat.le_succ _) d)
end
section
open Go.RowKit
def Q0{α:Type}(P:(Nat->Prop)->α->World->Value->Prop)(base:Nat)(w:World)(v1 v2:Value)(a:α)(u:Value):Prop:=
 ∃ X,P X a w u/\(∀ k,X k->base<=k/\k<w.heap.size)/\∀ g,v1.ownBlock=some g\/v2.ownBlock=some g->¬ X g
section
variable {α:Type} {P:(Nat->Prop)->α->World->Value->Prop} {base:Nat} {w w':World} {v1 v2:Value} {a:α} {u:Value}
theorem Q0.swap(h:Q0 P base w v1 v2 a u):Q0 P base w v2 v1 a u:=by
 obtain⟨X,b,c,d⟩:=h;exact⟨X,b,c,fun g e=>d g e.symm⟩
theorem Q0.left(h:Q0 P base w v1 v2 a u):Q5 P base w v1 a u:=by
 obtain⟨X,b,c,d⟩:=h;exact⟨X,b,c,fun g e=>d g (Qd e)⟩
theorem Q0.mod(j:TreeQ P){b:Nat}(h:Q0 P base w v1 v2 a u)(f:Mod b w w')(l:b<base):Q0 P base w' v1 v2 a u:=by
 obtain⟨X,g,c,i⟩:=h;exact⟨X,j.keep _ _ _ _ _ g (f.abvX (fun e=>by have:=(c b e).1;omega)),fun k d=>⟨(c k d).1,Nat.lt_of_lt_of_le (c k d).2 f.size⟩,i⟩
theorem Q0.grown(m:TreeQ P){v':Value}{o:Obj}(h:Q0 P base w v1 v2 a u)(i:(w.alloc o).grownBy w' v1.ownBlock)(hv:v'.ownBlock=v1.ownBlock\/v'.ownBlock=some (w.heap.size+1)):Q0 P base w' v' v2 a u:=by
 obtain⟨X,j,c,d⟩:=h
 have l:AbvX X w w':=fun k b n=>by
  rw[i.block k (by simp;omega) (fun e=>d k (Qd e.symm) b)];exact Below.heap_alloc _ _ _ n
 refine⟨X,m.keep _ _ _ _ _ j l,fun k b=>⟨(c k b).1,?_⟩,fun g hgb f=>?_⟩
 ·have:=(c k b).2;have:=i.size;simp at this;omega
 ·rcases hgb with hgb|hgb
  ·rcases hv with hv|hv
   ·exact d g (Qd (hv ▸ hgb)) f
   ·rw[hv]at hgb;have:=(c g f).2;simp at hgb;omega
  ·exact d g (Qc hgb) f
theorem Q0.set(i:TreeQ P){g:Nat}(h:Q0 P base w v1 v2 a u)(j:g<base)(o:Nat)(x:Value):Q0 P base (w.setCell ⟨g,o,none⟩ x) v1 v2 a u:=by
 obtain⟨X,d,b,f⟩:=h;exact⟨X,i.keep _ _ _ _ _ d (AbvX.set (fun e=>by have:=(b g e).1;omega) o x),fun k c=>⟨(b k c).1,by rw[World.size_setCell];exact(b k c).2⟩,f⟩
theorem Q0.new(c:TreeQ P){B:Nat}(h:P (fromB B) a w u)(b:base<=B)(d:∀ g,v1.ownBlock=some g->g<B)(e:∀ g,v2.ownBlock=some g->g<B):Q0 P base w v1 v2 a u:=
 ⟨fun k=>B<=k/\k<w.heap.size,c.weak _ _ _ _ _ h (fun k hk hz=>⟨hk,hz⟩),fun k hk=>⟨Qm b hk.1,hk.2⟩,fun g hg hX=>by rcases hg with hg|hg;have:=d g hg;omega;have:=e g hg;omega⟩
end
structure BrI (u:World) (tb gb:Nat) (nm:L8) (pos:Nat) (w:World) (tv bv:Value) (vs1 vs2:List Value):Prop where
 nd:CNode w gb nm (.slice none 0 0) 0 tv bv pos
 o1:w.ownsRow (gb+1) 158 1 tv vs1.length vs1
 o2:w.ownsRow (gb+1) 113 1 bv vs2.length vs2
 od:∀ g,tv.ownBlock=some g->¬ bv.ownBlock=some g
 m:Mod tb u w
section
variable {u:World} {tb gb:Nat} {nm:L8} {pos:Nat} {w w' w5:World} {tv bv v' x:Value} {vs1 vs2:List Value} {o:Obj}
theorem BrI.mod(h:BrI u tb gb nm pos w tv bv vs1 vs2)(hm:Mod tb w w')(hb:tb<gb):BrI u tb gb nm pos w' tv bv vs1 vs2:=
 ⟨Qu h.nd hm (by omega),ZV (b:=tb) h.o1 hm (by omega),ZV (b:=tb) h.o2 hm (by omega),h.od,h.m.trans hm⟩
theorem K3{b:TypeId}(h:w.ownsRow (gb+1) b 1 tv n xs)(c:gb<w.heap.size)(a:(w.alloc o).grownBy w5 tv.ownBlock):∀ k,k<gb+1->w5.heap[k]?=w.heap[k]?:=fun k hk=>by
 rw[a.block k (by simp;omega) (fun e=>by have:=(h.lt k e.symm).1;omega)];exact Below.heap_alloc _ _ _ (by omega)
theorem BrI.app1(h:BrI u tb gb nm pos w tv bv vs1 vs2)(d:u.heap.size<=gb)(b:(w.alloc o).grownBy w5 tv.ownBlock)(j:w5.ownsRow (gb+1) 158 1 v' (vs1.length+1) (vs1++[x]))(hat:v'.ownBlock=tv.ownBlock\/v'.ownBlock=some (w.heap.size+1)):BrI u tb gb nm pos (w5.setCell ⟨gb,3,none⟩ v') v' bv (vs1++[x]) vs2:=by
 have i:=K3 h.o1 (Qh h.nd) b;refine⟨Qv _ _ _ _ _ _ ((i gb (Nat.lt_succ_self _)).trans h.nd),JA (by simpa using j) (Nat.lt_succ_self _),JA ((h.o2.alloc o).kept b ?_) (Nat.lt_succ_self _),fun g c a=>?_,((h.m.alloc o).grown b (fun k f=>by have:=(h.o1.lt k f).1;omega)).setNew d _ _⟩
 ·cases a:bv.ownBlock with
  |none=>exact Qd rfl
  |some g=>exact Qc (fun e=>h.od g e.symm a)
 ·rcases hat with hat|hat
  ·exact h.od g (hat ▸ c) a
  ·rw[hat]at c;have:=(h.o2.lt g a).2;simp at c;omega
theorem BrI.app2(h:BrI u tb gb nm pos w tv bv vs1 vs2)(d:u.heap.size<=gb)(b:(w.alloc o).grownBy w5 bv.ownBlock)(j:w5.ownsRow (gb+1) 113 1 v' (vs2.length+1) (vs2++[x]))(hat:v'.ownBlock=bv.ownBlock\/v'.ownBlock=some (w.heap.size+1)):BrI u tb gb nm pos (w5.setCell ⟨gb,4,none⟩ v') tv v' vs1 (vs2++[x]):=by
 have i:=K3 h.o2 (Qh h.nd) b;refine⟨Qv _ _ _ _ _ _ ((i gb (Nat.lt_succ_self _)).trans h.nd),JA ((h.o1.alloc o).kept b ?_) (Nat.lt_succ_self _),JA (by simpa using j) (Nat.lt_succ_self _),fun g c a=>?_,((h.m.alloc o).grown b (fun k f=>by have:=(h.o2.lt k f).1;omega)).setNew d _ _⟩
 ·cases a:tv.ownBlock with
  |none=>exact Qd rfl
  |some g=>exact Qc (fun e=>h.od g a e.symm)
 ·rcases hat with hat|hat
  ·exact h.od g c (hat ▸ a)
  ·rw[hat]at a;have:=(h.o1.lt g c).2;simp at a;omega
end
structure BrR (n gb:Nat) (w:World) (tv bv:Value) (arms:List (QQ n×List (QF n))) (els:List (List (QF n))) (vs1 vs2:List Value):Prop where
 r1:QZ (fun a u=>Q0 (RTest n) (gb+1) w tv bv a u) (arms.map Prod.fst) vs1
 r2:QZ (fun a u=>Q0 (trY (RCmd n)) (gb+1) w tv bv a u) (arms.map Prod.snd++els) vs2
end
end Go.Proofs.YtgnkjijocdmniaaGreatDoor
