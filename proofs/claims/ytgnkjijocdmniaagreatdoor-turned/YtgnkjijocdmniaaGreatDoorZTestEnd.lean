import Derived.Test.YtgnkjijocdmniaaGreatDoorZCMatch
namespace Go.Proofs.YtgnkjijocdmniaaGreatDoor
set_option linter.unusedVariables false
set_option linter.unusedSimpArgs false
set_option maxRecDepth 100000
set_option maxHeartbeats 4000000
open Go.Proofs.Tryz
section
open Go.RowKit
attribute [local go_sem ↓] Go.wp_at_zero Go.wp_at_succ
theorem QaA:∀(zs:List (L8)) (x:L8) (i:Nat),wL zs x=i+1->zs[i]?=some x
 | [],x,i,h=>by simp[wL]at h
 |s::r,x,i,h=>by
  unfold wL at h
  split at h
  ·rename_i e;have:i=0:=by omega
   subst this;subst e;rfl
  ·split at h
   ·omega
   ·rename_i h1 h2;obtain⟨j,hj⟩:∃ j,wL r x=j+1:=⟨wL r x - 1,by omega⟩;have hi:i=j+1:=by omega
    subst hi;have:=QaA r x j hj;simpa using this
theorem Qap.lift{α β:Type}{r:Except Flt (α×PS)}{R:Except Flt (β×PS)}{b:Nat}{t:ByteArray}{rv:Value}{mc mt:Nat}{w W w':World}{ae:α->World->Value->Prop}{aa:β->World->Value->Prop}{e:Ending}(g:α->β)(h:Qap r b t rv mc mt W ae e w')(hm:Mod b w W)(af:∀ y,r=.ok y->R=.ok (g y.1,y.2))(ab:∀ f,r=.error f->R=.error f)(ad:∀ y v,r=.ok y->ae y.1 w' v->aa (g y.1) w' v):Qap R b t rv mc mt w aa e w':=by
 rcases h.cases with⟨y,v,hy,rfl,hv,hc,ac⟩ | ⟨f,hf,ht,ac⟩
 ·exact Qap.ok (af y hy) (hm.trans ac) (ad _ _ hy hv) hc
 ·exact Qap.err (ab f hf) (hm.trans ac) (ht.up hm.size)
theorem QbC{l:L8}{req:List (L8)}{F n k:Nat}{s:PS}{f:Flt}(hi:wL tNs s.1.spelt=k+1)(hu:Qb6 req s.1.spelt=true)(hn:nL l s.2=.error f):testL l req F (n+1) s=.error f:=by
 rw[testL,if_neg (by omega),if_pos hu];exact QaC hn
theorem Qco{l:L8}{req:List (L8)}{F n k:Nat}{s y:PS}(hi:wL tNs s.1.spelt=k+1)(hu:Qb6 req s.1.spelt=true)(hn:nL l s.2=.ok y):testL l req F (n+1) s=tBd l F (testL l req F n) k s.1.pos y:=by
 rw[testL,if_neg (by omega),if_pos hu];refine(QaE hn).trans ?_;show tBd l F (testL l req F n) (wL tNs s.1.spelt - 1) s.1.pos y=_
 rw[hi];rfl
theorem QlK{α:Type}(l:L8)(F:Nat)(sub:PS->Except Flt (α×PS))(pos:Nat)(s:PS):tBd l F sub 2 pos s=Qa2 (sub s) fun t s1=>.ok ((⟨2,pos,0,false,[],[],0⟩,[t]),s1):=rfl
theorem Qtc{α:Type}(l:L8)(F:Nat)(sub:PS->Except Flt (α×PS))(pos:Nat)(s:PS):tBd l F sub 0 pos s=.ok ((⟨0,pos,0,false,[],[],0⟩,[]),s):=rfl
theorem QrL{α:Type}(l:L8)(F:Nat)(sub:PS->Except Flt (α×PS))(pos:Nat)(s:PS):tBd l F sub 1 pos s=.ok ((⟨1,pos,0,false,[],[],0⟩,[]),s):=rfl
theorem Qlc{α:Type}(l:L8)(F:Nat)(sub:PS->Except Flt (α×PS))(pos:Nat)(s:PS):tBd l F sub 3 pos s=Qa2 (groupL l F sub s) fun ts s1=>.ok ((⟨3,pos,0,false,[],[],0⟩,ts),s1):=rfl
theorem QlI{α:Type}(l:L8)(F:Nat)(sub:PS->Except Flt (α×PS))(pos:Nat)(s:PS):tBd l F sub 4 pos s=Qa2 (groupL l F sub s) fun ts s1=>.ok ((⟨4,pos,0,false,[],[],0⟩,ts),s1):=rfl
theorem Qk1{α:Type}(l:L8)(F:Nat)(sub:PS->Except Flt (α×PS))(pos:Nat)(s:PS):tBd l F sub 5 pos s=Qa2 (Qbp l F (fun _=>0) 5 pos s) fun x s1=>.ok ((x,[]),s1):=rfl
theorem Qlb{α:Type}(l:L8)(F:Nat)(sub:PS->Except Flt (α×PS))(pos:Nat)(s:PS):tBd l F sub 6 pos s=Qa2 (Qbp l F (QdA (QcL 7 [QhJ,kTo])) 6 pos s) fun x s1=>.ok ((x,[]),s1):=rfl
theorem Qlu{α:Type}(l:L8)(F:Nat)(sub:PS->Except Flt (α×PS))(pos:Nat)(s:PS):tBd l F sub 7 pos s=Qa2 (Qbp l F (fun _=>0) 7 pos s) fun x s1=>.ok ((x,[]),s1):=rfl
theorem Qly{α:Type}(l:L8)(F:Nat)(sub:PS->Except Flt (α×PS))(pos:Nat)(s:PS):tBd l F sub 8 pos s=Qa2 (sLs l (fun _=>0) F s) fun xs s1=>.ok ((⟨8,pos,0,false,xs,[],0⟩,[]),s1):=rfl
theorem Qle{α:Type}(l:L8)(F:Nat)(sub:PS->Except Flt (α×PS))(pos:Nat)(s:PS):tBd l F sub 9 pos s=Qa2 (sizeL l pos s) fun x s1=>.ok ((x,[]),s1):=rfl
theorem QgN{l:L8}{F:Nat}{chk:L8->Nat}{k aa:Nat}{s:PS}{y:Qcv×PS}(h:Qbp l F chk k aa s=.ok y):y.1.kind=k/\y.1.pos=aa:=by
 unfold Qbp at h
 cases h1:Qd3 l F 0 false false s with
 |error f=>rw[Qad h1]at h;cases h
 |ok a=>
  rw[Qac h1]at h
  cases h2:sLs l chk F a.2 with
  |error f=>rw[Qad h2]at h;cases h
  |ok c=>
   rw[Qac h2]at h
   cases h3:sLs l (fun _=>0) F c.2 with
   |error f=>rw[Qad h3]at h;cases h
   |ok e=>rw[Qac h3]at h;cases h;exact⟨rfl,rfl⟩
theorem Qlw{l:L8}{aa:Nat}{s:PS}{y:Qcv×PS}(h:sizeL l aa s=.ok y):y.1.kind=9/\y.1.pos=aa:=by
 unfold sizeL at h
 cases h1:paL l [Qdh,Qb9] s with
 |error f=>rw[Qad h1]at h;cases h
 |ok a=>
  rw[Qac h1]at h
  split at h
  ·cases h2:nL l a.2.2 with
   |error f=>rw[QaC h2]at h;cases h
   |ok c=>rw[QaE h2]at h;cases h;exact⟨rfl,rfl⟩
  ·cases h
theorem mtV.toX{B:Nat}{hw:L8}{x:Qcv}{w:World}{v:Value}(h:mtV B hw x w v):mtX (fromB B) hw x w v:=h
theorem QeP{w w2:World}{b:Nat}{sp:L8}{p:Nat}(hm:Mod b (w.alloc (.cells #[.string (Qaf sp),.int .i64 p] 216)).drew w2)(hb:b<w.heap.size):w2.cell? ⟨w.heap.size,0,none⟩=some (.string (Qaf sp))/\w2.cell? ⟨w.heap.size,1,none⟩=some (.int .i64 p)/\Mod b w w2:=
 ⟨(Qf2 sp p (QaY hm) hb).1,(Qf2 sp p (QaY hm) hb).2,((Mod.refl b w).alloc _).trans (QaY hm)⟩
theorem QeJ(f:FuncId)(q:Nat)(n:Nat)(req:List (L8))(d:Int)(b F:Nat)(t:ByteArray)(s:PS)(rv:Value)(mc mt pr pt pf:Nat)(w:World)(h:RC w b t s rv mc mt)(ht:Qo5 w b mt pr pt pf)(hr:QmC w b rv req)(hd0:0<=d)(hd:d<=6)(au:s.1.kind=1)(hu:Qb6 req s.1.spelt=true)
 (aj:testFn b pr pt pf s.1.spelt=some (.func (.func f) #[] #[.pointer (some ⟨q,0,none⟩)])) (hcf:∀ args W,(callFunc f args).run Tryz.prog W=.ok (.enter f args) W) (ak:∀ f2,nL t.data.toList s.2=.error f2->testL t.data.toList req F (n+1) s=.error f2)
 (aa:∀ W y,Mod b w W->RC W b t y rv mc mt->nL t.data.toList s.2=.ok y->Calls Tryz.prog f #[.agg #[.string (Qaf s.1.spelt),.int .i64 s.1.pos],.int .i64 d,.pointer (some ⟨q,0,none⟩)] W (Qap (testL t.data.toList req F (n+1) s) b t rv mc mt w (TestV (n+1) (fromB w.heap.size)))) :
 Calls Tryz.prog 222 #[.pointer (some ⟨b,0,none⟩),.map (some mt),.int .i64 d] w (Qap (testL t.data.toList req F (n+1) s) b t rv mc mt w (TestV (n+1) (fromB w.heap.size))):=by
 have h1:w.cell? ⟨b,1,none⟩=some (.int .i64 s.1.kind):=h.at_.cell 1;have h2:w.cell? ⟨b,2,none⟩=some (.int .i64 s.1.pos):=h.at_.cell 2;have h3:w.cell? ⟨b,3,none⟩=some (.string (Qaf s.1.spelt)):=h.at_.cell 3;have ae:=ht.look w s.1.spelt rfl;rw[aj]at ae;have H:=Qab h;have HU:=Qab (QdP s.1.spelt req b t s rv mc mt w h hr);rw[hu]at HU;have ap:=Qab ak;have ac:=Qab aa;have av:=h.at_.lt;clear h ht hr aj hu ak aa;simp only[Option.getD_some,Option.isSome_some]at ae;have hk':((s.1.kind:Int) != 1)=false:=by simp;omega
 clear au;go_enter func222,ntmps222;go_wp2_with fail;refine(QaF b _ _ _ rfl).mono ?_;rintro e w' ⟨rfl,ag⟩;subst w';go_wp2_with fail;refine(QaF b _ _ _ rfl).mono ?_;rintro e w' ⟨rfl,ag⟩;subst w';go_wp2_with fail;refine HU.o.mono ?_;rintro e w' ⟨rfl,ag⟩;subst w';go_wp2_with fail;refine(QaF b _ _ _ rfl).mono ?_;rintro e w' ⟨rfl,ag⟩;subst w';clear HU ae;go_wp2_with fail;go_region
 all_goals go_wp2_with fail
 all_goals
  refine(QcU b t s rv mc mt _ ((H.o.alloc _).drew)).mono ?_;rintro e w2 (⟨y,hy,rfl,hc,hm⟩ | ⟨f2,hf2,⟨bb,hz,rfl,ad⟩,hm⟩)
 all_goals first
  |exact⟨rfl,Qap.err (ap.o _ hf2) (((Mod.refl b w).alloc _).trans (QaY hm)) ⟨bb,by simp at hz;omega,rfl,ad⟩⟩
  |skip
 all_goals
  obtain⟨hh0,hh1,af⟩:=QeP hm av;have HM:=Qab af;have HC:=Qab hc;have ao:=Qab (ac.o _ y af hc hy);clear hm hc hy af;go_wp2_with fail;refine ao.o.mono ?_;intro e w3 ah;have HQ:=Qab ah;clear ah;rcases HQ.o.cases with⟨q,v,hq,rfl,hv,ai,ab⟩ | ⟨f3,ar,⟨bb,hz,rfl,ad⟩,ab⟩
 all_goals first
  |exact⟨rfl,Qap.err ar ab ⟨bb,hz,rfl,ad⟩⟩
  |skip
 all_goals
  have aq:=Qab (Qap.ok hq ab hv ai);clear hq ab hv ai HQ;go_wp2;go_ret;exact aq.o
theorem Qms(f:FuncId)(n:Nat)(req:List (L8))(d:Int)(b F:Nat)(t:ByteArray)(s:PS)(rv:Value)(mc mt pr pt pf:Nat)(w:World)(h:RC w b t s rv mc mt)(ht:Qo5 w b mt pr pt pf)(hr:QmC w b rv req)(hd0:0<=d)(hd:d<=6)(au:s.1.kind=1)(hu:Qb6 req s.1.spelt=true)
 (aj:testFn b pr pt pf s.1.spelt=some (.func (.func f) #[.pointer (some ⟨b,0,none⟩)] #[])) (hcf:∀ args W,(callFunc f args).run Tryz.prog W=.ok (.enter f args) W) (ak:∀ f2,nL t.data.toList s.2=.error f2->testL t.data.toList req F (n+1) s=.error f2)
 (aa:∀ W y,Mod b w W->RC W b t y rv mc mt->nL t.data.toList s.2=.ok y->Calls Tryz.prog f #[.pointer (some ⟨b,0,none⟩),.agg #[.string (Qaf s.1.spelt),.int .i64 s.1.pos],.int .i64 d] W (Qap (testL t.data.toList req F (n+1) s) b t rv mc mt w (TestV (n+1) (fromB w.heap.size)))) :
 Calls Tryz.prog 222 #[.pointer (some ⟨b,0,none⟩),.map (some mt),.int .i64 d] w (Qap (testL t.data.toList req F (n+1) s) b t rv mc mt w (TestV (n+1) (fromB w.heap.size))):=by
 have h1:w.cell? ⟨b,1,none⟩=some (.int .i64 s.1.kind):=h.at_.cell 1;have h2:w.cell? ⟨b,2,none⟩=some (.int .i64 s.1.pos):=h.at_.cell 2;have h3:w.cell? ⟨b,3,none⟩=some (.string (Qaf s.1.spelt)):=h.at_.cell 3;have ae:=ht.look w s.1.spelt rfl;rw[aj]at ae;have H:=Qab h;have HU:=Qab (QdP s.1.spelt req b t s rv mc mt w h hr);rw[hu]at HU;have ap:=Qab ak;have ac:=Qab aa;have av:=h.at_.lt;clear h ht hr aj hu ak aa;simp only[Option.getD_some,Option.isSome_some]at ae;have hk':((s.1.kind:Int) != 1)=false:=by simp;omega
 clear au;go_enter func222,ntmps222;go_wp2_with fail;refine(QaF b _ _ _ rfl).mono ?_;rintro e w' ⟨rfl,ag⟩;subst w';go_wp2_with fail;refine(QaF b _ _ _ rfl).mono ?_;rintro e w' ⟨rfl,ag⟩;subst w';go_wp2_with fail;refine HU.o.mono ?_;rintro e w' ⟨rfl,ag⟩;subst w';go_wp2_with fail;refine(QaF b _ _ _ rfl).mono ?_;rintro e w' ⟨rfl,ag⟩;subst w';clear HU ae;go_wp2_with fail;go_region
 all_goals go_wp2_with fail
 all_goals
  refine(QcU b t s rv mc mt _ ((H.o.alloc _).drew)).mono ?_;rintro e w2 (⟨y,hy,rfl,hc,hm⟩ | ⟨f2,hf2,⟨bb,hz,rfl,ad⟩,hm⟩)
 all_goals first
  |exact⟨rfl,Qap.err (ap.o _ hf2) (((Mod.refl b w).alloc _).trans (QaY hm)) ⟨bb,by simp at hz;omega,rfl,ad⟩⟩
  |skip
 all_goals
  obtain⟨hh0,hh1,af⟩:=QeP hm av;have HM:=Qab af;have HC:=Qab hc;have ao:=Qab (ac.o _ y af hc hy);clear hm hc hy af;go_wp2_with fail;refine ao.o.mono ?_;intro e w3 ah;have HQ:=Qab ah;clear ah;rcases HQ.o.cases with⟨q,v,hq,rfl,hv,ai,ab⟩ | ⟨f3,ar,⟨bb,hz,rfl,ad⟩,ab⟩
 all_goals first
  |exact⟨rfl,Qap.err ar ab ⟨bb,hz,rfl,ad⟩⟩
  |skip
 all_goals
  have aq:=Qab (Qap.ok hq ab hv ai);clear hq ab hv ai HQ;go_wp2;go_ret;exact aq.o
end
section
open Go.RowKit
theorem QiH:∀ z∈tNs,∀ c r,z=c::r->Qbs c.toNat=true:=by
 intro z hz c r e;simp[tNs]at hz;rcases hz with h|h|h|h|h|h|h|h|h|h<;>subst h<;>cases e<;>decide
theorem Qng:∀ z∈tNs,z≠[]:=by decide
theorem Qla{zs:List (L8)}{x:L8}(h:¬ wL zs x=0):x∈zs:=by
 obtain⟨i,hi⟩:∃ i,wL zs x=i+1:=⟨wL zs x - 1,by omega⟩;exact List.mem_of_getElem? (QaA zs x i hi)
theorem Qoo{s:PS}(hn:¬ s.1.kind=1->Qld s.1.spelt)(h:¬ wL tNs s.1.spelt=0):s.1.kind=1:=by
 apply Classical.byContradiction;intro hk;have hm:=Qla h;have aa:=Qng _ hm
 cases hsp:s.1.spelt with
 |nil=>exact aa hsp
 |cons c r=>
  have h1:=QiH _ hm c r hsp;have h2:=hn hk c r hsp;rw[h1]at h2;cases h2
theorem QoA(fv:Value)(req:List (L8))(d:Int)(b:Nat)(t:ByteArray)(s:PS)(rv:Value)(mc mt pr pt pf:Nat)(w:World)(h:RC w b t s rv mc mt)(ht:Qo5 w b mt pr pt pf)(hr:QmC w b rv req)(hd:d<=6)(ad:s.1.kind=1)(hf:testFn b pr pt pf s.1.spelt=some fv)(hu:Qb6 req s.1.spelt=false) :
 Calls Tryz.prog 222 #[.pointer (some ⟨b,0,none⟩),.map (some mt),.int .i64 d] w fun e w'=>Qc8 ⟨6,s.1.pos⟩ w e w'/\Mod b w w':=by
 have h1:w.cell? ⟨b,1,none⟩=some (.int .i64 s.1.kind):=h.at_.cell 1;have h3:w.cell? ⟨b,3,none⟩=some (.string (Qaf s.1.spelt)):=h.at_.cell 3;have aa:=ht.look w s.1.spelt rfl;rw[hf]at aa;have H:=Qab h;have HU:=Qab (QdP s.1.spelt req b t s rv mc mt w h hr);rw[hu]at HU;clear h ht hr hf hu;simp only[Option.getD_some,Option.isSome_some]at aa;have hk':((s.1.kind:Int) != 1)=false:=by simp;omega
 clear ad;go_enter func222,ntmps222;go_wp2_with fail;refine(QaF b _ _ _ rfl).mono ?_;rintro e w' ⟨rfl,ab⟩;subst w';go_wp2_with fail;refine(QaF b _ _ _ rfl).mono ?_;rintro e w' ⟨rfl,ab⟩;subst w';go_wp2_with fail;refine HU.o.mono ?_;rintro e w' ⟨rfl,ab⟩;subst w';go_wp2_with fail;refine(Qbm b 6 _ _ t s.1 s.2 rv mc mt _ H.o.at_ rfl rfl).mono ?_;rintro e w1 ⟨⟨bb,hz,rfl,ac⟩,hm⟩;exact⟨rfl,⟨bb,hz,rfl,ac⟩,Mod.of_below hm⟩
theorem QpV(b:Nat)(t:ByteArray)(s:PS)(rv:Value)(mc mt pr pt pf:Nat)(w:World)(h:RC w b t s rv mc mt)(ht:Qo5 w b mt pr pt pf) :
 Calls Tryz.prog 222 #[.pointer (some ⟨b,0,none⟩),.map (some mt),.int .i64 7] w fun e w'=>Qc8 ⟨if s.1.kind=1 then 5 else 4,s.1.pos⟩ w e w'/\Mod b w w':=by
 have h1:w.cell? ⟨b,1,none⟩=some (.int .i64 s.1.kind):=h.at_.cell 1;have h3:w.cell? ⟨b,3,none⟩=some (.string (Qaf s.1.spelt)):=h.at_.cell 3;have ab:=ht.look w s.1.spelt rfl;have H:=Qab h;by_cases hk:s.1.kind=1
 ·rw[if_pos hk];have ac:((s.1.kind:Int) != 1)=false:=by simp;omega
  clear hk h ht ab;go_enter func222,ntmps222;go_wp2_with fail;refine(Qbm b 5 _ _ t s.1 s.2 rv mc mt _ H.o.at_ rfl rfl).mono ?_;rintro e w1 ⟨⟨bb,hz,rfl,aa⟩,hm⟩;exact⟨rfl,⟨bb,hz,rfl,aa⟩,Mod.of_below hm⟩
 ·rw[if_neg hk]
  have h0:wL tNs s.1.spelt=0:=by
   apply Classical.byContradiction;intro h0;exact hk (Qoo h.nm h0)
  rw[QjA h0]at ab;have ac:((s.1.kind:Int) != 1)=true:=by simp;omega
  clear hk h ht h0;simp only[Option.getD_none,Option.isSome_none]at ab;go_enter func222,ntmps222;go_wp2_with fail;refine(QaF b _ _ _ rfl).mono ?_;rintro e w' ⟨rfl,hww⟩;subst w';go_wp2_with fail;refine(Qbm b 4 _ _ t s.1 s.2 rv mc mt _ H.o.at_ rfl rfl).mono ?_;rintro e w1 ⟨⟨bb,hz,rfl,aa⟩,hm⟩;exact⟨rfl,⟨bb,hz,rfl,aa⟩,Mod.of_below hm⟩
theorem Qpo{b pr pt pf:Nat}{x:L8}(h:¬ wL tNs x=0):∃ fv,testFn b pr pt pf x=some fv:=by
 have hle:=QbN tNs x;have hl:tNs.length=10:=rfl;unfold testFn;generalize wL tNs x=i at *;rcases(by omega:i=1\/i=2\/i=3\/i=4\/i=5\/i=6\/i=7\/i=8\/i=9\/i=10)with h|h|h|h|h|h|h|h|h|h<;>subst h<;>exact⟨_,rfl⟩
theorem QsW(n:Nat)(req:List (L8))(d:Int)(b F:Nat)(t:ByteArray)(s:PS)(rv:Value)(mc mt pr pt pf:Nat)(w:World)(h:RC w b t s rv mc mt)(ht:Qo5 w b mt pr pt pf)(hr:QmC w b rv req)(hF:2*t.size+1<F)(ab:0<=d)(hd:d<=6)(hS:SubMu t.size (testL t.data.toList req F n))(ho:Qfd 186 w b t rv mc mt (d+1) (testL t.data.toList req F n) (TestV n)) :
 Calls Tryz.prog 222 #[.pointer (some ⟨b,0,none⟩),.map (some mt),.int .i64 d] w (Qap (testL t.data.toList req F (n+1) s) b t rv mc mt w (TestV (n+1) (fromB w.heap.size))):=by
 by_cases h0:wL tNs s.1.spelt=0
 ·refine(QkM d b t s rv mc mt pr pt pf w h ht hd h0).mono ?_;rintro e w1 ⟨h1,h2⟩;exact Qap.err (by rw[testL,if_pos h0]) h2 h1
 have ac:=Qoo h.nm h0;cases hu:Qb6 req s.1.spelt
 ·obtain⟨fv,hf⟩:=Qpo (b:=b) (pr:=pr) (pt:=pt) (pf:=pf) h0;refine(QoA fv req d b t s rv mc mt pr pt pf w h ht hr hd ac hf hu).mono ?_;rintro e w1 ⟨h1,h2⟩;exact Qap.err (by rw[testL,if_neg h0,if_neg (by rw[hu];decide)]) h2 h1
 have hle:=QbN tNs s.1.spelt;have hl:tNs.length=10:=rfl;rcases(by omega:wL tNs s.1.spelt=0+1\/wL tNs s.1.spelt=1+1\/wL tNs s.1.spelt=2+1\/wL tNs s.1.spelt=3+1\/wL tNs s.1.spelt=4+1\/wL tNs s.1.spelt=5+1\/wL tNs s.1.spelt=6+1\/wL tNs s.1.spelt=7+1\/wL tNs s.1.spelt=8+1\/wL tNs s.1.spelt=9+1)with hi|hi|hi|hi|hi|hi|hi|hi|hi|hi
 ·refine QeJ 185 pt n req d b F t s rv mc mt pr pt pf w h ht hr ab hd ac hu (by unfold testFn;rw[hi];rfl) (fun _ _=>by kernel_rfl) (fun f2 hf2=>QbC hi hu hf2) (fun W y HM HC hy=>?_);have aa:s.1.spelt=QfB:=by have:=QaA _ _ _ hi;simpa[tNs]using this.symm
  have HE:=Qco (F:=F) (n:=n) hi hu hy;refine(Qk7 s.1.spelt s.1.pos d pt true _ (ht.mod HM).hpt).mono ?_;intro e w3 h3';obtain⟨rfl,hb⟩:=h3';exact Qap.ok (HE.trans (Qtc _ _ _ _ _)) (HM.trans (Mod.of_below hb)) ⟨rfl,by rw[aa]⟩ (HC.below hb)
 ·refine QeJ 185 pf n req d b F t s rv mc mt pr pt pf w h ht hr ab hd ac hu (by unfold testFn;rw[hi];rfl) (fun _ _=>by kernel_rfl) (fun f2 hf2=>QbC hi hu hf2) (fun W y HM HC hy=>?_);have aa:s.1.spelt=QcD:=by have:=QaA _ _ _ hi;simpa[tNs]using this.symm
  have HE:=Qco (F:=F) (n:=n) hi hu hy;refine(Qk7 s.1.spelt s.1.pos d pf false _ (ht.mod HM).hpf).mono ?_;intro e w3 h3';obtain⟨rfl,hb⟩:=h3';exact Qap.ok (HE.trans (QrL _ _ _ _ _)) (HM.trans (Mod.of_below hb)) ⟨rfl,by rw[aa]⟩ (HC.below hb)
 ·refine Qms 128 n req d b F t s rv mc mt pr pt pf w h ht hr ab hd ac hu (by unfold testFn;rw[hi];rfl) (fun _ _=>by kernel_rfl) (fun f2 hf2=>QbC hi hu hf2) (fun W y HM HC hy=>?_);have aa:s.1.spelt=kNot:=by have:=QaA _ _ _ hi;simpa[tNs]using this.symm
  have HE:=Qco (F:=F) (n:=n) hi hu hy;refine(QwZ (testL t.data.toList req F n) (TestV n) s.1.spelt s.1.pos d b t y rv mc mt _ HC ab (by omega) (Qbf n) (ho.mod HM)).mono ?_;intro e w3 h3';exact Qap.lift (fun a=>((⟨2,s.1.pos,0,false,[],[],0⟩:Qcv),[a])) h3' HM (fun q hq=>HE.trans ((QlK _ _ _ _ _).trans (Qac hq))) (fun f hf=>HE.trans ((QlK _ _ _ _ _).trans (Qad hf))) (fun a v _ hv=>by obtain⟨u,rfl,hu⟩:=hv;exact⟨a.1,u,rfl,by rw[aa],(Qbf n).weak _ _ _ _ _ hu (fun k hk _=>Nat.le_trans HM.size hk)⟩)
 ·refine QeJ 129 pr n req d b F t s rv mc mt pr pt pf w h ht hr ab hd ac hu (by unfold testFn;rw[hi];rfl) (fun _ _=>by kernel_rfl) (fun f2 hf2=>QbC hi hu hf2) (fun W y HM HC hy=>?_);have aa:s.1.spelt=QbW:=by have:=QaA _ _ _ hi;simpa[tNs]using this.symm
  have HE:=Qco (F:=F) (n:=n) hi hu hy;refine(QtB (testL t.data.toList req F n) (TestV n) s.1.spelt s.1.pos d pr b F t y rv mc mt _ HC (ht.mod HM).hpr hF ab (by omega) (Qbf n) hS (ho.mod HM)).mono ?_;intro e w3 h3';exact Qap.lift (fun xs=>((⟨3,s.1.pos,0,false,[],[],0⟩:Qcv),xs)) h3' HM (fun q hq=>HE.trans ((Qlc _ _ _ _ _).trans (Qac hq))) (fun f hf=>HE.trans ((Qlc _ _ _ _ _).trans (Qad hf))) (fun a v _ hv=>by obtain⟨u,rfl,hu,ad⟩:=hv;exact⟨u,by rw[aa],trX.weak (Qbf n) ad hu (fun k hk _=>Nat.le_trans HM.size hk),ad⟩)
 ·refine QeJ 131 pr n req d b F t s rv mc mt pr pt pf w h ht hr ab hd ac hu (by unfold testFn;rw[hi];rfl) (fun _ _=>by kernel_rfl) (fun f2 hf2=>QbC hi hu hf2) (fun W y HM HC hy=>?_);have aa:s.1.spelt=QbV:=by have:=QaA _ _ _ hi;simpa[tNs]using this.symm
  have HE:=Qco (F:=F) (n:=n) hi hu hy;refine(QtC (testL t.data.toList req F n) (TestV n) s.1.spelt s.1.pos d pr b F t y rv mc mt _ HC (ht.mod HM).hpr hF ab (by omega) (Qbf n) hS (ho.mod HM)).mono ?_;intro e w3 h3';exact Qap.lift (fun xs=>((⟨4,s.1.pos,0,false,[],[],0⟩:Qcv),xs)) h3' HM (fun q hq=>HE.trans ((QlI _ _ _ _ _).trans (Qac hq))) (fun f hf=>HE.trans ((QlI _ _ _ _ _).trans (Qad hf))) (fun a v _ hv=>by obtain⟨u,rfl,hu,ad⟩:=hv;exact⟨u,by rw[aa],trX.weak (Qbf n) ad hu (fun k hk _=>Nat.le_trans HM.size hk),ad⟩)
 ·refine QeJ 132 pr n req d b F t s rv mc mt pr pt pf w h ht hr ab hd ac hu (by unfold testFn;rw[hi];rfl) (fun _ _=>by kernel_rfl) (fun f2 hf2=>QbC hi hu hf2) (fun W y HM HC hy=>?_);have aa:s.1.spelt=QbX:=by have:=QaA _ _ _ hi;simpa[tNs]using this.symm
  have HE:=Qco (F:=F) (n:=n) hi hu hy;refine(Qr6 s.1.spelt s.1.pos d pr b F t y rv mc mt _ HC (ht.mod HM).hpr hF).mono ?_;intro e w3 h3'
  exact Qap.lift (fun x=>(x,[])) h3' HM (fun q hq=>HE.trans ((Qk1 _ _ _ _ _).trans (Qac hq))) (fun f hf=>HE.trans ((Qk1 _ _ _ _ _).trans (Qad hf))) (fun a v ha hv=>by
   obtain⟨u,rfl,hu⟩:=hv;rw[aa]at hu;show Qei _ _ _ _ _
   unfold Qei;rw[(QgN ha).1]
   exact ⟨rfl,u,rfl,hu.toX.weak (fun k hk _=>Nat.le_trans HM.size hk)⟩)
 ·refine QeJ 135 pr n req d b F t s rv mc mt pr pt pf w h ht hr ab hd ac hu (by unfold testFn;rw[hi];rfl) (fun _ _=>by kernel_rfl) (fun f2 hf2=>QbC hi hu hf2) (fun W y HM HC hy=>?_);have aa:s.1.spelt=QaL:=by have:=QaA _ _ _ hi;simpa[tNs]using this.symm
  have HE:=Qco (F:=F) (n:=n) hi hu hy;refine(QoO s.1.spelt s.1.pos d pr b F t y rv mc mt _ HC (ht.mod HM).hpr hF).mono ?_;intro e w3 h3'
  exact Qap.lift (fun x=>(x,[])) h3' HM (fun q hq=>HE.trans ((Qlb _ _ _ _ _).trans (Qac hq))) (fun f hf=>HE.trans ((Qlb _ _ _ _ _).trans (Qad hf))) (fun a v ha hv=>by
   obtain⟨u,rfl,hu⟩:=hv;rw[aa]at hu;show Qei _ _ _ _ _
   unfold Qei;rw[(QgN ha).1]
   exact ⟨rfl,u,rfl,hu.toX.weak (fun k hk _=>Nat.le_trans HM.size hk)⟩)
 ·refine QeJ 138 pr n req d b F t s rv mc mt pr pt pf w h ht hr ab hd ac hu (by unfold testFn;rw[hi];rfl) (fun _ _=>by kernel_rfl) (fun f2 hf2=>QbC hi hu hf2) (fun W y HM HC hy=>?_);have aa:s.1.spelt=Qbx:=by have:=QaA _ _ _ hi;simpa[tNs]using this.symm
  have HE:=Qco (F:=F) (n:=n) hi hu hy;refine(QpU s.1.spelt s.1.pos d pr b F t y rv mc mt _ HC (ht.mod HM).hpr hF).mono ?_;intro e w3 h3'
  exact Qap.lift (fun x=>(x,[])) h3' HM (fun q hq=>HE.trans ((Qlu _ _ _ _ _).trans (Qac hq))) (fun f hf=>HE.trans ((Qlu _ _ _ _ _).trans (Qad hf))) (fun a v ha hv=>by
   obtain⟨u,rfl,hu⟩:=hv;rw[aa]at hu;show Qei _ _ _ _ _
   unfold Qei;rw[(QgN ha).1]
   exact ⟨rfl,u,rfl,hu.toX.weak (fun k hk _=>Nat.le_trans HM.size hk)⟩)
 ·refine Qms 139 n req d b F t s rv mc mt pr pt pf w h ht hr ab hd ac hu (by unfold testFn;rw[hi];rfl) (fun _ _=>by kernel_rfl) (fun f2 hf2=>QbC hi hu hf2) (fun W y HM HC hy=>?_);have aa:s.1.spelt=QbK:=by have:=QaA _ _ _ hi;simpa[tNs]using this.symm
  have HE:=Qco (F:=F) (n:=n) hi hu hy;refine(Qs1 s.1.spelt s.1.pos d b F t y rv mc mt _ HC hF).mono ?_;intro e w3 h3';exact Qap.lift (fun xs=>((⟨8,s.1.pos,0,false,xs,[],0⟩:Qcv),[])) h3' HM (fun q hq=>HE.trans ((Qly _ _ _ _ _).trans (Qac hq))) (fun f hf=>HE.trans ((Qly _ _ _ _ _).trans (Qad hf))) (fun a v _ hv=>by obtain⟨u,rfl,hu⟩:=hv;exact⟨rfl,u,by rw[aa],hu.toX.weak (fun k hk _=>Nat.le_trans HM.size hk)⟩)
 ·refine Qms 140 n req d b F t s rv mc mt pr pt pf w h ht hr ab hd ac hu (by unfold testFn;rw[hi];rfl) (fun _ _=>by kernel_rfl) (fun f2 hf2=>QbC hi hu hf2) (fun W y HM HC hy=>?_);have aa:s.1.spelt=Qd5:=by have:=QaA _ _ _ hi;simpa[tNs]using this.symm
  have HE:=Qco (F:=F) (n:=n) hi hu hy;refine(Qvr s.1.spelt s.1.pos d b t y rv mc mt _ HC).mono ?_;intro e w3 h3'
  exact Qap.lift (fun x=>(x,[])) h3' HM (fun q hq=>HE.trans ((Qle _ _ _ _ _).trans (Qac hq))) (fun f hf=>HE.trans ((Qle _ _ _ _ _).trans (Qad hf))) (fun a v ha hv=>by
   rw[aa]at hv;show Qei _ _ _ _ _
   unfold Qei;rw[(Qlw ha).1];refine⟨rfl,?_⟩
   rw [hv,(Qlw ha).2])
theorem QnQ{α:Type}(r:Except Flt (α×PS))(ac:α->World->Value->Prop)(d:Int)(b:Nat)(t:ByteArray)(s:PS)(rv:Value)(mc mt:Nat)(w:World)(h:RC w b t s rv mc mt)
 (hb:Calls Tryz.prog 222 #[.pointer (some ⟨b,0,none⟩),.map (some mt),.int .i64 d] w (Qap r b t rv mc mt w ac)) :
 Calls Tryz.prog 186 #[.pointer (some ⟨b,0,none⟩),.int .i64 d] w (Qap r b t rv mc mt w ac):=by
 have h9:w.cell? ⟨b,9,none⟩=some (.map (some mt)):=h.at_.cell 9;have HB:=Qab hb;clear hb h;go_enter func186,ntmps186;go_wp2_with fail;refine HB.o.mono ?_;intro e w1 h1;rcases h1.cases with⟨q,v,hq,rfl,hv,ab,aa⟩ | ⟨f3,ae,⟨bb,hz,rfl,ad⟩,aa⟩
 ·have HQ:=Qab (Qap.ok hq aa hv ab);clear h1 hq aa hv ab;go_wp2;go_ret;exact HQ.o
 ·exact⟨rfl,Qap.err ae aa ⟨bb,hz,rfl,ad⟩⟩
theorem Qre(req:List (L8))(b F:Nat)(t:ByteArray)(rv:Value)(mc mt pr pt pf:Nat)(hF:2*t.size+1<F)(hS:∀ n,SubMu t.size (testL t.data.toList req F n)) :
 ∀(n:Nat),n<=7->∀(w:World),Qo5 w b mt pr pt pf->QmC w b rv req->Qfd 186 w b t rv mc mt (7 - (n:Int)) (testL t.data.toList req F n) (TestV n)
 |0,_,w,ht,hr=>fun W s hm hc=>by
  refine QnQ _ _ _ b t s rv mc mt W hc ?_;refine(QpV b t s rv mc mt pr pt pf W hc (ht.mod hm)).mono ?_;rintro e w1 ⟨h1,h2⟩;refine Qap.err ?_ h2 h1;rw[testL];split<;>rfl
 |n+1,hn,w,ht,hr=>fun W s hm hc=>by
  refine QnQ _ _ _ b t s rv mc mt W hc ?_;have ih:=Qre req b F t rv mc mt pr pt pf hF hS n (by omega) W (ht.mod hm) (hr.mod hm);have e:(7:Int) - ((n+1:Nat):Int)+1=7 - (n:Int):=by omega
  exact QsW n req _ b F t s rv mc mt pr pt pf W hc (ht.mod hm) (hr.mod hm) hF (by omega) (by omega) (hS n) (by rw[e];exact ih)
theorem Qxc(t:ByteArray)(req:List (L8))(F n:Nat):SubMu t.size (testL t.data.toList req F n):=fun s y h1 h2 e=>by
 have:=(QfC n s ⟨by simpa using h1,h2⟩ y e).2;rw[bal]at this;omega
theorem QwD(t:ByteArray)(req:List (L8))(F n:Nat):SubMu t.size (cmdL t.data.toList req F n):=fun s y h1 h2 e=>by
 have:=(QjZ n s ⟨by simpa using h1,h2⟩ y e).2;rw[bal]at this;omega
theorem Qxe(req:List (L8))(b F:Nat)(t:ByteArray)(rv:Value)(mc mt pr pt pf:Nat)(hF:2*t.size+1<F)(n:Nat)(hn:n<=7)(w:World)(ht:Qo5 w b mt pr pt pf)(hr:QmC w b rv req) :
 Qfd 186 w b t rv mc mt (7 - (n:Int)) (testL t.data.toList req F n) (TestV n):=
 Qre req b F t rv mc mt pr pt pf hF (Qxc t req F) n hn w ht hr
end
end Go.Proofs.YtgnkjijocdmniaaGreatDoor
