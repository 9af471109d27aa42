import Derived.Test.YthkibedbcbgajaaGreatDoorZPlainRuns
namespace Go.Proofs.YthkibedbcbgajaaGreatDoor
set_option linter.unusedVariables false
set_option linter.unusedSimpArgs false
set_option maxRecDepth 100000
set_option maxHeartbeats 4000000
open Go.Proofs.Tryz
section
open Go.RowKit
attribute [local go_sem ↓] Go.wp_at_zero Go.wp_at_succ
def Qfo (A:AD) (id:L8) (acts:List (Int×L8)) (text:L8):Nat×AD:=
 match filesL id acts text with
 | .error k=>(k,A)
 | .ok fs=>if fs=[] then (0,A) else Qa1 (Qbg (QeX id text acts) fs) A
theorem AbsD.ac{w w':World}{B db bd bn n b:Nat}{A:AD}(h:AbsD w B db bd bn n A)(hf:Fr (PAc b) w w'):AbsD w' B db bd bn n A:=by
 obtain⟨pv,h⟩:=h;exact⟨pv,h.fr hf (fun k cs ⟨_,cs',e⟩=>by injection e with e1 e2;exact absurd e2 (by decide)) (fun k es c ⟨_,cs',e⟩=>by cases e) (fun k cs ⟨_,cs',e⟩=>by injection e with e1 e2;exact absurd e2 (by decide)) (fun k cs ⟨_,cs',e⟩=>by injection e with e1 e2;exact absurd e2 (by decide))⟩
theorem Qtu{B db bd bn n:Nat}{A:AD}{id text:L8}{aa:List (Int×L8)}{e:Ending}{w w':World}(h:Qsq B db bd bn n A id aa text w e w') :
 ∃ ev,e=.returned ev/\AbsD w' B db bd bn (n+1200) (Qfo A id aa text).2/\(ev=Qcx (Qfo A id aa text).1\/ev=.iface 30 (.int .i64 ((Qfo A id aa text).1:Int))):=by
 unfold Qfo;obtain⟨_,⟨k,h1,rfl,h2⟩ | ⟨h1,rfl,h2⟩ | ⟨fs,h1,ab,rfl,h2⟩⟩:=h
 ·rw[h1];exact⟨_,rfl,h2.mono (by omega),Or.inr rfl⟩
 ·rw[h1];exact⟨_,rfl,by simp;exact h2.mono (by omega),Or.inl (by simp;rfl)⟩
 ·rw[h1];dsimp only;rw[if_neg ab];exact⟨_,rfl,h2,Or.inl rfl⟩
theorem Qdf(B bb db bd bn n:Nat)(F:Fs)(id text:L8)(aa:List (Int×L8))(av:Value)(l f kp pt:Int)(R:Nat×AD)(w:World)(hb:w.heap[bb]?=some (.cells #[.pointer (some ⟨db,0,none⟩)] 55))(h:AbsD w B db bd bn n ⟨F,F,[],⟨-1,-1,false⟩⟩)(ht:Tab w)(hz:Tz w)(hg:Qfv w)(ha:∀ w',Fr (PDk B) w w'->QjB w' av aa)
 (h1:id.length<=2000000) (h2:text.length<=2000000) (h3:∀ a∈aa,a.2.length<=2000000) (h4:aa.length<=1000000) (aB:F kJ=none) (hn:n<=450000) (aW:∀ fs,filesL id aa text=.ok fs->(QeX id text aa).length<=100000000) (aJ:6<B) (hBw:B<=w.heap.size)
 (hR:R=Qfo ⟨F,F,[],⟨l,f,false⟩⟩ id aa text) (aL:R.2.p.length<=100) (aG:Qb7 R.2.p) (aC:∀ o∈R.2.p,o.data.length<=100000000) (aY:-9223372036854775808<=pt) (aV:pt<=9223372036854775807) :
 Calls Tryz.prog 10 #[.pointer (some ⟨bb,0,none⟩),.string (sA id),av,.string (sA text),.int .i64 l,.int .i64 f,.int .i64 kp,.int .i64 pt] w fun e w'=>e=.returned (.int .i64 (R.1:Int))/\Fr (PDk B) w w'/\∃ bn' D' N' p',BoxEnd R.2 D' N' p'/\AbsD w' B db bd bn' (n+1400) ⟨D',N',p',⟨-1,-1,false⟩⟩:=by
 obtain⟨pv,h⟩:=h;have h:DJ w B db bd bn n F F [] (-1) (-1) false pv:=h;have HR:=Qab hR;have aI:=Qab aL;have bg:=Qab aG;have aT:=Qab aC;have HD:=Qab h;have HT:=Qab ht;have HZ:=Qab hz;have HG:=Qab hg;have HA:=Qab ha;have H3:=Qab h3;have a0:=Qab aB;have bl:=Qab hb;have b0:w.cell? ⟨bb,0,none⟩=some (.pointer (some ⟨db,0,none⟩)):=Qaa hb 0;have d3:w.cell? ⟨db,3,none⟩=some (.int .i64 (-1)):=Qaa h.blk 3;have d4:w.cell? ⟨db,4,none⟩=some (.int .i64 (-1)):=Qaa h.blk 4;have z0:∀ j,w.frozen? ⟨db,j,none⟩=false:=Qah h.blk;obtain⟨a,c,bm,_⟩:=ha w (Fr.refl _ w);subst bm;clear h ht hz hg h3 aB hb ha hR aL aG aC;go_enter func10,ntmps10;go_wp2_with fail;refine wp_region_noPanic ?_;go_region;refine NoPanic.normal ?_;obtain⟨W,hW⟩:∃ W,W=((w.setCell ⟨db,3,none⟩ (.int .i64 l)).setCell ⟨db,4,none⟩ (.int .i64 f)).drew:=⟨_,rfl⟩;obtain⟨ar,aj⟩:=HD.o.aim l f;rw[<-hW]at ar aj;rw[<-hW];have bj:=Qab ar;have ao:Hid (Fr (PDk B) w W):=aj.mono (fun _ _ h=>h.toK HD.o.bb.1);have bo:Hid (QjB W (.slice a aa.length c) aa):=HA.o W ao.o;have aD:=Qab (aj.block _ _ bl.o (fun⟨_,cs,e⟩=>by injection e with e1 e2;exact absurd e2 (by decide)));clear hW ar aj b0 d3 d4 z0;go_wp2_with (at_builtin;refine QoR rfl _ _ rfl aa (.slice a aa.length c) rfl rfl bo.o h4 ?_;intro a5 k5 w5 az aP;have aO:=Qab az;have ai:=Qab aP;clear az aP;have b5:w5.cell? ⟨bb,0,none⟩=some (.pointer (some ⟨db,0,none⟩)):=Qaa (Qai aD.o ai.o) 0);have aq:Hid (Fr (PDk B) w w5):=ao.o.trans (Fr.of_below ai.o);have a7:w.heap.size<=W.heap.size:=ao.o.size;have a9:Hid (Tab w5):=HT.o.keep aq.o aJ;have a1:Hid (Tz w5):=aq.o.lowCell (a:=⟨6,15,none⟩) aJ HZ.o;have bi:=Qab (Qai aD.o ai.o);refine(Qlq B db bd bn n ⟨F,F,[],⟨l,f,false⟩⟩ id text aa (.slice a5 aa.length k5) w5 ⟨pv,bj.o.below ai.o⟩ rfl a9.o a1.o (QjB.of_owns aO.o) h1 h2 H3.o (by omega) a0.o hn (by simp) (by intro o ho;cases ho) aW).mono ?_;intro e w6 ax;have ag:=ax.1;have bh:=Qab (aq.o.trans ag);have a2:=Qab (ag.block _ _ bi.o PDk.notBox);have bk:Hid (w6.ownsRow W.heap.size 34 2 (.slice a5 aa.length k5) aa.length (Qbj aa)):=QaR aO.o ag (fun k cs=>PDk.notAc);clear ag b5;obtain⟨ev,hev,ay,au⟩:=Qtu ax;subst hev;rw[<-HR.o]at ay au;have aZ:=Qab ay;have aA:=Qab au;clear ay au ax;go_wp2_with fail
 go_loopw [19,49] (fun _ i wr=>∃(j:Nat) (xs:List Value),j<=aa.length/\i=.int .i64 (j:Int)/\wr.ownsRow W.heap.size 34 2 (.slice a5 aa.length k5) aa.length xs/\Fr (PAc W.heap.size) w6 wr) (fun _ i _=>aa.length - (intOf i).toNat)
 case atStart=>exact⟨0,_,Nat.zero_le _,by go_num,bk.o,Fr.refl _ _⟩
 case round=>
  obtain⟨j,xs,hj,rfl,ab,hF⟩:=hrel;by_cases hlt:j<aa.length
  ·obtain⟨g,c,hv,hbg,hgl,hcells⟩:=Qcq ab (by omega);injection hv with hv1 hv2 hv3
   subst hv1 hv3;have a4:=ab.1;obtain⟨u2,hu2⟩:∃ u,wr.cell? ⟨g,j*2+1,none⟩=some u:=⟨xs[j*2+1]'(by omega),hcells _ _ (List.getElem?_eq_getElem (by omega))⟩;have hfz:∀ o,wr.frozen? ⟨g,o,none⟩=false:=ab.frozenAt;obtain⟨s1,g1⟩:=ab.stored (j*2+1) (.string ⟨#[109,105,110,101]⟩);have HS:=Qab (And.intro s1 (hF.trans ((Fr.refl (PAc W.heap.size) wr).grown g1 (fun k' o e ho'=>Qbb ab k' o e ho'))));clear s1 g1 ab hF hcells a4;go_wp2;go_roundw
   case rel=>exact⟨j+1,_,by omega,by go_num,HS.o.1,HS.o.2⟩
   case measure=>simp[intOf];omega
  ·have aQ:Hid (Fr (PDk B) w wr):=bh.o.newAc hF a7;have ba:=Qab (AbsD.ac aZ.o hF);have aX:=Qab (hF.block _ _ a2.o (fun⟨_,cs,e⟩=>by injection e with e1 e2;exact absurd e2 (by decide)));have aH:Hid (Qfv wr):=aQ.o.lowCell (a:=⟨0,0,none⟩) (by show 0<B;omega) HG.o;have a8:j=aa.length:=by omega
   subst a8;clear hF ab
   have aE:Hid (Calls Tryz.prog 19 #[ev] wr fun e w'=>e=.returned (.tuple #[.int .i64 (R.1:Int),.int .i64 (-1)])/\Below wr.heap.size wr w'):=by
    rcases aA.o with hev|hev
    ·rw[hev];exact Qm7 R.1 wr aH.o
    ·rw[hev];exact Qg2 (R.1:Int) wr aH.o
   clear aA;go_wp2_with fail;refine aE.o.mono ?_;rintro e w7 ⟨rfl,ah⟩;obtain⟨pv7,aR⟩:=ba.o;have af:=Qab (aR.below ah);have aF:Hid (Fr (PDk B) w w7):=aQ.o.trans (Fr.of_below ah);have ap:=Qai aX.o ah;have b0:w7.cell? ⟨bb,0,none⟩=some (.pointer (some ⟨db,0,none⟩)):=Qaa ap 0;have d3:w7.cell? ⟨db,3,none⟩=some (.int .i64 R.2.lf.left):=Qaa af.o.blk 3;have d4:w7.cell? ⟨db,4,none⟩=some (.int .i64 R.2.lf.full):=Qaa af.o.blk 4;have d5:w7.cell? ⟨db,5,none⟩=some (.bool R.2.lf.down):=Qaa af.o.blk 5;have z0:∀ j,w7.frozen? ⟨db,j,none⟩=false:=Qah af.o.blk;have a6:=Qab ap;have ae:=Qab (af.o.aim (-1) (-1));clear ah ap aE aR;generalize hdn:R.2.lf.down=dn at *;have aw:=Qab hdn;clear hdn
   cases dn with
   |false=>
    go_wp2_with fail;refine wp_region_noPanic ?_;go_region;refine NoPanic.normal ?_;go_wp2;go_ret;obtain⟨h8,h9⟩:=ae.o;exact⟨rfl,aF.o.trans (h9.mono (fun _ _ h=>h.toK af.o.bb.1)),bn,R.2.D,R.2.N,R.2.p,Or.inl ⟨aw.o,rfl,rfl,rfl⟩,AbsD.mono ⟨_,h8⟩ (by omega)⟩
   |true=>
    have bc:=Qab (Qkj B db bd bn (n+1200) R.2 kp pt w7 ⟨_,by rw[aw.o];exact af.o⟩ (by omega) (by have:=aI.o;omega) bg.o aT.o aY aV);clear ae d3 d4 z0;go_wp2_with fail;refine bc.o.mono ?_;rintro e w8 ⟨rfl,ak,bn',D',aK,bf,aN⟩;have ad:DJ w8 B db bd bn' (n+1200+R.2.p.length) D' D' [] (-1) (-1) false bf:=aN;have aS:=Qab ad;have aM:=ak.block _ _ a6.o PDk.notBox;have b8:w8.cell? ⟨bb,0,none⟩=some (.pointer (some ⟨db,0,none⟩)):=Qaa aM 0;have e3:w8.cell? ⟨db,3,none⟩=some (.int .i64 (-1)):=Qaa ad.blk 3;have e4:w8.cell? ⟨db,4,none⟩=some (.int .i64 (-1)):=Qaa ad.blk 4;have y0:∀ j,w8.frozen? ⟨db,j,none⟩=false:=Qah ad.blk;have ae:=Qab (ad.aim (-1) (-1));have a3:=Qab (aF.o.trans ak);have aU:=Qab aK;clear aN ad aM ak aK b0 d5;go_wp2_with fail;refine wp_region_noPanic ?_;go_region;refine NoPanic.normal ?_;go_wp2;go_ret;obtain⟨h8,h9⟩:=ae.o;exact⟨rfl,a3.o.trans (h9.mono (fun _ _ h=>h.toK aS.o.bb.1)),bn',D',D',[],Or.inr ⟨aw.o,aU.o,rfl,rfl⟩,AbsD.mono ⟨_,h8⟩ (by have:=aI.o;omega)⟩
end
section
structure QnI (F:Fs) (id:L8) (acts:List (Int×L8)) (text:L8) (fs:List Fl):Prop where
 ok:filesL id acts text=.ok fs
 li:id.length≤100000
 lt:text.length≤100000
 la:∀ a∈acts,a.2.length≤100000
 dot:∀ x,(F x).isSome=true→Qiw x=false
 jl:(jnL (Qbn id text acts)).length≤80000000
 f10:fs.length≤6
 a6:acts.length≤6
 nm:∀ f∈fs,QjH f.1∧f.2.length≤400000
 kd:∀ a∈acts,0≤a.1∧a.1≤2147483647
variable {F:Fs} {id:L8} {acts:List (Int×L8)} {text:L8} {fs:List Fl}
theorem QnI.nj(h:QnI F id acts text fs):∀ f∈fs,f.1≠kJ:=fun f hf e=>by
 obtain⟨_,c0,r,e1,e2⟩:=(h.nm f hf).1;rw[e]at e1;injection e1 with e3 _
 exact e2 e3.symm
theorem QnI.fj(h:QnI F id acts text fs):F kJ=none:=by
 cases e:F kJ with
 |none=>rfl
 |some s=>exact absurd (h.dot kJ (by rw[e];rfl)) (by decide)
theorem QpS{x:L8}(h:QjH x):Qiw x=false:=by
 obtain⟨_,c0,r,e1,e2⟩:=h;subst e1;show(46==c0&&List.isPrefixOf [] r)=false
 rw[Bool.and_eq_false_iff];exact Or.inl (by rw[beq_eq_false_iff_ne];exact fun e=>e2 e.symm)
theorem putFs_somG(x:L8):∀(l:List Fl) (M:Fs),(Qbo M l x).isSome=true->(M x).isSome=true\/∃ f∈l,f.1=x
 | [],M,h=>Or.inl h
 |f::r,M,h=>by
  rcases putFs_somG x r (Que M f) h with h | ⟨g,hg,e⟩
  ·by_cases hx:x=f.1
   ·exact Or.inr ⟨f,List.mem_cons_self,hx.symm⟩
   ·refine Or.inl ?_;have:Qfp M f.1 f.2 x=M x:=by unfold Qfp;rw[if_neg hx]
    rw[<-this];exact h
  ·exact Or.inr ⟨g,List.mem_cons_of_mem _ hg,e⟩
theorem Qx7(h:QnI F id acts text fs)(w:World)(ht:Tab w)(hz:Tz w)(M:Fs)(ad:Option (List Fl))(ho:OwnOf F (QeX id text acts) fs M ad):QfW w M ad:=by
 have ae:∀ f∈fs,Qiw f.1=false:=fun f hf=>QpS (h.nm f hf).1
 have aa:∀ B W,6<B->Fr (PDk B) w W->Tab W/\Tz W:=fun B W hB hf=>⟨ht.keep hf hB,hf.lowCell (a:=⟨6,15,none⟩) hB hz⟩
 have af:(QeX id text acts).length<=90000000:=by
  unfold QeX;rw[Qds,List.length_append];have h1:=QdL 8 (jnL (Qbn id text acts)).length (by have:=h.jl;omega);have h2:=QhW (fnvL [kJ,[10],jnL (Qbn id text acts)]);unfold Qdn;rw[List.length_append,List.length_append];have h3:=h.jl;simp only[List.length_cons,List.length_nil];omega
 rcases ho with⟨rfl,hW|hX⟩ | ⟨rfl,hT⟩ | ⟨rfl,hJ⟩
 ·exact fun x hx=>h.dot x (by rw[<-hW x];exact hx)
 ·exact fun x hx=>by
   rw[hX x]at hx;rcases putFs_somG x fs F hx with hx | ⟨f,hf,e⟩
   ·exact h.dot x hx
   ·rw[<-e];exact ae f hf
 ·obtain⟨hx,k,hk,hs⟩:=hT;refine⟨fun x h1 h2=>h.dot x (by rw[<-hx x h2];exact h1),by simp,(fun f hf=>by cases hf),(fun f hf=>by cases hf),_,hs,?_,fun B W hB hf=>?_⟩
  ·rw[List.length_take];omega
  ·obtain⟨hT,hZ⟩:=aa B W hB hf;rcases torn_head kJ (jnL (Qbn id text acts)) k hk with hn | ⟨z,ac,hz2,ab⟩
   ·exact(Qq1 kJ _ W hn (by show(List.take k (QeX id text acts)).length<=_;rw[List.length_take];omega)).mono (fun e w' hh=>Or.inl ⟨rfl,hh⟩)
   ·show Calls _ _ #[_,.string (sA (List.take k (QbK kJ (jnL (Qbn id text acts)))))] _ _
    rw[ac]at ab ⊢;refine(QuR kJ _ z W hT hZ (Qiy _ _) ?_ (by decide) ab).mono (fun e w' hh=>Or.inl ⟨rfl,hh⟩)
    have h4:(Qdn kJ (jnL (Qbn id text acts))++10::z).length<=(QeX id text acts).length:=by
     rw[<-ac,List.length_take];show min _ (QeX id text acts).length<=_
     omega
    simp only[List.length_append,List.length_cons]at h4;omega
 ·refine⟨fun x h1 h2=>?_,by have:=h.f10;omega,fun f hf=>⟨by have:=(h.nm f hf).1.1;omega,by have:=(h.nm f hf).2;omega⟩,h.nj,_,hJ.1,af,fun B W hB hf=>?_⟩
  ·by_cases hn:∃ f∈fs,f.1=x
   ·obtain⟨f,hf,e⟩:=hn;rw[<-e];exact ae f hf
   ·exact h.dot x (by rw[<-hJ.2 x h2 (fun f hf e=>hn ⟨f,hf,e⟩)];exact h1)
  ·obtain⟨hT,hZ⟩:=aa B W hB hf;exact(QrM kJ id text acts W hT hZ (by decide) h.jl (by have:=h.a6;omega) h.kd).mono (fun e w' hh=>Or.inr ⟨id,text,acts,h.ok,by have:=h.li;omega,by have:=h.lt;omega,fun a ha=>by have:=h.la a ha;omega,by have:=h.a6;omega,hh⟩)
end
section
open Go.RowKit
attribute [local go_sem ↓] Go.wp_at_zero Go.wp_at_succ
theorem DJ.toDI{w:World}{B db bd bn n:Nat}{D N:Fs}{p:List Dop}{pv:Value}(h:DJ w B db bd bn n D N p (-1) (-1) false pv):DI w B db bd bn n D N p (-1) pv:=⟨h.bb,h.ne,h.blk,h.md,h.mn,h.row⟩
theorem QiR(B bb db bd bn n:Nat)(D N:Fs)(p:List Dop)(w:World)(hb:w.heap[bb]?=some (.cells #[.pointer (some ⟨db,0,none⟩)] 55))(h:AbsD w B db bd bn n ⟨D,N,p,⟨-1,-1,false⟩⟩)(hn:n<=500000) :
 Calls Tryz.prog 11 #[.pointer (some ⟨bb,0,none⟩)] w fun e w'=>Below w.heap.size w w'/\∃ v l,e=.returned v/\Qye w' v l/\Lists D l/\l.length<=n:=by
 obtain⟨pv,h⟩:=h;have HL:=Qab (Qrl B db bd bn n D N p (-1) pv w (DJ.toDI h) hn);have b0:w.cell? ⟨bb,0,none⟩=some (.pointer (some ⟨db,0,none⟩)):=Qaa hb 0;clear h hb;go_enter func11,ntmps11;go_wp2_with fail;refine HL.o.mono ?_;rintro e w1 ⟨aa,v,l,rfl,h1,h2,h3⟩;have ab:=Qab aa;have H1:=Qab h1;have H2:=Qab h2;clear aa h1 h2;go_wp2;go_ret;exact⟨ab.o,v,l,rfl,H1.o,H2.o,h3⟩
end
section
variable {F:Fs} {id:L8} {acts:List (Int×L8)} {text:L8} {fs:List Fl}
structure Qdp (F:Fs) (fs:List Fl) (L:List (L8)):Prop where
 f:∀ x,(F x).isSome=true→x∈L
 j:kJ∈L
 n:∀ f∈fs,f.1∈L
theorem Qdp.next{L:List (L8)}(h:Qdp F fs L)(x:L8)(hx:(Qbo F fs x).isSome=true):x∈L:=by
 rcases putFs_somG x fs F hx with hx | ⟨f,hf,e⟩
 ·exact h.f x hx
 ·rw[<-e];exact h.n f hf
theorem Qfk{J:L8}{L:List (L8)}{D:Fs}{p:List Dop}(hL:Qdp F fs L)(h:QhY F J fs D p)(x:L8)(hx:(D x).isSome=true):x∈L:=by
 by_cases hj:x=kJ
 ·rw[hj];exact hL.j
 rcases h with⟨h,_⟩ | ⟨h,_⟩ | ⟨h,_⟩ | ⟨h,_⟩ | ⟨h,_⟩
 ·exact hL.f x (by rw[<-h x];exact hx)
 ·exact hL.f x (by rw[<-h.1 x hj];exact hx)
 ·by_cases hn:∃ f∈fs,f.1=x
  ·obtain⟨f,hf,e⟩:=hn;rw[<-e];exact hL.n f hf
  ·exact hL.f x (by rw[<-h.2 x hj (fun f hf e=>hn ⟨f,hf,e⟩)];exact hx)
 ·exact hL.next x (by rw[<-h.2 x hj];exact hx)
 ·exact hL.next x (by rw[<-h x];exact hx)
theorem QlX(h:QnI F id acts text fs){D:Fs}{p:List Dop}(hg:QhY F (QeX id text acts) fs D p)(aa:(QeX id text acts).length<=100000000):p.length<=6/\Qb7 p/\∀ o∈p,o.data.length<=100000000:=by
 have hk:kJ.length<=1000000:=by decide
 have h1:Qb7 [wOp (kJ,QeX id text acts)]:=fun o ho=>by rw[List.mem_singleton.1 ho];exact⟨Or.inl rfl,hk⟩
 have h2:Qb7 [rOp kJ]:=fun o ho=>by rw[List.mem_singleton.1 ho];exact⟨Or.inr rfl,hk⟩
 rcases hg with⟨_,rfl|rfl⟩ | ⟨_,rfl|rfl⟩ | ⟨_,k,rfl⟩ | ⟨_,rfl⟩ | ⟨_,rfl⟩
 ·exact⟨by simp,(fun o ho=>by cases ho),(fun o ho=>by cases ho)⟩
 ·exact⟨by simp,h1,fun o ho=>by rw[List.mem_singleton.1 ho];exact aa⟩
 ·exact⟨by simp,(fun o ho=>by cases ho),(fun o ho=>by cases ho)⟩
 ·exact⟨by simp,h2,fun o ho=>by rw[List.mem_singleton.1 ho];exact Nat.zero_le _⟩
 ·have hl:=h.f10;refine⟨by rw[List.length_map,List.length_take];omega,fun o ho=>?_,fun o ho=>?_⟩
  ·obtain⟨f,hf,rfl⟩:=List.mem_map.1 ho;have:=(h.nm f (List.mem_of_mem_take hf)).1.1;exact⟨Or.inl rfl,by show f.1.length<=_;omega⟩
  ·obtain⟨f,hf,rfl⟩:=List.mem_map.1 ho;have:=(h.nm f (List.mem_of_mem_take hf)).2;show f.2.length<=_
   omega
 ·exact⟨by simp,h2,fun o ho=>by rw[List.mem_singleton.1 ho];exact Nat.zero_le _⟩
 ·exact⟨by simp,(fun o ho=>by cases ho),(fun o ho=>by cases ho)⟩
def Qx9 (w:World) (B db bd m:Nat) (F:Fs) (J:L8) (fs:List Fl):Prop:=
 ∃ bn D N p,AbsD w B db bd bn m ⟨D,N,p,⟨-1,-1,false⟩⟩∧QhY F J fs D p∧N=p.foldl doF D
def Quf (w:World) (B db bd m:Nat) (Q:Fs→Prop):Prop:=∃ bn M,Q M∧AbsD w B db bd bn m ⟨M,M,[],⟨-1,-1,false⟩⟩
def QyC (B db bd m:Nat) (F:Fs) (J:L8) (fs:List Fl) (Q:Fs→Prop) (w:World) (e:Ending) (w':World):Prop:=
 ∃ k:Nat,e=.returned (.int .i64 (k:Int))∧Fr (PDk B) w w'∧((k=0∧Quf w' B db bd m Q)∨((k=15∨k=16)∧Qx9 w' B db bd m F J fs))
theorem Qoi{J:L8}{L:List (L8)}{B db bd ab n:Nat}{R:Nat×AD}{Q:Fs->Prop}{D' N':Fs}{p':List Dop}{w w':World}{e:Ending}(hL:Qdp F fs L)(hF:F kJ=none)(hj:∀ f∈fs,f.1≠kJ)(hE:Qr9 F J fs R Q)(hQ:∀ M,Q M->∀ x,(M x).isSome=true->x∈L)
 (he:e=.returned (.int .i64 (R.1:Int))) (hf:Fr (PDk B) w w') (hb:BoxEnd R.2 D' N' p') (hA:AbsD w' B db bd ab n ⟨D',N',p',⟨-1,-1,false⟩⟩):QyC B db bd L.length F J fs Q w e w':=by
 refine⟨R.1,he,hf,?_⟩;rcases hE with⟨h0,h1,h2,h3,h4⟩ | ⟨aa,hg,hN⟩
 ·refine Or.inl ⟨h0,ab,R.2.D,h4,?_⟩;rcases hb with⟨_,rfl,rfl,rfl⟩ | ⟨hd,_⟩
  ·rw[h2,<-h1]at hA;exact hA.tight L (hQ _ h4) (hQ _ h4)
  ·rw[h3]at hd;cases hd
 ·refine Or.inr ⟨?_,?_⟩
  ·rcases aa with⟨h,_⟩ | ⟨h,_⟩
   ·exact Or.inl h
   ·exact Or.inr h
  ·rcases hb with⟨hd,rfl,rfl,rfl⟩ | ⟨hd,hc,rfl,rfl⟩
   ·refine⟨ab,_,_,_,hA.tight L (Qfk hL hg) ?_,hg,hN hd⟩;show ∀ x,(R.2.N x).isSome=true->x∈L
    rw[hN hd];exact Qfk hL (QpE hg hF hj)
   ·have ac:=QjZ hg hF hj hc;exact⟨ab,_,_,_,hA.tight L (Qfk hL ac) (Qfk hL ac),ac,rfl⟩
theorem Qhc(h:QnI F id acts text fs):(QeX id text acts).length<=90000000:=by
 unfold QeX;rw[Qds,List.length_append];have h1:=QdL 8 (jnL (Qbn id text acts)).length (by have:=h.jl;omega);have h2:=QhW (fnvL [kJ,[10],jnL (Qbn id text acts)]);unfold Qdn;rw[List.length_append,List.length_append];have h3:=h.jl;simp only[List.length_cons,List.length_nil];omega
theorem ends_good{J:L8}{R:Nat×AD}{Q:Fs->Prop}(hE:Qr9 F J fs R Q):R.2.p=[]\/QhY F J fs R.2.D R.2.p:=by
 rcases hE with⟨_,_,h2,_⟩ | ⟨_,hg,_⟩
 ·exact Or.inl h2
 ·exact Or.inr hg
theorem Qh1(h:QnI F id acts text fs){R:Nat×AD}{Q:Fs->Prop}(hE:Qr9 F (QeX id text acts) fs R Q):R.2.p.length<=6/\Qb7 R.2.p/\∀ o∈R.2.p,o.data.length<=100000000:=by
 rcases ends_good hE with hp|hg
 ·rw[hp];exact⟨by simp,(fun o ho=>by cases ho),(fun o ho=>by cases ho)⟩
 ·exact QlX h hg (by have:=Qhc h;omega)
theorem Qs7(B bb db bd:Nat)(L:List (L8))(av:Value)(l f kp pt:Int)(w:World)(hv:QnI F id acts text fs)(ac:fs≠[])(hL:Qdp F fs L)(hb:w.heap[bb]?=some (.cells #[.pointer (some ⟨db,0,none⟩)] 55))(h:Quf w B db bd L.length (fun M=>M=F))(hB:6<B)(ab:B<=w.heap.size)(ht:Tab w)(hz:Tz w)(hg:Qfv w)(ha:∀ w',Fr (PDk B) w w'->QjB w' av acts)(hn:L.length<=450000)(ad:-9223372036854775808<=pt)(af:pt<=9223372036854775807) :
 Calls Tryz.prog 10 #[.pointer (some ⟨bb,0,none⟩),.string (sA id),av,.string (sA text),.int .i64 l,.int .i64 f,.int .i64 kp,.int .i64 pt] w (QyC B db bd L.length F (QeX id text acts) fs (Nxt F fs) w):=by
 obtain⟨bn,M,rfl,hA⟩:=h
 have hR:Qfo ⟨M,M,[],⟨l,f,false⟩⟩ id acts text=Qa1 (Qbg (QeX id text acts) fs) ⟨M,M,[],⟨l,f,false⟩⟩:=by
  unfold Qfo;rw[hv.ok];dsimp only;rw[if_neg ac]
 have hE:Qr9 M (QeX id text acts) fs (Qfo ⟨M,M,[],⟨l,f,false⟩⟩ id acts text) (Nxt M fs):=by rw[hR];exact Qns _ hv.fj hv.nj
 obtain⟨p1,p2,p3⟩:=Qh1 hv hE;refine(Qdf B bb db bd bn L.length M id text acts av l f kp pt _ w hb hA ht hz hg ha (by have:=hv.li;omega) (by have:=hv.lt;omega) (fun a h=>by have:=hv.la a h;omega) (by have:=hv.a6;omega) hv.fj hn (fun _ _=>by have:=Qhc hv;omega) hB ab rfl (by omega) p2 p3 ad af).mono ?_;rintro e w' ⟨he,hf,bn',D',N',p',aa,ae⟩;exact Qoi hL hv.fj hv.nj hE (fun M' hM x hx=>hL.next x (by rw[<-hM x];exact hx)) he hf aa ae
end
end Go.Proofs.YthkibedbcbgajaaGreatDoor
