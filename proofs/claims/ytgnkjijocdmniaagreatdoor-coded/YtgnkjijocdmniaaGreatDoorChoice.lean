import Derived.Deep.AppendLies
import Derived.Test.YtgnkjijocdmniaaGreatDoorZTestEnd
namespace Go.Proofs.YtgnkjijocdmniaaGreatDoor
set_option linter.unusedVariables false
set_option linter.unusedSimpArgs false
set_option maxRecDepth 100000
set_option maxHeartbeats 4000000
open Go.Proofs.Tryz
open Go.RowKit
attribute [local go_sem ↓] Go.wp_at_zero Go.wp_at_succ
def V5{α β:Type}(l:L8)(F:Nat)(tst:PS->Qb (β×PS))(sub:PS->Qb (α×PS))(s:PS):Qb ((List (β×List α)×Bool×List α)×PS):=
 Qp (armL l F tst sub s) fun a s1=>Qp (aMr l F tst sub F [a] s1) fun arms s2=>Qp (mayL l [Xv] s2) fun i s3=>
  if i=0 then .ok ((arms,false,[]),s3)else Qp (blockL l F sub s3) fun cs s4=>.ok ((arms,true,cs),s4)
abbrev BI(hw:L8)(hp:Nat)(av:Value):Obj:=.cells #[.string (sA hw),.int .i64 hp,av,.bool false,.slice none 0 0] 261
abbrev J4:Obj:=.cells #[.string ⟨#[]⟩,.int .i64 0,.slice none 0 0,.bool false,.slice none 0 0] 261
variable{α β:Type}{F T base n size:Nat}{a:β×List α}{b:(Nat->Prop)->β->World->Value->Prop}{d u v:Value}{e:TypeId}{s:PS}{sub:PS->Qb (α×PS)}{t:ByteArray}{tst:PS->Qb (β×PS)}{w:World}{y:(β×List α)×PS}
theorem Tryz.infoArm:(prog.info? 298).map (fun i=>(i.zero,i.size,i.bytes))=some (some (.agg #[.nilIface,.slice none 0 0]),2,40):=by kernel_rfl
theorem P8(w:World)(x y:Value)(t:TypeId):∀ j u,[x,y][j]?=some u->(w.alloc (.cells #[x,y] t)).cell? ((⟨w.heap.size,0,none⟩:Addr).add j)=some u:=by
 intro j u a
 match j,a with
 |0,a=>simp at a;subst a;simp[Addr.add]
 |1,a=>simp at a;subst a;simp[Addr.add]
theorem P9{f:(Nat->Prop)->α->World->Value->Prop}(j:TreeP b){X Y:Nat->Prop}(g:b X a.1 w u)(i:blX Y f a.2 w d):∀ x∈[u,d],x.oneCell'=true:=by
 obtain⟨k,x,rfl⟩:=j.form _ _ _ _ g;obtain⟨a,n,c,rfl⟩:=i.form;intro x e;simp at e;rcases e with rfl|rfl<;>rfl
theorem Ra{l:(Nat->Prop)->β->World->Value->Prop}{m:(Nat->Prop)->α->World->Value->Prop}(y:TreeP l)(z:TreeP m){b g p f q:Nat}{F:Value}{D E:Nat}{d i:World}{o r:Obj}{acc:List (β×List α)}{c:Value}{x:List Value}
 (J:Z8 l m base T d (.slice (some ⟨g,0,none⟩) n p) a u c) (L:Yz (fun a u c=>Z8 l m base T d (.slice (some ⟨g,0,none⟩) n p) a u c) acc x) (A:d.heap[T]?=some o) (G:RC d b t s F D E) (K:Mod b w d) (S:i.ownsRow base e 2 (.slice (some ⟨f,0,none⟩) (n+1) q) (n+1) (x++[u,c])) (j:(d.alloc r).grownBy i (some g)) (B:(Value.slice (some ⟨g,0,none⟩) n p).ownBlock=some f\/f=(d.alloc r).heap.size) (Q:w.heap.size<=T) (N:¬ T=b) (H:g≠T) (R:b<base/\base<=g/\base=w.heap.size) :
 i.heap[T]?=some o/\RC i b t s F D E/\Mod b w i/\f≠T/\Yz (fun a u c=>Z8 l m base T i (.slice (some ⟨f,0,none⟩) (n+1) q) a u c) (acc++[a]) (x++[u,c]):=by
 have P:=Qh A
 have C:(Value.slice (some ⟨f,0,none⟩) (n+1) q).ownBlock=(Value.slice (some ⟨g,0,none⟩) n p).ownBlock\/(Value.slice (some ⟨f,0,none⟩) (n+1) q).ownBlock=some (d.heap.size+1):=by
  rcases B with h|h
  ·left;rw[h];rfl
  ·right;rw[h];simp[Value.ownBlock]
 refine⟨?_,(G.alloc r).grown j (fun k v=>by cases v;omega),(K.alloc r).grown j (fun k v=>by cases v;omega),?_,?_⟩
 ·rw[j.block T (by simp;omega) (fun h=>H (by cases h;rfl))];exact Qy A
 ·rcases B with h|h
  ·simp[Value.ownBlock]at h;omega
  ·simp at h;omega
 ·exact Yz.snoc (J.grown y z j C) (L.imp (fun a u c M=>M.grown y z j C))
def V6{α β:Type}(l:L8)(F:Nat)(sub:PS->Qb (α×PS))(arms:List (β×List α))(s2:PS):Qb ((List (β×List α)×Bool×List α)×PS):=
 Qp (mayL l [Xv] s2) fun i s3=>if i=0 then .ok ((arms,false,[]),s3)else Qp (blockL l F sub s3) fun cs s4=>.ok ((arms,true,cs),s4)
theorem V7{l:L8}(h:armL l F tst sub s=.ok y):V5 l F tst sub s=Qp (aMr l F tst sub F [y.1] y.2) (V6 l F sub):=Qe h
theorem Z8.first{c:(Nat->Prop)->α->World->Value->Prop}(i:TreeP b)(j:TreeP c){B:Nat}(h:b (fromB B) a.1 w u)(e:blX (fromB B) c a.2 w d)(f:base<=B)(l:∀ g,v.ownBlock=some g->w.heap.size<=g)(m:T<B\/w.heap.size<=T):Z8 b c base T w v a u d:=
 ⟨fun k=>B<=k/\k<w.heap.size,i.weak _ _ _ _ _ h (fun k hk hz=>⟨hk,hz⟩),e.weak j (fun k hk hz=>⟨hk,hz⟩),fun k hk=>⟨Qm f hk.1,hk.2⟩,fun g hg hX=>by have:=l g hg;omega,fun hX=>by omega⟩
theorem Rb{g:Nat}{cs:Array Value}(h:w.heap[g]?=some (.cells cs e))(hb:base<=g)(hm:n<=maxLen)(hs:cs.size=n*size):w.ownsRow base e size (.slice (some ⟨g,0,none⟩) n n) n cs.toList:=
 ⟨by simpa using hs,.inr ⟨g,n,cs,rfl,hb,h,Nat.le_refl _,hm,hs,List.take_of_length_le (by rw[Array.length_toList,hs];exact Qt)⟩⟩
theorem EF{o:Nat}{x:Value}{xs:List Value}(h:w.ownsRow base e size v n xs)(i:∀ g,v.ownBlock=some g->g≠T):(w.setCell ⟨T,o,none⟩ x).ownsRow base e size v n xs:=by
 obtain⟨f,a⟩:=h;refine⟨f,?_⟩;rcases a with a | ⟨g,c,d,b,j,k,r⟩
 ·exact Qd a
 ·exact Qc ⟨g,c,d,b,j,by rw[Below.heap_setCell _ _ _ _ (show g≠T from i g (by rw[b];rfl))];exact k,r⟩
theorem Rc:∀ z∈([Xe]:Qa),z≠[]:=by decide
theorem Rd(d:∀ s,Gd t.data.toList s->Dn 1 t.data.toList (tst s) s)(c:∀ s,Gd t.data.toList s->Dn 1 t.data.toList (sub s) s)(a:s.2<=t.size)(b:s.1.kind=0->s.1.spelt=[])(e:armL t.data.toList F tst sub s=.ok y):mu t.size y.2<mu t.size s:=by
 have:=(BJ d c ⟨by simpa using a,b⟩ y e).2;rw[bal]at this;omega
theorem Re(tst:PS->Qb (β×PS))(W:(Nat->Prop)->β->World->Value->Prop)(sub:PS->Qb (α×PS))(N:(Nat->Prop)->α->World->Value->Prop)(hw:L8)(K:Nat)(d:Int)(b F:Nat)(t:ByteArray)(s:PS)(J:Value)(D E:Nat)(w:World)(h:RC w b t s J D E)(hF:2*t.size+1<F)(a9:0<=d)(bd:d<=100)(a2:TreeP W)(a3:TreeP N)(hS:SubMu t.size sub)(bg:∀ s,Gd t.data.toList s->Dn 1 t.data.toList (tst s) s)(bf:∀ s,Gd t.data.toList s->Dn 1 t.data.toList (sub s) s)(bk:YA 186 w b t J D E (d+1) tst W)(bl:YA 143 w b t J D E (d+1) sub N) :
 Calls prog 126 #[.pointer (some ⟨b,0,none⟩),ZS hw K,.int .i64 d] w (Qg (V5 t.data.toList F tst sub s) b t J D E w (fun x w' v=>∃ av ev,v=.iface 261 (.agg #[.string (sA hw),.int .i64 K,av,.bool x.2.1,ev])/\Je (fromB w.heap.size) W N x.1 w' av/\x.1≠[]/\blX (fromB w.heap.size) N x.2.2 w' ev)):=by
 have H:=I h;have aX:=I bk;have aD:=I bl;have j:=I a2;have i:=I a3;have aG:=I hS;have cb:=h.at_.lt;clear h bk bl a2 a3 hS;unfold ZS;obtain⟨i0,hi,b1,b2,b3⟩:=info_parts Tryz.infoArm;go_enter func126,ntmps126;go_upto_region 1 with fail
 have bY:¬ w.heap.size=b:=by omega
 have bZ:¬ w.heap.size+1=b:=by omega
 go_cut [7] (fun v wc=>∃(T G:Nat) (y:(β×List α)×PS) (u p:Value),v=.pointer (some ⟨T,0,none⟩)/\armL t.data.toList F tst sub s=.ok y/\RC wc b t y.2 J D E/\Mod b w wc/\w.heap.size<=T/\w.heap.size<=G/\T≠G/\wc.heap[T]?=some (BI hw K (.slice (some ⟨G,0,none⟩) 1 1))/\wc.heap[G]?=some (.cells #[u,p] 298)/\Z8 W N w.heap.size T wc (.slice (some ⟨G,0,none⟩) 1 1) y.1 u p)
 case first=>
  go_region_with (go_at_call 183;refine(EG tst W sub N d b F t s J D E _ (by first|exact(H.o.alloc _).drew|exact((H.o.alloc _).alloc _).drew) hF a9 bd j.o i.o aG.o (aX.o.mod (by first|exact((Mod.refl b w).alloc _).drew|exact(((Mod.refl b w).alloc _).alloc _).drew)) (aD.o.mod (by first|exact((Mod.refl b w).alloc _).drew|exact(((Mod.refl b w).alloc _).alloc _).drew))).mono ?_;intro e c h1;rcases h1.cases with⟨y,v,hy,rfl,hv,hc,C⟩ | ⟨f,hf,⟨R,V,rfl,S⟩,C⟩;rotate_left;exact⟨rfl,Qg.err (Qi hf) (by first|exact((Mod.refl b w).alloc _).trans (Zt C)|exact(((Mod.refl b w).alloc _).alloc _).trans (Zt C)) ⟨R,by simp at V;omega,rfl,S⟩⟩;obtain⟨u,p,rfl,P,a6⟩:=hv;have b5:=C.size;simp at b5;have bt:w.heap.size<c.heap.size:=(by omega);have aL:=Qu (g:=w.heap.size) (o:=.cells #[.string (sA hw),.int .i64 K] 216) (by first|exact QA _ _|exact Qy (QA _ _)) (Zt C) bY;have bT:=Qj aL;have bV:=Qo aL;clear aL;have bU:∀ o,(c.alloc o).cell? ⟨w.heap.size,0,none⟩=some (.string (sA hw)):=(fun o=>by rw[World.cell?_alloc_past _ _ _ bt];exact bT);have bW:∀ o,(c.alloc o).cell? ⟨w.heap.size,1,none⟩=some (.int .i64 K):=(fun o=>by rw[World.cell?_alloc_past _ _ _ bt];exact bV);have b9:∀ o o',((c.alloc o).alloc o').cell? ⟨w.heap.size,0,none⟩=some (.string (sA hw)):=(fun o o'=>by rw[World.cell?_alloc_past _ _ _ (by simp;omega)];exact bU o);have ca:∀ o o',((c.alloc o).alloc o').cell? ⟨w.heap.size,1,none⟩=some (.int .i64 K):=(fun o o'=>by rw[World.cell?_alloc_past _ _ _ (by simp;omega)];exact bW o);(first|(have tb:=Qu (g:=w.heap.size+1) (o:=J4) (Zv (by simp)) (Zt C) bZ;have t0:∀ o,(c.alloc o).cell? ⟨w.heap.size+1,0,none⟩=some (.string ⟨#[]⟩):=(fun o=>Qn (Qy tb) 0);have t1:∀ o,(c.alloc o).cell? ⟨w.heap.size+1,1,none⟩=some (.int .i64 0):=(fun o=>Qn (Qy tb) 1);have t2:∀ o,(c.alloc o).cell? ⟨w.heap.size+1,2,none⟩=some (.slice none 0 0):=(fun o=>Qn (Qy tb) 2);have t3:∀ o,(c.alloc o).cell? ⟨w.heap.size+1,3,none⟩=some (.bool false):=(fun o=>Qn (Qy tb) 3);have t4:∀ o,(c.alloc o).cell? ⟨w.heap.size+1,4,none⟩=some (.slice none 0 0):=(fun o=>Qn (Qy tb) 4);have tf:=(fun o=>Qz (Qy (o':=o) tb));have TB:=I tb;clear tb)|(have t0:∀ o,((c.alloc J4).alloc o).cell? ⟨c.heap.size,0,none⟩=some (.string ⟨#[]⟩):=(fun o=>Qn (Qy (QA c J4)) 0);have t1:∀ o,((c.alloc J4).alloc o).cell? ⟨c.heap.size,1,none⟩=some (.int .i64 0):=(fun o=>Qn (Qy (QA c J4)) 1);have t2:∀ o,((c.alloc J4).alloc o).cell? ⟨c.heap.size,2,none⟩=some (.slice none 0 0):=(fun o=>Qn (Qy (QA c J4)) 2);have t3:∀ o,((c.alloc J4).alloc o).cell? ⟨c.heap.size,3,none⟩=some (.bool false):=(fun o=>Qn (Qy (QA c J4)) 3);have t4:∀ o,((c.alloc J4).alloc o).cell? ⟨c.heap.size,4,none⟩=some (.slice none 0 0):=(fun o=>Qn (Qy (QA c J4)) 4);have tf:=(fun o=>Qz (Qy (o':=o) (QA c J4)))));have M:=I hy;have HC:=I hc;have HU:=I P;have aB:=I a6;have aC:Hid (Mod b w c):=(by first|exact((Mod.refl b w).alloc _).trans (Zt C)|exact(((Mod.refl b w).alloc _).alloc _).trans (Zt C));clear h1 hy hc C P a6;skip)
  all_goals (go_wp2_with fail;go_meet)
  all_goals first
   |(have b6:=TB;exact⟨w.heap.size+1,c.heap.size,y,u,p,rfl,M.o,(((((HC.o.alloc _).setNew (by omega) _ _).setNew (by omega) _ _).setNew (by omega) _ _).setNew (by omega) _ _).setNew (by omega) _ _,(((((aC.o.alloc _).setNew (by omega) _ _).setNew (by omega) _ _).setNew (by omega) _ _).setNew (by omega) _ _).setNew (by omega) _ _,by omega,by omega,by omega,Qv _ _ _ _ _ _ (Qv _ _ _ _ _ _ (Qv _ _ _ _ _ _ (Qv _ _ _ _ _ _ (Qv _ _ _ _ _ _ (Qy TB.o))))),by rw[Below.heap_setCell _ _ _ _ (show c.heap.size≠w.heap.size+1 by omega),Below.heap_setCell _ _ _ _ (show c.heap.size≠w.heap.size+1 by omega),Below.heap_setCell _ _ _ _ (show c.heap.size≠w.heap.size+1 by omega),Below.heap_setCell _ _ _ _ (show c.heap.size≠w.heap.size+1 by omega),Below.heap_setCell _ _ _ _ (show c.heap.size≠w.heap.size+1 by omega)];exact QA _ _,((((((Z8.first j.o i.o HU.o aB.o (by simp;omega) (fun g hg=>by simp[Value.ownBlock]at hg;omega) (by simp)).mod j.o i.o ((Mod.refl b c).alloc _) (by omega)).set j.o i.o _ _).set j.o i.o _ _).set j.o i.o _ _).set j.o i.o _ _).set j.o i.o _ _⟩)
   |exact⟨c.heap.size+1,c.heap.size,y,u,p,rfl,M.o,(HC.o.alloc _).alloc _,(aC.o.alloc _).alloc _,by omega,by omega,by omega,Zv (by simp),Qy (QA _ _),((Z8.first j.o i.o HU.o aB.o (by simp) (fun g hg=>by simp[Value.ownBlock]at hg;omega) (Qc (by omega))).mod j.o i.o ((Mod.refl b c).alloc _) (by omega)).mod j.o i.o ((Mod.refl b _).alloc _) (by omega)⟩
   |exact⟨c.heap.size,c.heap.size+1,y,u,p,rfl,M.o,(HC.o.alloc _).alloc _,(aC.o.alloc _).alloc _,by omega,by omega,by omega,Qy (QA _ _),Zv (by simp),((Z8.first j.o i.o HU.o aB.o (by simp) (fun g hg=>by simp[Value.ownBlock]at hg;omega) (Qc (by omega))).mod j.o i.o ((Mod.refl b c).alloc _) (by omega)).mod j.o i.o ((Mod.refl b _).alloc _) (by omega)⟩
 case rest=>
  obtain⟨T,G,y,u,p,rfl,hy,hc,C,hT,hG,bN,af,a5,bh⟩:=hcut;have M:=I hy;have HC:=I hc;have HM:=I C;have aU:=I af;have aT:=I a5;have aV:=I bh;have bA:=I bg;have bz:=I bf;have ai:¬ T=b:=by omega
  have bX:=hc.mu_le;have bj:=hc.mu_lt hF;clear hy hc C af a5 bh bg bf;go_wp2_with fail
  go_loopw [] (fun wr=>∃(L:PS) (m:List (β×List α)) (vs:List Value) (f g q:Nat),wr.ownsRow w.heap.size 298 2 (.slice (some ⟨g,0,none⟩) m.length q) m.length vs/\Yz (fun a u p=>Z8 W N w.heap.size T wr (.slice (some ⟨g,0,none⟩) m.length q) a u p) m vs/\m≠[]/\g≠T/\wr.heap[T]?=some (BI hw K (.slice (some ⟨g,0,none⟩) m.length q))/\RC wr b t L J D E/\Mod b w wr/\mu t.size L<f/\m.length+mu t.size L<=1300/\Qp (aMr t.data.toList F tst sub F [y.1] y.2) (V6 t.data.toList F sub)=Qp (aMr t.data.toList F tst sub f m L) (V6 t.data.toList F sub)) (fun wr=>muW wr b t.size)
  case atStart=>
   exact⟨y.2,[y.1],[u,p],F,G,1,Rb (n:=1) aT.o hG (by unfold maxLen;omega) rfl,⟨aV.o,trivial⟩,by simp,fun e=>bN e.symm,aU.o,HC.o,HM.o,bj,by simp;omega,rfl⟩
  case round=>
   obtain⟨L,m,vs,f,g,q,aO,bo,ao,bR,af,bm,aM,hf,b8,bp⟩:=hrel;obtain⟨f,rfl⟩:∃ g,f=g+1:=⟨f - 1,by omega⟩;have HR:=I bm;have aW:=I aM;have aa:=I bp;have bS:w.heap.size<=g:=(aO.lt g rfl).1;have bG:=I aO;have bI:=I bo;have bw:=I af;have ce:w.heap.size<=wr.heap.size:=aM.size;have b7:=Qh af;clear bm aM bp aO bo af HC aU aT aV bX bj;go_wp2_with fail;refine(VG b wr.heap.size 1 1 [Xe] t L J D E _ (HR.o.alloc _) (YE wr [Xe] _ _ rfl) rfl (by decide)).mono ?_;intro e w3 h3;rcases h3.cases with⟨y3,v3,aR,rfl,bq,a7,ay⟩ | ⟨f3,bO,⟨R,V,rfl,S⟩,ay⟩
   rotate_left
   ·exact⟨rfl,Qg.err ((V7 M.o).trans (aa.o.trans (Qi (Rf bO)))) ((aW.o.alloc _).trans ay) ⟨R,by simp at V;omega,rfl,S⟩⟩
   have aN:=GS (l:=t.data.toList) (by simpa using HR.o.le) HR.o.e0 Rc aR;rw[bal]at aN;replace aN:=aN.1;have Y:=((Mod.refl b wr).alloc (.cells #[.string (sA Xe)] 9)).trans ay;have Q:=I (aW.o.trans Y);have ad:=I aR;have au:=I a7;have aE:=I (ZV (b:=b) bG.o Y (by omega));have aY:=I (bI.o.imp (fun a u p P=>Z8.mod j.o i.o (b:=b) (w':=w3) P Y (by omega)));have ar:=I (Qu bw.o Y ai);have b4:=Qh ar.o;unfold XY at bq;subst bq;clear h3 aR a7 ay Y;by_cases h1:y3.1=0
   ·have bL:¬(0:Int)<(y3.1:Int):=by omega
    have H1:=I h1;clear h1;go_wp2_with fail;have HP:=I (VG b w3.heap.size 1 1 [Xv] t y3.2 J D E _ (au.o.alloc (.cells (Qw [Xv]).toArray 9)) (JV _ _ rfl) rfl (by decide));refine HP.o.mono ?_;intro e z h4;rcases h4.cases with⟨y4,v4,ap,rfl,az,aj,U⟩ | ⟨f4,aK,⟨R,V,rfl,S⟩,U⟩
    rotate_left
    ·exact⟨rfl,Qg.err ((V7 M.o).trans (aa.o.trans ((Qe (N9 ad.o H1.o)).trans (Qi aK)))) ((Q.o.alloc _).trans U) ⟨R,Qm (Q.o.alloc _).size V,rfl,S⟩⟩
    have Z:=((Mod.refl b w3).alloc (.cells (Qw [Xv]).toArray 9)).trans U;have ah:=I (Q.o.trans Z);have ae:=I ap;have aw:=I aj;have aF:=I (ZV (b:=b) aE.o Z (by omega));have aH:=I (aY.o.imp (fun a u p P=>Z8.mod j.o i.o (b:=b) (w':=z) P Z (by omega)));have B:=I (Qu ar.o Z ai);have aS:=I (Je.of_owns j.o i.o aF.o rfl ao (fun X bQ=>by simp[Value.ownBlock]at bQ;omega) aH.o);have q0:=Qj B.o;have q1:=Qo B.o;have q2:=QG B.o;have q3:=QH B.o;have q4:=QJ B.o;have tf:=Qz B.o;have bs:=Qh B.o;unfold XY at az;subst az;clear h4 ap aj U Z HP;by_cases h2:y4.1=0
    ·have bM:¬(0:Int)<(y4.1:Int):=by omega
     have H2:=I h2;clear h2;go_wp2;go_ret;exact Qg.ok ((V7 M.o).trans (aa.o.trans ((Qe (N9 ad.o H1.o)).trans ((Qe ae.o).trans (if_pos H2.o))))) ah.o ⟨_,_,rfl,Je.weak j.o i.o ao aS.o (fun k hk _=>hk.1),ao,Qd ⟨rfl,rfl⟩⟩ aw.o
    have bM:(0:Int)<(y4.1:Int):=by omega
    have H2:=I h2;clear h2;go_wp2_with fail;have ax:=I (ah.o.setNew hT 3 (.bool true));refine(EH sub N (d+1) b F t y4.2 J D E _ (aw.o.setNew (by omega) 3 (.bool true)) hF i.o aG.o (aD.o.mod ax.o)).mono ?_;intro e A h5;rcases h5.cases with⟨y5,v5,br,rfl,aA,a8,ag⟩ | ⟨f5,bP,⟨R,V,rfl,S⟩,ag⟩
    rotate_left
    ·exact⟨rfl,Qg.err ((V7 M.o).trans (aa.o.trans ((Qe (N9 ad.o H1.o)).trans ((Qe ae.o).trans ((if_neg H2.o).trans (Qi bP)))))) (ax.o.trans ag) ⟨R,Qm ax.o.size V,rfl,S⟩⟩
    have b0:(z.setCell ⟨T,3,none⟩ (.bool true)).heap.size=z.heap.size:=by simp[World.setCell]
    rw[b0]at aA;have bJ:=I aA;obtain⟨ba,bn,bc,rfl⟩:=aA.form;have ac:=I (Qu (Qv _ T 3 (.bool true) _ _ B.o) ag ai);have bu:=I ((aS.o.keep j.o i.o (AbvX.set (fun h=>h.2 rfl) 3 (.bool true))).keep j.o i.o (ag.abvX (fun h=>by have:=h.1;omega)));have bD:=I (ax.o.trans ag);have bK:=I br;have bx:=I a8;have r0:=Qj ac.o;have r1:=Qo ac.o;have r2:=QG ac.o;have r3:=QH ac.o;have r4:=QJ ac.o;have rf:=Qz ac.o;clear h5 br a8 ag aA q0 q1 q2 q3 q4 tf;go_wp2;go_ret;exact Qg.ok ((V7 M.o).trans (aa.o.trans ((Qe (N9 ad.o H1.o)).trans ((Qe ae.o).trans ((if_neg H2.o).trans (Qe bK.o)))))) (bD.o.setNew hT _ _) ⟨_,_,rfl,Je.weak j.o i.o ao (bu.o.keep j.o i.o (AbvX.set (fun h=>h.2 rfl) _ _)) (fun k hk _=>hk.1),ao,blX.weak i.o (bJ.o.keep i.o (AbvX.set (EI bs) _ _)) (fun k hk _=>by unfold fromB at *;omega)⟩ (bx.o.setNew (by omega) _ _)
   have bL:(0:Int)<(y3.1:Int):=by omega
   have H1:=I h1;clear h1;have q2:=QG ar.o;go_wp2_with fail;go_region_law (first|(go_simp;go_at_call 183;refine(EG tst W sub N d b F t y3.2 J D E _ au.o.drew hF a9 bd j.o i.o aG.o (aX.o.mod Q.o.drew) (aD.o.mod Q.o.drew)).mono ?_;intro e z h4;rcases h4.cases with⟨z4,v4,ap,rfl,az,aj,U⟩ | ⟨f4,aK,⟨R,V,rfl,S⟩,U⟩;rotate_left;exact⟨rfl,Qg.err ((V7 M.o).trans (aa.o.trans (Qi (Rg ad.o H1.o aK)))) (Q.o.trans (Zt U)) ⟨R,Qm Q.o.size (by simpa using V),rfl,S⟩⟩;obtain⟨u4,aZ,rfl,aQ,aJ⟩:=az;have ak:=Zt U;have bC:=I (Z8.new j.o i.o (base:=w.heap.size) (T:=T) (v:=.slice (some ⟨g,0,none⟩) m.length q) aQ aJ Q.o.size (fun k hk=>(aE.o.lt k hk).2) b4);have bF:=I (P9 j.o aQ aJ);have aF:=I (ZV (b:=b) aE.o ak (by omega));have aH:=I (aY.o.imp (fun a u p P=>Z8.mod j.o i.o (b:=b) (w':=z) P ak (by omega)));have B:=I (Qu ar.o ak ai);have ah:=I (Q.o.trans ak);have aw:=I aj;have ae:=I ap;have q4:=QG B.o;have cf:∀ o,(z.alloc o).cell? ⟨T,2,none⟩=some (.slice (some ⟨g,0,none⟩) m.length q):=(fun o=>Qn (Qy B.o) 2);have bs:w.heap.size<=z.heap.size:=ah.o.size;clear h4 ap aj U ak aQ aJ;skip)|(refine step_append_lies _ rfl (.tmp 19) (.tmp 23) 259 rfl w.heap.size 298 i0 (.agg #[.nilIface,.slice none 0 0]) 2 40 underlying259 hi b1 b2 b3 rfl (by decide) (.slice (some ⟨g,0,none⟩) m.length q) m.length vs (by simp[Act.eval,Act.put]) (aF.o.alloc _) ⟨z.heap.size,0,none⟩ 1 1 [u4,aZ] (by simp[Act.eval,Act.put]) rfl (P8 _ _ _ _) bF.o (by decide) (by unfold maxLen;omega) (by omega) (by first|omega|(simp;omega)|simp) _ rfl ?_;intro X ab A aP bi a4 cc;have aq:=(Ra j.o i.o bC.o aH.o B.o aw.o ah.o aP bi a4 hT ai bR ⟨by omega,bS,rfl⟩);have t2:=QG aq.1;have tf:=Qz aq.1;have HA:=I aq;have bH:=I aP;clear aq aP bi a4;skip))
   all_goals
    obtain⟨a0,aI,Y,Z,a1⟩:=HA.o;have cd:=Rd bA.o bz.o au.o.le au.o.e0 ae.o
    have bE:Hid (muW (A.setCell ⟨T,2,none⟩ (.slice (some ⟨X,0,none⟩) (m.length+1) ab)) b t.size<muW wr b t.size):=by
     show _<_
     rw[(aI.setNew (by omega) _ _).muEq,HR.o.muEq];omega
    have bB:Hid (∃(L:PS) (acc':List (β×List α)) (vs:List Value) (f g q:Nat),(A.setCell ⟨T,2,none⟩ (.slice (some ⟨X,0,none⟩) (m.length+1) ab)).ownsRow w.heap.size 298 2 (.slice (some ⟨g,0,none⟩) acc'.length q) acc'.length vs/\Yz (fun a u p=>Z8 W N w.heap.size T (A.setCell ⟨T,2,none⟩ (.slice (some ⟨X,0,none⟩) (m.length+1) ab)) (.slice (some ⟨g,0,none⟩) acc'.length q) a u p) acc' vs/\acc'≠[]/\g≠T/\(A.setCell ⟨T,2,none⟩ (.slice (some ⟨X,0,none⟩) (m.length+1) ab)).heap[T]?=some (BI hw K (.slice (some ⟨g,0,none⟩) acc'.length q))/\RC (A.setCell ⟨T,2,none⟩ (.slice (some ⟨X,0,none⟩) (m.length+1) ab)) b t L J D E/\Mod b w (A.setCell ⟨T,2,none⟩ (.slice (some ⟨X,0,none⟩) (m.length+1) ab))/\mu t.size L<f/\acc'.length+mu t.size L<=1300/\Qp (aMr t.data.toList F tst sub F [y.1] y.2) (V6 t.data.toList F sub)=Qp (aMr t.data.toList F tst sub f acc' L) (V6 t.data.toList F sub)):=by
     show ∃ _,_
     have hl:(m++[z4.1]).length=m.length+1:=by simp
     refine⟨z4.2,m++[z4.1],vs++[u4,aZ],f,X,ab,?_,?_,by simp,Z,?_,aI.setNew (by omega) _ _,Y.setNew hT _ _,by omega,by rw[hl];omega,aa.o.trans (congrArg (fun r=>Qp r (V6 t.data.toList F sub)) (Rh ad.o H1.o ae.o))⟩
     ·rw[hl];exact EF bH.o (fun k hk=>by simp[Value.ownBlock]at hk;omega)
     ·rw[hl];exact a1.imp (fun a u p P=>P.set j.o i.o _ _)
     ·rw[hl];exact Qv _ T 2 _ _ _ a0
    clear a0 aI Y Z a1;go_wp2;go_roundw
    case rel=>exact bB.o
    case measure=>exact bE.o
end Go.Proofs.YtgnkjijocdmniaaGreatDoor
