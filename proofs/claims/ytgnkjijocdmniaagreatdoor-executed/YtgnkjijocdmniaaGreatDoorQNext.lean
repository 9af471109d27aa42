import Derived.Test.YtgnkjijocdmniaaGreatDoorQNumber
namespace Go.Proofs.YtgnkjijocdmniaaGreatDoor
set_option linter.unusedVariables false
set_option linter.unusedSimpArgs false
set_option maxRecDepth 100000
set_option maxHeartbeats 4000000
open Go.Proofs.Tryz
open Go.RowKit
attribute [local go_sem ↓] Go.wp_at_zero Go.wp_at_succ
structure Xr (w:World) (tb:Nat) (l:L8) (s:PS):Prop where
 qt:QT w tb l s.2 0 0 (kQ s.1) (sQ s.1) s.1.num s.1.pos
 le:s.2<=l.length
 wd:WdQ s.1
 sz:s.1.said.length<=l.length∧s.1.num<=2147483647
 sp:s.1.spelt.length<=l.length
def TSt(w:World)(tb:Nat)(l:L8)(r:Qb PS):Prop:=
 match r with
 | .ok s=>Xr w tb l s
 | .error f=>Yr w tb l f
def Xf(r:Qb PS)(tb:Nat)(l:L8)(w:World)(e:Ending)(w':World):Prop:=
 e=.returned (.tuple #[])/\Mod tb w w'/\TSt w' tb l r
variable{a m p tb:Nat}{c:UInt8}{l:L8}{r:Qb PS}{w w':World}
theorem Xf.ok{r:Qb PS}{tb:Nat}{l:L8}{w w':World}{a:Nat}{x:PS}(c:a<=l.length)(b:nL l a=r)(h:r=.ok x)(d:Mod tb w w')(e:QT w' tb l x.2 0 0 (kQ x.1) (sQ x.1) x.1.num x.1.pos):Xf r tb l w (.returned (.tuple #[])) w':=by
 subst h;exact⟨rfl,d,e,(Uy l a c x b).2.1,Sw b,Ca l a x b,Oy b⟩
theorem Xf.bad{f:Flt}(h:r=.error f)(a:Mod tb w w')(b:Yr w' tb l f):Xf r tb l w (.returned (.tuple #[])) w':=by
 subst h;exact⟨rfl,a,b⟩
theorem QT.word0{a e d k:Int}{s:L8}{n p:Int}(h:QT w tb l a e d k s n p)(p':Int):QT ((((w.setCell ⟨tb,4,none⟩ (.int .u8 0)).setCell ⟨tb,5,none⟩ (.string ⟨#[]⟩)).setCell ⟨tb,6,none⟩ (.int .i64 0)).setCell ⟨tb,7,none⟩ (.int .i64 p')) tb l a e d 0 [] 0 p':=
 Qt _ _ _ _ _ _ (Qt _ _ _ _ _ _ (Qt _ _ _ _ _ _ (Qt _ _ _ _ _ _ h)))
theorem BT{r:L8}(h:QL c.toNat=true):Za (c::r)=nameLen (c::r):=by
 have a:Q0 c=true:=by unfold Q0;rw[h];rfl
 rw[nameLen,if_pos h];unfold Za;rw[List.takeWhile_cons_of_pos a,ZN];omega
theorem F9(h:m<(sA l).size)(a:QL ((sA l)[m].toNat:Int)=true):Q1 (l.drop m) m=.ok (⟨1,m,zL ((l.drop m).take (Za (l.drop m))),[],0⟩,m+Za (l.drop m)):=by
 rw[ZC h,BT a];unfold Q1;dsimp only;rw[if_pos a];rfl
theorem BG(h:m<(sA l).size)(b:(sA l)[m]=58)(a:m+1=l.length\/∃ h1:m+1<(sA l).size,QL ((sA l)[m+1].toNat:Int)=false):Q1 (l.drop m) m=.error ⟨2,m⟩:=by
 rw[ZC h,b]
 have e:nameLen (l.drop (m+1))=0:=by
  rcases a with a | ⟨h1,a⟩
  ·rw[Zb (by omega)];rfl
  ·rw[ZC h1,nameLen,if_neg (by rw[a];decide)]
 unfold Q1;dsimp only;rw[if_neg (by decide),if_pos (by decide),e,if_pos rfl]
theorem Iu(h:m<(sA l).size)(d:(sA l)[m]=58)(a:m+1<(sA l).size)(b:QL ((sA l)[m+1].toNat:Int)=true):Q1 (l.drop m) m=.ok (⟨2,m,58::zL ((l.drop (m+1)).take (Za (l.drop (m+1)))),[],0⟩,m+1+Za (l.drop (m+1))):=by
 have e:Za (l.drop (m+1))=nameLen (l.drop (m+1)):=by rw[ZC a,BT b]
 have c:¬ nameLen (l.drop (m+1))=0:=by rw[ZC a,nameLen,if_pos b];omega
 rw[e,ZC h,d];unfold Q1;dsimp only;rw[if_neg (by decide),if_pos (by decide),if_neg c];unfold XM;rw[Nat.add_comm 1 (nameLen _),List.take_succ_cons];congr 2;omega
theorem IN(h:m<(sA l).size)(c:QL ((sA l)[m].toNat:Int)=false)(a:QI ((sA l)[m].toNat:Int)=true):Q1 (l.drop m) m=sNL (l.drop m) m:=by
 have b:¬(sA l)[m].toNat=58:=by unfold QI at a;simp at a;omega
 rw[ZC h];unfold Q1;dsimp only;rw[if_neg (by rw[c];decide),if_neg b,if_pos a]
theorem Li(h:m<(sA l).size)(a:(sA l)[m]=34):Q1 (l.drop m) m=quoteR (l.drop (m+1)) m:=by
 rw[ZC h,a];rfl
theorem OH(h:m<(sA l).size)(a:XS (sA l)[m]=true):Q1 (l.drop m) m=.ok (⟨3,m,[(sA l)[m]],[],0⟩,m+1):=by
 rw[ZC h];generalize (sA l)[m]=c at *;rcases sign_cases a with rfl|rfl|rfl|rfl|rfl|rfl|rfl|rfl<;>rfl
theorem LS(h:m<(sA l).size)(d:QL ((sA l)[m].toNat:Int)=false)(b:¬(sA l)[m]=58)(c:QI ((sA l)[m].toNat:Int)=false)(a:¬(sA l)[m]=34)(f:XS (sA l)[m]=false):Q1 (l.drop m) m=.error ⟨2,m⟩:=by
 rw[ZC h];have i:¬(sA l)[m].toNat=58:=fun e=>b (UInt8.toNat_inj.1 e)
 have g:¬(sA l)[m].toNat=34:=fun e=>a (UInt8.toNat_inj.1 e)
 unfold Q1;dsimp only;rw[if_neg (by rw[d];decide),if_neg i,if_neg (by rw[c];decide),if_neg g,f,if_neg (by decide)]
theorem O7:Q1 (l.drop l.length) l.length=.ok (⟨0,l.length,[],[],0⟩,l.length):=by rw[List.drop_length];rfl
theorem PG{r:L8}{x:L8×Nat}(h:qL r=some x):quoteR r p=.ok (⟨5,p,[],x.1,0⟩,p+(1+x.2)):=by unfold quoteR;rw[h]
theorem OV{r:L8}(h:qL r=none):quoteR r p=.error ⟨2,p⟩:=by unfold quoteR;rw[h]
theorem Py{r:L8}{x:PS}(h:sNL r p=.ok x):∃ v n,x=(⟨4,p,[],[],v⟩,n):=by
 obtain⟨a,b,he⟩:∃ a b:Nat,sNL r p=if Q0 (r.getD a 0)then .error ⟨2,p⟩else if 2147483647<b then .error ⟨3,p⟩else .ok (⟨4,p,[],[],b⟩,p+a):=⟨_,_,rfl⟩
 rw[he]at h
 split at h
 ·cases h
 ·split at h
  ·cases h
  ·cases h;exact⟨_,_,rfl⟩
theorem RW(d:a<=l.length)(e:nL l a=r)(h:r=sNL (l.drop m) m)(c:Mod tb w w')(b:match sNL (l.drop m) m with | .ok x=>QT w' tb l x.2 0 0 48 [] x.1.num x.1.pos | .error f=>Yr w' tb l f):Xf r tb l w (.returned (.tuple #[])) w':=by
 cases hs:sNL (l.drop m) m with
 |error f=>rw[hs]at b h;exact Xf.bad h c b
 |ok x=>
  rw[hs]at b h;obtain⟨v,n,rfl⟩:=Py hs;exact Xf.ok d e h c b
theorem OI(d:a<=l.length)(e:nL l a=r)(h:r=quoteR (l.drop (m+1)) m)(c:Mod tb w w')(b:match qL (l.drop (m+1))with|some x=>QT w' tb l (m+(1+x.2):Nat) 0 0 34 x.1 0 m|none=>Yr w' tb l ⟨2,m⟩):Xf r tb l w (.returned (.tuple #[])) w':=by
 cases hs:qL (l.drop (m+1))with
 |none=>rw[hs]at b;rw[OV hs]at h;exact Xf.bad h c b
 |some x=>rw[hs]at b;rw[PG hs]at h;exact Xf.ok d e h c b
theorem Rb(h:XS c=false):¬ c.toNat=59/\¬ c.toNat=44/\¬ c.toNat=40/\¬ c.toNat=41/\¬ c.toNat=123/\¬ c.toNat=125/\¬ c.toNat=91/\¬ c.toNat=93:=by
 have a:∀ k:UInt8,XS k=true->¬ c.toNat=k.toNat:=fun k b e=>by
  rw[UInt8.toNat_inj.1 e,b]at h;cases h
 exact⟨a 59 (by decide),a 44 (by decide),a 40 (by decide),a 41 (by decide),a 123 (by decide),a 125 (by decide),a 91 (by decide),a 93 (by decide)⟩
theorem Dl(tb:Nat)(l:L8)(a:Nat)(k:Int)(s:L8)(n p:Int)(w:World)(h:QT w tb l a 0 0 k s n p)(D:l.length<=600)(C:a<=l.length) :
 Calls prog 66 #[.pointer (some ⟨tb,0,none⟩)] w (Xf (nL l a) tb l w):=by
 have H:=I h;have hz:=QN l;clear h;obtain⟨r,V⟩:=Qe (nL l a);have F:=V;rw[Tq]at F;rw[V];have K:=I V;clear V;go_enter func66,ntmps66;go_wp2_with fail;refine(Pd tb l a 0 k s n p w H.o D C).mono ?_;intro e B U;obtain⟨rfl,ae,U⟩:=U.cases;have aa:=I ae;clear ae H;rcases U with⟨m,hm,x,af⟩ | ⟨f,hf,u⟩
 rotate_left
 ·rw[hf]at F;have ak:Hid (r=.error f):=F.symm;have c2:=QJ u.1;have ag:((f.err:Int) != 0)=true:=by have:=u.2;simp;omega
  have A:=I u;clear F u hf;go_wp2;go_end0;exact Xf.bad ak.o aa.o A.o
 rw[hm]at F;have y:Hid (Q1 (l.drop m) m=r):=F;clear F hm;have L:=Qk x;have M:=Qr x;have c2:=QJ x;have P:=QV x;have c5:=Q9 x;have c6:=Zz x;have N:=Yf x;have R:=fun o=>Qu x o
 have ad:=I (x.word0 m);clear x;go_wp2_with fail;generalize hW:World.setCell _ _ _=W;have z:QT W tb l m 0 0 0 [] 0 m:=by rw[<-hW];exact ad.o
 have ab:Hid (Mod tb w W):=by rw[<-hW];exact(((aa.o.setCell _ _).setCell _ _).setCell _ _).setCell _ _
 clear hW L M c2 P c5 c6 N R ad aa U;have HQ:=I z;have L:=Qk z;have M:=Qr z;have P:=QV z;have c5:=Q9 z;have c6:=Zz z;have N:=Yf z;have R:=fun o=>Qu z o
 clear z;by_cases hlt:m<(sA l).size;rotate_left
 ·obtain rfl:m=l.length:=by omega
  have i:Hid (r=.ok (⟨0,l.length,[],[],0⟩,l.length)):=y.o.symm.trans O7;go_quiet (fail);go_wp2;go_end0;exact Xf.ok C K.o i.o ab.o.drewN HQ.o
 have ay:(m:Int)<(l.length:Int):=by omega
 have h0:(0:Int)<=(m:Int):=by omega
 have ag:((m:Int)==(l.length:Int))=false:=by simp;omega
 go_quiet (fail);go_wp2_with fail;go_quiet (fail);rw[World.drewN_drewN];generalize hW2:W.drewN _=W2;have E:QT W2 tb l m 0 0 0 [] 0 m:=by rw[<-hW2];exact HQ.o
 have G:Hid (Mod tb w W2):=by rw[<-hW2];exact ab.o.drewN
 clear hW2 L M P c5 c6 N R HQ ab ag;have J:=I E;have L:=Qk E;have M:=Qr E;have P:=QV E;have N:=Yf E;have R:=fun o=>Qu E o
 clear E;have aw:=UInt8.toNat_lt (sA l)[m];cases hL:QL ((sA l)[m].toNat:Int);rotate_left
 ·have i:=I (y.o.symm.trans (F9 hlt hL))
  as_aux_lemma=>
   go_wp2_with (first|(go_at_call 109;refine(X6 _ _).mono ?_;rintro e j ⟨rfl,rfl⟩)|(go_at_call 110;refine(XR _ _).mono ?_;rintro e j ⟨rfl,rfl⟩)|(go_at_call 111;refine(Dz tb l m 0 0 [] 0 m _ J.o D af).mono ?_;rintro e q ⟨rfl,g,d,aq⟩;have d4:=QV d;have d5:=Q9 d;have d6:=Zz d;have d7:=Yf d;have ap:=fun o=>Qu d o;have S:=I d;have t:=I (G.o.trans g);clear d g));go_end0;exact Xf.ok C K.o i.o ((((t.o.setCell _ _).setCell _ _).setCell _ _).setCell _ _) (Qt _ _ _ _ _ _ (Qt _ _ _ _ _ _ (Qt _ _ _ _ _ _ (Qt _ _ _ _ _ _ S.o))))
 by_cases h58:(sA l)[m]=58
 ·have T:=I (J.o.at_ ((m:Int)+1));have Y:=I h58;go_wp2_with (first|(go_at_call 109;refine(X6 _ _).mono ?_;rintro e j ⟨rfl,rfl⟩)|(go_at_call 110;refine(XR _ _).mono ?_;rintro e j ⟨rfl,rfl⟩)|fail);generalize hW3:World.setCell _ _ _=W3;have d:QT W3 tb l (m+1:Nat) 0 0 0 [] 0 m:=by rw[<-hW3];exact T.o
  have t:Hid (Mod tb w W3):=by rw[<-hW3];exact G.o.setCell _ _
  clear hW3 L M P N R T h58;obtain⟨b,hb⟩:=QF (m+1);rw[<-hb]at d;have A:=I hb;clear hb;have S:=I d;have L:=Qk d;have M:=Qr d;have N:=Yf d;clear d;have HF:=I (fun n'=>KZ tb l b 0 0 [] 0 m ⟨2,m⟩ (W3.drewN n') S.o D (Nat.succ_ne_zero 1));have ao:b<=l.length:=by have:=A.o;omega
  by_cases hend:b<(sA l).size;rotate_left
  ·obtain rfl:b=l.length:=by omega
   have i:=I (y.o.symm.trans (BG hlt Y.o (Qd A.o.symm)));go_quiet (fail);go_wp2_with (go_at_call 70;refine(HF.o _).mono ?_;rintro e q ⟨rfl,g,u⟩);go_end0;exact Xf.bad i.o (t.o.trans (Kl g)) u
  have ax:(b:Int)<(l.length:Int):=by omega
  have av:(0:Int)<=(b:Int):=by omega
  have au:((b:Int)==(l.length:Int))=false:=by simp;omega
  cases hL2:QL ((sA l)[b].toNat:Int)
  ·have i:Hid (r=.error ⟨2,m⟩):=by
    have e:=A.o;subst e;exact y.o.symm.trans (BG hlt Y.o (Qc ⟨hend,hL2⟩))
   have Z:Hid (∀ h:b<(sA l).size,∀ W,Calls prog 109 #[.int .u8 (((sA l)[b]'h).toNat:Int)] W fun e j=>e=.returned (.bool false)/\j=W):=fun h W=>by have:=X6 (((sA l)[b]'h).toNat:Int) W;rw[hL2]at this;exact this
   go_quiet (first|(go_at_call 109;refine Calls.quiet_of_same (Z.o _ _)));go_wp2_with (go_at_call 70;refine(HF.o _).mono ?_;rintro e q ⟨rfl,g,u⟩);go_end0;exact Xf.bad i.o (t.o.trans (Kl g)) u
  ·have i:Hid (r=.ok (⟨2,m,58::zL ((l.drop b).take (Za (l.drop b))),[],0⟩,b+Za (l.drop b))):=by
    have e:=A.o;subst e;exact y.o.symm.trans (Iu hlt Y.o hend hL2)
   have Z:Hid (∀ h:b<(sA l).size,∀ W,Calls prog 109 #[.int .u8 (((sA l)[b]'h).toNat:Int)] W fun e j=>e=.returned (.bool true)/\j=W):=fun h W=>by have:=X6 (((sA l)[b]'h).toNat:Int) W;rw[hL2]at this;exact this
   have aj:=I (fun n'=>Dz tb l b 0 0 [] 0 m (W3.drewN n') S.o D ao);go_quiet (first|(go_at_call 109;refine Calls.quiet_of_same (Z.o _ _)));go_wp2_with (go_at_call 111;refine(aj.o _).mono ?_;rintro e q ⟨rfl,g,d,aq⟩;have d4:=QV d;have d5:=Q9 d;have d6:=Zz d;have d7:=Yf d;have ap:=fun o=>Qu d o;have ac:=I d;have ai:=I (t.o.trans (Kl g));clear d g);go_end0;exact Xf.ok C K.o i.o ((((ai.o.setCell _ _).setCell _ _).setCell _ _).setCell _ _) (Qt _ _ _ _ _ _ (Qt _ _ _ _ _ _ (Qt _ _ _ _ _ _ (Qt _ _ _ _ _ _ ac.o))))
 have aA:(((sA l)[m].toNat:Int)==58)=false:=by
  have h:¬(sA l)[m].toNat=58:=fun h=>h58 (UInt8.toNat_inj.1 h)
  simp;omega
 cases hD:QI ((sA l)[m].toNat:Int);rotate_left
 ·have i:=I (y.o.symm.trans (IN hlt hL hD));clear h58
  as_aux_lemma=>
   go_wp2_with (first|(go_at_call 109;refine(X6 _ _).mono ?_;rintro e j ⟨rfl,rfl⟩)|(go_at_call 110;refine(XR _ _).mono ?_;rintro e j ⟨rfl,rfl⟩)|(go_at_call 112;refine(LQ tb l m 0 _ J.o D af).mono ?_;rintro e q ⟨rfl,g,Q⟩;have t:=I (G.o.trans g);have X:=I Q;clear g Q));go_end0;exact RW C K.o i.o t.o X.o
 by_cases h34:(sA l)[m]=34
 ·have i:=I (y.o.symm.trans (Li hlt h34));have ar:(((sA l)[m].toNat:Int)==34)=true:=by rw[h34];rfl
  clear h58 h34
  as_aux_lemma=>
   go_wp2_with (first|(go_at_call 109;refine(X6 _ _).mono ?_;rintro e j ⟨rfl,rfl⟩)|(go_at_call 110;refine(XR _ _).mono ?_;rintro e j ⟨rfl,rfl⟩)|(go_at_call 113;refine(LR tb l m 0 0 [] 0 m _ J.o D (by omega)).mono ?_;rintro e q ⟨rfl,g,Q⟩;have t:=I (G.o.trans g);have X:=I Q;clear g Q));go_end0;exact OI C K.o i.o t.o X.o
 have az:(((sA l)[m].toNat:Int)==34)=false:=by
  have h:¬(sA l)[m].toNat=34:=fun h=>h34 (UInt8.toNat_inj.1 h)
  simp;omega
 cases hS:XS (sA l)[m]
 ·have i:=I (y.o.symm.trans (LS hlt hL h58 hD h34 hS));obtain⟨s1,s2,s3,s4,s5,s6,s7,s8⟩:=Rb hS;have g1:(((sA l)[m].toNat:Int)==59)=false:=by simp;omega
  have g2:(((sA l)[m].toNat:Int)==44)=false:=by simp;omega
  have g3:(((sA l)[m].toNat:Int)==40)=false:=by simp;omega
  have g4:(((sA l)[m].toNat:Int)==41)=false:=by simp;omega
  have g5:(((sA l)[m].toNat:Int)==123)=false:=by simp;omega
  have g6:(((sA l)[m].toNat:Int)==125)=false:=by simp;omega
  have g7:(((sA l)[m].toNat:Int)==91)=false:=by simp;omega
  have g8:(((sA l)[m].toNat:Int)==93)=false:=by simp;omega
  clear h58 h34 s1 s2 s3 s4 s5 s6 s7 s8 hS
  as_aux_lemma=>
   go_wp2_with (first|(go_at_call 109;refine(X6 _ _).mono ?_;rintro e j ⟨rfl,rfl⟩)|(go_at_call 110;refine(XR _ _).mono ?_;rintro e j ⟨rfl,rfl⟩)|(go_at_call 70;refine(KZ tb l m 0 0 [] 0 m ⟨2,m⟩ _ J.o D (Nat.succ_ne_zero 1)).mono ?_;rintro e q ⟨rfl,g,u⟩;have t:=I (G.o.trans g);have A:=I u;clear g u));go_end0;exact Xf.bad i.o t.o A.o
 ·obtain⟨c,hc⟩:=Qe ((sA l)[m]);have hx:=y.o.symm.trans (OH hlt hS);rw[hc]at hx;have i:=I hx;have ah:=sign_cases hS;rw[hc]at ah;have T:=I (J.o.at_ ((m:Int)+1));have ac:Hid (∀ v:Int,QT ((W2.setCell ⟨tb,1,none⟩ (.int .i64 ((m:Int)+1))).setCell ⟨tb,4,none⟩ (.int .u8 v)) tb l (m+1:Nat) 0 0 v [] 0 m):=fun v=>Qt _ _ _ _ _ _ T.o
  clear h58 h34 hS hx;rcases ah with rfl|rfl|rfl|rfl|rfl|rfl|rfl|rfl
  all_goals
   go_wp2_with (first|(go_at_call 109;refine(X6 _ _).mono ?_;rintro e j ⟨rfl,rfl⟩)|(go_at_call 110;refine(XR _ _).mono ?_;rintro e j ⟨rfl,rfl⟩));go_end0;exact Xf.ok C K.o i.o ((G.o.setCell _ _).setCell _ _) (ac.o _)
end Go.Proofs.YtgnkjijocdmniaaGreatDoor
