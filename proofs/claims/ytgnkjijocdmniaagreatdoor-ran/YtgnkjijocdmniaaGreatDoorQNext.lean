import Derived.Test.YtgnkjijocdmniaaGreatDoorQNumber
namespace Go.Proofs.YtgnkjijocdmniaaGreatDoor
set_option linter.all false
set_option maxRecDepth 100000
set_option maxHeartbeats 4000000
open Go.Proofs.Tryz
open Go.RowKit
attribute [local go_sem ↓] Zt Zu
structure Y0 (w:World) (tb:Nat) (l:L8) (s:PS):Prop where
 qt:QT w tb l s.2 0 0 (kQ s.1) (sQ s.1) s.1.num s.1.pos
 le:s.2<=l.length
 wd:WdQ s.1
 sz:s.1.said.length<=l.length∧s.1.num<=2147483647
 sp:s.1.spelt.length<=l.length
def TSt(w:World)(tb:Nat)(l:L8)(r:Qq PS):Prop:=
 match r with
 | .ok s=>Y0 w tb l s
 | .error f=>JZ w tb l f
def Yf(r:Qq PS)(tb:Nat)(l:L8)(w:World)(e:Ending)(w':World):Prop:=
 e=.returned (.tuple #[])/\Mod tb w w'/\TSt w' tb l r
variable{a m p tb:Nat}{c:UInt8}{k n:Int}{l s:L8}{r:Qq PS}{w w':World}
theorem Yf.ok{r:Qq PS}{tb:Nat}{l:L8}{w w':World}{a:Nat}{x:PS}(c:a<=l.length)(b:nL l a=r)(h:r=.ok x)(d:Mod tb w w')(e:QT w' tb l x.2 0 0 (kQ x.1) (sQ x.1) x.1.num x.1.pos):Yf r tb l w (.returned (.tuple #[])) w':=by
 subst h;exact⟨rfl,d,e,(GX c x b).2.1,Qy0 b,Hh x b,QtC b⟩
theorem Yf.bad{f:Flt}(h:r=.error f)(a:Mod tb w w')(b:JZ w' tb l f):Yf r tb l w (.returned (.tuple #[])) w':=by
 subst h;exact⟨rfl,a,b⟩
theorem QT.word0{a e d:Int}{p:Int}(h:QT w tb l a e d k s n p)(p':Int):QT ((((w.setCell ⟨tb,4,none⟩ (.int .u8 0)).setCell ⟨tb,5,none⟩ (.string ⟨#[]⟩)).setCell ⟨tb,6,none⟩ (Qa 0)).setCell ⟨tb,7,none⟩ (Qa p')) tb l a e d 0 [] 0 p':=
 QM (QM (QM (QM h)))
theorem FS{r:L8}(h:Za c.toNat=true):ZF (c::r)=nameLen (c::r):=by
 have a:Zr c=true:=by unfold Zr;rw[h];rfl
 rw[nameLen,Qi h];unfold ZF;rw[List.takeWhile_cons_of_pos a,Q1];omega
theorem SM(h:m<(sA l).size)(a:Za ((sA l)[m].toNat:Int)=true):Zm (l.drop m) m=.ok (⟨1,m,zL ((l.drop m).take (ZF (l.drop m))),[],0⟩,m+ZF (l.drop m)):=by
 rw[Xm h,FS a];unfold Zm;dsimp only;rw[Qi a];rfl
theorem Fu(h:m<(sA l).size)(b:(sA l)[m]=58)(a:m+1=l.length\/∃h1:m+1<(sA l).size,Za ((sA l)[m+1].toNat:Int)=false):Zm (l.drop m) m=.error ⟨2,m⟩:=by
 rw[Xm h,b]
 have e:nameLen (l.drop (m+1))=0:=by
  rcases a with a | ⟨h1,a⟩
  .rw[ZE I];rfl
  .rw[Xm h1,nameLen,Qg (by rw[a];decide)]
 unfold Zm;dsimp only;rw[Qg Qb,Qi Qb,e,Qi rfl]
theorem TO(h:m<(sA l).size)(d:(sA l)[m]=58)(a:m+1<(sA l).size)(b:Za ((sA l)[m+1].toNat:Int)=true):Zm (l.drop m) m=.ok (⟨2,m,58::zL ((l.drop (m+1)).take (ZF (l.drop (m+1)))),[],0⟩,m+1+ZF (l.drop (m+1))):=by
 have e:ZF (l.drop (m+1))=nameLen (l.drop (m+1)):=by rw[Xm a,FS b]
 have c:¬nameLen (l.drop (m+1))=0:=by rw[Xm a,nameLen,Qi b];omega
 rw[e,Xm h,d];unfold Zm;dsimp only;rw[Qg Qb,Qi Qb,Qg c];unfold Yl;rw[Nat.add_comm 1 (nameLen _),List.take_succ_cons];congr 2;omega
theorem Wt(h:m<(sA l).size)(c:Za ((sA l)[m].toNat:Int)=false)(a:Q7 ((sA l)[m].toNat:Int)=true):Zm (l.drop m) m=sNL (l.drop m) m:=by
 have b:¬(sA l)[m].toNat=58:=by unfold Q7 at a;simp at a;omega
 rw[Xm h];unfold Zm;dsimp only;rw[Qg (by rw[c];decide),Qg b,Qi a]
theorem WE(h:m<(sA l).size)(a:(sA l)[m]=34):Zm (l.drop m) m=quoteR (l.drop (m+1)) m:=by
 rw[Xm h,a];rfl
theorem Qup(h:m<(sA l).size)(a:Y' (sA l)[m]=true):Zm (l.drop m) m=.ok (⟨3,m,[(sA l)[m]],[],0⟩,m+1):=by
 rw[Xm h];generalize (sA l)[m]=c at *;rcases sign_cases a with rfl|rfl|rfl|rfl|rfl|rfl|rfl|rfl<;>rfl
theorem Tr(h:m<(sA l).size)(d:Za ((sA l)[m].toNat:Int)=false)(b:¬(sA l)[m]=58)(c:Q7 ((sA l)[m].toNat:Int)=false)(a:¬(sA l)[m]=34)(f:Y' (sA l)[m]=false):Zm (l.drop m) m=.error ⟨2,m⟩:=by
 rw[Xm h];have i:¬(sA l)[m].toNat=58:=fun e=>b (Xi.1 e)
 have g:¬(sA l)[m].toNat=34:=fun e=>a (Xi.1 e)
 unfold Zm;dsimp only;rw[Qg (by rw[d];decide),Qg i,Qg (by rw[c];decide),Qg g,f,Qg Qb]
theorem Qvm:Zm (l.drop l.length) l.length=.ok (⟨0,l.length,[],[],0⟩,l.length):=by rw[List.drop_length];rfl
theorem QvR{r:L8}{x:L8×Nat}(h:qL r=some x):quoteR r p=.ok (⟨5,p,[],x.1,0⟩,p+(1+x.2)):=by unfold quoteR;rw[h]
theorem Qva{r:L8}(h:qL r=none):quoteR r p=.error ⟨2,p⟩:=by unfold quoteR;rw[h]
theorem QvD{r:L8}{x:PS}(h:sNL r p=.ok x):∃v n,x=(⟨4,p,[],[],v⟩,n):=by
 obtain⟨a,b,he⟩:∃a b:Nat,sNL r p=if Zr (r.getD a 0)then .error ⟨2,p⟩else if 2147483647<b then .error ⟨3,p⟩else .ok (⟨4,p,[],[],b⟩,p+a):=⟨_,_,rfl⟩
 rw[he]at h
 split at h
 .cases h
 .split at h
  .cases h
  .cases h;exact⟨_,_,rfl⟩
theorem QyE(d:a<=l.length)(e:nL l a=r)(h:r=sNL (l.drop m) m)(c:Mod tb w w')(b:match sNL (l.drop m) m with | .ok x=>QT w' tb l x.2 0 0 48 [] x.1.num x.1.pos | .error f=>JZ w' tb l f):Yf r tb l w (.returned (.tuple #[])) w':=by
 cases hs:sNL (l.drop m) m with
 |error f=>rw[hs]at b h;exact Yf.bad h c b
 |ok x=>
  rw[hs]at b h;obtain⟨v,n,rfl⟩:=QvD hs;exact Yf.ok d e h c b
theorem QtP(d:a<=l.length)(e:nL l a=r)(h:r=quoteR (l.drop (m+1)) m)(c:Mod tb w w')(b:match qL (l.drop (m+1))with|some x=>QT w' tb l (m+(1+x.2):Nat) 0 0 34 x.1 0 m|none=>JZ w' tb l ⟨2,m⟩):Yf r tb l w (.returned (.tuple #[])) w':=by
 cases hs:qL (l.drop (m+1))with
 |none=>rw[hs]at b;rw[Qva hs]at h;exact Yf.bad h c b
 |some x=>rw[hs]at b;rw[QvR hs]at h;exact Yf.ok d e h c b
theorem QwP(h:Y' c=false):¬c.toNat=59/\¬c.toNat=44/\¬c.toNat=40/\¬c.toNat=41/\¬c.toNat=123/\¬c.toNat=125/\¬c.toNat=91/\¬c.toNat=93:=by
 have a:∀k:UInt8,Y' k=true->¬c.toNat=k.toNat:=fun k b e=>by
  rw[Xi.1 e,b]at h;cases h
 exact⟨a 59 Qb,a 44 Qb,a 40 Qb,a 41 Qb,a 123 Qb,a 125 Qb,a 91 Qb,a 93 Qb⟩
theorem Lr{p:Int}(h:QT w tb l a 0 0 k s n p)(E:l.length<=600)(D:a<=l.length):Calls prog 66 #[Qc tb] w (Yf (nL l a) tb l w):=by
 have H:=O h;have hz:=Zc l;clear h;obtain⟨r,B⟩:=Qw (nL l a);have F:=B;rw[Pp]at F;rw[B];change Qd _ at B;go_enter func66,ntmps66;go_wp2_with fail;refine(Qu4 H E D).mono ?_;intro e C R;obtain⟨rfl,T,R⟩:=R.cases;clear H;change Qd _ at T;rcases R with⟨m,hm,z,ac⟩ | ⟨f,hf,x⟩
 rotate_left
 .rw[hf]at F;have ah:Hid (r=.error f):=F.symm;have c2:=Xx x.1;have ad:((f.err:Int) != 0)=true:=by have:=x.2;simp;omega
  clear F hf;change Qd _ at x;go_wp2;go_end0;exact Yf.bad ah T x
 rw[hm]at F;have A:Hid (Zm (l.drop m) m=r):=F;clear F hm;have J:=Zs z;have K:=Q9 z;have c2:=Xx z;have N:=YF z;have Y:=J1 z;have Z:=VZ z;have L:=K2 z;have P:=fun o=>QQ z o
 have aa:=O (z.word0 m);clear z;go_wp2_with fail;generalize hW:World.setCell _ _ _=W;have y:QT W tb l m 0 0 0 [] 0 m:=by rw[<-hW];exact aa
 have V:Hid (Mod tb w W):=by rw[<-hW];exact(((T.setCell _ _).setCell _ _).setCell _ _).setCell _ _
 clear hW J K c2 N Y Z L P aa T R;have J:=Zs y;have K:=Q9 y;have N:=YF y;have Y:=J1 y;have Z:=VZ y;have L:=K2 y;have P:=fun o=>QQ y o
 change Qd _ at y;by_cases hlt:m<(sA l).size;rotate_left
 .obtain rfl:m=l.length:=I
  have i:Hid (r=.ok (⟨0,l.length,[],[],0⟩,l.length)):=A.symm.trans Qvm;go_quiet (fail);go_wp2;go_end0;exact Yf.ok D B i V.drewN y
 have au:(m:Int)<(l.length:Int):=I
 have h0:(0:Int)<=(m:Int):=I
 have ad:((m:Int)==(l.length:Int))=false:=by simp;omega
 go_quiet (fail);go_wp2_with fail;go_quiet (fail);rw[World.drewN_drewN];generalize hW2:W.drewN _=W2;have t:QT W2 tb l m 0 0 0 [] 0 m:=by rw[<-hW2];exact y
 have G:Hid (Mod tb w W2):=by rw[<-hW2];exact V.drewN
 clear hW2 J K N Y Z L P y V ad;have J:=Zs t;have K:=Q9 t;have N:=YF t;have L:=K2 t;have P:=fun o=>QQ t o
 replace t:=O t;cases hL:Za ((sA l)[m].toNat:Int);rotate_left
 .have i:=O (A.symm.trans (SM hlt hL))
  as_aux_lemma=>
   go_wp2_with (first|(go_at_call 109;refine Qu (Jx) ?_)|(go_at_call 110;refine Qu (Y8 _ _) ?_)|(go_at_call 111;refine Qv (I' t E ac) ?_;rintro q ⟨g,d,ak⟩;have d4:=YF d;have d5:=J1 d;have d6:=VZ d;have d7:=K2 d;have aj:=fun o=>QQ d o;have X:=O d;have u:=O (G.o.trans g);clear d g));go_end0;exact Yf.ok D B i ((((u.setCell _ _).setCell _ _).setCell _ _).setCell _ _) (QM (QM (QM (QM X))))
 by_cases h58:(sA l)[m]=58
 .have Q:=O (t.o.at_ ((m:Int)+1));go_wp2_with (first|(go_at_call 109;refine Qu (Jx) ?_)|(go_at_call 110;refine Qu (Y8 _ _) ?_)|fail);generalize hW3:World.setCell _ _ _=W3;have d:QT W3 tb l (m+1:Nat) 0 0 0 [] 0 m:=by rw[<-hW3];exact Q
  have u:Hid (Mod tb w W3):=by rw[<-hW3];exact G.setCell _ _
  clear hW3 J K N L P Q;change Qd _ at h58;obtain⟨b,M⟩:=Q3 (m+1);rw[<-M]at d;change Qd _ at M;have X:=O d;have J:=Zs d;have K:=Q9 d;have L:=K2 d;clear d;have HF:=O (fun n'=>V8 ⟨2,m⟩ (w:=W3.drewN n') X E (Yh 1));have ai:b<=l.length:=by have:=M.o;omega
  by_cases hend:b<(sA l).size;rotate_left
  .obtain rfl:b=l.length:=I
   have i:=O (A.symm.trans (Fu hlt h58 (Qt M.symm)));go_quiet (fail);go_wp2_with (go_at_call 70;refine Qv (HF _) ?_;rintro q ⟨g,x⟩);go_end0;exact Yf.bad i (u.o.trans (VC g)) x
  have ar:(b:Int)<(l.length:Int):=I
  have aq:(0:Int)<=(b:Int):=I
  have ap:((b:Int)==(l.length:Int))=false:=by simp;omega
  cases hL2:Za ((sA l)[b].toNat:Int)
  .have i:Hid (r=.error ⟨2,m⟩):=by
    have e:=M.o;subst e;exact A.symm.trans (Fu hlt h58 (Qr ⟨hend,hL2⟩))
   have U:Hid (∀h:b<(sA l).size,∀W,Calls prog 109 #[.int .u8 (((sA l)[b]'h).toNat:Int)] W fun e j=>e=.returned (.bool false)/\j=W):=fun h W=>by have:=Jx (c:=(((sA l)[b]'h).toNat:Int)) (w:=W);rw[hL2]at this;exact this
   go_quiet (first|(go_at_call 109;refine Kg (U _ _)));go_wp2_with (go_at_call 70;refine Qv (HF _) ?_;rintro q ⟨g,x⟩);go_end0;exact Yf.bad i (u.o.trans (VC g)) x
  .have i:Hid (r=.ok (⟨2,m,58::zL ((l.drop b).take (ZF (l.drop b))),[],0⟩,b+ZF (l.drop b))):=by
    have e:=M.o;subst e;exact A.symm.trans (TO hlt h58 hend hL2)
   have U:Hid (∀h:b<(sA l).size,∀W,Calls prog 109 #[.int .u8 (((sA l)[b]'h).toNat:Int)] W fun e j=>e=.returned (.bool true)/\j=W):=fun h W=>by have:=Jx (c:=(((sA l)[b]'h).toNat:Int)) (w:=W);rw[hL2]at this;exact this
   have ag:=O (fun n'=>I' (w:=W3.drewN n') X E ai);go_quiet (first|(go_at_call 109;refine Kg (U _ _)));go_wp2_with (go_at_call 111;refine Qv (ag _) ?_;rintro q ⟨g,d,ak⟩;have d4:=YF d;have d5:=J1 d;have d6:=VZ d;have d7:=K2 d;have aj:=fun o=>QQ d o;have ab:=O d;have af:=O (u.o.trans (VC g));clear d g);go_end0;exact Yf.ok D B i ((((af.setCell _ _).setCell _ _).setCell _ _).setCell _ _) (QM (QM (QM (QM ab))))
 have aw:(((sA l)[m].toNat:Int)==58)=false:=by
  have h:¬(sA l)[m].toNat=58:=fun h=>h58 (Xi.1 h)
  simp;omega
 cases hD:Q7 ((sA l)[m].toNat:Int);rotate_left
 .have i:=O (A.symm.trans (Wt hlt hL hD));clear h58
  as_aux_lemma=>
   go_wp2_with (first|(go_at_call 109;refine Qu (Jx) ?_)|(go_at_call 110;refine Qu (Y8 _ _) ?_)|(go_at_call 112;refine Qv (TX t E ac) ?_;rintro q ⟨g,S⟩;have u:=O (G.o.trans g);have H3:=O S;clear g S));go_end0;exact QyE D B i u H3
 by_cases h34:(sA l)[m]=34
 .have i:=O (A.symm.trans (WE hlt h34));have ao:(((sA l)[m].toNat:Int)==34)=true:=by rw[h34];rfl
  clear h58 h34
  as_aux_lemma=>
   go_wp2_with (first|(go_at_call 109;refine Qu (Jx) ?_)|(go_at_call 110;refine Qu (Y8 _ _) ?_)|(go_at_call 113;refine Qv (Tg t E I) ?_;rintro q ⟨g,S⟩;have u:=O (G.o.trans g);have H3:=O S;clear g S));go_end0;exact QtP D B i u H3
 have av:(((sA l)[m].toNat:Int)==34)=false:=by
  have h:¬(sA l)[m].toNat=34:=fun h=>h34 (Xi.1 h)
  simp;omega
 cases hS:Y' (sA l)[m]
 .have i:=O (A.symm.trans (Tr hlt hL h58 hD h34 hS));obtain⟨s1,s2,s3,s4,s5,s6,s7,s8⟩:=QwP hS;have g1:(((sA l)[m].toNat:Int)==59)=false:=by simp;omega
  have g2:(((sA l)[m].toNat:Int)==44)=false:=by simp;omega
  have g3:(((sA l)[m].toNat:Int)==40)=false:=by simp;omega
  have g4:(((sA l)[m].toNat:Int)==41)=false:=by simp;omega
  have g5:(((sA l)[m].toNat:Int)==123)=false:=by simp;omega
  have g6:(((sA l)[m].toNat:Int)==125)=false:=by simp;omega
  have g7:(((sA l)[m].toNat:Int)==91)=false:=by simp;omega
  have g8:(((sA l)[m].toNat:Int)==93)=false:=by simp;omega
  clear h58 h34 s1 s2 s3 s4 s5 s6 s7 s8 hS
  as_aux_lemma=>
   go_wp2_with (first|(go_at_call 109;refine Qu (Jx) ?_)|(go_at_call 110;refine Qu (Y8 _ _) ?_)|(go_at_call 70;refine Qv (V8 ⟨2,m⟩ t E (Yh 1)) ?_;rintro q ⟨g,x⟩;have u:=O (G.o.trans g);have HB:=O x;clear g x));go_end0;exact Yf.bad i u HB
 .obtain⟨c,hc⟩:=Qw ((sA l)[m]);have hx:=A.symm.trans (Qup hlt hS);rw[hc]at hx;have ae:=sign_cases hS;rw[hc]at ae;have Q:=O (t.o.at_ ((m:Int)+1));have ab:Hid (∀v:Int,QT ((W2.setCell ⟨tb,1,none⟩ (Qa ((m:Int)+1))).setCell ⟨tb,4,none⟩ (.int .u8 v)) tb l (m+1:Nat) 0 0 v [] 0 m):=fun v=>QM Q
  clear h58 h34 hS;change Qd _ at hx;rcases ae with rfl|rfl|rfl|rfl|rfl|rfl|rfl|rfl
  all_goals
   go_wp2_with (first|(go_at_call 109;refine Qu (Jx) ?_)|(go_at_call 110;refine Qu (Y8 _ _) ?_));go_end0;exact Yf.ok D B hx ((G.setCell _ _).setCell _ _) (ab _)
end Go.Proofs.YtgnkjijocdmniaaGreatDoor
