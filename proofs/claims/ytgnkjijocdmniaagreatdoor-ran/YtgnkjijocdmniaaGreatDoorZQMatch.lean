import Derived.Test.YtgnkjijocdmniaaGreatDoorZSet
namespace Go.Proofs.YtgnkjijocdmniaaGreatDoor
set_option linter.all false
set_option maxRecDepth 100000
set_option maxHeartbeats 4000000
open Go.Proofs.Tryz
open Go.RowKit
variable{α β:Type}{B F T base i k n pf pos pr pt tag tb what:Nat}{P b d:(Nat->Prop)->α->World->Value->Prop}{R:Qq ((Nat×Bool)×PS)}{X Y:Nat->Prop}{a c:(Nat->Prop)->β->World->Value->Prop}{acc:List (β×List α)}{chk:L8->Nat}{e:TypeId}{l:L8}{oct:Bool}{r:Qq (α×PS)}{req zs:Qn}{s:PS}{sub:PS->Qq (α×PS)}{t:ByteArray}{tst:PS->Qq (β×PS)}{u v v':Value}{w w':World}{x:Xa×List (β×List α)×List α}{xs:List α}{y:Nat×PS}
def Y3(w:World)(b:Nat)(rv:Value)(req:Qn):Prop:=
 (rv=.slice none 0 0/\req=[])\/∃g c,rv=Qs g req.length c/\g≠b/\ZQ w g req/\req≠[]/\req.length<=1000
theorem Y3.mod{b:Nat}{d:Value}(h:Y3 w b d req)(m:Mod b w w'):Y3 w' b d req:=by
 rcases h with h | ⟨g,c,e,a,f,i,k⟩
 .exact Qt h
 .exact Qr ⟨g,c,e,a,fun j l=>Jr (f j l) m a,i,k⟩
theorem FY{b:Nat}{a:Value}(x:L8)(h:Y3 w b a req):Calls prog 64 #[a,Qf x] w fun e w'=>e=.returned (.bool (decide (0<wL req x)))/\w'=w:=by
 rcases h with⟨rfl,rfl⟩ | ⟨g,c,rfl,i,d,j,f⟩
 .exact Tryz.slices_Contains_string_empty none 0 (sA x) w
 .exact FI c x d rfl f
theorem DL{a:L8}(h:a=ZN\/a=ZM\/a=Zb):Z4 req a=decide (0<wL req a):=by unfold Z4;rw[Qi h]
theorem I3{a:L8}(h:¬(a=ZN\/a=ZM\/a=Zb))(b:a=Xw\/a=Xc):Z4 req a=decide (0<wL req Z8):=by unfold Z4;rw[Qg h,Qi b]
theorem WC{a:L8}(h:¬(a=ZN\/a=ZM\/a=Zb))(b:¬(a=Xw\/a=Xc)):Z4 req a=true:=by unfold Z4;rw[Qg h,Qg b]
theorem NG(d:L8){b:Nat}{r:Value}{y z:Nat}(h:RC w b t s r y z)(u:Y3 w b r req):Calls prog 235 #[Qc b,Qf d] w fun e w'=>e=.returned (.bool (Z4 req d))/\w'=w:=by
 have A:=K2 h.at_;have i:=O (fun x=>FY x u)
 obtain⟨B,D,C,v⟩:∃a n c,r=.slice a n c:=by
  rcases u with⟨h,_⟩ | ⟨g,c,h,_⟩
  .exact⟨_,_,_,h⟩
  .exact⟨_,_,_,h⟩
 subst v;clear h u;have j:((sA d).toList==[102,105,108,101,105,110,116,111])=decide (d=ZN):=K9 d ZN;have k:((sA d).toList==[114,101,106,101,99,116])=decide (d=ZM):=K9 d ZM;have l:((sA d).toList==[101,110,118,101,108,111,112,101])=decide (d=Zb):=K9 d Zb;have m:((sA d).toList==[115,101,116])=decide (d=Xw):=K9 d Xw;have p:((sA d).toList==[115,116,114,105,110,103])=decide (d=Xc):=K9 d Xc;by_cases a1:d=ZN
 .have f:=O (DL (req:=req) (Qt a1));rw[QU a1]at j;clear k l m p;clear a1;go_enter func235,ntmps235;go_wp2_with (go_at_call 64;refine Qu (i d) ?_);go_ret;exact⟨Zf (by rw[f.o]),rfl⟩
 by_cases a2:d=ZM
 .have f:=O (DL (req:=req) (Qr (Qt a2)));rw[QB a1]at j;rw[QU a2]at k;clear l m p;clear a2 a1;go_enter func235,ntmps235;go_wp2_with (go_at_call 64;refine Qu (i d) ?_);go_ret;exact⟨Zf (by rw[f.o]),rfl⟩
 by_cases a3:d=Zb
 .have f:=O (DL (req:=req) (Qr (Qr a3)));rw[QB a1]at j;rw[QB a2]at k;rw[QU a3]at l;clear m p;clear a3 a1 a2;go_enter func235,ntmps235;go_wp2_with (go_at_call 64;refine Qu (i d) ?_);go_ret;exact⟨Zf (by rw[f.o]),rfl⟩
 have q:¬(d=ZN\/d=ZM\/d=Zb):=by
  rintro(h|h|h)
  .exact a1 h
  .exact a2 h
  .exact a3 h
 by_cases a4:d=Xw
 .have f:=O (I3 (req:=req) q (Qt a4));clear q;rw[QB a1]at j;rw[QB a2]at k;rw[QB a3]at l;rw[QU a4]at m;clear p;clear a4 a1 a2 a3;go_enter func235,ntmps235;go_wp2_with (go_at_call 64;refine Qu (i Z8) ?_);go_ret;exact⟨Zf (by rw[f.o]),rfl⟩
 by_cases a5:d=Xc
 .have f:=O (I3 (req:=req) q (Qr a5));clear q;rw[QB a1]at j;rw[QB a2]at k;rw[QB a3]at l;rw[QB a4]at m;rw[QU a5]at p;clear a5 a1 a2 a3 a4;go_enter func235,ntmps235;go_wp2_with (go_at_call 64;refine Qu (i Z8) ?_);go_ret;exact⟨Zf (by rw[f.o]),rfl⟩
 have f:=O (WC (req:=req) q (by rintro(h|h)<;>contradiction));clear q;rw[QB a1]at j;rw[QB a2]at k;rw[QB a3]at l;rw[QB a4]at m;rw[QB a5]at p;clear a1 a2 a3 a4 a5;go_enter func235,ntmps235;go_wp2_with (go_at_call 64;refine Qu (i d) ?_);go_ret;exact⟨Zf (by rw[f.o]),rfl⟩
section
attribute [local go_sem ↓] Zt Zu
def slX(X:Nat->Prop)(xs:Qn)(w:World)(v:Value):Prop:=
 ∃g c,v=Qs g xs.length c/\X g/\ZQ w g xs/\xs≠[]
theorem slB.toX{xs:Qn}(h:slB B xs w v):slX (fromB B) xs w v:=h
theorem slX.keep{xs:Qn}(h:slX X xs w v)(e:AbvX X w w'):slX X xs w' v:=by
 obtain⟨g,c,i,b,f,k⟩:=h;refine⟨g,c,i,b,fun j d=>?_,k⟩;have:=f j d;rw[Xo (w:=w) (a:=⟨g,j,none⟩) (e g b (QX this))];exact this
theorem slX.weak{xs:Qn}(h:slX X xs w v)(d:∀k,X k->k<w.heap.size->Y k):slX Y xs w v:=by
 obtain⟨g,c,f,e,a,b⟩:=h;exact⟨g,c,f,d g e (QX (a 0 (Xz.2 b))),a,b⟩
def mtX(X:Nat->Prop)(hw:L8)(x:Zk)(w:World)(v:Value):Prop:=
 ∃fv kv,v=.agg #[Qf hw,Qa x.pos,Qa x.tag,.bool x.octet,fv,kv]/\slX X x.fr w fv/\slX X x.keys w kv
def YY{α:Type}(X:Nat->Prop)(P:(Nat->Prop)->α->World->Value->Prop)(x:Zk×List α)(w:World)(v:Value):Prop:=
 match x.1.kind with
 |0=>x.2=[]/\v=.iface 302 (.agg #[Qf Uj,Qa x.1.pos,.bool true])
 |1=>x.2=[]/\v=.iface 302 (.agg #[Qf Ud,Qa x.1.pos,.bool false])
 |2=>∃a u,x.2=[a]/\v=.iface 305 (.agg #[Qf kNot,Qa x.1.pos,u])/\P X a w u
 |3=>∃u,v=.iface 224 (.agg #[Qf JV,Qa x.1.pos,u])/\trX X P x.2 w u/\x.2≠[]
 |4=>∃u,v=.iface 225 (.agg #[Qf JU,Qa x.1.pos,u])/\trX X P x.2 w u/\x.2≠[]
 |5=>x.2=[]/\∃u,v=.iface 231 u/\mtX X Y_ x.1 w u
 |6=>x.2=[]/\∃u,v=.iface 234 u/\mtX X Zb x.1 w u
 |7=>x.2=[]/\∃u,v=.iface 235 u/\mtX X Xc x.1 w u
 |8=>x.2=[]/\∃u,v=.iface 309 (.agg #[Qf YL,Qa x.1.pos,u])/\slX X x.1.fr w u
 |_=>x.2=[]/\v=.iface 311 (.agg #[Qf JK,Qa x.1.pos,Qa x.1.tag,Qa x.1.num])
def TestV:(n:Nat)->(Nat->Prop)->Zn n->World->Value->Prop
 |0,_,_,_,_=>False
 |n+1,X,x,w,v=>YY X (TestV n) x w v
theorem Quj{x:Zk×List α}(h:YY X P x w v):∃ty y,v=.iface ty y:=by
 unfold YY at h
 split at h
 .exact⟨_,_,h.2⟩
 .exact⟨_,_,h.2⟩
 .obtain⟨a,u,_,h,_⟩:=h;exact⟨_,_,h⟩
 .obtain⟨u,h,_⟩:=h;exact⟨_,_,h⟩
 .obtain⟨u,h,_⟩:=h;exact⟨_,_,h⟩
 .obtain⟨_,u,h,_⟩:=h;exact⟨_,_,h⟩
 .obtain⟨_,u,h,_⟩:=h;exact⟨_,_,h⟩
 .obtain⟨_,u,h,_⟩:=h;exact⟨_,_,h⟩
 .obtain⟨_,u,h,_⟩:=h;exact⟨_,_,h⟩
 .exact⟨_,_,h.2⟩
theorem mtX.keep{X:Nat->Prop}{hw:L8}{x:Zk}{w w':World}{v:Value}(h:mtX X hw x w v)(a:AbvX X w w'):mtX X hw x w' v:=by
 obtain⟨b,f,c,d,e⟩:=h;exact⟨b,f,c,d.keep a,e.keep a⟩
theorem mtX.weak{X Y:Nat->Prop}{hw:L8}{x:Zk}{w:World}{v:Value}(h:mtX X hw x w v)(a:∀k,X k->k<w.heap.size->Y k):mtX Y hw x w v:=by
 obtain⟨b,f,c,d,e⟩:=h;exact⟨b,f,c,d.weak a,e.weak a⟩
theorem Qts(g:TreeP P){x:Zk×List α}(h:YY X P x w v)(e:AbvX X w w'):YY X P x w' v:=by
 unfold YY at h ⊢
 split at h
 .exact h
 .exact h
 .obtain⟨a,u,b,c,f⟩:=h;exact⟨a,u,b,c,g.keep _ _ _ _ _ f e⟩
 .obtain⟨u,b,c,f⟩:=h;exact⟨u,b,c.keep g e,f⟩
 .obtain⟨u,b,c,f⟩:=h;exact⟨u,b,c.keep g e,f⟩
 .obtain⟨d,u,b,c⟩:=h;exact⟨d,u,b,c.keep e⟩
 .obtain⟨d,u,b,c⟩:=h;exact⟨d,u,b,c.keep e⟩
 .obtain⟨d,u,b,c⟩:=h;exact⟨d,u,b,c.keep e⟩
 .obtain⟨d,u,b,c⟩:=h;exact⟨d,u,b,c.keep e⟩
 .exact h
theorem Qtv(g:TreeP P){x:Zk×List α}(h:YY X P x w v)(f:∀k,X k->k<w.heap.size->Y k):YY Y P x w v:=by
 unfold YY at h ⊢
 split at h
 .exact h
 .exact h
 .obtain⟨a,u,b,c,e⟩:=h;exact⟨a,u,b,c,g.weak _ _ _ _ _ e f⟩
 .obtain⟨u,b,c,e⟩:=h;exact⟨u,b,trX.weak g e c f,e⟩
 .obtain⟨u,b,c,e⟩:=h;exact⟨u,b,trX.weak g e c f,e⟩
 .obtain⟨d,u,b,c⟩:=h;exact⟨d,u,b,c.weak f⟩
 .obtain⟨d,u,b,c⟩:=h;exact⟨d,u,b,c.weak f⟩
 .obtain⟨d,u,b,c⟩:=h;exact⟨d,u,b,c.weak f⟩
 .obtain⟨d,u,b,c⟩:=h;exact⟨d,u,b,c.weak f⟩
 .exact h
theorem J7:∀n,TreeP (TestV n)
 |0=>⟨fun _ _ _ _ h=>h.elim,fun _ _ _ _ _ h=>h.elim,fun _ _ _ _ _ h=>h.elim⟩
 |n+1=>⟨fun _ _ _ _ h=>Quj h,fun _ _ _ _ _ h hk=>Qts (J7 n) h hk,fun _ _ _ _ _ h hB=>Qtv (J7 n) h hB⟩
def EK(w:World)(T:TypeId)(m:Nat)(f:L8->Option Value):Prop:=
 ∀(W:World) (x:L8),W.heap[m]?=w.heap[m]?->(Instr.lookup T (.map (some m)) (Qf x) true).run prog W=.ok (.tuple #[(f x).getD .nilFunc,.bool (f x).isSome]) W
def testFn(b pr pt pf:Nat)(x:L8):Option Value:=
 match wL tNs x with
 |1=>some (QA 185 #[] #[Qc pt])
 |2=>some (QA 185 #[] #[Qc pf])
 |3=>some (QA 128 #[Qc b] #[])
 |4=>some (QA 129 #[] #[Qc pr])
 |5=>some (QA 131 #[] #[Qc pr])
 |6=>some (QA 132 #[] #[Qc pr])
 |7=>some (QA 135 #[] #[Qc pr])
 |8=>some (QA 138 #[] #[Qc pr])
 |9=>some (QA 139 #[Qc b] #[])
 |10=>some (QA 140 #[Qc b] #[])
 |_=>none
structure Kd (w:World) (b mt pr pt pf:Nat):Prop where
 look:EK w 208 mt (testFn b pr pt pf)
 hpr:JP w pr b
 hpt:w.cell? (Ql pt 0)=some (.bool true)
 hpf:w.cell? (Ql pf 0)=some (.bool false)
 ptb:pt≠b
 pfb:pf≠b
 mtb:mt≠b
 mtl:mt < w.heap.size
theorem Kd.mod{w w':World}{b mt pr pt pf:Nat}(h:Kd w b mt pr pt pf)(hm:Mod b w w'):Kd w' b mt pr pt pf:=
 ⟨fun W x e=>h.look W x (e.trans (hm.block mt h.mtl h.mtb)),h.hpr.mod hm,Jr h.hpt hm h.ptb,Jr h.hpf hm h.pfb,h.ptb,h.pfb,h.mtb,Yq h.mtl hm.size⟩
theorem Hk{b:Nat}{x:L8}(h:wL tNs x=0):testFn b pr pt pf x=none:=by unfold testFn;rw[h];rfl
theorem RQ{d:Int}{b:Nat}{l:Value}{a:Nat}(h:RC w b t s l k a)(p:Kd w b a pr pt pf)(x:d<=6)(m:wL tNs s.1.spelt=0):Calls prog 222 #[Qc b,.map (some a),Qa d] w fun e w'=>X1 ⟨4,s.1.pos⟩ w e w'/\Mod b w w':=by
 have u:=Q9 h.at_;have v:w.cell? (Ql b 3)=some (Qf s.1.spelt):=h.at_.cell 3;have n:=p.look w s.1.spelt rfl;rw[Hk m]at n;clear p m;replace h:=O h;simp only[Option.getD_none,Option.isSome_none]at n;by_cases hk:s.1.kind=1
 .have q:((s.1.kind:Int) != 1)=false:=by simp;omega
  clear hk;go_enter func222,ntmps222;go_wp2_with fail;refine Qv (Xe b rfl) ?_;rintro w' i;subst i;go_wp2_with fail;refine(YJ 4 h.o.at_ rfl rfl).mono ?_;rintro e r ⟨⟨c,j,rfl,f⟩,g⟩;exact⟨rfl,⟨c,j,rfl,f⟩,Mod.of_below g⟩
 .have q:((s.1.kind:Int) != 1)=true:=by simp;omega
  clear hk;go_enter func222,ntmps222;go_wp2_with fail;refine Qv (Xe b rfl) ?_;rintro w' i;subst i;go_wp2_with fail;refine(YJ 4 h.o.at_ rfl rfl).mono ?_;rintro e r ⟨⟨c,j,rfl,f⟩,g⟩;exact⟨rfl,⟨c,j,rfl,f⟩,Mod.of_below g⟩
end
def Kc{α β:Type}(X:Nat->Prop)(P1:(Nat->Prop)->β->World->Value->Prop)(P2:(Nat->Prop)->α->World->Value->Prop)(xs:List (β×List α))(w:World)(v:Value):Prop:=
 ∃g c,v=Qs g xs.length c/\X g/\∀j (hj:j<xs.length),∃u bv,w.cell? ⟨g,2*j,none⟩=some u/\w.cell? ⟨g,2*j+1,none⟩=some bv/\P1 X xs[j].1 w u/\blX X P2 xs[j].2 w bv
theorem Kc.keep{α β:Type}{X:Nat->Prop}{d:(Nat->Prop)->β->World->Value->Prop}{e:(Nat->Prop)->α->World->Value->Prop}(m:TreeP d)(n:TreeP e){xs:List (β×List α)}{w w':World}{v:Value}(h:Kc X d e xs w v)(b:AbvX X w w'):Kc X d e xs w' v:=by
 obtain⟨g,c,r,f,s⟩:=h;refine⟨g,c,r,f,fun j o=>?_⟩;obtain⟨u,l,k,i,p,q⟩:=s j o;refine⟨u,l,?_,?_,m.keep _ _ _ _ _ p b,q.keep n b⟩
 .rw[Xo (w:=w) (a:=⟨g,2*j,none⟩) (b g f (QX k))];exact k
 .rw[Xo (w:=w) (a:=⟨g,2*j+1,none⟩) (b g f (QX i))];exact i
theorem Kc.weak{α β:Type}{X Y:Nat->Prop}{a:(Nat->Prop)->β->World->Value->Prop}{b:(Nat->Prop)->α->World->Value->Prop}(l:TreeP a)(m:TreeP b){xs:List (β×List α)}{w:World}{v:Value}(q:xs≠[])(h:Kc X a b xs w v)(d:∀k,X k->k<w.heap.size->Y k):Kc Y a b xs w v:=by
 obtain⟨g,c,t,o,i⟩:=h;refine⟨g,c,t,?_,fun j p=>?_⟩
 .obtain⟨u,f,e,_⟩:=i 0 (Xz.2 q);exact d g o (QX e)
 .obtain⟨u,f,e,n,r,s⟩:=i j p;exact⟨u,f,e,n,l.weak _ _ _ _ _ r d,s.weak m d⟩
def Nu(hw:L8)(p k:Nat)(x:L8):Value:=.iface 269 (.agg #[Qf hw,Qa p,Qa k,Qf x])
def UJ{α β:Type}(X:Nat->Prop)(P1:(Nat->Prop)->β->World->Value->Prop)(P2:(Nat->Prop)->α->World->Value->Prop)(x:Xa×List (β×List α)×List α)(w:World)(v:Value):Prop:=
 match x.1.kind with
 |0=>v=Nu Ul x.1.pos 1 []
 |1=>v=.iface 294 (.agg #[Qf K_,Qa x.1.pos])
 |2=>v=.iface 295 (.agg #[Qf Uk,Qa x.1.pos])
 |3=>v=Nu ZN x.1.pos 2 x.1.arg
 |4=>v=Nu Jt x.1.pos 3 x.1.arg
 |5=>v=Nu ZM x.1.pos 4 x.1.arg
 |6=>v=.iface 264 (.agg #[Qf Xw,Qa x.1.pos,Qa x.1.tag,Qf x.1.var,Qf x.1.arg])
 |_=>∃av ev,v=.iface 261 (.agg #[Qf kIf,Qa x.1.pos,av,.bool x.1.els,ev])/\Kc X P1 P2 x.2.1 w av/\x.2.1≠[]/\blX X P2 x.2.2 w ev
def Yx:(n:Nat)->(Nat->Prop)->Q5 n->World->Value->Prop
 |0,_,_,_,_=>False
 |n+1,X,x,w,v=>UJ X (TestV n) (Yx n) x w v
theorem QtS(h:UJ X a b x w v):∃ty y,v=.iface ty y:=by
 unfold UJ Nu at h
 split at h
 .exact⟨_,_,h⟩
 .exact⟨_,_,h⟩
 .exact⟨_,_,h⟩
 .exact⟨_,_,h⟩
 .exact⟨_,_,h⟩
 .exact⟨_,_,h⟩
 .exact⟨_,_,h⟩
 .obtain⟨c,d,h,_⟩:=h;exact⟨_,_,h⟩
theorem Qun(g:TreeP a)(c:TreeP b)(h:UJ X a b x w v)(d:AbvX X w w'):UJ X a b x w' v:=by
 unfold UJ at h ⊢
 split at h
 .exact h
 .exact h
 .exact h
 .exact h
 .exact h
 .exact h
 .exact h
 .obtain⟨e,f,h,i,k,j⟩:=h;exact⟨e,f,h,i.keep g c d,k,j.keep c d⟩
theorem Qt5(i:TreeP a)(c:TreeP b)(h:UJ X a b x w v)(d:∀k,X k->k<w.heap.size->Y k):UJ Y a b x w v:=by
 unfold UJ at h ⊢
 split at h
 .exact h
 .exact h
 .exact h
 .exact h
 .exact h
 .exact h
 .exact h
 .obtain⟨f,g,h,j,e,l⟩:=h;exact⟨f,g,h,Kc.weak i c e j d,e,l.weak c d⟩
theorem XO:∀n,TreeP (Yx n)
 |0=>⟨fun _ _ _ _ h=>h.elim,fun _ _ _ _ _ h=>h.elim,fun _ _ _ _ _ h=>h.elim⟩
 |n+1=>⟨fun _ _ _ _ h=>QtS h,fun _ _ _ _ _ h hk=>Qun (J7 n) (XO n) h hk,fun _ _ _ _ _ h hB=>Qt5 (J7 n) (XO n) h hB⟩
theorem RA{f:Nat}{e:Flt}(h:mayL l [YB] s=.error e):aMr l F tst sub (f+1) acc s=.error e:=by rw[aMr];exact QC h
theorem Bh{f:Nat}(h:mayL l [YB] s=.ok y)(a:y.1=0):aMr l F tst sub (f+1) acc s=.ok (acc,y.2):=by rw[aMr,Qx h,Qi a]
theorem RB{f:Nat}{e:Flt}(h:mayL l [YB] s=.ok y)(a:¬y.1=0)(b:armL l F tst sub y.2=.error e):aMr l F tst sub (f+1) acc s=.error e:=by rw[aMr,Qx h,Qg a];exact QC b
theorem Tp{f:Nat}{z:(β×List α)×PS}(h:mayL l [YB] s=.ok y)(a:¬y.1=0)(b:armL l F tst sub y.2=.ok z):aMr l F tst sub (f+1) acc s=aMr l F tst sub f (acc++[z.1]) z.2:=by rw[aMr,Qx h,Qg a];exact Qx b
def Jf{α:Type}(P:α->Value->Value->Prop):List α->List Value->Prop
 | [],[]=>True
 |a::xs,u::v::vs=>P a u v/\Jf P xs vs
 |_,_=>False
theorem Jf.imp{α:Type}{P Q:α->Value->Value->Prop}(h:∀a u v,P a u v->Q a u v):∀ {xs:List α} {vs:List Value},Jf P xs vs->Jf Q xs vs
 | [],[],_=>trivial
 |a::xs,u::v::vs,hr=>⟨h _ _ _ hr.1,Jf.imp h hr.2⟩
 | [],_::_,hr=>hr.elim
 |_::_,[],hr=>hr.elim
 |_::_,[_],hr=>hr.elim
theorem Jf.snoc{α:Type}{P:α->Value->Value->Prop}{a:α}{u v:Value}(h:P a u v):∀ {xs:List α} {vs:List Value},Jf P xs vs->Jf P (xs++[a]) (vs++[u,v])
 | [],[],_=>⟨h,trivial⟩
 |a'::xs,u'::v'::vs,hr=>⟨hr.1,Jf.snoc h hr.2⟩
 | [],_::_,hr=>hr.elim
 |_::_,[],hr=>hr.elim
 |_::_,[_],hr=>hr.elim
theorem Jf.at{α:Type}{P:α->Value->Value->Prop}:∀ {xs:List α} {b:List Value},Jf P xs b->∀j (c:j<xs.length),∃u v,b[2*j]?=some u/\b[2*j+1]?=some v/\P xs[j] u v
 | [],[],_,j,c=>absurd c (XA _)
 |a::xs,u::v::b,h,0,_=>⟨u,v,rfl,rfl,h.1⟩
 |a::xs,u::v::b,h,j+1,c=>by
  obtain⟨g,i,d,e,f⟩:=Jf.at h.2 j (by simpa using c);refine⟨g,i,?_,?_,by simpa using f⟩
  .rw[show 2*(j+1)=2*j+1+1 from I];simpa using d
  .rw[show 2*(j+1)+1=2*j+1+1+1 from I];simpa using e
 | [],_::_,h,_,_=>h.elim
 |_::_,[],h,_,_=>h.elim
 |_::_,[_],h,_,_=>h.elim
def XY{α β:Type}(P1:(Nat->Prop)->β->World->Value->Prop)(P2:(Nat->Prop)->α->World->Value->Prop)(base T:Nat)(w:World)(v:Value)(a:β×List α)(u bv:Value):Prop:=
 ∃X,P1 X a.1 w u/\blX X P2 a.2 w bv/\(∀k,X k->base<=k/\k<w.heap.size)/\(∀g,v.ownBlock=some g->¬X g)/\¬X T
theorem XY.mod(q:TreeP c)(r:TreeP d){b:Nat}{a:β×List α}{g:Value}(h:XY c d base T w v a u g)(l:Mod b w w')(s:b<base):XY c d base T w' v a u g:=by
 obtain⟨X,m,n,f,o,p⟩:=h;have i:=l.abvX (fun e=>by have:=(f b e).1;omega);exact⟨X,q.keep _ _ _ _ _ m i,n.keep r i,fun k j=>⟨(f k j).1,Yq (f k j).2 l.size⟩,o,p⟩
theorem XY.set{α β:Type}{b:(Nat->Prop)->β->World->Value->Prop}{c:(Nat->Prop)->α->World->Value->Prop}(n:TreeP b)(p:TreeP c){base T:Nat}{w:World}{v:Value}{a:β×List α}{u d:Value}(h:XY b c base T w v a u d)(o:Nat)(x:Value):XY b c base T (w.setCell ⟨T,o,none⟩ x) v a u d:=by
 obtain⟨X,j,l,e,m,f⟩:=h;have g:AbvX X w (w.setCell ⟨T,o,none⟩ x):=AbvX.set f _ _;exact⟨X,n.keep _ _ _ _ _ j g,l.keep p g,fun k i=>⟨(e k i).1,by simpa[World.setCell]using(e k i).2⟩,m,f⟩
theorem XY.new{b:(Nat->Prop)->β->World->Value->Prop}{c:(Nat->Prop)->α->World->Value->Prop}(i:TreeP b)(j:TreeP c){a:β×List α}{d:Value}(h:b (fromB B) a.1 w u)(e:blX (fromB B) c a.2 w d)(f:base<=B)(l:∀g,v.ownBlock=some g->g<B)(m:T<B):XY b c base T w v a u d:=
 ⟨fun k=>B<=k/\k<w.heap.size,i.weak _ _ _ _ _ h (fun k hk hz=>⟨hk,hz⟩),e.weak j (fun k hk hz=>⟨hk,hz⟩),fun k hk=>⟨QE f hk.1,hk.2⟩,fun g hg hX=>by have:=l g hg;omega,fun hX=>I⟩
theorem XY.grown(t:TreeP c)(x:TreeP d){a:β×List α}{j:Value}{o:Obj}(h:XY c d base T w v a u j)(p:(w.alloc o).grownBy w' v.ownBlock)(hv:v'.ownBlock=v.ownBlock\/v'.ownBlock=some (w.heap.size+1)):XY c d base T w' v' a u j:=by
 obtain⟨X,q,r,f,l,s⟩:=h
 have m:AbvX X w w':=fun k b y=>by
  rw[p.block k (by simp;omega) (fun e=>l k e.symm b)];exact ZL _ _ _ y
 refine⟨X,t.keep _ _ _ _ _ q m,r.keep x m,fun k b=>⟨(f k b).1,?_⟩,fun g i n=>?_,s⟩
 .have:=(f k b).2;have:=p.size;simp at this;omega
 .rcases hv with hv|hv
  .exact l g (hv ▸ i) n
  .rw[hv]at i;have:=(f g n).2;simp at i;omega
theorem Kc.of_owns{d:(Nat->Prop)->β->World->Value->Prop}{f:(Nat->Prop)->α->World->Value->Prop}(x:TreeP d)(y:TreeP f){xs:List (β×List α)}{p:List Value}(h:w.ownsRow base e 2 v n p)(D:n=xs.length)(K:xs≠[])(J:∀g,v.ownBlock=some g->g≠T)(G:Jf (fun a u bv=>XY d f base T w v a u bv) xs p):Kc (fun k=>base<=k/\k≠T) d f xs w v:=by
 subst D;have l:=fun g (i:v.ownBlock=some g)=>h.cells i
 obtain⟨M,s⟩:=h;rcases s with⟨_,t⟩ | ⟨g,q,L,c,i,r⟩
 .exact absurd (XV t) K
 .refine⟨g,q,c,⟨i,J g (by rw[c];rfl)⟩,fun j C=>?_⟩;obtain⟨u,bv,H,B,X,E,F,z,_,A⟩:=G.at j C;have m:=l g (by rw[c];rfl) _ u H;have o:=l g (by rw[c];rfl) _ bv B;rw[J8]at m o;have b:∀k,X k->k<w.heap.size->base<=k/\k≠T:=fun k b _=>⟨(z k b).1,fun e=>A (e ▸ b)⟩
  exact⟨u,bv,m,o,x.weak _ _ _ _ _ E b,F.weak y b⟩
section
attribute [local go_sem ↓] Zt Zu
theorem Z1:∀(zs:Qn) (x:L8) (i:Nat),wL zs x=i+1->zs[i]?=some x
 | [],x,i,h=>by simp[wL]at h
 |s::r,x,i,h=>by
  unfold wL at h
  split at h
  .rename_i e;have:i=0:=I
   subst this;subst e;rfl
  .split at h
   .omega
   .rename_i h1 h2;obtain⟨j,b⟩:∃j,wL r x=j+1:=⟨wL r x-1,I⟩;have a:i=j+1:=I
    subst a;have:=Z1 r x j b;simpa using this
theorem Qy.lift{R:Qq (β×PS)}{b:Nat}{k:Value}{j:Nat}{W:World}{l:α->World->Value->Prop}{m:β->World->Value->Prop}{e:Ending}(g:α->β)(h:Qy r b t k i j W l e w')(a:Mod b w W)(q:∀y,r=.ok y->R=.ok (g y.1,y.2))(o:∀f,r=.error f->R=.error f)(x:∀y v,r=.ok y->l y.1 w' v->m (g y.1) w' v):Qy R b t k i j w m e w':=by
 rcases h.cases with⟨y,v,d,rfl,u,n,c⟩ | ⟨f,p,s,c⟩
 .exact Qy.ok (q y d) (a.trans c) (x _ _ d u) n
 .exact Qy.err (o f p) (a.trans c) (s.up a.size)
theorem UX{f:Flt}(hi:wL tNs s.1.spelt=k+1)(b:Z4 req s.1.spelt=true)(a:nL l s.2=.error f):QP l req F (n+1) s=.error f:=by
 rw[QP,Q8,Qi b];exact Jv a
theorem U1{y:PS}(hi:wL tNs s.1.spelt=k+1)(b:Z4 req s.1.spelt=true)(a:nL l s.2=.ok y):QP l req F (n+1) s=tBd l F (QP l req F n) k s.1.pos y:=by
 rw[QP,Q8,Qi b];refine(YV a).trans ?_;show tBd l F (QP l req F n) (wL tNs s.1.spelt-1) s.1.pos y=_
 rw[hi];rfl
theorem IL:tBd l F sub 2 pos s=QL (sub s) fun t s1=>.ok ((⟨2,pos,0,false,[],[],0⟩,[t]),s1):=rfl
theorem Qte:tBd l F sub 0 pos s=.ok ((⟨0,pos,0,false,[],[],0⟩,[]),s):=rfl
theorem QsN:tBd l F sub 1 pos s=.ok ((⟨1,pos,0,false,[],[],0⟩,[]),s):=rfl
theorem Hr:tBd l F sub 3 pos s=QL (groupL l F sub s) fun ts s1=>.ok ((⟨3,pos,0,false,[],[],0⟩,ts),s1):=rfl
theorem Ho:tBd l F sub 4 pos s=QL (groupL l F sub s) fun ts s1=>.ok ((⟨4,pos,0,false,[],[],0⟩,ts),s1):=rfl
theorem Ir:tBd l F sub 5 pos s=QL (Xr l F (fun _=>0) 5 pos s) fun x s1=>.ok ((x,[]),s1):=rfl
theorem In:tBd l F sub 6 pos s=QL (Xr l F (V7 (YK 7 [JL,kTo])) 6 pos s) fun x s1=>.ok ((x,[]),s1):=rfl
theorem Hq:tBd l F sub 7 pos s=QL (Xr l F (fun _=>0) 7 pos s) fun x s1=>.ok ((x,[]),s1):=rfl
theorem IC:tBd l F sub 8 pos s=QL (sLs l (fun _=>0) F s) fun xs s1=>.ok ((⟨8,pos,0,false,xs,[],0⟩,[]),s1):=rfl
theorem Hy:tBd l F sub 9 pos s=QL (sizeL l pos s) fun x s1=>.ok ((x,[]),s1):=rfl
theorem C7{y:Zk×PS}(h:Xr l F chk k pos s=.ok y):y.1.kind=k/\y.1.pos=pos:=by
 unfold Xr at h
 cases h1:ZH l F 0 false false s with
 |error f=>rw[QC h1]at h;cases h
 |ok a=>
  rw[Qx h1]at h
  cases h2:sLs l chk F a.2 with
  |error f=>rw[QC h2]at h;cases h
  |ok c=>
   rw[Qx h2]at h
   cases h3:sLs l (fun _=>0) F c.2 with
   |error f=>rw[QC h3]at h;cases h
   |ok e=>rw[Qx h3]at h;cases h;exact⟨rfl,rfl⟩
theorem Hs{y:Zk×PS}(h:sizeL l pos s=.ok y):y.1.kind=9/\y.1.pos=pos:=by
 unfold sizeL at h
 cases h1:paL l [JI,JE] s with
 |error f=>rw[QC h1]at h;cases h
 |ok a=>
  rw[Qx h1]at h
  split at h
  .cases h2:nL l a.2.2 with
   |error f=>rw[Jv h2]at h;cases h
   |ok c=>rw[YV h2]at h;cases h;exact⟨rfl,rfl⟩
  .cases h
theorem mtV.toX{hw:L8}{x:Zk}(h:mtV B hw x w v):mtX (fromB B) hw x w v:=h
theorem A_{w2:World}{b:Nat}{sp:L8}{p:Nat}(hm:Mod b (w.alloc (Qe #[Qf sp,Qa p] 216)).drew w2)(hb:b<w.heap.size):w2.cell? (Ql w.heap.size 0)=some (Qf sp)/\w2.cell? (Ql w.heap.size 1)=some (Qa p)/\Mod b w w2:=
 ⟨(Bz p (Z0 hm) hb).1,(Bz p (Z0 hm) hb).2,((Mod.refl b w).alloc _).trans (Z0 hm)⟩
theorem Vp:type_of%@Option.getD_some:=@Option.getD_some
theorem G1(f:FuncId)(q:Nat)(n:Nat){d:Int}{b:Nat}{c:Value}{a:Nat}(h:RC w b t s c i a)(H:Kd w b a pr pt pf)(G:Y3 w b c req)(Y:0<=d)(X:d<=6)(P:s.1.kind=1)(J:Z4 req s.1.spelt=true)
 (B:testFn b pr pt pf s.1.spelt=some (.func (.func f) #[] #[Qc q])) (V:∀args W,(callFunc f args).run prog W=.ok (.enter f args) W) (D:∀f2,nL t.data.toList s.2=.error f2->QP t.data.toList req F (n+1) s=.error f2)
 (A:∀W y,Mod b w W->RC W b t y c i a->nL t.data.toList s.2=.ok y->Calls prog f #[.agg #[Qf s.1.spelt,Qa s.1.pos],Qa d,Qc q] W (Qy (QP t.data.toList req F (n+1) s) b t c i a w (TestV (n+1) (fromB w.heap.size)))):Calls prog 222 #[Qc b,.map (some a),Qa d] w (Qy (QP t.data.toList req F (n+1) s) b t c i a w (TestV (n+1) (fromB w.heap.size))):=by
 have S:=Q9 h.at_;have T:=Xx h.at_;have U:w.cell? (Ql b 3)=some (Qf s.1.spelt):=h.at_.cell 3;have r:=H.look w s.1.spelt rfl;rw[B]at r;have k:=O (NG s.1.spelt h G);rw[J]at k;have Q:=h.at_.lt;clear H G B J;change Qd _ at D A;replace h:=O h;simp only[Vp,Option.isSome_some]at r;have ab:((s.1.kind:Int) != 1)=false:=by simp;omega
 clear P;go_enter func222,ntmps222;go_wp2_with fail;refine Qv (Xe b rfl) ?_;rintro g u;subst g;go_wp2_with fail;refine Qv (Xe b rfl) ?_;rintro g u;subst g;go_wp2_with fail;refine k.mono ?_;rintro e g ⟨rfl,u⟩;subst g;go_wp2_with fail;refine Qv (Xe b rfl) ?_;rintro g u;subst g;clear k r;go_wp2_with fail;go_region
 all_goals go_wp2_with fail
 all_goals
  refine(Km ((h.o.alloc _).drew)).mono ?_;rintro e w2 (⟨y,hy,rfl,hc,hm⟩ | ⟨f2,hf2,⟨l,x,rfl,p⟩,hm⟩)
 all_goals first
  |exact⟨rfl,Qy.err (D _ hf2) (((Mod.refl b w).alloc _).trans (Z0 hm)) ⟨l,by simp at x;omega,rfl,p⟩⟩
  |skip
 all_goals
  obtain⟨Z,aa,C⟩:=A_ hm Q;have L:=O (A _ y C hc hy);clear hm hc hy C;go_wp2_with fail;refine L.mono ?_;intro e w3 m;have HQ:=O m;clear m;rcases HQ.o.cases with⟨q,v,E,rfl,K,z,j⟩ | ⟨R,N,⟨l,x,rfl,p⟩,j⟩
 all_goals first
  |exact⟨rfl,Qy.err N j ⟨l,x,rfl,p⟩⟩
  |skip
 all_goals
  have M:=O (Qy.ok E j K z);clear E j K z HQ;go_wp2;go_ret;exact M
theorem D'(f:FuncId)(n:Nat){d:Int}{b:Nat}{c:Value}{a:Nat}(h:RC w b t s c i a)(H:Kd w b a pr pt pf)(G:Y3 w b c req)(Y:0<=d)(X:d<=6)(P:s.1.kind=1)(J:Z4 req s.1.spelt=true)
 (B:testFn b pr pt pf s.1.spelt=some (.func (.func f) #[Qc b] #[])) (V:∀args W,(callFunc f args).run prog W=.ok (.enter f args) W) (D:∀f2,nL t.data.toList s.2=.error f2->QP t.data.toList req F (n+1) s=.error f2)
 (A:∀W y,Mod b w W->RC W b t y c i a->nL t.data.toList s.2=.ok y->Calls prog f #[Qc b,.agg #[Qf s.1.spelt,Qa s.1.pos],Qa d] W (Qy (QP t.data.toList req F (n+1) s) b t c i a w (TestV (n+1) (fromB w.heap.size)))):Calls prog 222 #[Qc b,.map (some a),Qa d] w (Qy (QP t.data.toList req F (n+1) s) b t c i a w (TestV (n+1) (fromB w.heap.size))):=by
 have S:=Q9 h.at_;have T:=Xx h.at_;have U:w.cell? (Ql b 3)=some (Qf s.1.spelt):=h.at_.cell 3;have r:=H.look w s.1.spelt rfl;rw[B]at r;have k:=O (NG s.1.spelt h G);rw[J]at k;have Q:=h.at_.lt;clear H G B J;change Qd _ at D A;replace h:=O h;simp only[Vp,Option.isSome_some]at r;have ab:((s.1.kind:Int) != 1)=false:=by simp;omega
 clear P;go_enter func222,ntmps222;go_wp2_with fail;refine Qv (Xe b rfl) ?_;rintro g u;subst g;go_wp2_with fail;refine Qv (Xe b rfl) ?_;rintro g u;subst g;go_wp2_with fail;refine k.mono ?_;rintro e g ⟨rfl,u⟩;subst g;go_wp2_with fail;refine Qv (Xe b rfl) ?_;rintro g u;subst g;clear k r;go_wp2_with fail;go_region
 all_goals go_wp2_with fail
 all_goals
  refine(Km ((h.o.alloc _).drew)).mono ?_;rintro e w2 (⟨y,hy,rfl,hc,hm⟩ | ⟨f2,hf2,⟨l,x,rfl,p⟩,hm⟩)
 all_goals first
  |exact⟨rfl,Qy.err (D _ hf2) (((Mod.refl b w).alloc _).trans (Z0 hm)) ⟨l,by simp at x;omega,rfl,p⟩⟩
  |skip
 all_goals
  obtain⟨Z,aa,C⟩:=A_ hm Q;have L:=O (A _ y C hc hy);clear hm hc hy C;go_wp2_with fail;refine L.mono ?_;intro e w3 m;have HQ:=O m;clear m;rcases HQ.o.cases with⟨q,v,E,rfl,K,z,j⟩ | ⟨R,N,⟨l,x,rfl,p⟩,j⟩
 all_goals first
  |exact⟨rfl,Qy.err N j ⟨l,x,rfl,p⟩⟩
  |skip
 all_goals
  have M:=O (Qy.ok E j K z);clear E j K z HQ;go_wp2;go_ret;exact M
end
theorem Ru:∀z∈tNs,∀c r,z=c::r->Za c.toNat=true:=by
 intro z a c r e;simp[tNs]at a;rcases a with h|h|h|h|h|h|h|h|h|h<;>subst h<;>cases e<;>decide
theorem SZ:∀z∈tNs,z≠[]:=Qb
theorem HH{x:L8}(h:¬wL zs x=0):x∈zs:=by
 obtain⟨i,a⟩:∃i,wL zs x=i+1:=⟨wL zs x-1,I⟩;exact Uv (Z1 zs x i a)
theorem Ly(f:¬s.1.kind=1->N1 s.1.spelt)(h:¬wL tNs s.1.spelt=0):s.1.kind=1:=by
 apply GE;intro e;have b:=HH h;have g:=SZ _ b
 cases hsp:s.1.spelt with
 |nil=>exact g hsp
 |cons c r=>
  have d:=Ru _ b c r hsp;have a:=f e c r hsp;rw[d]at a;cases a
theorem Td{q:Value}{d:Int}{b:Nat}{c:Value}{f a:Nat}(h:RC w b t s c f a)(l:Kd w b a pr pt pf)(k:Y3 w b c req)(A:d<=6)(u:s.1.kind=1)(i:testFn b pr pt pf s.1.spelt=some q)(m:Z4 req s.1.spelt=false):Calls prog 222 #[Qc b,.map (some a),Qa d] w fun e w'=>X1 ⟨6,s.1.pos⟩ w e w'/\Mod b w w':=by
 have y:=Q9 h.at_;have z:w.cell? (Ql b 3)=some (Qf s.1.spelt):=h.at_.cell 3;have j:=l.look w s.1.spelt rfl;rw[i]at j;have g:=O (NG s.1.spelt h k);rw[m]at g;clear l k i m;replace h:=O h;simp only[Vp,Option.isSome_some]at j;have B:((s.1.kind:Int) != 1)=false:=by simp;omega
 clear u;go_enter func222,ntmps222;go_wp2_with fail;refine Qv (Xe b rfl) ?_;rintro w' n;subst w';go_wp2_with fail;refine Qv (Xe b rfl) ?_;rintro w' n;subst w';go_wp2_with fail;refine g.mono ?_;rintro e w' ⟨rfl,n⟩;subst w';go_wp2_with fail;refine(YJ 6 h.o.at_ rfl rfl).mono ?_;rintro e C ⟨⟨p,x,rfl,r⟩,v⟩;exact⟨rfl,⟨p,x,rfl,r⟩,Mod.of_below v⟩
theorem Wf{b:Nat}{m:Value}{l a:Nat}(h:RC w b t s m l a)(j:Kd w b a pr pt pf):Calls prog 222 #[Qc b,.map (some a),Qa 7] w fun e w'=>X1 ⟨if s.1.kind=1 then 5 else 4,s.1.pos⟩ w e w'/\Mod b w w':=by
 have q:=Q9 h.at_;have r:w.cell? (Ql b 3)=some (Qf s.1.spelt):=h.at_.cell 3;have g:=j.look w s.1.spelt rfl;have H:=O h;by_cases hk:s.1.kind=1
 .rw[Qi hk];have n:((s.1.kind:Int) != 1)=false:=by simp;omega
  clear hk h j g;go_enter func222,ntmps222;go_wp2_with fail;refine(YJ 5 H.o.at_ rfl rfl).mono ?_;rintro e p ⟨⟨d,k,rfl,f⟩,i⟩;exact⟨rfl,⟨d,k,rfl,f⟩,Mod.of_below i⟩
 .rw[Qg hk]
  have c:wL tNs s.1.spelt=0:=by
   apply GE;intro c;exact hk (Ly h.nm c)
  rw[Hk c]at g;have n:((s.1.kind:Int) != 1)=true:=by simp;omega
  clear hk h j c;simp only[Option.getD_none,Option.isSome_none]at g;go_enter func222,ntmps222;go_wp2_with fail;refine Qv (Xe b rfl) ?_;rintro w' u;subst w';go_wp2_with fail;refine(YJ 4 H.o.at_ rfl rfl).mono ?_;rintro e p ⟨⟨d,k,rfl,f⟩,i⟩;exact⟨rfl,⟨d,k,rfl,f⟩,Mod.of_below i⟩
theorem T'{b:Nat}{x:L8}(h:¬wL tNs x=0):∃fv,testFn b pr pt pf x=some fv:=by
 have c:=KK tNs x;have a:tNs.length=10:=rfl;unfold testFn;generalize wL tNs x=i at *;rcases(by omega:i=1\/i=2\/i=3\/i=4\/i=5\/i=6\/i=7\/i=8\/i=9\/i=10)with h|h|h|h|h|h|h|h|h|h<;>subst h<;>exact⟨_,rfl⟩
theorem Qtk{d:Int}{b:Nat}{g:Value}{c:Nat}(h:RC w b t s g i c)(o:Kd w b c pr pt pf)(B:Y3 w b g req)(hF:2*t.size+1<F)(r:0<=d)(z:d<=6)(M:SubMu t.size (QP t.data.toList req F n))(L:Je 186 w b t g i c (d+1) (QP t.data.toList req F n) (TestV n)):Calls prog 222 #[Qc b,.map (some c),Qa d] w (Qy (QP t.data.toList req F (n+1) s) b t g i c w (TestV (n+1) (fromB w.heap.size))):=by
 by_cases h0:wL tNs s.1.spelt=0
 .refine(RQ h o z h0).mono ?_;rintro e P ⟨J,K⟩;exact Qy.err (by rw[QP,Qi h0]) K J
 have A:=Ly h.nm h0;cases hu:Z4 req s.1.spelt
 .obtain⟨N,hf⟩:=T' (b:=b) (pr:=pr) (pt:=pt) (pf:=pf) h0;refine(Td h o B z A hf hu).mono ?_;rintro e P ⟨J,K⟩;exact Qy.err (by rw[QP,Qg h0,Qg (by rw[hu];decide)]) K J
 have R:=KK tNs s.1.spelt;have Q:tNs.length=10:=rfl;rcases(by omega:wL tNs s.1.spelt=0+1\/wL tNs s.1.spelt=1+1\/wL tNs s.1.spelt=2+1\/wL tNs s.1.spelt=3+1\/wL tNs s.1.spelt=4+1\/wL tNs s.1.spelt=5+1\/wL tNs s.1.spelt=6+1\/wL tNs s.1.spelt=7+1\/wL tNs s.1.spelt=8+1\/wL tNs s.1.spelt=9+1)with hi|hi|hi|hi|hi|hi|hi|hi|hi|hi
 .refine G1 185 pt n h o B r z A hu (by unfold testFn;rw[hi];rfl) (fun _ _=>Qm) (fun C l=>UX hi hu l) (fun W y HM j p=>?_);have m:s.1.spelt=Uj:=by have:=Z1 _ _ _ hi;simpa[tNs]using this.symm
  have HE:=U1 (F:=F) (n:=n) hi hu p;refine(Ih d pt true (o.mod HM).hpt).mono ?_;intro e D h3';obtain⟨rfl,E⟩:=h3';exact Qy.ok (HE.trans (Qte)) (HM.trans (Mod.of_below E)) ⟨rfl,by rw[m]⟩ (j.below E)
 .refine G1 185 pf n h o B r z A hu (by unfold testFn;rw[hi];rfl) (fun _ _=>Qm) (fun C l=>UX hi hu l) (fun W y HM j p=>?_);have m:s.1.spelt=Ud:=by have:=Z1 _ _ _ hi;simpa[tNs]using this.symm
  have HE:=U1 (F:=F) (n:=n) hi hu p;refine(Ih d pf false (o.mod HM).hpf).mono ?_;intro e D h3';obtain⟨rfl,E⟩:=h3';exact Qy.ok (HE.trans (QsN)) (HM.trans (Mod.of_below E)) ⟨rfl,by rw[m]⟩ (j.below E)
 .refine D' 128 n h o B r z A hu (by unfold testFn;rw[hi];rfl) (fun _ _=>Qm) (fun C l=>UX hi hu l) (fun W y HM j p=>?_);have m:s.1.spelt=kNot:=by have:=Z1 _ _ _ hi;simpa[tNs]using this.symm
  have HE:=U1 (F:=F) (n:=n) hi hu p;refine(O4 j r I (J7 n) (L.mod HM)).mono ?_;intro e D h3';exact Qy.lift (fun a=>((⟨2,s.1.pos,0,false,[],[],0⟩:Zk),[a])) h3' HM (fun q hq=>HE.trans ((IL).trans (Qx hq))) (fun f hf=>HE.trans ((IL).trans (QC hf))) (fun a v _ hv=>by obtain⟨u,rfl,hu⟩:=hv;exact⟨a.1,u,rfl,by rw[m],(J7 n).weak _ _ _ _ _ hu (fun k hk _=>QE HM.size hk)⟩)
 .refine G1 129 pr n h o B r z A hu (by unfold testFn;rw[hi];rfl) (fun _ _=>Qm) (fun C l=>UX hi hu l) (fun W y HM j p=>?_);have m:s.1.spelt=JV:=by have:=Z1 _ _ _ hi;simpa[tNs]using this.symm
  have HE:=U1 (F:=F) (n:=n) hi hu p;refine(QvX j (o.mod HM).hpr hF r I (J7 n) M (L.mod HM)).mono ?_;intro e D h3';exact Qy.lift (fun H=>((⟨3,s.1.pos,0,false,[],[],0⟩:Zk),H)) h3' HM (fun q hq=>HE.trans ((Hr).trans (Qx hq))) (fun f hf=>HE.trans ((Hr).trans (QC hf))) (fun a v _ hv=>by obtain⟨u,rfl,hu,G⟩:=hv;exact⟨u,by rw[m],trX.weak (J7 n) G hu (fun k hk _=>QE HM.size hk),G⟩)
 .refine G1 131 pr n h o B r z A hu (by unfold testFn;rw[hi];rfl) (fun _ _=>Qm) (fun C l=>UX hi hu l) (fun W y HM j p=>?_);have m:s.1.spelt=JU:=by have:=Z1 _ _ _ hi;simpa[tNs]using this.symm
  have HE:=U1 (F:=F) (n:=n) hi hu p;refine(Qwe j (o.mod HM).hpr hF r I (J7 n) M (L.mod HM)).mono ?_;intro e D h3';exact Qy.lift (fun H=>((⟨4,s.1.pos,0,false,[],[],0⟩:Zk),H)) h3' HM (fun q hq=>HE.trans ((Ho).trans (Qx hq))) (fun f hf=>HE.trans ((Ho).trans (QC hf))) (fun a v _ hv=>by obtain⟨u,rfl,hu,G⟩:=hv;exact⟨u,by rw[m],trX.weak (J7 n) G hu (fun k hk _=>QE HM.size hk),G⟩)
 .refine G1 132 pr n h o B r z A hu (by unfold testFn;rw[hi];rfl) (fun _ _=>Qm) (fun C l=>UX hi hu l) (fun W y HM j p=>?_);have m:s.1.spelt=Y_:=by have:=Z1 _ _ _ hi;simpa[tNs]using this.symm
  have HE:=U1 (F:=F) (n:=n) hi hu p;refine(QtX d j (o.mod HM).hpr hF).mono ?_;intro e D h3'
  exact Qy.lift (fun x=>(x,[])) h3' HM (fun q hq=>HE.trans ((Ir).trans (Qx hq))) (fun f hf=>HE.trans ((Ir).trans (QC hf))) (fun a v ha hv=>by
   obtain⟨u,rfl,hu⟩:=hv;rw[m]at hu;show YY _ _ _ _ _
   unfold YY;rw[(C7 ha).1]
   exact ⟨rfl,u,rfl,hu.toX.weak (fun k hk _=>QE HM.size hk)⟩)
 .refine G1 135 pr n h o B r z A hu (by unfold testFn;rw[hi];rfl) (fun _ _=>Qm) (fun C l=>UX hi hu l) (fun W y HM j p=>?_);have m:s.1.spelt=Zb:=by have:=Z1 _ _ _ hi;simpa[tNs]using this.symm
  have HE:=U1 (F:=F) (n:=n) hi hu p;refine(SE d j (o.mod HM).hpr hF).mono ?_;intro e D h3'
  exact Qy.lift (fun x=>(x,[])) h3' HM (fun q hq=>HE.trans ((In).trans (Qx hq))) (fun f hf=>HE.trans ((In).trans (QC hf))) (fun a v ha hv=>by
   obtain⟨u,rfl,hu⟩:=hv;rw[m]at hu;show YY _ _ _ _ _
   unfold YY;rw[(C7 ha).1]
   exact ⟨rfl,u,rfl,hu.toX.weak (fun k hk _=>QE HM.size hk)⟩)
 .refine G1 138 pr n h o B r z A hu (by unfold testFn;rw[hi];rfl) (fun _ _=>Qm) (fun C l=>UX hi hu l) (fun W y HM j p=>?_);have m:s.1.spelt=Xc:=by have:=Z1 _ _ _ hi;simpa[tNs]using this.symm
  have HE:=U1 (F:=F) (n:=n) hi hu p;refine(WQ d j (o.mod HM).hpr hF).mono ?_;intro e D h3'
  exact Qy.lift (fun x=>(x,[])) h3' HM (fun q hq=>HE.trans ((Hq).trans (Qx hq))) (fun f hf=>HE.trans ((Hq).trans (QC hf))) (fun a v ha hv=>by
   obtain⟨u,rfl,hu⟩:=hv;rw[m]at hu;show YY _ _ _ _ _
   unfold YY;rw[(C7 ha).1]
   exact ⟨rfl,u,rfl,hu.toX.weak (fun k hk _=>QE HM.size hk)⟩)
 .refine D' 139 n h o B r z A hu (by unfold testFn;rw[hi];rfl) (fun _ _=>Qm) (fun C l=>UX hi hu l) (fun W y HM j p=>?_);have m:s.1.spelt=YL:=by have:=Z1 _ _ _ hi;simpa[tNs]using this.symm
  have HE:=U1 (F:=F) (n:=n) hi hu p;refine(Qtf d j hF).mono ?_;intro e D h3';exact Qy.lift (fun H=>((⟨8,s.1.pos,0,false,H,[],0⟩:Zk),[])) h3' HM (fun q hq=>HE.trans ((IC).trans (Qx hq))) (fun f hf=>HE.trans ((IC).trans (QC hf))) (fun a v _ hv=>by obtain⟨u,rfl,hu⟩:=hv;exact⟨rfl,u,by rw[m],hu.toX.weak (fun k hk _=>QE HM.size hk)⟩)
 .refine D' 140 n h o B r z A hu (by unfold testFn;rw[hi];rfl) (fun _ _=>Qm) (fun C l=>UX hi hu l) (fun W y HM j p=>?_);have m:s.1.spelt=JK:=by have:=Z1 _ _ _ hi;simpa[tNs]using this.symm
  have HE:=U1 (F:=F) (n:=n) hi hu p;refine(QyV d j).mono ?_;intro e D h3'
  exact Qy.lift (fun x=>(x,[])) h3' HM (fun q hq=>HE.trans ((Hy).trans (Qx hq))) (fun f hf=>HE.trans ((Hy).trans (QC hf))) (fun a v ha hv=>by
   rw[m]at hv;show YY _ _ _ _ _
   unfold YY;rw[(Hs ha).1];refine⟨rfl,?_⟩
   rw [hv,(Hs ha).2])
theorem Lw{n:α->World->Value->Prop}{d:Int}{b:Nat}{i:Value}{g a:Nat}(h:RC w b t s i g a)
 (f:Calls prog 222 #[Qc b,.map (some a),Qa d] w (Qy r b t i g a w n)):Calls prog 186 #[Qc b,Qa d] w (Qy r b t i g a w n):=by
 have B:=Cw h.at_;clear h;replace f:=O f;go_enter func186,ntmps186;go_wp2_with fail;refine f.mono ?_;intro e C j;rcases j.cases with⟨q,v,l,rfl,m,k,c⟩ | ⟨A,y,⟨u,z,rfl,x⟩,c⟩
 .have p:=O (Qy.ok l c m k);clear j l c m k;go_wp2;go_ret;exact p
 .exact⟨rfl,Qy.err y c ⟨u,z,rfl,x⟩⟩
theorem L1{req:Qn}(b:Nat){F:Nat}{t:ByteArray}(c:Value)(d a pr pt pf:Nat)(hF:2*t.size+1<F)(f:∀n,SubMu t.size (QP t.data.toList req F n)) :
 ∀(n:Nat),n<=7->∀(w:World),Kd w b a pr pt pf->Y3 w b c req->Je 186 w b t c d a (7-(n:Int)) (QP t.data.toList req F n) (TestV n)
 |0,_,w,ht,hr=>fun W s hm hc=>by
  refine Lw hc ?_;refine(Wf hc (ht.mod hm)).mono ?_;rintro e k ⟨g,i⟩;refine Qy.err ?_ i g;rw[QP];split<;>rfl
 |n+1,hn,w,ht,hr=>fun W s hm hc=>by
  refine Lw hc ?_;have j:=L1 b c d a pr pt pf hF f n I W (ht.mod hm) (hr.mod hm);have e:(7:Int)-((n+1:Nat):Int)+1=7-(n:Int):=I
  exact Qtk hc (ht.mod hm) (hr.mod hm) hF I I (f n) (by rw[e];exact j)
theorem QzS(t:ByteArray)(req:Qn)(F n:Nat):SubMu t.size (QP t.data.toList req F n):=fun s y h1 h2 e=>by
 have:=(NQ n s ⟨by simpa using h1,h2⟩ y e).2;rw[bal]at this;omega
theorem OD(t:ByteArray)(req:Qn)(F n:Nat):SubMu t.size (cmdL t.data.toList req F n):=fun s y h1 h2 e=>by
 have:=(Na n s ⟨by simpa using h1,h2⟩ y e).2;rw[bal]at this;omega
theorem PA{b:Nat}{rv:Value}(mc:Nat){mt:Nat}(hF:2*t.size+1<F)(n:Nat)(hn:n<=7)(ht:Kd w b mt pr pt pf)(hr:Y3 w b rv req) :
 Je 186 w b t rv mc mt (7-(n:Int)) (QP t.data.toList req F n) (TestV n):=
 L1 b rv mc mt pr pt pf hF (QzS t req F) n hn w ht hr
section
attribute [local go_sem ↓] Zt Zu
def bindS{α:Type}(st:Qq PS)(k:PS->Qq α):Qq α:=
 match st with
 | .ok s=>k s
 | .error f=>.error f
def Zq{α:Type}(r:Qq (α×PS))(tb:Nat)(l:L8)(w:World)(val:α->World->Value->Prop)(any:World->Value->Prop)(e:Ending)(w':World):Prop:=
 Mod tb w w'/\∃v,e=.returned v/\any w' v/\
 match r with
 | .ok y=>val y.1 w' v/\Y0 w' tb l y.2
 | .error f=>JZ w' tb l f
def stOf{α:Type}(r:Qq (α×PS)):Qq PS:=
 match r with
 | .ok y=>.ok y.2
 | .error f=>.error f
theorem Zq.st{g:α->World->Value->Prop}{b:World->Value->Prop}{e:Ending}(h:Zq r tb l w g b e w'):Mod tb w w'/\TSt w' tb l (stOf r)/\∃v,e=.returned v/\b w' v/\∀y,r=.ok y->g y.1 w' v:=by
 obtain⟨d,v,he,c,h⟩:=h
 cases r with
 |ok y=>exact⟨d,h.2,v,he,c,fun z a=>by cases a;exact h.1⟩
 |error f=>exact⟨d,h,v,he,c,fun z a=>by cases a⟩
theorem Zq.mk{c:α->World->Value->Prop}{a:World->Value->Prop}(e:Mod tb w w')(b:TSt w' tb l (stOf r))(d:a w' v)(g:∀y,r=.ok y->c y.1 w' v):Zq r tb l w c a (.returned v) w':=by
 refine⟨e,v,rfl,d,?_⟩
 cases r with
 |ok y=>exact⟨g y rfl,b⟩
 |error f=>exact b
def Fg(x:L8)(_:World)(v:Value):Prop:=v=Qf x
def PZ(_:World)(v:Value):Prop:=∃x:L8,v=Qf x/\x.length<=600
theorem PU(b:s.1.kind=5)(a:QV what s.1.said=0):stOf (sL l (QV what) s)=nL l s.2/\∀y,sL l (QV what) s=.ok y->y.1=s.1.said:=by
 unfold sL;rw[Qi b,Qi a]
 cases hn:nL l s.2 with
 |error f=>exact⟨rfl,fun y e=>by cases e⟩
 |ok s'=>exact⟨rfl,fun y e=>by cases e;rfl⟩
theorem O5(b:s.1.kind=5)(a:¬QV what s.1.said=0):sL l (QV what) s=.error ⟨QV what s.1.said,s.1.pos⟩:=by
 unfold sL;rw[Qi b,Qg a]
theorem PR(a:¬s.1.kind=5):sL l (QV what) s=.error ⟨4,s.1.pos⟩:=by
 unfold sL;rw[Qg a]
theorem Rg{st:Qq PS}(h:TSt w tb l st)(b:(Qk l st).1=34):∃s,st=.ok s/\s.1.kind=5/\sQ s.1=s.1.said/\Y0 w tb l s:=by
 cases st with
 |error f=>exact absurd b (by show ¬(0:Nat)=34;decide)
 |ok s=>
  have a:=(Oq h.wd).1 b;exact⟨s,rfl,a,by unfold sQ;rw[a];rfl,h⟩
theorem Qvd{st:Qq PS}(h:TSt w tb l st)(b:¬(Qk l st).1=34):stOf (bindS st (sL l (QV what)))=failS st ⟨4,(Qk l st).2.2.2⟩/\∀y,¬bindS st (sL l (QV what))=.ok y:=by
 cases st with
 |error f=>exact⟨rfl,fun y e=>by cases e⟩
 |ok s=>
  have a:¬s.1.kind=5:=fun e=>b ((Oq h.wd).2 e)
  have e:bindS (.ok s) (sL l (QV what))=.error ⟨4,s.1.pos⟩:=PR a;rw[e];exact⟨rfl,fun y e=>by cases e⟩
theorem QvJ{st:Qq PS}(h:TSt w tb l st)(a:l.length<=600):(Qk l st).2.1.length<=600:=by
 cases st with
 |error f=>exact QR
 |ok s=>
  show(sQ s.1).length<=600
  exact QE (P4 h.sp h.sz.1) a
theorem Ec{b:Nat}{u v:World}(h:Qo u v)(hm:Mod b v w):Mod b u w:=(Mod.of_below h).trans hm
theorem G0{t:Nat}{F:Value}(what:Nat){st:Qq PS}(r:RdQ w t tb F)(hn:t≠tb)(h:TSt w tb l st)(x:l.length<=600)(hw:what<=4):Calls prog 114 #[Qc t,Qa what] w (Zq (bindS st (sL l (QV what))) tb l w Fg PZ):=by
 have r0:=Qj r 0;obtain⟨_,X,Y,Z,c7⟩:=h.cells;have ab:=h.lt;have C:=O (QvJ h x);obtain⟨d,j⟩:=Q3 (w.alloc (Qe #[.int .u8 (Qk l st).1,.string (sA (Qk l st).2.1),Qa (Qk l st).2.2.1,Qa (Qk l st).2.2.2] 136));have i:Hid (Qo w d):=by show Below _ _ _;rw[j];exact QH _
 have A:Hid (d.heap[w.heap.size]?=some (Qe #[.int .u8 (Qk l st).1,.string (sA (Qk l st).2.1),Qa (Qk l st).2.2.1,Qa (Qk l st).2.2.2] 136)):=by show _=_;rw[j];exact Q0
 have M:=i.size;change Qd _ at r j;replace h:=O h;by_cases hk:(Qk l st).1=34
 .obtain⟨s,b,u,E,N⟩:=Rg h hk;have p:(Qk l st).2.1=s.1.said:=by rw[b];exact E
  have D:(Qk l st).2.2.2=s.1.pos:=by rw[b];rfl
  have J:=O (fun W=>QwR (Qk l st).2.1 W hw (by have:=C.o;omega));have T:(((Qk l st).1:Int)==34)=true:=by simp;omega
  by_cases hf:QV what s.1.said=0
  .have z:Hid (QV what (Qk l st).2.1=0):=by show _=_;rw[p];exact hf
   have L:Hid (stOf (bindS st (sL l (QV what)))=signS l 34 st/\∀y,bindS st (sL l (QV what))=.ok y->y.1=(Qk l st).2.1):=by
    obtain⟨U,V⟩:=PU (l:=l) u hf;have e:signS l 34 st=nL l s.2:=by unfold signS;rw[Qi hk,b];rfl
    rw[e,p];rw[b];exact⟨U,V⟩
   clear hf N E b u p D hk;go_enter func114,ntmps114;go_wp2_with fail;rw[<-j.o];refine Qv (J d) ?_;rintro G f;rw[z.o];have c:=O (i.o.trans (f.mono M));have B:=O (Ze A f);have n:=O (KJ 34 (Ze r c) (h.o.below c) x);clear f;go_wp2_with fail;refine n.mono ?_;rintro e P q;obtain⟨rfl,a,g⟩:=q;have m:=O (Ec c a);have S:=Qj (QY B a I) 1;clear a;change Qd _ at g;go_wp2;go_ret;exact Zq.mk m (by rw[L.1];exact g) ⟨_,rfl,C⟩ (fun y k=>by rw[<-L.2 y k];rfl)
  .have z:Hid (QV what (Qk l st).2.1=QV what s.1.said):=by show _=_;rw[p]
   have aa:(((QV what s.1.said:Nat):Int) != 0)=true:=by simp;omega
   have H:Hid (bindS st (sL l (QV what))=.error ⟨QV what s.1.said,(Qk l st).2.2.2⟩):=by
    show _=_
    rw[D,b];exact O5 u hf
   have Q:Hid (failS st ⟨QV what s.1.said,(Qk l st).2.2.2⟩=.error ⟨QV what s.1.said,(Qk l st).2.2.2⟩):=by show _=_;rw[b];rfl
   clear N E b u p D hk;change Qd _ at hf;go_enter func114,ntmps114;go_wp2_with fail;rw[<-j.o];refine Qv (J d) ?_;rintro G f;rw[z.o];have c:=O (i.o.trans (f.mono M));have B:=O (Ze A f);have n:=O (Ka ⟨QV what s.1.said,(Qk l st).2.2.2⟩ (w:=G.drew) ((h.o.below c).block rfl) x hf);have q0:=Qj (Ze r c) 0;have q7:=Qj B 3;clear f;go_wp2_with fail;go_region_with (first|(go_at_call 70;refine n.mono ?_;rintro e P q;obtain⟨rfl,a,g⟩:=q;have m:=O (Ec c (Z0 a));have ac:=O g;clear a g;skip))
   all_goals go_wp2
   all_goals go_ret
   all_goals exact Zq.mk (v:=.string (sA [])) m (by rw[H.o];rw[Q.o]at ac;exact ac) ⟨_,rfl,QR⟩ (fun y k=>by rw[H.o]at k;cases k)
 .have K:=O (Qvd (what:=what) h hk);have T:(((Qk l st).1:Int)==34)=false:=by simp;omega
  have R:Hid (signS l 34 st=failS st ⟨4,(Qk l st).2.2.2⟩):=Qg hk;have n:=O (KJ 34 (Ze r i) (h.o.below i) x);clear hk;go_enter func114,ntmps114;go_wp2_with fail;rw[<-j.o];refine n.mono ?_;rintro e P q;obtain⟨rfl,a,g⟩:=q;have m:=O (Ec i a);have S:=Qj (QY A a I) 1;clear a;change Qd _ at g;go_wp2;go_ret;exact Zq.mk m (by rw[K.1,<-R.o];exact g) ⟨_,rfl,C⟩ (fun y k=>absurd k (K.2 y))
def muS(l:L8)(st:Qq PS):Nat:=
 match st with
 | .ok s=>mu l.length s+1
 | .error _=>0
def Nx:Value->Prop
 | .slice _ n c=>n<=c
 |_=>True
theorem Nx.of_owns{size:Nat}{xs:List Value}(h:w.ownsRow base e size v n xs):Nx v:=by
 rcases h.2 with⟨a,_⟩ | ⟨g,c,d,a,_,_,b,_⟩
 .rw[a];exact Q4 _
 .rw[a];exact b
structure SlN (B:Nat) (xs:Qn) (w:World) (v:Value):Prop where
 s:slB B xs w v
 n:xs.length<=1301
 c:Nx v
theorem SlN.form{B:Nat}{xs:Qn}{w:World}{v:Value}(h:SlN B xs w v):∃g n c,v=Qs g n c:=h.s.form
def Qz1(B:Nat)(w:World)(v:Value):Prop:=∃xs,SlN B xs w v
structure A7 (R:Qq (Qn×PS)) (l:L8) (chk:L8->Nat) (st:Qq PS) (acc:Qn):Prop where
 r:∃f,(∀s,st=.ok s->mu l.length s < f)∧R=bindS st (Ni l chk f acc)
 n:acc.length+muS l st<=1300
theorem G3(h:Y0 w tb l s)(a:l.length<=600):mu l.length s<=2*l.length+1:=by
 have:=h.le;unfold mu;split<;>omega
theorem L_{st:Qq PS}:stOf (bindS st (fun s=>QL (sL l chk s) fun x s1=>.ok ([x],s1)))=stOf (bindS st (sL l chk))/\∀y,bindS st (fun s=>QL (sL l chk s) fun x s1=>.ok ([x],s1))=.ok y->∃z,bindS st (sL l chk)=.ok z/\y=([z.1],z.2):=by
 cases st with
 |error f=>exact⟨rfl,fun y e=>by cases e⟩
 |ok s=>
  simp only[bindS]
  cases sL l chk s with
  |error f=>exact⟨rfl,fun y e=>by cases e⟩
  |ok z=>exact⟨rfl,fun y e=>⟨z,rfl,by cases e;rfl⟩⟩
theorem Gb{x z:L8}(h:Fg z w (Qf x)):x=z:=NM (Value.string.inj h)
theorem AV{st:Qq PS}(h:TSt w tb l st)(a:l.length<=600):muS l st<=1202:=by
 cases st with
 |ok s=>show mu l.length s+1<=1202;have:=G3 h a;omega
 |error f=>exact QR
theorem Vr:type_of%@Nat.succ_pos:=@Nat.succ_pos
theorem AK(h:Y0 w tb l s)(a:¬s.1.kind=0):muS l (nL l s.2)<muS l (.ok s):=by
 cases hn:nL l s.2 with
 |error f=>exact Vr _
 |ok y=>show mu l.length y+1<mu l.length s+1;have:=J' h.le a hn;omega
theorem QyQ{w1:World}{R:Qq (Qn×PS)}{st:Qq PS}{acc:Qn}(h:A7 R l (QV what) st acc)(r:TSt w tb l st)(c:TSt w1 tb l (stOf (bindS st (sL l (QV what))))) :
 ((Qk l (stOf (bindS st (sL l (QV what))))).1=44->errS (stOf (bindS st (sL l (QV what))))=0/\muS l (nextS l (stOf (bindS st (sL l (QV what)))))<muS l st/\∃z,bindS st (sL l (QV what))=.ok z/\A7 R l (QV what) (nextS l (stOf (bindS st (sL l (QV what))))) (acc++[z.1]))/\
 (¬(Qk l (stOf (bindS st (sL l (QV what))))).1=44->stOf R=signS l 93 (stOf (bindS st (sL l (QV what))))/\∀y,R=.ok y->∃z,bindS st (sL l (QV what))=.ok z/\y.1=acc++[z.1]):=by
 obtain⟨⟨f,p,d⟩,A⟩:=h
 cases st with
 |error g=>
  have a:R=.error g:=d;subst a;refine⟨fun h=>absurd h (by show ¬(0:Nat)=44;decide),fun _=>⟨rfl,fun y e=>by cases e⟩⟩
 |ok s=>
  have t:=p s rfl;obtain⟨f,rfl⟩:∃g,f=g+1:=⟨f-1,I⟩;simp only[bindS]at c d ⊢
  cases hs:sL l (QV what) s with
  |error g=>
   have a:R=.error g:=by rw[d];unfold Ni;rw[hs];rfl
   subst a;refine⟨fun h=>absurd h (by show ¬(0:Nat)=44;decide),fun _=>⟨rfl,fun y e=>by cases e⟩⟩
  |ok z=>
   rw[hs]at c;have b:Y0 w1 tb l z.2:=c;have a:R=moreL l (QV what) (f+1) (acc++[z.1]) z.2:=by rw[d];unfold Ni;rw[hs];rfl
   have x:=(GS r.le hs).1;refine⟨fun i=>?_,fun i=>?_⟩
   .have j:kQ z.2.1=44:=i
    have k:¬z.2.1.kind=0:=fun n=>by
     have:kQ z.2.1=0:=(NY b.wd).2 n;omega
    have q:=AK b k;have u:muS l (nL l z.2.2)<mu l.length z.2+1:=q;have v:muS l (.ok s)=mu l.length s+1:=rfl;refine⟨rfl,?_,z,rfl,⟨f,fun m c=>?_,?_⟩,?_⟩
    .show muS l (nL l z.2.2)<_
     omega
    .have o:nL l z.2.2=.ok m:=c;have:=J' b.le k o;omega
    .rw[a,QtK b.wd j];show _=bindS (nL l z.2.2) _
     cases nL l z.2.2<;>rfl
    .show(acc++[z.1]).length+muS l (nL l z.2.2)<=1300
     rw[Qz,List.length_singleton];omega
   .have j:¬kQ z.2.1=44:=i;by_cases h93:kQ z.2.1=93
    .have e:signS l 93 (stOf (.ok z))=nL l z.2.2:=Qi h93;rw[e,a,Qua b.wd h93]
     cases nL l z.2.2 with
     |error g=>exact⟨rfl,fun y e=>by cases e⟩
     |ok m=>exact⟨rfl,fun y e=>⟨z,rfl,by cases e;rfl⟩⟩
    .have e:signS l 93 (stOf (.ok z))=.error ⟨4,z.2.1.pos⟩:=Qg h93;rw[e,a,Qy3 b.wd j h93];exact⟨rfl,fun y e=>by cases e⟩
theorem Ak{J:Nat}{Y:Value}(what:Nat){st:Qq PS}(t:RdQ w J tb Y)(N:J≠tb)(h:TSt w tb l st)(C:l.length<=600)(hw:what<=4)(hF:2*l.length+2<=F):Calls prog 67 #[.pointer (some ⟨J,0,none⟩),.int .i64 what] w (Zq (bindS st (sLs l (QV what) F)) tb l w (slB w.heap.size) (Qz1 w.heap.size)):=by
 have r0:=Qj t 0;obtain⟨_,c4,_,_,_⟩:=h.cells;have H:=O h;have HR:=O t;have ah:=h.lt;clear h t;by_cases c:(Qk l st).1=91;rotate_left
 .have ad:(((Qk l st).1:Int) != 91)=true:=by simp;omega
  have Q:=O (G0 (t:=J) (tb:=tb) (F:=Y) (l:=l) what (st:=st) (w:=w) HR.o N H.o C hw)
  have A:Hid (bindS st (sLs l (QV what) F)=bindS st (fun s=>QL (sL l (QV what) s) fun x Z=>.ok ([x],Z))):=by
   show _=_
   cases st with
   |error f=>rfl
   |ok s=>exact F7 H.o.wd c
  clear c;go_enter func67,ntmps67;go_wp2_with fail;refine Q.o.mono ?_;rintro e P d;obtain⟨g,D,v,rfl,⟨x,rfl,aB⟩,au⟩:=d.st;have ai:=O g;have ap:=O D;have aR:=O au;have ab:=g.size;clear d g D au;go_wp2;go_ret;refine Zq.mk (ai.o.alloc _) ?_ ⟨[x],⟨P.heap.size,1,rfl,ab,Ju P [x] rfl,by simp⟩,by simp,Q4 _⟩ (fun y m=>?_)
  .rw[A.o,L_.1];exact ap.o.below (QH _)
  .rw[A.o]at m;obtain⟨z,G,rfl⟩:=L_.2 y m;have:=Gb (aR.o z G);subst this;exact⟨P.heap.size,1,rfl,ab,Ju P [z.1] rfl,by simp⟩
 .have ad:(((Qk l st).1:Int) != 91)=false:=by simp;omega
  have aj:=O (X0 (tb:=tb) (l:=l) (st:=st) (w:=w) H.o C)
  have A:Hid (A7 (bindS st (sLs l (QV what) F)) l (QV what) (nextS l st) []):=by
   cases st with
   |error f=>exact absurd c (by show ¬(0:Nat)=91;decide)
   |ok s=>
    have e:=TI (l:=l) (chk:=QV what) (F:=F) H.o.wd c;refine⟨⟨F,fun Z d=>?_,?_⟩,?_⟩
    .have M:nL l s.2=.ok Z:=d;have:=GX (l:=l) (p:=s.2) H.o.le Z M;unfold mu;split<;>omega
    .show sLs l (QV what) F s=bindS (nL l s.2) _
     rw[e];cases nL l s.2<;>rfl
    .have h0:¬s.1.kind=0:=fun e0=>by
      have:kQ s.1=0:=(NY H.o.wd).2 e0;have aG:kQ s.1=91:=c;omega
     have:=AK H.o h0;have M:muS l (.ok s)<=1202:=AV (w:=w) (tb:=tb) H.o C;show 0+muS l (nL l s.2)<=1300
     omega
  clear c;obtain⟨R,B⟩:=Qw (bindS st (sLs l (QV what) F));rw[B]at A ⊢;clear B;obtain⟨i0,hi,aC,aD,aE⟩:=ZU Tryz.infoStr;go_enter func67,ntmps67;go_upto_block 0 with(go_at_call 66;refine aj.o.mono ?_;rintro e P ⟨rfl,g,D⟩;have ai:=O g;have ap:=O D;have ab:=g.size;clear g D)
  go_cut [6] (fun lv wx=>∃(b:Qq PS) (a:Qn),wx.ownsRow w.heap.size 9 1 lv a.length (QW a)/\a≠[]/\a.length<=1301/\TSt wx tb l b/\Mod tb w wx/\stOf R=signS l 93 b/\∀y,R=.ok y->y.1=a)
  case first=>
   go_wp2_with fail
   go_loopg [6,7] (muS l (nextS l st)) (fun k lv _ wr=>∃(K:Qq PS) (a:Qn),k=muS l K/\wr.ownsRow w.heap.size 9 1 lv a.length (QW a)/\TSt wr tb l K/\Mod tb w wr/\A7 R l (QV what) K a)
   case atStart=>exact⟨nextS l st,[],rfl,Z5,ap.o,ai.o,A.o⟩
   case round=>
    obtain⟨K,a,rfl,r,W,U,E⟩:=hrel;have aP:=O W;have aN:=O U;have aq:=O E;have ao:=O (HR.o.mod U N);have aK:=O r;have aH:=E.n;have Q:=O (G0 (t:=J) (tb:=tb) (F:=Y) (l:=l) what (st:=K) (w:=wr) ao.o N W C hw);clear W U E r A ai ap aj H c4 r0;go_wp2_with fail;refine Q.o.mono ?_;rintro e w2 M;obtain⟨q,i,v,rfl,⟨x,rfl,aB⟩,X⟩:=M.st;have p:=O (QyQ aq.o aP.o i);have L:=O (aN.o.trans q);have aL:=O i;have aM:=O X;have af:=XP aK.o q ah;have aJ:=L.o.size;clear M q i X;go_wp2_with (at_builtin;refine XM _ rfl _ _ 61 rfl w.heap.size 9 i0 (.string ⟨#[]⟩) 1 16 underlying61 hi aC aD aE rfl (by decide) _ _ _ rfl (af.alloc _) ⟨w2.heap.size,0,none⟩ 1 1 [.string (sA x)] rfl rfl ?c1 ?c2 ?c3 ?c4 ?c5 ?_)
    case c1=>
     intro j u T
     match j,T with
     |0,T=>simp at T;subst T;simp[Addr.add]
    case c2=>intro u hu;simp at hu;subst hu;rfl
    case c3=>unfold maxLen;omega
    case c4=>omega
    case c5=>simp;omega
    .intro v' w5 V ac _;have ag:∀k,(u6).ownBlock=some k->w.heap.size<=k:=fun k c=>(af.lt k c).1
     have aa:=O ((L.o.alloc (Obj.cells #[.string (sA x)] 9)).grown ac ag);have S:=O ((aL.o.below (QH (Obj.cells #[.string (sA x)] 9))).block (ac.block tb (by simp;omega) (fun e=>by have:=ag tb e.symm;omega)));rw[Jw]at V;have aO:=O V;have ax:=O (HR.o.mod aa.o N);clear V ac af ag L aL aK Q ao aq aP aN;obtain⟨b,d⟩:=Qw (stOf (bindS K (sL l (QV what))));rw[d]at p S;obtain⟨c2,c4,_,_,_⟩:=S.o.cells;have aI:=Qj ax.o 0;by_cases c:(Qk l b).1=44
     .obtain⟨he,az,z,G,E⟩:=p.o.1 c;have ad:(((Qk l b).1:Int) != 44)=false:=by simp;omega
      have aF:=Gb (aM.o z G);subst aF;have A:=O E;clear E p G aM d;go_wp2_with fail;refine(X0 (tb:=tb) (l:=l) (st:=b) (S.o.block rfl) C).mono ?_;rintro e w6 ⟨rfl,ae,ar⟩;have av:=O (aa.o.trans ae);have aQ:=O ar;have aw:=O (XP aO.o ae ah);clear ae ar;go_wp2;go_roundg (muS l (nextS l b))
      case measure=>exact az
      case rel=>exact⟨nextS l b,a++[z.1],rfl,by simpa using aw.o,aQ.o,av.o,A.o⟩
     .obtain⟨B,m⟩:=p.o.2 c;have ad:(((Qk l b).1:Int) != 44)=true:=by simp;omega
      have HY:=O m;clear m p d;go_wp2;go_meet;refine⟨b,a++[x],by simpa using aO.o,by simp,by simp;omega,S.o.block rfl,aa.o,B,fun y e=>?_⟩;obtain⟨z,G,h⟩:=HY.o y e;rw[h,Gb (aM.o z G)]
  case rest=>
   obtain⟨b,a,r,aA,ay,ht,hm,B,m⟩:=hcut;have p:=O (KJ (k:=J) (tb:=tb) (s:=Y) (l:=l) 93 (st:=b) (w:=wc) (HR.o.mod hm N) ht C);have aK:=O r;have HM:=O hm;have HY:=O m;clear ht hm r m;go_wp2_with fail;refine p.o.mono ?_;rintro e w2 ⟨rfl,q,i⟩;have L:=O (HM.o.trans q);have aL:=O i;have ak:=O (slB.of_owns (XP aK.o q ah) rfl aA);clear q i;go_wp2;go_ret;refine Zq.mk L.o (by rw[B];exact aL.o) ⟨a,ak.o,ay,Nx.of_owns aK.o⟩ (fun y e=>?_);rw[HY.o y e];exact ak.o
def VJ:L8:=[108,111,119,101,114]
def VN:L8:=[117,112,112,101,114]
def VI:L8:=[108,101,110,103,116,104]
theorem Qwo(x:L8)(w:World):Calls prog 172 #[Qf x] w fun e w'=>e=.returned (Qa (wL [VJ,VN,VI] x))/\w'=w:=by
 have d:((sA x).toList==[108,111,119,101,114])=decide (VJ=x):=by rw[XL];show(x==VJ)=_;rw[Xb];simp;exact eq_comm
 have c:((sA x).toList==[117,112,112,101,114])=decide (VN=x):=by rw[XL];show(x==VN)=_;rw[Xb];simp;exact eq_comm
 have b:((sA x).toList==[108,101,110,103,116,104])=decide (VI=x):=by rw[XL];show(x==VI)=_;rw[Xb];simp;exact eq_comm
 obtain⟨R,a⟩:=Qw (wL [VJ,VN,VI] x);rw[a];unfold wL wL wL wL at a;by_cases e1:VJ=x
 .rw[Qi e1]at a;rw[QU e1]at d;subst a;clear e1 c b;go_enter func172,ntmps172;go_wp2;go_ret;exact⟨rfl,rfl⟩
 rw[Qg e1]at a;rw[QB e1]at d;by_cases e2:VN=x
 .rw[Qi e2]at a;rw[QU e2]at c;subst a;clear e1 e2 b;go_enter func172,ntmps172;go_wp2;go_ret;exact⟨rfl,rfl⟩
 rw[Qg e2]at a;rw[QB e2]at c;by_cases e3:VI=x
 .rw[Qi e3]at a;rw[QU e3]at b;subst a;clear e1 e2 e3;go_enter func172,ntmps172;go_wp2;go_ret;exact⟨rfl,rfl⟩
 rw[Qg e3]at a;rw[QB e3]at b;subst a;clear e1 e2 e3;go_enter func172,ntmps172;go_wp2;go_ret;exact⟨rfl,rfl⟩
def YC(l:L8)(rq:Qn)(x:L8)(st:Qq PS):Qq PS:=if 0<wL rq x then st else failS st ⟨6,(Qk l st).2.2.2⟩
theorem BM{f:Value}{rq:Qn}(x:L8){st:Qq PS}(d:RdQ w k tb f)(i:TxL w f rq)(s:rq.length<=140737488355328)(h:TSt w tb l st)(r:l.length<=600):Calls prog 171 #[Qc k,Qf x] w (Yf (YC l rq x st) tb l w):=by
 have v:=Qj d 0;have y:=Qj d 1;obtain⟨_,t,_,_,u⟩:=h.cells;have b:=O (Bi f x i s);have n:=O (Ka ⟨6,(Qk l st).2.2.2⟩ (w:=w.drew) (h.block rfl) r (Yh 5));clear d i;change Qd _ at h;by_cases he:0<wL rq x
 .have c:Hid (YC l rq x st=st):=Qi he;rw[QU he]at b;rw[c.o];clear he;go_enter func171,ntmps171;go_wp2_with fail;refine b.mono ?_;rintro e m ⟨rfl,rfl⟩;go_wp2;go_end0;exact⟨rfl,Mod.refl _ _,h⟩
 .have c:Hid (YC l rq x st=failS st ⟨6,(Qk l st).2.2.2⟩):=Qg he;rw[QB he]at b;rw[c.o];clear he;go_enter func171,ntmps171;go_wp2_with fail;refine b.mono ?_;rintro e m ⟨rfl,rfl⟩;go_wp2_with fail;go_region_with (first|(go_at_call 70;refine n.mono ?_;rintro e m q;obtain⟨rfl,g,j⟩:=q;have a:=O g;have p:=O j;clear g j;skip))
  all_goals go_wp2
  all_goals go_end0
  all_goals exact⟨rfl,⟨a.os,a.tape,a.output,a.size,a.o.block⟩,p⟩
end
structure TreeQ {α:Type} (P:(Nat->Prop)->α->World->Value->Prop):Prop where
 keep:∀X a w w' v,P X a w v->AbvX X w w'->P X a w' v
 weak:∀X Y a w v,P X a w v->(∀k,X k->k < w.heap.size->Y k)->P Y a w v
def trY{α:Type}(P:(Nat->Prop)->α->World->Value->Prop)(X:Nat->Prop)(xs:List α)(w:World)(v:Value):Prop:=
 (xs=[]/\v=.slice none 0 0)\/(xs≠[]/\trX X P xs w v)
def slY(X:Nat->Prop)(xs:Qn)(w:World)(v:Value):Prop:=
 (xs=[]/\v=.slice none 0 0)\/slX X xs w v
theorem slY.keep{X:Nat->Prop}{xs:Qn}{w w':World}{v:Value}(h:slY X xs w v)(a:AbvX X w w'):slY X xs w' v:=by
 rcases h with h|h
 .exact Qt h
 .exact Qr (h.keep a)
theorem slY.weak{X Y:Nat->Prop}{xs:Qn}{w:World}{v:Value}(h:slY X xs w v)(a:∀k,X k->k<w.heap.size->Y k):slY Y xs w v:=by
 rcases h with h|h
 .exact Qt h
 .exact Qr (h.weak a)
theorem trX.keepQ(f:TreeQ P)(h:trX X P xs w v)(d:AbvX X w w'):trX X P xs w' v:=by
 obtain⟨g,c,l,b,m⟩:=h;refine⟨g,c,l,b,fun j i=>?_⟩;obtain⟨u,e,k⟩:=m j i;refine⟨u,?_,f.keep _ _ _ _ _ k d⟩;rw[Xo (w:=w) (a:=⟨g,j,none⟩) (d g b (QX e))];exact e
theorem trX.weakQ(e:TreeQ P)(l:xs≠[])(h:trX X P xs w v)(b:∀k,X k->k<w.heap.size->Y k):trX Y P xs w v:=by
 obtain⟨g,c,n,f,d⟩:=h;refine⟨g,c,n,?_,fun j i=>?_⟩
 .obtain⟨u,a,_⟩:=d 0 (Xz.2 l);exact b g f (QX a)
 .obtain⟨u,a,m⟩:=d j i;exact⟨u,a,e.weak _ _ _ _ _ m b⟩
theorem Xk(c:TreeQ P):TreeQ (trY P):=by
 refine⟨fun X a w f v h e=>?_,fun X Y a w v h d=>?_⟩
 .rcases h with h | ⟨b,h⟩
  .exact Qt h
  .exact Qr ⟨b,h.keepQ c e⟩
 .rcases h with h | ⟨b,h⟩
  .exact Qt h
  .exact Qr ⟨b,trX.weakQ c b h d⟩
theorem GathQ.mod(j:TreeQ P){b:Nat}{a:α}(h:ZD P base w v a u)(f:Mod b w w')(l:b<base):ZD P base w' v a u:=by
 obtain⟨X,g,c,i⟩:=h;exact⟨X,j.keep _ _ _ _ _ g (f.abvX (fun e=>by have:=(c b e).1;omega)),fun k d=>⟨(c k d).1,Yq (c k d).2 f.size⟩,i⟩
theorem GathQ.grown(n:TreeQ P){a:α}{o:Obj}(h:ZD P base w v a u)(j:(w.alloc o).grownBy w' v.ownBlock)(hv:v'.ownBlock=v.ownBlock\/v'.ownBlock=some (w.heap.size+1)):ZD P base w' v' a u:=by
 obtain⟨X,l,c,f⟩:=h
 have m:AbvX X w w':=fun k b p=>by
  rw[j.block k (by simp;omega) (fun e=>f k e.symm b)];exact ZL _ _ _ p
 refine⟨X,n.keep _ _ _ _ _ l m,fun k b=>⟨(c k b).1,?_⟩,fun g d i=>?_⟩
 .have:=(c k b).2;have:=j.size;simp at this;omega
 .rcases hv with hv|hv
  .exact f g (hv ▸ d) i
  .rw[hv]at d;have:=(c g i).2;simp at d;omega
theorem Vo:type_of%@Go.World.size_setCell:=@Go.World.size_setCell
theorem GathQ.set{α:Type}{P:(Nat->Prop)->α->World->Value->Prop}(i:TreeQ P){base g:Nat}{w:World}{v:Value}{a:α}{u:Value}(h:ZD P base w v a u)(j:g<base)(o:Nat)(x:Value):ZD P base (w.setCell ⟨g,o,none⟩ x) v a u:=by
 obtain⟨X,d,b,f⟩:=h;exact⟨X,i.keep _ _ _ _ _ d (AbvX.set (fun e=>by have:=(b g e).1;omega) o x),fun k c=>⟨(b k c).1,by rw[Vo];exact(b k c).2⟩,f⟩
theorem GathQ.new(c:TreeQ P){a:α}(h:P (fromB B) a w u)(b:base<=B)(d:∀g,v.ownBlock=some g->g<B):ZD P base w v a u:=
 ⟨fun k=>B<=k/\k<w.heap.size,c.weak _ _ _ _ _ h (fun k hk hz=>⟨hk,hz⟩),fun k hk=>⟨QE b hk.1,hk.2⟩,fun g hg hX=>by have:=d g hg;omega⟩
theorem trX.of_ownsQ(m:TreeQ P){d:List Value}(h:w.ownsRow base e 1 v n d)(t:n=xs.length)(A:xs≠[])(y:Zz (fun a u=>ZD P base w v a u) xs d):trX (fromB base) P xs w v:=by
 subst t;have p:=fun g (b:v.ownBlock=some g)=>h.cells b
 obtain⟨C,i⟩:=h;rcases i with⟨_,l⟩ | ⟨g,f,B,c,b,r⟩
 .exact absurd (XV l) A
 .refine⟨g,f,c,b,fun j q=>?_⟩;obtain⟨u,z,X,x,o,_⟩:=y.at j q;have:=p g (by rw[c];rfl) j u z;rw[J8]at this;exact⟨u,this,m.weak _ _ _ _ _ x (fun k s _=>(o k s).1)⟩
def rtn{α:Type}(P:(Nat->Prop)->α->World->Value->Prop)(X:Nat->Prop)(x:Zk×List α)(w:World)(v:Value):Prop:=
 ∃g tv fv kv,v=(Qc g)/\X g/\w.heap[g]?=some (Qe #[Qf (tNs.getD x.1.kind []),tv,fv,kv,Qa x.1.tag,.bool x.1.octet,Qa x.1.num] 200)/\trY P X x.2 w tv/\slY X x.1.fr w fv/\slY X x.1.keys w kv/\(x.1.kind=8->Nx fv)
theorem Qxm(p:TreeQ P):TreeQ (rtn P):=by
 refine⟨fun X a w q v h e=>?_,fun X Y a w v h c=>?_⟩
 .obtain⟨g,o,f,n,m,d,b,i,j,k,l⟩:=h;exact⟨g,o,f,n,m,d,by rw[e g d (QI b)];exact b,(Xk p).keep _ _ _ _ _ i e,j.keep e,k.keep e,l⟩
 .obtain⟨g,o,f,n,m,d,b,i,j,k,l⟩:=h;exact⟨g,o,f,n,m,c g d (QI b),b,(Xk p).weak _ _ _ _ _ i c,j.weak c,k.weak c,l⟩
def RTest:(n:Nat)->(Nat->Prop)->Zn n->World->Value->Prop
 |0,_,_,_,_=>False
 |n+1,X,x,w,v=>rtn (RTest n) X x w v
theorem XX:∀n,TreeQ (RTest n)
 |0=>⟨fun _ _ _ _ _ h=>h.elim,fun _ _ _ _ _ h=>h.elim⟩
 |n+1=>Qxm (XX n)
def Gq(x:Xa):Qn:=if x.kind=6 then [x.var,x.arg]else if x.kind=3\/x.kind=4\/x.kind=5 then [x.arg]else []
def YN{α β:Type}(x:Xa×List (β×List α)×List α):List (List α):=x.2.1.map Prod.snd++(if x.1.els then [x.2.2]else [])
def rcn{α β:Type}(P1:(Nat->Prop)->β->World->Value->Prop)(P2:(Nat->Prop)->α->World->Value->Prop)(X:Nat->Prop)(x:Xa×List (β×List α)×List α)(w:World)(v:Value):Prop:=
 ∃g av tv bv,v=(Qc g)/\X g/\w.heap[g]?=some (Qe #[Qf (cNs.getD x.1.kind []),av,Qa x.1.tag,tv,bv,Qa x.1.pos] 155)/\slY X (Gq x.1) w av/\trY P1 X (x.2.1.map Prod.fst) w tv/\trY (trY P2) X (YN x) w bv
theorem QyU{o:(Nat->Prop)->β->World->Value->Prop}{p:(Nat->Prop)->α->World->Value->Prop}(q:TreeQ o)(r:TreeQ p):TreeQ (rcn o p):=by
 refine⟨fun X a w s v h e=>?_,fun X Y a w v h c=>?_⟩
 .obtain⟨g,f,n,i,m,d,b,j,l,k⟩:=h;exact⟨g,f,n,i,m,d,by rw[e g d (QI b)];exact b,j.keep e,(Xk q).keep _ _ _ _ _ l e,(Xk (Xk r)).keep _ _ _ _ _ k e⟩
 .obtain⟨g,f,n,i,m,d,b,j,l,k⟩:=h;exact⟨g,f,n,i,m,c g d (QI b),b,j.weak c,(Xk q).weak _ _ _ _ _ l c,(Xk (Xk r)).weak _ _ _ _ _ k c⟩
def RCmd:(n:Nat)->(Nat->Prop)->Q5 n->World->Value->Prop
 |0,_,_,_,_=>False
 |n+1,X,x,w,v=>rcn (RTest n) (RCmd n) X x w v
theorem XD:∀n,TreeQ (RCmd n)
 |0=>⟨fun _ _ _ _ _ h=>h.elim,fun _ _ _ _ _ h=>h.elim⟩
 |n+1=>QyU (XX n) (XD n)
theorem Az:∀(zs:Qn) (y:L8),wL (zs.map (List.cons 58)) (58::y)=wL zs y
 | [],_=>rfl
 |z::r,y=>by
  have a:=Az r y;simp only[XZ,wL,a,List.cons.injEq,true_and]
theorem Bj{x:Wd}(h:WdQ x)(a:¬x.kind=2)(d:∀z∈zs,z≠[]):wL (zs.map (List.cons 58)) x.spelt=0:=by
 apply Nat.eq_zero_of_not_pos;intro c;have b:=(Jn _ _).1 c;obtain⟨z,e,he⟩:=List.mem_map.1 b;exact a ((Qvn h (d z e)).1 he.symm).1
theorem DP{x:Wd}(h:WdQ x)(a:x.kind=2):x.spelt=58::sQ x:=by
 rcases h with h|h|h|h|h|h
 .omega
 .omega
 .obtain⟨_,⟨c,r,e,_⟩,_⟩:=h;unfold sQ;rw[a,e];rfl
 .omega
 .omega
 .omega
def qIs:L8:=[105,115]
def YI:L8:=[99,111,110,116,97,105,110,115]
def YH:L8:=[109,97,116,99,104,101,115]
def V3:L8:=[99,111,109,112,97,114,97,116,111,114]
def Vh:L8:=[111,118,101,114]
def Vb:L8:=[117,110,100,101,114]
theorem E7:[tIs,ZW,ZX]=[qIs,YI,YH].map (List.cons 58):=rfl
theorem Fd:[Yb]=[V3].map (List.cons 58):=rfl
theorem Fa:[Yn,Ym,Yj]=[VJ,VN,VI].map (List.cons 58):=rfl
theorem E8:[JI,JE]=[Vh,Vb].map (List.cons 58):=rfl
theorem ne3:∀z∈[qIs,YI,YH],z≠[]:=Qb
theorem ne1:∀z∈[V3],z≠[]:=Qb
theorem neT:∀z∈[VJ,VN,VI],z≠[]:=Qb
theorem neS:∀z∈[Vh,Vb],z≠[]:=Qb
theorem Rj:QV 2=fun x=>if 0<wL [XR,Ko] x then 0 else 7:=rfl
structure UT (R:Qq ((Nat×Bool)×PS)) (l:L8) (st:Qq PS) (tag:Nat) (oct cmp:Bool):Prop where
 r:∃f,(∀s,st=.ok s->mu l.length s < f)∧R=bindS st (ZH l f tag oct cmp)
 t:tag<=3
theorem QzD{st:Qq PS}{c:Bool}(h:UT R l st tag oct c)(a:TSt w tb l st)(j:¬(Qk l st).1=58):R=bindS st fun s=>.ok ((max tag 1,oct),s):=by
 obtain⟨⟨f,i,d⟩,_⟩:=h;rw[d]
 cases st with
 |error g=>rfl
 |ok s=>
  have k:=i s rfl;obtain⟨f,rfl⟩:∃g,f=g+1:=⟨f-1,I⟩;have b:¬s.1.kind=2:=fun e=>j ((Gj a.wd).2 e)
  simp only[bindS];rw[ZH,E7,Bj a.wd b ne3,Qi rfl,Fd,Bj a.wd b ne1,Qi rfl]
theorem Cg{st:Qq PS}{a:Bool}(h:UT R l st tag oct a)(d:TSt w tb l st)(c:(Qk l st).1=58) :
 ∃s f,st=.ok s/\errS st=0/\mu l.length s<f+1/\s.1.kind=2/\(Qk l st).2.1=sQ s.1/\(Qk l st).2.2.2=s.1.pos/\
  R=if wL [qIs,YI,YH] (sQ s.1)=0 then
   if wL [V3] (sQ s.1)=0 then .ok ((max tag 1,oct),s)
   else if a then .error ⟨7,s.1.pos⟩
   else nextThen l s fun s1=>QL (sL l (QV 2) s1) fun x s2=>ZH l f tag (decide (x=XR)) true s2
  else if tag=0 then nextThen l s fun s1=>ZH l f (wL [qIs,YI,YH] (sQ s.1)) oct a s1
  else .error ⟨7,s.1.pos⟩:=by
 obtain⟨⟨f,i,e⟩,_⟩:=h
 cases st with
 |error g=>exact absurd c (by show ¬(0:Nat)=58;decide)
 |ok s=>
  have j:=i s rfl;obtain⟨f,rfl⟩:∃g,f=g+1:=⟨f-1,I⟩;have b:=(Gj d.wd).1 c;refine⟨s,f,rfl,rfl,j,b,rfl,rfl,?_⟩;rw[e];simp only[bindS];rw[ZH,DP d.wd b,E7,Az,Fd,Az,Rj]
theorem P7{w w1:World}{st:Qq PS}{d:Bool}(h:UT R l st tag oct d)(c:TSt w tb l st)(j:(Qk l st).1=58)(hw:¬wL [qIs,YI,YH] (Qk l st).2.1=0) :
 (¬tag=0->R=.error ⟨7,(Qk l st).2.2.2⟩)/\(tag=0->muS l (nextS l st)<muS l st/\UT R l (nextS l st) (wL [qIs,YI,YH] (Qk l st).2.1) oct d):=by
 obtain⟨s,f,rfl,_,o,n,e,g,b⟩:=Cg h c j;rw[e]at hw ⊢;rw[g];rw[Qg hw]at b;have a:¬s.1.kind=0:=I
 refine⟨fun a=>by rw[b,Qg a],fun m=>⟨AK c a,⟨f,fun p k=>?_,?_⟩,?_⟩⟩
 .have i:=k;have:=J' (show Y0 w tb l s from c).le a i;omega
 .rw[b,Qi m];show nextThen l s _=bindS (nL l s.2) _
  unfold nextThen;cases nL l s.2<;>rfl
 .exact KK [qIs,YI,YH] _
section
attribute [local go_sem ↓] Zt Zu
theorem QzG{st:Qq PS}{d:Bool}(h:UT R l st tag oct d)(m:TSt w tb l st)(r:(Qk l st).1=58)(hw:wL [qIs,YI,YH] (Qk l st).2.1=0)(j:(Qk l st).2.1=V3) :
 (d=true->R=.error ⟨7,(Qk l st).2.2.2⟩)/\(d=false->muS l (stOf (bindS (nextS l st) (sL l (QV 2))))<muS l st/\∀x,(∀z,bindS (nextS l st) (sL l (QV 2))=.ok z->z.1=x)->UT R l (stOf (bindS (nextS l st) (sL l (QV 2)))) tag (decide (x=XR)) true):=by
 have i:=h.t;obtain⟨s,f,rfl,_,y,v,o,p,a⟩:=Cg h m r;have k:=m;rw[o]at hw j;rw[p];rw[Qi hw,Qg (by rw[j];decide)]at a;have q:¬s.1.kind=0:=I
 refine⟨fun b=>by rw[a,Qi b],fun b=>?_⟩;rw[b]at a;rw[Qg Qb]at a;unfold nextThen at a;show muS l (stOf (bindS (nL l s.2) _))<_/\∀x,(∀z,bindS (nL l s.2) _=.ok z->_)->UT R l (stOf (bindS (nL l s.2) _)) _ _ _
 cases hn:nL l s.2 with
 |error g=>
  rw[hn]at a;exact⟨Vr _,fun x _=>⟨⟨0,(fun c e=>by cases e),a⟩,i⟩⟩
 |ok c=>
  rw[hn]at a;have A:=J' k.le q hn;have u:=GX k.le c hn;simp only[bindS]at a ⊢
  cases hs:sL l (QV 2) c with
  |error g=>
   rw[hs]at a;exact⟨Vr _,fun x _=>⟨⟨0,(fun c e=>by cases e),a⟩,i⟩⟩
  |ok z=>
   rw[hs]at a;have B:=(GS u.2.1 hs).1;refine⟨by show mu l.length z.2+1<mu l.length s+1;omega,fun x b=>⟨⟨f,fun C e=>?_,?_⟩,i⟩⟩
   .have n:=Except.ok.inj e;rw[<-n];omega
   .rw[a,<-b z rfl];rfl
def matchM(l:L8)(F:Nat)(chk:L8->Nat)(k pos:Nat)(R:Qq ((Nat×Bool)×PS)):Qq (Zk×PS):=
 QL R fun o s1=>QL (sLs l chk F s1) fun fr s2=>QL (sLs l (fun _=>0) F s2) fun ks s3=>.ok (⟨k,pos,o.1,o.2,fr,ks,0⟩,s3)
theorem Ep{st:Qq PS}:bindS st (Xr l F chk k pos)=matchM l F chk k pos (bindS st (ZH l F 0 false false)):=by
 cases st<;>rfl
theorem EU:QV 0=fun _=>0:=rfl
theorem Qvb{st:Qq PS}{g:Bool}(h:UT R l st tag oct g)(d:TSt w tb l st)(c:(Qk l st).1=58)(hw:wL [qIs,YI,YH] (Qk l st).2.1=0)(b:¬(Qk l st).2.1=V3) :
 matchM l F chk k pos R=.error ⟨4,(Qk l st).2.2.2⟩:=by
 obtain⟨s,f,rfl,_,o,n,i,j,a⟩:=Cg h d c;have m:Y0 w tb l s:=d;rw[i]at hw b;rw[j];rw[Qi hw,Qi (by rw[Vd,Qg (fun e=>b e.symm)])]at a;subst a;unfold matchM;simp only[QL];have p:kQ s.1=58:=c;rw[F7 m.wd I];unfold sL;rw[Q8];rfl
theorem Qv5{st:Qq PS}{t:Nat}{o:Bool}(c:R=bindS st fun s=>.ok ((t,o),s)) :
 stOf (matchM l F (QV what) k pos R)=stOf (bindS (stOf (bindS st (sLs l (QV what) F))) (sLs l (QV 0) F))/\∀y,matchM l F (QV what) k pos R=.ok y->∃a b,bindS st (sLs l (QV what) F)=.ok a/\bindS (stOf (bindS st (sLs l (QV what) F))) (sLs l (QV 0) F)=.ok b/\y.1=⟨k,pos,t,o,a.1,b.1,0⟩:=by
 subst c;unfold matchM;rw[EU]
 cases st with
 |error g=>exact⟨rfl,fun y e=>by cases e⟩
 |ok s=>
  simp only[bindS,QL]
  cases h1:sLs l (QV what) F s with
  |error g=>exact⟨rfl,fun y e=>by cases e⟩
  |ok a=>
   simp only[stOf]
   cases h2:sLs l (fun _=>0) F a.2 with
   |error g=>exact⟨rfl,fun y e=>by cases e⟩
   |ok b=>exact⟨rfl,fun y e=>⟨a,b,rfl,rfl,by cases e;rfl⟩⟩
end
end Go.Proofs.YtgnkjijocdmniaaGreatDoor
