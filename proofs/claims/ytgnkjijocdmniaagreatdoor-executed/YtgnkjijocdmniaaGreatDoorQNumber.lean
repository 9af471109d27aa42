import Derived.Deep.CutBlock
import Derived.Test.YtgnkjijocdmniaaGreatDoorZVAddr
namespace Go.Proofs.YtgnkjijocdmniaaGreatDoor
set_option linter.unusedVariables false
set_option linter.unusedSimpArgs false
set_option maxRecDepth 100000
set_option maxHeartbeats 4000000
open Go.Proofs.Tryz
open Go.RowKit
attribute [local go_sem ↓] Go.wp_at_zero Go.wp_at_succ
structure KO (l:L8) (a b v:Nat):Prop where
 le:a<=b
 val:Yx (l.drop a)=((l.drop b).takeWhile fun c=>QI c.toNat).foldl X3 v
 len:a+Zd (l.drop a)=b+Zd (l.drop b)
 bd:v<=2147483648
variable{a b v:Nat}{l:L8}
theorem KO.init(l:L8)(a:Nat):KO l a a 0:=⟨Nat.le_refl _,rfl,rfl,by omega⟩
theorem KO.step(h:KO l a b v)(i:b<(sA l).size)(g:QI ((sA l)[b].toNat:Int)=true):KO l a (b+1) (X3 v (sA l)[b]):=by
 obtain⟨j,d,f,k⟩:=h
 have e:(l.drop b).takeWhile (fun c=>QI c.toNat)=(sA l)[b]::(l.drop (b+1)).takeWhile fun c=>QI c.toNat:=by
  rw[ZC i];exact List.takeWhile_cons_of_pos g
 refine⟨by omega,?_,?_,by unfold X3;omega⟩
 ·rw[d,e];rfl
 ·rw[f];unfold Zd;rw[e,ZN];omega
theorem KO.done(h:KO l a b v)(d:b=l.length\/∃ hlt:b<(sA l).size,QI ((sA l)[b].toNat:Int)=false):Yx (l.drop a)=v/\a+Zd (l.drop a)=b:=by
 obtain⟨i,f,g,j⟩:=h
 have e:(l.drop b).takeWhile (fun c=>QI c.toNat)=[]:=by
  rcases d with rfl | ⟨hlt,d⟩
  ·rw[List.drop_length];rfl
  ·rw[ZC hlt];exact List.takeWhile_cons_of_neg (by rw[d];decide)
 constructor
 ·rw[f,e];rfl
 ·rw[g];unfold Zd;rw[e];rfl
theorem C3(l:L8)(a b:Nat)(c:a<=b):(l.drop a).getD (b - a) 0=l.getD b 0:=by
 rw[List.getD_eq_getElem?_getD,List.getD_eq_getElem?_getD,List.getElem?_drop];congr 2;omega
theorem AA(h:b<(sA l).size):l.getD b 0=(sA l)[b]:=by
 have a:b<l.length:=h;rw[List.getD_eq_getElem?_getD,List.getElem?_eq_getElem a];simp[sA,ByteArray.getElem_eq_getElem_data]
def KT(l:L8)(a b v:Nat):Prop:=sNL (l.drop a) a=if Q0 (l.getD b 0)then .error ⟨2,a⟩else if 2147483647<v then .error ⟨3,a⟩else .ok (⟨4,a,[],[],v⟩,b)
theorem SJ(m:a<=b)(k:Yx (l.drop a)=v)(p:a+Zd (l.drop a)=b){c v':Nat}(d:c=if isM (l.getD b 0) || isK (l.getD b 0)then b+1 else b)(o:v'=if isM (l.getD b 0)then v*1048576 else if isK (l.getD b 0)then v*1024 else v):KT l a c v':=by
 have e:Zd (l.drop a)=b - a:=by omega
 have j:=C3 l a b m
 have f:sNL (l.drop a) a=if Q0 ((l.drop a).getD (if isM (l.getD b 0) || isK (l.getD b 0)then b - a+1 else b - a) 0)then .error ⟨2,a⟩else if 2147483647<v' then .error ⟨3,a⟩else .ok (⟨4,a,[],[],v'⟩,a+(if isM (l.getD b 0) || isK (l.getD b 0)then b - a+1 else b - a)):=by
  have g:sNL (l.drop a) a=if Q0 ((l.drop a).getD (if isM ((l.drop a).getD (Zd (l.drop a)) 0) || isK ((l.drop a).getD (Zd (l.drop a)) 0)then Zd (l.drop a)+1 else Zd (l.drop a)) 0)then .error ⟨2,a⟩else if 2147483647<(if isM ((l.drop a).getD (Zd (l.drop a)) 0)then Yx (l.drop a)*1048576 else if isK ((l.drop a).getD (Zd (l.drop a)) 0)then Yx (l.drop a)*1024 else Yx (l.drop a))then .error ⟨3,a⟩else .ok (⟨4,a,[],[],(if isM ((l.drop a).getD (Zd (l.drop a)) 0)then Yx (l.drop a)*1048576 else if isK ((l.drop a).getD (Zd (l.drop a)) 0)then Yx (l.drop a)*1024 else Yx (l.drop a))⟩,a+(if isM ((l.drop a).getD (Zd (l.drop a)) 0) || isK ((l.drop a).getD (Zd (l.drop a)) 0)then Zd (l.drop a)+1 else Zd (l.drop a))):=rfl
  rw[g,e,j,k,<-o]
 unfold KT;rw[f]
 have i:(if isM (l.getD b 0) || isK (l.getD b 0)then b - a+1 else b - a)=c - a:=by
  rw[d];split<;>omega
 have n:a<=c:=by rw[d];split<;>omega
 rw[i,C3 l a c n,show a+(c - a)=c by omega]
def Um(r:Qb (Wd×Nat))(tb:Nat)(l:L8)(d:Int)(w:World)(e:Ending)(w':World):Prop:=
 e=.returned (.tuple #[])/\Mod tb w w'/\
 match r with
 | .ok x=>QT w' tb l x.2 0 d 48 [] x.1.num x.1.pos
 | .error f=>Yr w' tb l f
theorem Um.ok{r:Qb (Wd×Nat)}{tb:Nat}{l:L8}{d:Int}{w w':World}{a v b:Nat}(h:r=.ok (⟨4,a,[],[],v⟩,b))(c:Mod tb w w')(e:QT w' tb l b 0 d 48 [] v a):Um r tb l d w (.returned (.tuple #[])) w':=by
 subst h;exact⟨rfl,c,e⟩
theorem Um.bad{r:Qb (Wd×Nat)}{tb:Nat}{d:Int}{w w':World}{f:Flt}(h:r=.error f)(a:Mod tb w w')(b:Yr w' tb l f):Um r tb l d w (.returned (.tuple #[])) w':=by
 subst h;exact⟨rfl,a,b⟩
theorem LQ(tb:Nat)(l:L8)(a:Nat)(d:Int)(w:World)(h:QT w tb l a 0 d 0 [] 0 a)(hl:l.length<=600)(ha:a<=l.length) :
 Calls prog 112 #[.pointer (some ⟨tb,0,none⟩)] w (Um (sNL (l.drop a) a) tb l d w):=by
 have H:=I h;have hz:=QN l;clear h;go_enter func112,ntmps112;go_upto_block 0 with fail
 go_cut [2,3] (fun G Q t=>∃(b v:Nat) (g:Bool),b<=l.length/\G=.int .i64 v/\Q=.bool g/\QT t tb l b 0 d 0 [] 0 a/\Mod tb w t/\a<=b/\Yx (l.drop a)=v/\a+Zd (l.drop a)=b/\v<=2147483648/\(g=true->2147483647<v))
 case first=>
  as_aux_lemma=>
   go_wp2_with fail
   go_loopg [2,3] (l.length - a) (fun k G Q wr=>∃(b v:Nat),b<=l.length/\k=l.length - b/\KO l a b v/\G=.int .i64 v/\Q=.bool (decide (v=2147483648))/\QT wr tb l b 0 d 0 [] 0 a/\Mod tb w wr)
   case atStart=>exact⟨a,0,ha,rfl,KO.init l a,rfl,rfl,H.o,Mod.refl _ _⟩
   case round=>
    obtain⟨b,v,C,rfl,Z,rfl,rfl,m,x⟩:=hrel;have j:=I m;have i:=I x;have E:=I Z;have R:=Qk m;have S:=Qr m;have af:=fun o=>Qu m o
    have K:=Z.bd;clear m x Z H;by_cases z:b<(sA l).size;rotate_left
    ·obtain rfl:b=l.length:=by omega
     have D:=I (E.o.done (Qd rfl));go_wp2_with fail;go_quiet (fail);go_wp2;go_meet;exact⟨l.length,v,_,C,rfl,rfl,j.o,i.o.drewN,E.o.le,D.o.1,D.o.2,K,fun h=>by have:=of_decide_eq_true h;omega⟩
    have ah:(b:Int)<(l.length:Int):=by omega
    have ac:(0:Int)<=(b:Int):=by omega
    cases hd:QI ((sA l)[b].toNat:Int)
    ·have D:=I (E.o.done (Qc ⟨z,hd⟩));go_wp2_with fail;go_quiet (first|(go_at_call 110;refine Calls.quiet_of_same (XR _ _)));go_wp2;go_meet;exact⟨b,v,_,C,rfl,rfl,j.o,i.o.drewN,E.o.le,D.o.1,D.o.2,K,fun h=>by have:=of_decide_eq_true h;omega⟩
    ·have ab:=I (E.o.step z hd);have Y:=hd;unfold QI at Y;simp at Y;obtain⟨aB,aC⟩:=Y;have B:=I (j.o.at_ ((b:Int)+1));go_wp2_with fail;go_quiet (first|(go_at_call 110;refine Calls.quiet_of_same (XR _ _)));go_wp2_with fail;go_quiet (fail);by_cases hbig:(2147483647:Int)<(v:Int)*10+((((sA l)[b].toNat:Nat):Int) - 48)
     ·have F:Hid (X3 v (sA l)[b]=2147483648):=by show _=_;unfold X3;omega
      go_wp2;go_roundg (l.length - (b+1))
      case measure=>omega
      case rel=>exact⟨b+1,X3 v (sA l)[b],by omega,rfl,ab.o,by rw[F.o];rfl,by rw[F.o];rfl,B.o,(i.o.drewN).setCell _ _⟩
     ·have F:Hid (((X3 v (sA l)[b]:Nat):Int)=(v:Int)*10+((((sA l)[b].toNat:Nat):Int) - 48)):=by show _=_;unfold X3;omega
      have ao:Hid (decide (v=2147483648)=decide (X3 v (sA l)[b]=2147483648)):=by
       show _=_
       rw[Qh (by omega),Qh (by have:=F.o;omega)]
      go_wp2;go_roundg (l.length - (b+1))
      case measure=>omega
      case rel=>exact⟨b+1,X3 v (sA l)[b],by omega,rfl,ab.o,by rw[F.o],by rw[ao.o],B.o,(i.o.drewN).setCell _ _⟩
 case rest=>
  obtain⟨b,v,g,C,rfl,rfl,m,x,ad,ai,ae,K,hg⟩:=hcut;have u:=I hg;have A:Hid (∀ P v',P=(if isM (l.getD b 0) || isK (l.getD b 0)then b+1 else b)->v'=(if isM (l.getD b 0)then v*1048576 else if isK (l.getD b 0)then v*1024 else v)->KT l a P v'):=fun P v' e1 e2=>SJ ad ai ae e1 e2
  clear hg ai ae H;have j:=I m;have i:=I x;have R:=Qk m;have S:=Qr m;clear m x;go_upto_region 8 with fail
  go_cut [82] (fun au t=>au=.bool (isK (l.getD b 0))/\∃ n,t=wc.drewN n)
  case first=>
   as_aux_lemma=>
    by_cases z:b<(sA l).size;rotate_left
    ·obtain rfl:b=l.length:=by omega
     have p:Hid (isK (l.getD l.length 0)=false):=by show _=_;rw[U2 _ _ Ql];decide
     go_quiet (fail);go_wp2;go_meet;exact⟨by rw[p.o],_,rfl⟩
    have ah:(b:Int)<(l.length:Int):=by omega
    have ac:(0:Int)<=(b:Int):=by omega
    have r:=I (AA z);by_cases h75:(sA l)[b]=75
    ·have p:Hid (isK (l.getD b 0)=true):=by show _=_;rw[r.o,h75];rfl
     have ay:∀ h:b<(sA l).size,(((sA l)[b]'h).toNat:Int)=75:=fun _=>congrArg (fun c:UInt8=>(c.toNat:Int)) h75
     clear h75;go_quiet (fail);go_wp2;go_meet;exact⟨by rw[p.o],_,rfl⟩
    have aH:∀ h:b<(sA l).size,((((sA l)[b]'h).toNat:Int)==75)=false:=fun _=>by
     have h:¬(sA l)[b].toNat=75:=fun h=>h75 (UInt8.toNat_inj.1 h)
     simp;omega
    by_cases h107:(sA l)[b]=107
    ·have p:Hid (isK (l.getD b 0)=true):=by show _=_;rw[r.o,h107];rfl
     have aw:∀ h:b<(sA l).size,(((sA l)[b]'h).toNat:Int)=107:=fun _=>congrArg (fun c:UInt8=>(c.toNat:Int)) h107
     clear h107 h75;go_quiet (fail);go_wp2;go_meet;exact⟨by rw[p.o],_,rfl⟩
    have aF:∀ h:b<(sA l).size,((((sA l)[b]'h).toNat:Int)==107)=false:=fun _=>by
     have h:¬(sA l)[b].toNat=107:=fun h=>h107 (UInt8.toNat_inj.1 h)
     simp;omega
    have p:Hid (isK (l.getD b 0)=false):=by
     show _=_
     rw[r.o];have T:¬(sA l)[b].toNat=75:=fun h=>h75 (UInt8.toNat_inj.1 h)
     have U:¬(sA l)[b].toNat=107:=fun h=>h107 (UInt8.toNat_inj.1 h)
     unfold isK;simp[T,U]
    clear h107 h75;go_quiet (fail);go_wp2;go_meet;exact⟨by rw[p.o],_,rfl⟩
  case rest=>
   obtain⟨rfl,nn,rfl⟩:=hcut;go_upto_if 82 with fail
   go_cut [2] (fun G t=>∃(f y:Nat),f<=l.length/\G=.int .i64 y/\QT t tb l f 0 d 0 [] 0 a/\Mod tb w t/\KT l a f y/\y<=2251799813685248/\(g=true->2147483647<y))
   case first=>
    as_aux_lemma=>
     have af:=fun o=>Qu j.o o
     have B:=I (j.o.at_ ((b:Int)+1));cases hK:isK (l.getD b 0);rotate_left
     ·have z:b<l.length:=by
       rcases Nat.lt_or_ge b l.length with h|h
       ·exact h
       ·rw[U2 _ _ h]at hK;exact absurd hK (by decide)
      have V:isM (l.getD b 0)=false:=by unfold isK at hK;unfold isM;simp at hK ⊢;omega
      have s:Hid (KT l a (b+1) (v*1024)):=A.o _ _ (by rw[hK,V];rfl) (by rw[hK,V];rfl);clear hK V;go_wp2;go_meet;exact⟨b+1,v*1024,by omega,by simp,B.o,(by first|exact(i.o.drewN).setCell _ _|exact(i.o.drewN.drewN).setCell _ _),s.o,by omega,fun h=>by have:=u.o h;omega⟩
     by_cases z:b<(sA l).size;rotate_left
     ·obtain rfl:b=l.length:=by omega
      have s:Hid (KT l a l.length v):=A.o _ _ (by rw[U2 _ _ Ql];rfl) (by rw[U2 _ _ Ql];rfl);clear hK;go_wp2_with fail;go_quiet (fail);go_wp2;go_meet;exact⟨l.length,v,C,rfl,j.o,(by first|exact i.o.drewN|exact i.o.drewN.drewN),s.o,by omega,fun h=>by have:=u.o h;omega⟩
     have ah:(b:Int)<(l.length:Int):=by omega
     have ac:(0:Int)<=(b:Int):=by omega
     have r:=I (AA z);have HK:=I hK;clear hK;by_cases h77:(sA l)[b]=77
     ·have s:Hid (KT l a (b+1) (v*1048576)):=A.o _ _ (by rw[r.o,h77];rfl) (by rw[r.o,h77];rfl);have az:∀ h:b<(sA l).size,(((sA l)[b]'h).toNat:Int)=77:=fun _=>congrArg (fun c:UInt8=>(c.toNat:Int)) h77
      clear h77;go_wp2_with fail;go_quiet (fail);go_wp2;go_meet;exact⟨b+1,v*1048576,by omega,by simp;omega,B.o,(by first|exact(i.o.drewN).setCell _ _|exact(i.o.drewN.drewN).setCell _ _),s.o,by omega,fun h=>by have:=u.o h;omega⟩
     have aI:∀ h:b<(sA l).size,((((sA l)[b]'h).toNat:Int)==77)=false:=fun _=>by
      have h:¬(sA l)[b].toNat=77:=fun h=>h77 (UInt8.toNat_inj.1 h)
      simp;omega
     by_cases h109:(sA l)[b]=109
     ·have s:Hid (KT l a (b+1) (v*1048576)):=A.o _ _ (by rw[r.o,h109];rfl) (by rw[r.o,h109];rfl);have ax:∀ h:b<(sA l).size,(((sA l)[b]'h).toNat:Int)=109:=fun _=>congrArg (fun c:UInt8=>(c.toNat:Int)) h109
      clear h109 h77;go_wp2_with fail;go_quiet (fail);go_wp2;go_meet;exact⟨b+1,v*1048576,by omega,by simp;omega,B.o,(by first|exact(i.o.drewN).setCell _ _|exact(i.o.drewN.drewN).setCell _ _),s.o,by omega,fun h=>by have:=u.o h;omega⟩
     have aG:∀ h:b<(sA l).size,((((sA l)[b]'h).toNat:Int)==109)=false:=fun _=>by
      have h:¬(sA l)[b].toNat=109:=fun h=>h109 (UInt8.toNat_inj.1 h)
      simp;omega
     have s:Hid (KT l a b v):=by
      have T:¬(sA l)[b].toNat=77:=fun h=>h77 (UInt8.toNat_inj.1 h)
      have U:¬(sA l)[b].toNat=109:=fun h=>h109 (UInt8.toNat_inj.1 h)
      have e:isM (l.getD b 0)=false:=by rw[r.o];unfold isM;simp[T,U]
      exact A.o _ _ (by rw[e,HK.o];rfl) (by rw[e,HK.o];rfl)
     clear h109 h77;go_wp2_with fail;go_quiet (fail);go_wp2;go_meet;exact⟨b,v,C,rfl,j.o,(by first|exact i.o.drewN|exact i.o.drewN.drewN),s.o,by omega,fun h=>by have:=u.o h;omega⟩
   case rest=>
    obtain⟨f,y,aA,rfl,m,x,q,aE,ag⟩:=hcut;clear u A j i R S K ad C;have j:=I m;have i:=I x;have aj:=I q;have u:=I ag;have R:=Qk m;have S:=Qr m;clear m x q ag;go_upto_region 14 with fail
    go_cut [169] (fun ar t=>ar=.bool (Q0 (l.getD f 0))/\∃ n,t=wc.drewN n)
    case first=>
     as_aux_lemma=>
      by_cases hlt1:f<(sA l).size;rotate_left
      ·obtain rfl:f=l.length:=by omega
       have p:Hid (Q0 (l.getD l.length 0)=false):=by show _=_;rw[U2 _ _ Ql];decide
       go_quiet (fail);go_wp2;go_meet;exact⟨by rw[p.o],_,rfl⟩
      have aD:(f:Int)<(l.length:Int):=by omega
      have av:(0:Int)<=(f:Int):=by omega
      have r:=I (AA hlt1);cases hL:QL ((sA l)[f].toNat:Int)
      ·have M:Hid (∀ h:f<(sA l).size,∀ W,Calls prog 109 #[.int .u8 (((sA l)[f]'h).toNat:Int)] W fun e J=>e=.returned (.bool false)/\J=W):=fun h W=>by have:=X6 (((sA l)[f]'h).toNat:Int) W;rw[hL]at this;exact this
       have p:Hid (Q0 (l.getD f 0)=QI ((sA l)[f].toNat:Int)):=by show _=_;rw[r.o];unfold Q0;rw[hL];rfl
       go_quiet (first|(go_at_call 109;refine Calls.quiet_of_same (M.o _ _))|(go_at_call 110;refine Calls.quiet_of_same (XR _ _)));go_wp2;go_meet;exact⟨by rw[p.o],_,rfl⟩
      ·have M:Hid (∀ h:f<(sA l).size,∀ W,Calls prog 109 #[.int .u8 (((sA l)[f]'h).toNat:Int)] W fun e J=>e=.returned (.bool true)/\J=W):=fun h W=>by have:=X6 (((sA l)[f]'h).toNat:Int) W;rw[hL]at this;exact this
       have p:Hid (Q0 (l.getD f 0)=true):=by show _=_;rw[r.o];unfold Q0;rw[hL];rfl
       go_quiet (first|(go_at_call 109;refine Calls.quiet_of_same (M.o _ _)));go_wp2;go_meet;exact⟨by rw[p.o],_,rfl⟩
    case rest=>
     obtain⟨rfl,n2,rfl⟩:=hcut;have c7:=Yf j.o;have q:sNL (l.drop a) a=_:=aj.o;cases hld:Q0 (l.getD f 0);rotate_left
     ·rw[hld,if_pos rfl]at q;have L:=I q;have N:=I (fun n'=>KZ tb l f d 0 [] 0 a ⟨2,a⟩ (wc.drewN n') j.o hl (Nat.succ_ne_zero 1));clear q hld;go_wp2_with (go_at_call 70;refine(N.o _).mono ?_;rintro e J ⟨rfl,aa,X⟩);go_end0;exact Um.bad L.o (i.o.trans (Kl aa)) X
     rw[hld,if_neg (by decide)]at q;have N:=I (fun n'=>KZ tb l f d 0 [] 0 a ⟨3,a⟩ (wc.drewN n') j.o hl (Nat.succ_ne_zero 2));by_cases hbig:2147483647<y
     ·rw[if_pos hbig]at q;have L:=I q;have ap:(2147483647:Int)<(y:Int):=by omega
      clear q hld;cases g
      all_goals
       go_wp2_with (go_at_call 70;refine(N.o _).mono ?_;rintro e J ⟨rfl,aa,X⟩);go_end0;exact Um.bad L.o (i.o.trans (Kl aa)) X
     ·rw[if_neg hbig]at q;have ak:=I q;have ap:¬(2147483647:Int)<(y:Int):=by omega
      have aq:g=false:=by
       cases g with
       |false=>rfl
       |true=>exact absurd (u.o rfl) hbig
      subst aq;have c4:=QV j.o;have c5:=Q9 j.o;have c6:=Zz j.o;have af:=fun o=>Qu j.o o
      clear q hld;go_wp2;go_end0;exact Um.ok ak.o (((((i.o.drewN).setCell _ _).setCell _ _).setCell _ _).setCell _ _) (Qt _ _ _ _ _ _ (Qt _ _ _ _ _ _ (Qt _ _ _ _ _ _ (Qt _ _ _ _ _ _ j.o))))
end Go.Proofs.YtgnkjijocdmniaaGreatDoor
