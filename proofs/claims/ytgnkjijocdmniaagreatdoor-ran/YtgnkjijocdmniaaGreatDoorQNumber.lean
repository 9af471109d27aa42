import Derived.Deep.DeepCutAuto
import Derived.Deep.CutBlock
import Derived.Test.YtgnkjijocdmniaaGreatDoorZVAddr
namespace Go.Proofs.YtgnkjijocdmniaaGreatDoor
set_option linter.all false
set_option maxRecDepth 100000
set_option maxHeartbeats 4000000
open Go.Proofs.Tryz
open Go.RowKit
attribute [local go_sem ↓] Zt Zu
structure VT (l:L8) (a b v:Nat):Prop where
 le:a<=b
 val:Kb (l.drop a)=((l.drop b).takeWhile fun c=>Q7 c.toNat).foldl JA v
 len:a+ZP (l.drop a)=b+ZP (l.drop b)
 bd:v<=2147483648
variable{a b tb v:Nat}{d:Int}{l:L8}{w:World}
theorem VT.init(l:L8)(a:Nat):VT l a a 0:=⟨Q4 _,rfl,rfl,I⟩
theorem VT.step(h:VT l a b v)(i:b<(sA l).size)(g:Q7 ((sA l)[b].toNat:Int)=true):VT l a (b+1) (JA v (sA l)[b]):=by
 obtain⟨j,d,f,k⟩:=h
 have e:(l.drop b).takeWhile (fun c=>Q7 c.toNat)=(sA l)[b]::(l.drop (b+1)).takeWhile fun c=>Q7 c.toNat:=by
  rw[Xm i];exact List.takeWhile_cons_of_pos g
 refine⟨I,?_,?_,by unfold JA;omega⟩
 .rw[d,e];rfl
 .rw[f];unfold ZP;rw[e,Q1];omega
theorem VT.done(h:VT l a b v)(d:b=l.length\/∃hlt:b<(sA l).size,Q7 ((sA l)[b].toNat:Int)=false):Kb (l.drop a)=v/\a+ZP (l.drop a)=b:=by
 obtain⟨i,f,g,j⟩:=h
 have e:(l.drop b).takeWhile (fun c=>Q7 c.toNat)=[]:=by
  rcases d with rfl | ⟨hlt,d⟩
  .rw[List.drop_length];rfl
  .rw[Xm hlt];exact List.takeWhile_cons_of_neg (by rw[d];decide)
 constructor
 .rw[f,e];rfl
 .rw[g];unfold ZP;rw[e];rfl
theorem Lz(l:L8)(c:a<=b):(l.drop a).getD (b-a) 0=l.getD b 0:=by
 rw[Zv,Zv,List.getElem?_drop];congr 2;omega
theorem Dz(h:b<(sA l).size):l.getD b 0=(sA l)[b]:=by
 have a:b<l.length:=h;rw[Zv,Zi a];simp[sA,ByteArray.getElem_eq_getElem_data]
def VU(l:L8)(a b v:Nat):Prop:=sNL (l.drop a) a=if Zr (l.getD b 0)then .error ⟨2,a⟩else if 2147483647<v then .error ⟨3,a⟩else .ok (⟨4,a,[],[],v⟩,b)
theorem QxL(m:a<=b)(k:Kb (l.drop a)=v)(p:a+ZP (l.drop a)=b){c v':Nat}(d:c=if isM (l.getD b 0) || isK (l.getD b 0)then b+1 else b)(o:v'=if isM (l.getD b 0)then v*1048576 else if isK (l.getD b 0)then v*1024 else v):VU l a c v':=by
 have e:ZP (l.drop a)=b-a:=I
 have j:=Lz l m
 have f:sNL (l.drop a) a=if Zr ((l.drop a).getD (if isM (l.getD b 0) || isK (l.getD b 0)then b-a+1 else b-a) 0)then .error ⟨2,a⟩else if 2147483647<v' then .error ⟨3,a⟩else .ok (⟨4,a,[],[],v'⟩,a+(if isM (l.getD b 0) || isK (l.getD b 0)then b-a+1 else b-a)):=by
  have g:sNL (l.drop a) a=if Zr ((l.drop a).getD (if isM ((l.drop a).getD (ZP (l.drop a)) 0) || isK ((l.drop a).getD (ZP (l.drop a)) 0)then ZP (l.drop a)+1 else ZP (l.drop a)) 0)then .error ⟨2,a⟩else if 2147483647<(if isM ((l.drop a).getD (ZP (l.drop a)) 0)then Kb (l.drop a)*1048576 else if isK ((l.drop a).getD (ZP (l.drop a)) 0)then Kb (l.drop a)*1024 else Kb (l.drop a))then .error ⟨3,a⟩else .ok (⟨4,a,[],[],(if isM ((l.drop a).getD (ZP (l.drop a)) 0)then Kb (l.drop a)*1048576 else if isK ((l.drop a).getD (ZP (l.drop a)) 0)then Kb (l.drop a)*1024 else Kb (l.drop a))⟩,a+(if isM ((l.drop a).getD (ZP (l.drop a)) 0) || isK ((l.drop a).getD (ZP (l.drop a)) 0)then ZP (l.drop a)+1 else ZP (l.drop a))):=rfl
  rw[g,e,j,k,<-o]
 unfold VU;rw[f]
 have i:(if isM (l.getD b 0) || isK (l.getD b 0)then b-a+1 else b-a)=c-a:=by
  rw[d];split<;>omega
 have n:a<=c:=by rw[d];split<;>omega
 rw[i,Lz l n,show a+(c-a)=c by omega]
def Gv(r:Qq (Wd×Nat))(tb:Nat)(l:L8)(d:Int)(w:World)(e:Ending)(w':World):Prop:=
 e=.returned (.tuple #[])/\Mod tb w w'/\
 match r with
 | .ok x=>QT w' tb l x.2 0 d 48 [] x.1.num x.1.pos
 | .error f=>JZ w' tb l f
theorem Gv.ok{r:Qq (Wd×Nat)}{tb:Nat}{l:L8}{d:Int}{w w':World}{a v b:Nat}(h:r=.ok (⟨4,a,[],[],v⟩,b))(c:Mod tb w w')(e:QT w' tb l b 0 d 48 [] v a):Gv r tb l d w (.returned (.tuple #[])) w':=by
 subst h;exact⟨rfl,c,e⟩
theorem Gv.bad{r:Qq (Wd×Nat)}{w':World}{f:Flt}(h:r=.error f)(a:Mod tb w w')(b:JZ w' tb l f):Gv r tb l d w (.returned (.tuple #[])) w':=by
 subst h;exact⟨rfl,a,b⟩
theorem TX(h:QT w tb l a 0 d 0 [] 0 a)(hl:l.length<=600)(ha:a<=l.length):Calls prog 112 #[Qc tb] w (Gv (sNL (l.drop a) a) tb l d w):=by
 have H:=O h;have hz:=Zc l;clear h;go_enter func112,ntmps112;go_upto_block 0 with fail
 go_cut [2,3] (fun G P t=>∃(b v:Nat) (g:Bool),b<=l.length/\G=Qa v/\P=.bool g/\QT t tb l b 0 d 0 [] 0 a/\Mod tb w t/\a<=b/\Kb (l.drop a)=v/\a+ZP (l.drop a)=b/\v<=2147483648/\(g=true->2147483647<v))
 case first=>
  as_aux_lemma=>
   go_wp2_with fail
   go_loopg [2,3] (l.length-a) (fun k G P wr=>∃(b v:Nat),b<=l.length/\k=l.length-b/\VT l a b v/\G=Qa v/\P=.bool (decide (v=2147483648))/\QT wr tb l b 0 d 0 [] 0 a/\Mod tb w wr)
   case atStart=>exact⟨a,0,ha,rfl,VT.init l a,rfl,rfl,H,Mod.refl _ _⟩
   case round=>
    obtain⟨b,v,C,rfl,y,rfl,rfl,f,m⟩:=hrel;have Q:=Zs f;have R:=Q9 f;have ae:=fun o=>QQ f o
    have K:=y.bd;clear H;change Qd _ at m y;replace f:=O f;by_cases z:b<(sA l).size;rotate_left
    .obtain rfl:b=l.length:=I
     have D:=O (y.done (Qt rfl));go_wp2_with fail;go_quiet (fail);go_wp2;go_meet;exact⟨l.length,v,_,C,rfl,rfl,f,m.drewN,y.le,D.1,D.2,K,fun h=>by have:=K5 h;omega⟩
    have ag:(b:Int)<(l.length:Int):=I
    have ab:(0:Int)<=(b:Int):=I
    cases hd:Q7 ((sA l)[b].toNat:Int)
    .have D:=O (y.done (Qr ⟨z,hd⟩));go_wp2_with fail;go_quiet (first|(go_at_call 110;refine Kg (Y8 _ _)));go_wp2;go_meet;exact⟨b,v,_,C,rfl,rfl,f,m.drewN,y.le,D.1,D.2,K,fun h=>by have:=K5 h;omega⟩
    .have aa:=O (y.step z hd);have X:=hd;unfold Q7 at X;simp at X;obtain⟨az,aA⟩:=X;have B:=O (f.o.at_ ((b:Int)+1));go_wp2_with fail;go_quiet (first|(go_at_call 110;refine Kg (Y8 _ _)));go_wp2_with fail;go_quiet (fail);by_cases hbig:(2147483647:Int)<(v:Int)*10+((((sA l)[b].toNat:Nat):Int)-48)
     .have F:Hid (JA v (sA l)[b]=2147483648):=by show _=_;unfold JA;omega
      go_wp2;go_roundg (l.length-(b+1))
      case measure=>omega
      case rel=>exact⟨b+1,JA v (sA l)[b],I,rfl,aa,by rw[F.o];rfl,by rw[F.o];rfl,B,(m.drewN).setCell _ _⟩
     .have F:Hid (((JA v (sA l)[b]:Nat):Int)=(v:Int)*10+((((sA l)[b].toNat:Nat):Int)-48)):=by show _=_;unfold JA;omega
      have aj:Hid (decide (v=2147483648)=decide (JA v (sA l)[b]=2147483648)):=by
       show _=_
       rw[QB I,QB (by have:=F.o;omega)]
      go_wp2;go_roundg (l.length-(b+1))
      case measure=>omega
      case rel=>exact⟨b+1,JA v (sA l)[b],I,rfl,aa,by rw[F.o],by rw[aj.o],B,(m.drewN).setCell _ _⟩
 case rest=>
  obtain⟨b,v,g,C,rfl,rfl,f,m,ac,ah,ad,K,x⟩:=hcut;have A:Hid (∀N v',N=(if isM (l.getD b 0) || isK (l.getD b 0)then b+1 else b)->v'=(if isM (l.getD b 0)then v*1048576 else if isK (l.getD b 0)then v*1024 else v)->VU l a N v'):=fun N v' e1 e2=>QxL ac ah ad e1 e2
  clear ah ad H;change Qd _ at x;have E:=O f;have r:=O m;have Q:=Zs f;have R:=Q9 f;clear f m;go_upto_region 8 with fail
  go_cut [82] (fun aq t=>aq=.bool (isK (l.getD b 0))/\∃n,t=wc.drewN n)
  case first=>
   as_aux_lemma=>
    by_cases z:b<(sA l).size;rotate_left
    .obtain rfl:b=l.length:=I
     have j:Hid (isK (l.getD l.length 0)=false):=by show _=_;rw[ND QF];decide
     go_quiet (fail);go_wp2;go_meet;exact⟨by rw[j.o],_,rfl⟩
    have ag:(b:Int)<(l.length:Int):=I
    have ab:(0:Int)<=(b:Int):=I
    have q:=O (Dz z);by_cases h75:(sA l)[b]=75
    .have j:Hid (isK (l.getD b 0)=true):=by show _=_;rw[q.o,h75];rfl
     have aw:∀h:b<(sA l).size,(((sA l)[b]'h).toNat:Int)=75:=fun _=>ZI (fun c:UInt8=>(c.toNat:Int)) h75
     clear h75;go_quiet (fail);go_wp2;go_meet;exact⟨by rw[j.o],_,rfl⟩
    have aF:∀h:b<(sA l).size,((((sA l)[b]'h).toNat:Int)==75)=false:=fun _=>by
     have h:¬(sA l)[b].toNat=75:=fun h=>h75 (Xi.1 h)
     simp;omega
    by_cases h107:(sA l)[b]=107
    .have j:Hid (isK (l.getD b 0)=true):=by show _=_;rw[q.o,h107];rfl
     have au:∀h:b<(sA l).size,(((sA l)[b]'h).toNat:Int)=107:=fun _=>ZI (fun c:UInt8=>(c.toNat:Int)) h107
     clear h107 h75;go_quiet (fail);go_wp2;go_meet;exact⟨by rw[j.o],_,rfl⟩
    have aD:∀h:b<(sA l).size,((((sA l)[b]'h).toNat:Int)==107)=false:=fun _=>by
     have h:¬(sA l)[b].toNat=107:=fun h=>h107 (Xi.1 h)
     simp;omega
    have j:Hid (isK (l.getD b 0)=false):=by
     show _=_
     rw[q.o];have S:¬(sA l)[b].toNat=75:=fun h=>h75 (Xi.1 h)
     have T:¬(sA l)[b].toNat=107:=fun h=>h107 (Xi.1 h)
     unfold isK;simp[S,T]
    clear h107 h75;go_quiet (fail);go_wp2;go_meet;exact⟨by rw[j.o],_,rfl⟩
  case rest=>
   obtain⟨rfl,nn,rfl⟩:=hcut;go_upto_if 82 with fail
   go_cut [2] (fun G t=>∃(i u:Nat),i<=l.length/\G=Qa u/\QT t tb l i 0 d 0 [] 0 a/\Mod tb w t/\VU l a i u/\u<=2251799813685248/\(g=true->2147483647<u))
   case first=>
    as_aux_lemma=>
     have ae:=fun o=>QQ E o
     have B:=O (E.o.at_ ((b:Int)+1));cases hK:isK (l.getD b 0);rotate_left
     .have z:b<l.length:=by
       rcases Ki b l.length with h|h
       .exact h
       .rw[ND h]at hK;exact absurd hK Qb
      have U:isM (l.getD b 0)=false:=by unfold isK at hK;unfold isM;simp at hK ⊢;omega
      have s:Hid (VU l a (b+1) (v*1024)):=A _ _ (by rw[hK,U];rfl) (by rw[hK,U];rfl);clear hK U;go_wp2;go_meet;exact⟨b+1,v*1024,I,Qh,B,(by first|exact(r.drewN).setCell _ _|exact(r.drewN.drewN).setCell _ _),s,I,fun h=>by have:=x h;omega⟩
     by_cases z:b<(sA l).size;rotate_left
     .obtain rfl:b=l.length:=I
      have s:Hid (VU l a l.length v):=A _ _ (by rw[ND QF];rfl) (by rw[ND QF];rfl);clear hK;go_wp2_with fail;go_quiet (fail);go_wp2;go_meet;exact⟨l.length,v,C,rfl,E,(by first|exact r.drewN|exact r.drewN.drewN),s,I,fun h=>by have:=x h;omega⟩
     have ag:(b:Int)<(l.length:Int):=I
     have ab:(0:Int)<=(b:Int):=I
     have q:=O (Dz z);change Qd _ at hK;by_cases h77:(sA l)[b]=77
     .have s:Hid (VU l a (b+1) (v*1048576)):=A _ _ (by rw[q.o,h77];rfl) (by rw[q.o,h77];rfl);have ax:∀h:b<(sA l).size,(((sA l)[b]'h).toNat:Int)=77:=fun _=>ZI (fun c:UInt8=>(c.toNat:Int)) h77
      clear h77;go_wp2_with fail;go_quiet (fail);go_wp2;go_meet;exact⟨b+1,v*1048576,I,by simp;omega,B,(by first|exact(r.drewN).setCell _ _|exact(r.drewN.drewN).setCell _ _),s,I,fun h=>by have:=x h;omega⟩
     have aG:∀h:b<(sA l).size,((((sA l)[b]'h).toNat:Int)==77)=false:=fun _=>by
      have h:¬(sA l)[b].toNat=77:=fun h=>h77 (Xi.1 h)
      simp;omega
     by_cases h109:(sA l)[b]=109
     .have s:Hid (VU l a (b+1) (v*1048576)):=A _ _ (by rw[q.o,h109];rfl) (by rw[q.o,h109];rfl);have av:∀h:b<(sA l).size,(((sA l)[b]'h).toNat:Int)=109:=fun _=>ZI (fun c:UInt8=>(c.toNat:Int)) h109
      clear h109 h77;go_wp2_with fail;go_quiet (fail);go_wp2;go_meet;exact⟨b+1,v*1048576,I,by simp;omega,B,(by first|exact(r.drewN).setCell _ _|exact(r.drewN.drewN).setCell _ _),s,I,fun h=>by have:=x h;omega⟩
     have aE:∀h:b<(sA l).size,((((sA l)[b]'h).toNat:Int)==109)=false:=fun _=>by
      have h:¬(sA l)[b].toNat=109:=fun h=>h109 (Xi.1 h)
      simp;omega
     have s:Hid (VU l a b v):=by
      have S:¬(sA l)[b].toNat=77:=fun h=>h77 (Xi.1 h)
      have T:¬(sA l)[b].toNat=109:=fun h=>h109 (Xi.1 h)
      have e:isM (l.getD b 0)=false:=by rw[q.o];unfold isM;simp[S,T]
      exact A _ _ (by rw[e,hK.o];rfl) (by rw[e,hK.o];rfl)
     clear h109 h77;go_wp2_with fail;go_quiet (fail);go_wp2;go_meet;exact⟨b,v,C,rfl,E,(by first|exact r.drewN|exact r.drewN.drewN),s,I,fun h=>by have:=x h;omega⟩
   case rest=>
    obtain⟨i,u,ay,rfl,f,m,p,aC,af⟩:=hcut;clear x A E r Q R K ac C;have ai:=O p;have Q:=Zs f;have R:=Q9 f;clear p;change Qd _ at f m af;go_upto_region 14 with fail
    go_cut [169] (fun ap t=>ap=.bool (Zr (l.getD i 0))/\∃n,t=wc.drewN n)
    case first=>
     as_aux_lemma=>
      by_cases hlt1:i<(sA l).size;rotate_left
      .obtain rfl:i=l.length:=I
       have j:Hid (Zr (l.getD l.length 0)=false):=by show _=_;rw[ND QF];decide
       go_quiet (fail);go_wp2;go_meet;exact⟨by rw[j.o],_,rfl⟩
      have aB:(i:Int)<(l.length:Int):=I
      have ar:(0:Int)<=(i:Int):=I
      have q:=O (Dz hlt1);cases hL:Za ((sA l)[i].toNat:Int)
      .have L:Hid (∀h:i<(sA l).size,∀W,Calls prog 109 #[.int .u8 (((sA l)[i]'h).toNat:Int)] W fun e J=>e=.returned (.bool false)/\J=W):=fun h W=>by have:=Jx (c:=(((sA l)[i]'h).toNat:Int)) (w:=W);rw[hL]at this;exact this
       have j:Hid (Zr (l.getD i 0)=Q7 ((sA l)[i].toNat:Int)):=by show _=_;rw[q.o];unfold Zr;rw[hL];rfl
       go_quiet (first|(go_at_call 109;refine Kg (L _ _))|(go_at_call 110;refine Kg (Y8 _ _)));go_wp2;go_meet;exact⟨by rw[j.o],_,rfl⟩
      .have L:Hid (∀h:i<(sA l).size,∀W,Calls prog 109 #[.int .u8 (((sA l)[i]'h).toNat:Int)] W fun e J=>e=.returned (.bool true)/\J=W):=fun h W=>by have:=Jx (c:=(((sA l)[i]'h).toNat:Int)) (w:=W);rw[hL]at this;exact this
       have j:Hid (Zr (l.getD i 0)=true):=by show _=_;rw[q.o];unfold Zr;rw[hL];rfl
       go_quiet (first|(go_at_call 109;refine Kg (L _ _)));go_wp2;go_meet;exact⟨by rw[j.o],_,rfl⟩
    case rest=>
     obtain⟨rfl,n2,rfl⟩:=hcut;have c7:=K2 f;have p:sNL (l.drop a) a=_:=ai.o;cases hld:Zr (l.getD i 0);rotate_left
     .rw[hld,Qi rfl]at p;have M:=O (fun Z=>V8 (w:=wc.drewN Z) ⟨2,a⟩ f hl (Yh 1));clear hld;change Qd _ at p;go_wp2_with (go_at_call 70;refine Qv (M _) ?_;rintro J ⟨Y,V⟩);go_end0;exact Gv.bad p (m.o.trans (VC Y)) V
     rw[hld,Qg Qb]at p;have M:=O (fun Z=>V8 (w:=wc.drewN Z) ⟨3,a⟩ f hl (Yh 2));by_cases hbig:2147483647<u
     .rw[Qi hbig]at p;have ak:(2147483647:Int)<(u:Int):=I
      clear hld;change Qd _ at p;cases g
      all_goals
       go_wp2_with (go_at_call 70;refine Qv (M _) ?_;rintro J ⟨Y,V⟩);go_end0;exact Gv.bad p (m.o.trans (VC Y)) V
     .rw[Qg hbig]at p;have ak:¬(2147483647:Int)<(u:Int):=I
      have ao:g=false:=by
       cases g with
       |false=>rfl
       |true=>exact absurd (af rfl) hbig
      subst ao;have c4:=YF f;have c5:=J1 f;have c6:=VZ f;have ae:=fun o=>QQ f o
      clear hld;change Qd _ at p;go_wp2;go_end0;exact Gv.ok p (((((m.drewN).setCell _ _).setCell _ _).setCell _ _).setCell _ _) (QM (QM (QM (QM f))))
end Go.Proofs.YtgnkjijocdmniaaGreatDoor
