import Derived.Test.YtgnkjijocdmniaaGreatDoorZQMatch
namespace Go.Proofs.YtgnkjijocdmniaaGreatDoor
set_option linter.unusedVariables false
set_option linter.unusedSimpArgs false
set_option maxRecDepth 100000
set_option maxHeartbeats 4000000
open Go.Proofs.Tryz
open Go.RowKit
attribute [local go_sem ↓] Go.wp_at_zero Go.wp_at_succ
variable{base k n size:Nat}{e:TypeId}{v:Value}{w w':World}{xs:List Value}
theorem TZ(s:SS)(r:L8):(Xi s r).2<=r.length:=by
 have a:r.idxOf 125<=r.length:=List.idxOf_le_length;unfold Xi;split
 ·exact QE
 ·split
  ·rename_i h1 h2;show 2<=_;omega
  ·split
   ·show r.idxOf 125+1<=_;omega
   ·exact QE
theorem D6:∀(b a:Qa) (x v:L8),lookQ b a x=some v->v∈a
 | [],_,_,_,h=>by cases h
 |_::_,[],_,_,h=>by cases h
 |n::b,w::a,x,v,h=>by
  unfold lookQ at h;by_cases e:n=x
  ·rw[if_pos e]at h;rw[<-Option.some.inj h];simp
  ·rw[if_neg e]at h;exact List.mem_cons_of_mem _ (D6 b a x v h)
theorem RQ{s:SS}{b a:Qa}(e:∀ x,s.vals x=lookQ b a x)(c:∀ t∈a,t.length<=100000)(d:∀ t∈s.told,t.length<=100000)(r:L8):(Xi s r).1.length<=100000:=by
 unfold Xi;split
 ·exact QE
 ·split
  ·show(s.told.getD _ []).length<=_
   rw[List.getD_eq_getElem?_getD]
   cases h:s.told[(r.headD 0).toNat - 48]? with
   |none=>exact QE
   |some t=>exact d t (List.mem_of_getElem? h)
  ·split
   ·show((s.vals _).getD []).length<=_
    rw[e]
    cases h:lookQ b a (zL (r.take (r.idxOf 125)))with
    |none=>exact QE
    |some t=>exact c t (D6 _ _ _ _ h)
   ·exact QE
theorem B9(sb:Nat)(s:SS)(nv T G:Value)(S F:Qa)(l:L8)(w:World)(h:Uj w sb s nv T G S F)(hl:l.length<=100000)(K:∀ t∈F,t.length<=100000)(M:∀ t∈s.told,t.length<=100000) :
 Calls prog 76 #[.pointer (some ⟨sb,0,none⟩),.string (sA l)] w fun e w'=>e=.returned (.string (sA (expL s l)))/\Below w.heap.size w w':=by
 have hz:=QN l;have H:=I h;have D:=h.c4;have ai:=Qq D;have U:=I (RQ h.vals K M);clear h K M
 cases hvs:s.vs with
 |false=>
  rw[hvs]at D;have v:Hid (expL s l=l):=by show _=_;unfold expL;rw[if_neg (by rw[hvs];decide)]
  go_enter func76,ntmps76;go_wp2;go_ret;exact⟨by rw[v.o];rfl,Below.refl _ _⟩
 |true=>
  rw[hvs]at D;have v:=I (EY s l hvs);clear hvs;go_enter func76,ntmps76;go_upto_block 0 with fail
  go_cut [5] (fun E wx=>E=.string (sA (fullL s l))/\(fullL s l).length<=10000100000/\Below w.heap.size w wx)
  case first=>
   go_wp2_with fail
   go_loopg [5,6,7,8] l.length (fun m E iv _ _ wr=>∃(k:Nat) (o:L8),m=l.length - k/\k<=l.length/\iv=.int .i64 k/\E=.string (sA o)/\fullL s l=o++fullL s (l.drop k)/\o.length<=k*100001/\Below w.heap.size w wr)
   case atStart=>exact⟨0,[],by omega,by omega,rfl,rfl,rfl,by simp,Below.refl _ _⟩
   case round=>
    obtain⟨k,o,rfl,hk,rfl,rfl,hF,ho,L⟩:=hrel;have n:=I hF;have b:=I L;have ao:=QN o;clear hF L;have ac:o.length<=10000100000:=by omega
    by_cases hlt:k<(sA l).size
    ·have ab:l.drop k≠[]:=by intro e;have:=congrArg List.length e;rw[List.length_drop,Up]at this;omega
     have d:=I (P4 s ab);have g:=ZC hlt;have P:=NI hlt;obtain⟨c,W⟩:=Qe ((sA l)[k]);rw[W]at g P;have aj:(sA [c]).size=1:=rfl;have Z:(k:Int)<(l.length:Int):=by omega
     by_cases hv:c=36/\∃ h:k+1<(sA l).size,(sA l)[k+1]=123
     ·obtain⟨rfl,aa,y⟩:=hv;have j:=ZC aa;rw[y]at j;rw[g,j]at d;rw[M3]at d;have af:(sA l).extract (k+2) l.length=sA (l.drop (k+2)):=by rw[Jn,List.take_of_length_le (by rw[List.length_drop];omega)]
      have C:=I (Pm sb s nv T G S F (l.drop (k+2)) wr (H.o.below b.o) (by rw[List.length_drop];omega));have Q:=TZ s (l.drop (k+2));have ad:=U.o (l.drop (k+2));rw[List.length_drop]at Q;obtain⟨p,A⟩:=Qe ((Xi s (l.drop (k+2))).1);obtain⟨a,z⟩:=Qe ((Xi s (l.drop (k+2))).2);rw[A,z]at C d;rw[z]at Q;rw[A]at ad;have ap:=QN p;have b1:(((36:UInt8).toNat:Int)==36)=true:=rfl;have b2:∀ h:k+1<(sA l).size,(((sA l)[k+1]'h).toNat:Int)=123:=fun h=>by rw[y];rfl
      have ah:(k:Int)+1<(l.length:Int):=by omega
      by_cases h0:a=0
      ·subst h0;have i:Hid (fullL s l=(o++[36])++fullL s (l.drop (k+1))):=by show _=_;rw[n.o,g,j,d.o,if_pos rfl,List.append_assoc];rfl
       clear n d g j A z y;go_wp2_with (go_at_call 117;refine C.o.mono ?_;rintro e w2 ⟨rfl,u⟩;have B:=I (b.o.trans (u.mono b.o.size));clear u);go_roundg (l.length - (k+1))
       case measure=>omega
       case rel=>exact⟨k+1,o++[36],rfl,by omega,by go_num,by rw[K4],i.o,by rw[Ze];simp;omega,B.o⟩
      ·have ae:((a:Int)==0)=false:=by simp;omega
       have i:Hid (fullL s l=(o++p)++fullL s (l.drop (k+2+a))):=by
        show _=_
        rw[n.o,g,j,d.o,if_neg h0,List.append_assoc];show o++(p++fullL s ((36::123::l.drop (k+1+1)).drop (2+a)))=_
        rw[show 2+a=a+2 by omega];show o++(p++fullL s ((l.drop (k+1+1)).drop a))=_
        rw[List.drop_drop]
       clear n d g j A z y;go_wp2_with (go_at_call 117;refine C.o.mono ?_;rintro e w2 ⟨rfl,u⟩;have B:=I (b.o.trans (u.mono b.o.size));clear u);go_roundg (l.length - (k+2+a))
       case measure=>omega
       case rel=>exact⟨k+2+a,o++p,rfl,by omega,by go_num,by rw[K4],i.o,by rw[Ze];omega,B.o⟩
     ·have R:standL s (l.drop k)=([c],1):=by
       rw[Rc s,g]
       ·rfl
       ·intro e;apply hv;rw[g]at e;by_cases q:k+1<(sA l).size
        ·have j:=ZC q;rw[j]at e;have J:c=36/\(sA l)[k+1]=123:=by simpa using e
         exact⟨J.1,q,J.2⟩
        ·rw[Zb (show l.length<=k+1 by omega)]at e;simp at e
      have i:Hid (fullL s l=(o++[c])++fullL s (l.drop (k+1))):=by show _=_;rw[n.o,d.o,R,List.append_assoc,List.drop_drop]
      clear n d R g
      have X:(¬(k:Int)+1<(l.length:Int))\/((k:Int)+1<(l.length:Int)/\((c.toNat:Int)==36)=false)\/((k:Int)+1<(l.length:Int)/\((c.toNat:Int)==36)=true/\∃ h:k+1<(sA l).size,((((sA l)[k+1]'h).toNat:Int)==123)=false):=by
       by_cases q:k+1<l.length
       ·right;by_cases r:c=36
        ·right;refine⟨by omega,by rw[r];rfl,by omega,?_⟩;cases x:((((sA l)[k+1]'(by omega)).toNat:Int)==123)
         ·rfl
         ·exfalso;refine hv ⟨r,by omega,?_⟩;apply UInt8.toNat_inj.1;simp at x;show _=123
          omega
        ·left;refine⟨by omega,?_⟩;cases x:((c.toNat:Int)==36)
         ·rfl
         ·exfalso;refine r ?_;apply UInt8.toNat_inj.1;simp at x;show _=36
          omega
       ·left;omega
      clear hv;rcases X with q | ⟨q,r⟩ | ⟨q,r,x,h5⟩
      all_goals go_wp2
      all_goals go_roundg (l.length - (k+1))
      all_goals first|omega|exact⟨k+1,o++[c],rfl,by omega,by go_num,by rw[K4],i.o,by rw[Ze];simp;omega,b.o⟩
    ·have Y:k=l.length:=by omega
     subst Y;have i:Hid (fullL s l=o):=by show _=_;rw[n.o,Zb Ql,St,List.append_nil]
     have Z:¬(l.length:Int)<(l.length:Int):=by omega
     go_wp2;go_meet;exact⟨by rw[i.o],by rw[i.o];exact ac,b.o⟩
  case rest=>
   obtain⟨rfl,ag,N⟩:=hcut;have b:=I N;have ak:=QN (fullL s l);clear N;generalize fullL s l=f at *;by_cases h10:1024<f.length
   ·have V:(1024:Int)<(f.length:Int):=by omega
    have P:(sA f).extract 0 1024=sA (f.take 1024):=by rw[Jn];simp
    go_wp2;go_ret;exact⟨by rw[v.o];rfl,b.o⟩
   ·have V:¬(1024:Int)<(f.length:Int):=by omega
    go_wp2;go_ret;exact⟨by rw[v.o,List.take_of_length_le (by omega)];rfl,b.o⟩
def SB(w:World)(sb:Nat)(fr tt:L8)(sz:Int)(hv:Value)(vs:Bool)(nv vv cv av:Value)(kp en:Bool)(er pz:Int):Prop:=
 w.heap[sb]?=some (.cells #[.string (sA fr),.string (sA tt),.int .i64 sz,hv,.bool vs,nv,vv,cv,av,.bool kp,.bool en,.int .i64 er,.int .i64 pz] 104)
theorem M7(sb:Nat)(g k:L8)(sz:Int)(i:Value)(l:Bool)(nv m f d:Value)(j b:Bool)(a c e p:Int)(w:World)(h:SB w sb g k sz i l nv m f d j b a c) :
 Calls prog 46 #[.pointer (some ⟨sb,0,none⟩),.int .i64 e,.int .i64 p] w fun x w'=>x=.returned (.tuple #[])/\Mod sb w w'/\SB w' sb g k sz i l nv m f d j (if a=0 then true else b) (if a=0 then e else a) (if a=0 then p else c):=by
 have u:=fun o=>Qu h o
 have q:=Gt h;have r:=Gu h;have s:=NA h;have H:=I h;clear h;by_cases he:a=0
 ·subst he;go_enter func46,ntmps46;go_wp2;go_end0;exact⟨rfl,(((Mod.refl sb w).setCell _ _).setCell _ _).setCell _ _,Qt _ _ _ _ _ _ (Qt _ _ _ _ _ _ (Qt _ _ _ _ _ _ H.o))⟩
 ·have t:(a==0)=false:=by simpa using he
  have n:=I he;clear he;go_enter func46,ntmps46;go_wp2;go_end0;exact⟨rfl,Mod.refl sb w,H.o⟩
theorem Xt(h:w.ownsRow base e size v n xs)(k:Below w.heap.size w w'):w'.ownsRow base e size v n xs:=by
 obtain⟨f,a⟩:=h;refine⟨f,?_⟩;rcases a with a | ⟨g,c,d,l,i,b,r⟩
 ·exact Qd a
 ·have j:g<w.heap.size:=by
   rcases Nat.lt_or_ge g w.heap.size with h'|h'
   ·exact h'
   ·rw[Array.getElem?_eq_none h']at b;cases b
  exact Qc ⟨g,c,d,l,i,by rw[k.block g j];exact b,r⟩
theorem JI{B:Nat}{u:World}{o:Obj}{row:Option Nat}(h:Below B u w)(hB:B<=w.heap.size)(hg:(w.alloc o).grownBy w' row)(hr:∀ k,row=some k->B<=k):Below B u w':=
 (h.alloc hB o).grown hg (by simp;omega) hr
theorem RB(M:Msg){a:Qa}(h:k<a.length):envL M (a.drop k)=(if zL a[k]=[102,114,111,109]then [M.fr]else if zL a[k]=[116,111]then [M.to]else [])++envL M (a.drop (k+1)):=by
 rw[List.drop_eq_getElem_cons h];unfold envL;rw[List.flatMap_cons]
theorem PJ(sb:Nat)(M:Msg)(v:Value)(b:Qa)(w:World)(Q:w.cell? ⟨sb,0,none⟩=some (.string (sA M.fr)))(c1:w.cell? ⟨sb,1,none⟩=some (.string (sA M.to)))(h:∃ a c,v=.slice a b.length c/\∀ j (f:j<b.length),∃ g off,a=some ⟨g,off,none⟩/\w.cell? ⟨g,off+j,none⟩=some (.string (sA b[j])))(hn:b.length<=1000000)(W:∀ x∈b,x.length<=140737488355328) :
 Calls prog 73 #[.pointer (some ⟨sb,0,none⟩),v] w fun e w'=>∃ rv,e=.returned rv/\w'.ownsRow w.heap.size 9 1 rv (envL M b).length (Qv (envL M b))/\Below w.heap.size w w':=by
 obtain⟨a,c,rfl,T⟩:=h;have HC:=I T;have X:=Qq Q;have HS:=I W;clear T W;obtain⟨i0,U,aa,ab,ac⟩:=info_parts Tryz.infoStr;go_enter func73,ntmps73;go_wp2
 go_loopw [5,6] (fun ov P wr=>∃(k:Nat) (d:Qa),k<=b.length/\P=.int .i64 k/\wr.ownsRow w.heap.size 9 1 ov d.length (Qv d)/\d.length<=k/\envL M b=d++envL M (b.drop k)/\Below w.heap.size w wr) (fun _ P _=>b.length - (intOf P).toNat)
 case atStart=>exact⟨0,[],by omega,rfl,Zj,by simp,rfl,Below.refl _ _⟩
 case round=>
  obtain⟨k,d,D,rfl,V,aj,he,K⟩:=hrel;have H:=I V;have m:=I he;have E:=I K;have ai:=K.size;clear V he K;by_cases hlt:k<b.length
  ·obtain⟨g,off,rfl,N⟩:=HC.o k hlt;have J:wr.cell? ⟨g,off+k,none⟩=some (.string (sA b[k])):=by rw[E.o.cell (p:=⟨g,off+k,none⟩) (Qq N)];exact N
   have i:=I (RB M hlt);have C:=I (Yv b[k] wr (HS.o _ (List.getElem_mem hlt)));have ah:(k:Int)<(b.length:Int):=by omega
   obtain⟨x,Z⟩:=Qe (b[k]);rw[Z]at J i C;obtain⟨y,hy⟩:=Qe (zL x);rw[hy]at i C;have s:((sA y).toList==[102,114,111,109])=decide (y=[102,114,111,109]):=by rw[ByteArray.toList_eq];show(y==[102,114,111,109])=_;rw[Zo];simp
   have t:((sA y).toList==[116,111])=decide (y=[116,111]):=by rw[ByteArray.toList_eq];show(y==[116,111])=_;rw[Zo];simp
   clear N Z hy;go_wp2_with fail;refine C.o.mono ?_;rintro e B ⟨rfl,L⟩;have l:=Xt H.o L;have r:=I (E.o.trans (L.mono ai));have R:B.cell? ⟨sb,0,none⟩=some (.string (sA M.fr)):=by rw[r.o.cell (p:=⟨sb,0,none⟩) X];exact Q
   have S:B.cell? ⟨sb,1,none⟩=some (.string (sA M.to)):=by rw[r.o.cell (p:=⟨sb,1,none⟩) X];exact c1
   have Y:w.heap.size<=B.heap.size:=r.o.size;clear L H C;by_cases h1:y=[102,114,111,109]
   ·have n:Hid (envL M b=(d++[M.fr])++envL M (b.drop (k+1))):=by show _=_;rw[m.o,i.o,if_pos h1,List.append_assoc]
    subst h1;have ae:((sA [102,114,111,109]).toList==[102,114,111,109])=true:=s.trans (by decide);have af:((sA [102,114,111,109]).toList==[116,111])=false:=t.trans (by decide);clear s t i m;generalize sA [102,114,111,109]=yy at *;go_wp2_with (at_builtin;refine wpList_append_own _ rfl _ _ 61 rfl w.heap.size 9 i0 (.string ⟨#[]⟩) 1 16 underlying61 U aa ab ac rfl (by decide) _ _ _ rfl (l.alloc _) ⟨B.heap.size,0,none⟩ 1 1 [.string (sA M.fr)] rfl rfl ?c1 ?c2 ?c3 ?c4 ?c5 ?_)
    case c1=>
     intro j u f
     match j,f with
     |0,f=>simp at f;subst f;simp[Addr.add]
    case c2=>intro u A;simp at A;subst A;rfl
    case c3=>unfold maxLen;omega
    case c4=>omega
    case c5=>simp;omega
    ·intro v' w5 q z _;have F:=I (JI r.o Y z (fun k D=>(l.lt k D).1));rw[X0]at q;have G:=I q;clear q z l R S J;go_wp2;go_roundw
     case rel=>exact⟨k+1,d++[M.fr],by omega,by go_num,by simpa using G.o,by simp;omega,n.o,F.o⟩
     case measure=>simp[intOf];omega
   ·by_cases h2:y=[116,111]
    ·have n:Hid (envL M b=(d++[M.to])++envL M (b.drop (k+1))):=by show _=_;rw[m.o,i.o,if_neg h1,if_pos h2,List.append_assoc]
     subst h2;have ae:((sA [116,111]).toList==[102,114,111,109])=false:=s.trans (by decide);have af:((sA [116,111]).toList==[116,111])=true:=t.trans (by decide);clear s t i m h1;generalize sA [116,111]=yy at *;go_wp2_with (at_builtin;refine wpList_append_own _ rfl _ _ 61 rfl w.heap.size 9 i0 (.string ⟨#[]⟩) 1 16 underlying61 U aa ab ac rfl (by decide) _ _ _ rfl (l.alloc _) ⟨B.heap.size,0,none⟩ 1 1 [.string (sA M.to)] rfl rfl ?c1 ?c2 ?c3 ?c4 ?c5 ?_)
     case c1=>
      intro j u f
      match j,f with
      |0,f=>simp at f;subst f;simp[Addr.add]
     case c2=>intro u A;simp at A;subst A;rfl
     case c3=>unfold maxLen;omega
     case c4=>omega
     case c5=>simp;omega
     ·intro v' w5 q z _;have F:=I (JI r.o Y z (fun k D=>(l.lt k D).1));rw[X0]at q;have G:=I q;clear q z l R S J;go_wp2;go_roundw
      case rel=>exact⟨k+1,d++[M.to],by omega,by go_num,by simpa using G.o,by simp;omega,n.o,F.o⟩
      case measure=>simp[intOf];omega
    ·have n:Hid (envL M b=d++envL M (b.drop (k+1))):=by show _=_;rw[m.o,i.o,if_neg h1,if_neg h2];rfl
     rw[Qh h1]at s;rw[Qh h2]at t;have ad:=I l;clear h1 h2 i m l;go_wp2;go_roundw
     case rel=>exact⟨k+1,d,by omega,by go_num,ad.o,by omega,n.o,r.o⟩
     case measure=>simp[intOf];omega
  ·have ag:k=b.length:=by omega
   subst ag;have ah:¬(b.length:Int)<(b.length:Int):=by omega
   have n:Hid (envL M b=d):=by show _=_;rw[m.o,Zb Ql];exact List.append_nil _
   go_wp2;go_ret;exact⟨_,rfl,by rw[n.o];exact H.o,E.o⟩
def TxO(w:World)(v:Value)(xs:Qa):Prop:=∃ a c,v=.slice a xs.length c/\∀ j (hj:j<xs.length),∃ g off,a=some ⟨g,off,none⟩/\w.cell? ⟨g,off+j,none⟩=some (.string (sA xs[j]))
theorem TxL.toO{xs:Qa}(h:TxL w v xs):TxO w v xs:=by
 obtain⟨a,c,b,d⟩:=h.form;refine⟨a,c,b,fun j i=>?_⟩;obtain⟨g,e,f⟩:=d j i;exact⟨g,0,e,by rw[Nat.zero_add];exact f⟩
def UM(y:L8)(hs:List (L8×L8)):Qa:=(hs.filter (fun h=>decide (zL h.1=y))).map (·.2)
theorem PI(y:L8){a:List (L8×L8)}{j:Nat}(h:j<a.length):UM y (a.drop j)=(if zL a[j].1=y then [a[j].2]else [])++UM y (a.drop (j+1)):=by
 rw[List.drop_eq_getElem_cons h];unfold UM;by_cases e:zL a[j].1=y
 ·rw[List.filter_cons_of_pos (by simpa using e),if_pos e];rfl
 ·rw[List.filter_cons_of_neg (by simpa using e),if_neg e];rfl
theorem Ln(M:Msg)(s:SS){xs:Qa}(h:k<xs.length):fieldsL M ((xs.map (expL s)).drop k)=UM (zL (expL s xs[k])) M.hdrs++fieldsL M ((xs.map (expL s)).drop (k+1)):=by
 rw[List.drop_eq_getElem_cons (by simpa using h)];unfold fieldsL;rw[List.flatMap_cons,List.getElem_map];rfl
theorem V4(s:SS){l:L8}(h:l.length<=100000):(expL s l).length<=100000:=by
 cases hv:s.vs with
 |false=>unfold expL;rw[if_neg (by rw[hv];decide)];exact h
 |true=>rw[EY s l hv,List.length_take];omega
theorem B7(sb:Nat)(s:SS)(nv vv cv:Value)(ns vl:Qa)(M:Msg)(Z:Option Addr)(hq:Nat)(v:Value)(xs:Qa)(w:World)(h:Uj w sb s nv vv cv ns vl)(B:∀ t∈vl,t.length<=100000)(hT:∀ t∈s.told,t.length<=100000)(c3:w.cell? ⟨sb,3,none⟩=some (.slice Z M.hdrs.length hq))(hh:∀ j (C:j<M.hdrs.length),∃ g off,Z=some ⟨g,off,none⟩/\w.cell? ⟨g,off+j*2,none⟩=some (.string (sA M.hdrs[j].1))/\w.cell? ⟨g,off+j*2+1,none⟩=some (.string (sA M.hdrs[j].2)))(E:TxO w v xs)(aR:xs.length<=100000)(aw:∀ x∈xs,x.length<=100000)(aP:M.hdrs.length<=1000000)(ak:∀ h∈M.hdrs,h.1.length<=140737488355328) :
 Calls prog 71 #[.pointer (some ⟨sb,0,none⟩),v] w fun e w'=>∃ rv,e=.returned rv/\w'.ownsRow w.heap.size 9 1 rv (fieldsL M (xs.map (expL s))).length (Qv (fieldsL M (xs.map (expL s))))/\Below w.heap.size w w':=by
 obtain⟨a,c,rfl,hc⟩:=E;have HC:=I hc;have HH:=I hh;have ar:=Qq c3;have af:=I aw;have aA:=I ak;have az:=I (fun x (E:x.length<=100000) (u:World) (Q:Below w.heap.size w u)=>B9 sb s nv vv cv ns vl x u (h.below Q) E B hT);clear hc hh aw ak h B hT;obtain⟨i0,hi,aL,aM,aN⟩:=info_parts Tryz.infoStr;go_enter func71,ntmps71;go_wp2
 go_loopw [5,6,7,8] (fun ov iv _ _ wr=>∃(k:Nat) (l:Qa),k<=xs.length/\iv=.int .i64 k/\wr.ownsRow w.heap.size 9 1 ov l.length (Qv l)/\l.length<=k*1000000/\fieldsL M (xs.map (expL s))=l++fieldsL M ((xs.map (expL s)).drop k)/\Below w.heap.size w wr) (fun _ iv _ _ _=>xs.length - (intOf iv).toNat)
 case atStart=>exact⟨0,[],by omega,rfl,Zj,by simp,rfl,Below.refl _ _⟩
 case round=>
  obtain⟨k,l,hk,rfl,ap,aD,he,B⟩:=hrel;have V:=I ap;have U:=I he;have F:=I B;have aK:=B.size;clear ap he B;by_cases hlt:k<xs.length
  ·obtain⟨g,go,rfl,d⟩:=HC.o k hlt;have A:wr.cell? ⟨g,go+k,none⟩=some (.string (sA xs[k])):=by rw[F.o.cell (p:=⟨g,go+k,none⟩) (Qq d)];exact d
   have J:=I (Ln M s hlt);have N:=I (az.o xs[k] (af.o _ (List.getElem_mem hlt)) wr F.o);have ax:=V4 s (af.o _ (List.getElem_mem hlt));have aG:(k:Int)<(xs.length:Int):=by omega
   obtain⟨x,E⟩:=Qe (xs[k]);rw[E]at A J N ax;obtain⟨z,hz⟩:=Qe (expL s x);rw[hz]at J N ax;have W:=I (fun u=>Yv z u (by omega));obtain⟨y,hy⟩:=Qe (zL z);rw[hy]at J W;clear d E hy hz;go_wp2_with (first|(go_at_call 76;refine N.o.mono ?_;rintro e w1 ⟨rfl,X⟩;have ad:=I (Xt V.o X);have S:=I (F.o.trans (X.mono aK));have aI:=S.o.size;clear X)|(go_at_call 80;refine(W.o _).mono ?_;rintro e w2 ⟨rfl,Y⟩;have ae:=I (Xt ad.o Y);have T:=I (S.o.trans (Y.mono aI));have aQ:=T.o.size;clear Y))
   go_loopw [5,8] (fun ov jv wi=>∃(j:Nat) (b:Qa),j<=M.hdrs.length/\jv=.int .i64 j/\wi.ownsRow w.heap.size 9 1 ov b.length (Qv b)/\b.length<=k*1000000+j/\fieldsL M (xs.map (expL s))=b++(UM y (M.hdrs.drop j)++fieldsL M ((xs.map (expL s)).drop (k+1)))/\Below w.heap.size w wi) (fun _ jv _=>M.hdrs.length - (intOf jv).toNat)
   case atStart=>exact⟨0,l,QE,rfl,ae.o,Qs aD (Nat.le_add_right _ _),by rw[U.o,J.o,List.drop_zero],T.o⟩
   case round=>
    obtain⟨j,b,C,rfl,aq,aO,ag,P⟩:=hrel;have H:=I aq;have G:=I ag;have q:=I P;have av:=P.size;have d3:wr.cell? ⟨sb,3,none⟩=some (.slice Z M.hdrs.length hq):=by rw[P.cell (p:=⟨sb,3,none⟩) ar];exact c3
    clear aq ag P U J V F ad S ae T N W A;by_cases hlj:j<M.hdrs.length
    ·obtain⟨d,off,rfl,q1,R⟩:=HH.o j hlj;have A:wr.cell? ⟨d,off+j*2,none⟩=some (.string (sA M.hdrs[j].1)):=by rw[q.o.cell (p:=⟨d,off+j*2,none⟩) (Qq q1)];exact q1
     have q3:=Qq R;have r:=I (Yv M.hdrs[j].1 wr (aA.o _ (List.getElem_mem hlj)));have i:=I (PI y hlj);have aH:(j:Int)<(M.hdrs.length:Int):=by omega
     obtain⟨hn,aj⟩:=Qe (M.hdrs[j].1);obtain⟨D,ao⟩:=Qe (M.hdrs[j].2);rw[aj]at A r i;rw[ao]at R i;obtain⟨K,au⟩:=Qe (zL hn);rw[au]at r i;have Q2:=I R;have ah:((sA K).toList==(sA y).toList)=decide (K=y):=JL _ _;clear aj ao au q1 R;by_cases hs:K=y
     ·rw[Qw hs]at ah;have f:Hid (fieldsL M (xs.map (expL s))=(b++[D])++(UM y (M.hdrs.drop (j+1))++fieldsL M ((xs.map (expL s)).drop (k+1)))):=by show _=_;rw[G.o,i.o,if_pos hs];simp only[List.append_assoc]
      clear hs i G;go_wp2_with fail;refine r.o.mono ?_;rintro e L ⟨rfl,m⟩;have aa:=Xt H.o m;have n:=I (q.o.trans (m.mono av));have aJ:w.heap.size<=L.heap.size:=n.o.size;have b3:L.cell? ⟨sb,3,none⟩=some (.slice (some ⟨d,off,none⟩) M.hdrs.length hq):=by rw[n.o.cell (p:=⟨sb,3,none⟩) ar];exact c3
      have b2:L.cell? ⟨d,off+j*2+1,none⟩=some (.string (sA D)):=by rw[n.o.cell (p:=⟨d,off+j*2+1,none⟩) q3];exact Q2.o
      clear m A d3 q H r;go_wp2_with (at_builtin;refine wpList_append_own _ rfl _ _ 61 rfl w.heap.size 9 i0 (.string ⟨#[]⟩) 1 16 underlying61 hi aL aM aN rfl (by decide) _ _ _ rfl (aa.alloc _) ⟨L.heap.size,0,none⟩ 1 1 [.string (sA D)] rfl rfl ?c1 ?c2 ?c3 ?c4 ?c5 ?_)
      case c1=>
       intro j u C
       match j,C with
       |0,C=>simp at C;subst C;simp[Addr.add]
      case c2=>intro u Q;simp at Q;subst Q;rfl
      case c3=>unfold maxLen;omega
      case c4=>omega
      case c5=>simp;omega
      ·intro v' w5 ab ai _;have ay:=I (JI n.o aJ ai (fun k hk=>(aa.lt k hk).1));rw[X0]at ab;have aC:=I ab;clear ab ai aa b2 b3;go_wp2;go_roundw
       case rel=>exact⟨j+1,b++[D],by omega,by go_num,by simpa using aC.o,by simp;omega,f.o,ay.o⟩
       case measure=>simp[intOf];omega
     ·rw[Qh hs]at ah;have f:Hid (fieldsL M (xs.map (expL s))=b++(UM y (M.hdrs.drop (j+1))++fieldsL M ((xs.map (expL s)).drop (k+1)))):=by show _=_;rw[G.o,i.o,if_neg hs,List.nil_append]
      clear hs i G;go_wp2_with fail;refine r.o.mono ?_;rintro e L ⟨rfl,m⟩;have aB:=I (Xt H.o m);have n:=I (q.o.trans (m.mono av));clear m A d3 q H r;go_wp2;go_roundw
      case rel=>exact⟨j+1,b,by omega,by go_num,aB.o,by omega,f.o,n.o⟩
      case measure=>simp[intOf];omega
    ·have aE:j=M.hdrs.length:=by omega
     subst aE;have aH:¬(M.hdrs.length:Int)<(M.hdrs.length:Int):=by omega
     have f:Hid (fieldsL M (xs.map (expL s))=b++fieldsL M ((xs.map (expL s)).drop (k+1))):=by show _=_;rw[G.o,Zb Ql];rfl
     go_wp2;go_roundw
     case rel=>exact⟨k+1,b,by omega,by go_num,H.o,by omega,f.o,q.o⟩
     case measure=>simp[intOf];omega
  ·have aF:k=xs.length:=by omega
   subst aF;have aG:¬(xs.length:Int)<(xs.length:Int):=by omega
   have f:Hid (fieldsL M (xs.map (expL s))=l):=by show _=_;rw[U.o,Zb (by simp)];exact List.append_nil _
   go_wp2;go_ret;exact⟨_,rfl,by rw[f.o];exact V.o,F.o⟩
theorem Me(M:Msg)(s:SS){xs:Qa}(h:k<xs.length):existsL M ((xs.map (expL s)).drop k)=(decide ((fieldsL M ([xs[k]].map (expL s))).length≠0)&&existsL M ((xs.map (expL s)).drop (k+1))):=by
 rw[List.drop_eq_getElem_cons (by simpa using h)];unfold existsL;rw[List.all_cons,List.getElem_map];congr 1;unfold fieldsL;rw[Zo];simp[List.any_eq_true,List.filter_eq_nil_iff]
theorem SC(h:w.ownsRow base e size v n xs):∃ a c,v=.slice a n c:=by
 rcases h.2 with⟨b,d⟩ | ⟨g,i,j,f,_⟩
 ·exact⟨none,0,by rw[b,d]⟩
 ·exact⟨_,_,f⟩
theorem Lw(sb:Nat)(s:SS)(nv Q A:Value)(L q:Qa)(M:Msg)(m:Option Addr)(H:Nat)(a:Option Addr)(c:Nat)(xs:Qa)(w:World)(h:Uj w sb s nv Q A L q)(b:∀ t∈q,t.length<=100000)(C:∀ t∈s.told,t.length<=100000)(z:w.cell? ⟨sb,3,none⟩=some (.slice m M.hdrs.length H))(E:∀ j (hj:j<M.hdrs.length),∃ g off,m=some ⟨g,off,none⟩/\w.cell? ⟨g,off+j*2,none⟩=some (.string (sA M.hdrs[j].1))/\w.cell? ⟨g,off+j*2+1,none⟩=some (.string (sA M.hdrs[j].2)))(J:∀ j (hj:j<xs.length),∃ g off,a=some ⟨g,off,none⟩/\w.cell? ⟨g,off+j,none⟩=some (.string (sA xs[j])))(aa:xs.length<=c)(ab:xs.length<=100000)(K:∀ x∈xs,x.length<=100000)(S:M.hdrs.length<=1000000)(F:∀ h∈M.hdrs,h.1.length<=140737488355328) :
 Calls prog 74 #[.pointer (some ⟨sb,0,none⟩),.slice a xs.length c] w fun e w'=>e=.returned (.bool (existsL M (xs.map (expL s))))/\Below w.heap.size w w':=by
 have R:=I J;have V:=Qq z;have HFX:=I (fun(v:Value) (x:L8) (u:World) (hu:Below w.heap.size w u) (hv:TxO u v [x]) (hxx:x.length<=100000)=>B7 sb s nv Q A L q M m H v [x] u (h.below hu) b C (by rw[hu.cell (p:=⟨sb,3,none⟩) V];exact z) (fun j hj=>by obtain⟨g,off,e,N,P⟩:=E j hj;exact⟨g,off,e,by rw[hu.cell (p:=⟨g,off+j*2,none⟩) (Qq N)];exact N,by rw[hu.cell (p:=⟨g,off+j*2+1,none⟩) (Qq P)];exact P⟩) hv (by simp) (fun y X=>by rw[XH X];exact hxx) S F);have HXS:=I K;clear E K F J h b C;go_enter func74,ntmps74;go_wp2
 go_loopw [5] (fun n wr=>∃(k:Nat),k<=xs.length/\n=.int .i64 k/\existsL M (xs.map (expL s))=existsL M ((xs.map (expL s)).drop k)/\Below w.heap.size w wr) (fun n _=>xs.length - (intOf n).toNat)
 case atStart=>exact⟨0,QE,rfl,rfl,Below.refl _ _⟩
 case round=>
  obtain⟨k,Z,rfl,he,b⟩:=hrel;have f:=I he;have HB:=I b;have W:=b.size;clear he b;by_cases hlt:k<xs.length
  ·obtain⟨g,go,rfl,hg⟩:=R.o k hlt;have i:=I (Me M s hlt)
   have HFK:=I (fun cc (v:Value) (hv:v=.slice (some ⟨g,go+k,none⟩) 1 cc)=>HFX.o v xs[k] wr HB.o ⟨_,cc,hv,fun j hj=>by
    obtain rfl:j=0:=by simp at hj;exact hj
    exact ⟨g,go+k,rfl,by rw [Nat.add_zero,HB.o.cell (p:=⟨g,go+k,none⟩) (Qq hg)];exact hg⟩⟩ (HXS.o _ (List.getElem_mem hlt)))
   have U:(k:Int)<(xs.length:Int):=by omega
   have Y:(k:Int)+1<=(c:Int):=by omega
   obtain⟨l,D⟩:=Qe (fieldsL M ([xs[k]].map (expL s)));rw[D]at i HFK;clear D hg;go_wp2_with (go_at_call 71;refine(HFK.o _ _ rfl).mono ?_;rintro e w1 ⟨rv,rfl,G,B⟩;have r:=I (HB.o.trans (B.mono W));obtain⟨ra,rc,rfl⟩:=SC G;clear B G;by_cases hz:l.length=0)
   ·have d:Hid (existsL M (xs.map (expL s))=false):=by show _=_;rw[f.o,i.o,Qh (by simpa using hz),Bool.false_and]
    go_ret;exact⟨by rw[d.o];rfl,r.o⟩
   ·have d:Hid (existsL M (xs.map (expL s))=existsL M ((xs.map (expL s)).drop (k+1))):=by show _=_;rw[f.o,i.o,Qw hz,Bool.true_and]
    exact⟨⟨k+1,by omega,by go_num,d.o,r.o⟩,by simp[intOf];omega⟩
  ·have T:k=xs.length:=by omega
   subst T;have U:¬(xs.length:Int)<(xs.length:Int):=by omega
   have d:Hid (existsL M (xs.map (expL s))=true):=by show _=_;rw[f.o,Zb (by simp)];rfl
   go_wp2;go_ret;exact⟨by rw[d.o];rfl,HB.o⟩
end Go.Proofs.YtgnkjijocdmniaaGreatDoor
