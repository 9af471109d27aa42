import Derived.Test.YtgnkjijocdmniaaGreatDoorZQMatch
namespace Go.Proofs.YtgnkjijocdmniaaGreatDoor
set_option linter.unusedVariables false
set_option linter.unusedSimpArgs false
set_option maxRecDepth 100000
set_option maxHeartbeats 4000000
open Go.Proofs.Tryz
variable{base k n size:Nat}{e:TypeId}{v:Value}{w w':World}{xs:List Value}
section
open Go.RowKit
attribute [local go_sem ↓] Go.wp_at_zero Go.wp_at_succ
theorem Qx4(s:SS)(r:L8):(XE s r).2<=r.length:=by
 have a:r.idxOf 125<=r.length:=List.idxOf_le_length;unfold XE;split
 ·exact QC
 ·split
  ·rename_i h1 h2;show 2<=_;omega
  ·split
   ·show r.idxOf 125+1<=_;omega
   ·exact QC
theorem H8:∀(b a:Qa) (x v:L8),lookV b a x=some v->v∈a
 | [],_,_,_,h=>by cases h
 |_::_,[],_,_,h=>by cases h
 |n::b,w::a,x,v,h=>by
  unfold lookV at h;by_cases e:n=x
  ·rw[if_pos e]at h;rw[<-Option.some.inj h];simp
  ·rw[if_neg e]at h;exact List.mem_cons_of_mem _ (H8 b a x v h)
theorem QvQ{s:SS}{b a:Qa}(e:∀ x,s.vals x=lookV b a x)(c:∀ t∈a,t.length<=100000)(d:∀ t∈s.told,t.length<=100000)(r:L8):(XE s r).1.length<=100000:=by
 unfold XE;split
 ·exact QC
 ·split
  ·show(s.told.getD _ []).length<=_
   rw[List.getD_eq_getElem?_getD]
   cases h:s.told[(r.headD 0).toNat - 48]? with
   |none=>exact QC
   |some t=>exact d t (List.mem_of_getElem? h)
  ·split
   ·show((s.vals _).getD []).length<=_
    rw[e]
    cases h:lookV b a (zL (r.take (r.idxOf 125)))with
    |none=>exact QC
    |some t=>exact c t (H8 _ _ _ _ h)
   ·exact QC
theorem F8(sb:Nat)(s:SS)(nv S cv:Value)(R F:Qa)(l:L8)(w:World)(h:UE w sb s nv S cv R F)(hl:l.length<=100000)(J:∀ t∈F,t.length<=100000)(L:∀ t∈s.told,t.length<=100000) :
 Calls prog 76 #[.pointer (some ⟨sb,0,none⟩),.string (sA l)] w fun e w'=>e=.returned (.string (sA (expL s l)))/\Below w.heap.size w w':=by
 have hz:=Zr l;have H:=I h;have D:=h.c4;have ah:=QI D;have T:=I (QvQ h.vals J L);clear h J L
 cases hvs:s.vs with
 |false=>
  rw[hvs]at D;have v:Hid (expL s l=l):=by show _=_;unfold expL;rw[if_neg (by rw[hvs];decide)]
  go_enter func76,ntmps76;go_wp2;go_ret;exact⟨by rw[v.o];rfl,Below.refl _ _⟩
 |true=>
  rw[hvs]at D;have v:=I (Ex s l hvs);clear hvs;go_enter func76,ntmps76;go_upto_block 0 with fail
  go_cut [5] (fun E wx=>E=.string (sA (fullL s l))/\(fullL s l).length<=10000100000/\Below w.heap.size w wx)
  case first=>
   go_wp2_with fail
   go_loopg [5,6,7,8] l.length (fun m E iv _ _ wr=>∃(k:Nat) (o:L8),m=l.length - k/\k<=l.length/\iv=.int .i64 k/\E=.string (sA o)/\fullL s l=o++fullL s (l.drop k)/\o.length<=k*100001/\Below w.heap.size w wr)
   case atStart=>exact⟨0,[],by omega,by omega,rfl,rfl,rfl,by simp,Below.refl _ _⟩
   case round=>
    obtain⟨k,o,rfl,hk,rfl,rfl,hF,ho,K⟩:=hrel;have n:=I hF;have b:=I K;have ak:=Zr o;clear hF K;have ab:o.length<=10000100000:=by omega
    by_cases hlt:k<(sA l).size
    ·have aa:l.drop k≠[]:=by intro e;have:=congrArg List.length e;rw[List.length_drop,Q4]at this;omega
     have d:=I (PK s aa);have g:=ZQ hlt;have N:=BZ hlt;obtain⟨c,V⟩:=Qf ((sA l)[k]);rw[V]at g N;have ai:(sA [c]).size=1:=rfl;have Y:(k:Int)<(l.length:Int):=by omega
     by_cases hv:c=36/\∃ h:k+1<(sA l).size,(sA l)[k+1]=123
     ·obtain⟨rfl,Z,y⟩:=hv;have j:=ZQ Z;rw[y]at j;rw[g,j]at d;rw[Py]at d;have ae:(sA l).extract (k+2) l.length=sA (l.drop (k+2)):=by rw[Kg,List.take_of_length_le (by rw[List.length_drop];omega)]
      have C:=I (PI sb s nv S cv R F (l.drop (k+2)) wr (H.o.below b.o) (by rw[List.length_drop];omega));have P:=Qx4 s (l.drop (k+2));have ac:=T.o (l.drop (k+2));rw[List.length_drop]at P;obtain⟨p,A⟩:=Qf ((XE s (l.drop (k+2))).1);obtain⟨a,z⟩:=Qf ((XE s (l.drop (k+2))).2);rw[A,z]at C d;rw[z]at P;rw[A]at ac;have ao:=Zr p;have b1:(((36:UInt8).toNat:Int)==36)=true:=rfl;have b2:∀ h:k+1<(sA l).size,(((sA l)[k+1]'h).toNat:Int)=123:=fun h=>by rw[y];rfl
      have ag:(k:Int)+1<(l.length:Int):=by omega
      by_cases h0:a=0
      ·subst h0;have i:Hid (fullL s l=(o++[36])++fullL s (l.drop (k+1))):=by show _=_;rw[n.o,g,j,d.o,if_pos rfl,List.append_assoc];rfl
       clear n d g j A z y;go_wp2_with (go_at_call 117;refine C.o.mono ?_;rintro e w2 ⟨rfl,u⟩;have B:=I (b.o.trans (u.mono b.o.size));clear u);go_roundg (l.length - (k+1))
       case measure=>omega
       case rel=>exact⟨k+1,o++[36],rfl,by omega,by go_num,by rw[Ul],i.o,by rw[Qk];simp;omega,B.o⟩
      ·have ad:((a:Int)==0)=false:=by simp;omega
       have i:Hid (fullL s l=(o++p)++fullL s (l.drop (k+2+a))):=by
        show _=_
        rw[n.o,g,j,d.o,if_neg h0,List.append_assoc];show o++(p++fullL s ((36::123::l.drop (k+1+1)).drop (2+a)))=_
        rw[show 2+a=a+2 by omega];show o++(p++fullL s ((l.drop (k+1+1)).drop a))=_
        rw[List.drop_drop]
       clear n d g j A z y;go_wp2_with (go_at_call 117;refine C.o.mono ?_;rintro e w2 ⟨rfl,u⟩;have B:=I (b.o.trans (u.mono b.o.size));clear u);go_roundg (l.length - (k+2+a))
       case measure=>omega
       case rel=>exact⟨k+2+a,o++p,rfl,by omega,by go_num,by rw[Ul],i.o,by rw[Qk];omega,B.o⟩
     ·have Q:Yq s (l.drop k)=([c],1):=by
       rw[PL s,g]
       ·rfl
       ·intro e;apply hv;rw[g]at e;by_cases q:k+1<(sA l).size
        ·have j:=ZQ q;rw[j]at e;have G:c=36/\(sA l)[k+1]=123:=by simpa using e
         exact⟨G.1,q,G.2⟩
        ·rw[Zi (show l.length<=k+1 by omega)]at e;simp at e
      have i:Hid (fullL s l=(o++[c])++fullL s (l.drop (k+1))):=by show _=_;rw[n.o,d.o,Q,List.append_assoc,List.drop_drop]
      clear n d Q g
      have W:(¬(k:Int)+1<(l.length:Int))\/((k:Int)+1<(l.length:Int)/\((c.toNat:Int)==36)=false)\/((k:Int)+1<(l.length:Int)/\((c.toNat:Int)==36)=true/\∃ h:k+1<(sA l).size,((((sA l)[k+1]'h).toNat:Int)==123)=false):=by
       by_cases q:k+1<l.length
       ·right;by_cases r:c=36
        ·right;refine⟨by omega,by rw[r];rfl,by omega,?_⟩;cases x:((((sA l)[k+1]'(by omega)).toNat:Int)==123)
         ·rfl
         ·exfalso;refine hv ⟨r,by omega,?_⟩;apply UInt8.toNat_inj.1;simp at x;show _=123
          omega
        ·left;refine⟨by omega,?_⟩;cases x:((c.toNat:Int)==36)
         ·rfl
         ·exfalso;refine r ?_;apply UInt8.toNat_inj.1;simp at x;show _=36
          omega
       ·left;omega
      clear hv;rcases W with q | ⟨q,r⟩ | ⟨q,r,x,h5⟩
      all_goals go_wp2
      all_goals go_roundg (l.length - (k+1))
      all_goals first|omega|exact⟨k+1,o++[c],rfl,by omega,by go_num,by rw[Ul],i.o,by rw[Qk];simp;omega,b.o⟩
    ·have X:k=l.length:=by omega
     subst X;have i:Hid (fullL s l=o):=by show _=_;rw[n.o,Zi Qt,PJ,List.append_nil]
     have Y:¬(l.length:Int)<(l.length:Int):=by omega
     go_wp2;go_meet;exact⟨by rw[i.o],by rw[i.o];exact ab,b.o⟩
  case rest=>
   obtain⟨rfl,af,M⟩:=hcut;have b:=I M;have aj:=Zr (fullL s l);clear M;generalize fullL s l=f at *;by_cases h10:1024<f.length
   ·have U:(1024:Int)<(f.length:Int):=by omega
    have N:(sA f).extract 0 1024=sA (f.take 1024):=by rw[Kg];simp
    go_wp2;go_ret;exact⟨by rw[v.o];rfl,b.o⟩
   ·have U:¬(1024:Int)<(f.length:Int):=by omega
    go_wp2;go_ret;exact⟨by rw[v.o,List.take_of_length_le (by omega)];rfl,b.o⟩
def SB(w:World)(sb:Nat)(fr tt:L8)(sz:Int)(hv:Value)(vs:Bool)(nv vv cv av:Value)(kp en:Bool)(er pz:Int):Prop:=
 w.heap[sb]?=some (.cells #[.string (sA fr),.string (sA tt),.int .i64 sz,hv,.bool vs,nv,vv,cv,av,.bool kp,.bool en,.int .i64 er,.int .i64 pz] 104)
theorem WF(sb:Nat)(f j:L8)(sz:Int)(g:Value)(k:Bool)(nv l cv d:Value)(i b:Bool)(a c e p:Int)(w:World)(h:SB w sb f j sz g k nv l cv d i b a c) :
 Calls prog 46 #[.pointer (some ⟨sb,0,none⟩),.int .i64 e,.int .i64 p] w fun x w'=>x=.returned (.tuple #[])/\Mod sb w w'/\SB w' sb f j sz g k nv l cv d i (if a=0 then true else b) (if a=0 then e else a) (if a=0 then p else c):=by
 have t:=fun o=>Qz h o
 have n:=Nv h;have q:=Nw h;have r:=AY h;have H:=I h;clear h;by_cases he:a=0
 ·subst he;go_enter func46,ntmps46;go_wp2;go_end0;exact⟨rfl,(((Mod.refl sb w).setCell _ _).setCell _ _).setCell _ _,Qv _ _ _ _ _ _ (Qv _ _ _ _ _ _ (Qv _ _ _ _ _ _ H.o))⟩
 ·have s:(a==0)=false:=by simpa using he
  have m:=I he;clear he;go_enter func46,ntmps46;go_wp2;go_end0;exact⟨rfl,Mod.refl sb w,H.o⟩
theorem YV(h:w.ownsRow base e size v n xs)(k:Below w.heap.size w w'):w'.ownsRow base e size v n xs:=by
 obtain⟨f,a⟩:=h;refine⟨f,?_⟩;rcases a with a | ⟨g,c,d,l,i,b,r⟩
 ·exact Qd a
 ·have j:g<w.heap.size:=by
   rcases Nat.lt_or_ge g w.heap.size with h'|h'
   ·exact h'
   ·rw[Array.getElem?_eq_none h']at b;cases b
  exact Qc ⟨g,c,d,l,i,by rw[k.block g j];exact b,r⟩
theorem Ke{B:Nat}{u:World}{o:Obj}{row:Option Nat}(h:Below B u w)(hB:B<=w.heap.size)(hg:(w.alloc o).grownBy w' row)(hr:∀ k,row=some k->B<=k):Below B u w':=
 (h.alloc hB o).grown hg (by simp;omega) hr
theorem Qw1(M:Msg){a:Qa}(h:k<a.length):envL M (a.drop k)=(if zL a[k]=[102,114,111,109]then [M.fr]else if zL a[k]=[116,111]then [M.to]else [])++envL M (a.drop (k+1)):=by
 rw[List.drop_eq_getElem_cons h];unfold envL;rw[List.flatMap_cons]
theorem Hz(sb:Nat)(M:Msg)(v:Value)(b:Qa)(w:World)(Q:w.cell? ⟨sb,0,none⟩=some (.string (sA M.fr)))(c1:w.cell? ⟨sb,1,none⟩=some (.string (sA M.to)))(h:∃ a c,v=.slice a b.length c/\∀ j (f:j<b.length),∃ g off,a=some ⟨g,off,none⟩/\w.cell? ⟨g,off+j,none⟩=some (.string (sA b[j])))(hn:b.length<=1000000)(W:∀ x∈b,x.length<=140737488355328) :
 Calls prog 73 #[.pointer (some ⟨sb,0,none⟩),v] w fun e w'=>∃ rv,e=.returned rv/\w'.ownsRow w.heap.size 9 1 rv (envL M b).length (Qw (envL M b))/\Below w.heap.size w w':=by
 obtain⟨a,c,rfl,T⟩:=h;have HC:=I T;have X:=QI Q;have HS:=I W;clear T W;obtain⟨i0,U,aa,ab,ac⟩:=info_parts Tryz.infoStr;go_enter func73,ntmps73;go_wp2
 go_loopw [5,6] (fun ov P wr=>∃(k:Nat) (d:Qa),k<=b.length/\P=.int .i64 k/\wr.ownsRow w.heap.size 9 1 ov d.length (Qw d)/\d.length<=k/\envL M b=d++envL M (b.drop k)/\Below w.heap.size w wr) (fun _ P _=>b.length - (intOf P).toNat)
 case atStart=>exact⟨0,[],by omega,rfl,World.ownsRow_nil _ _ _ _,by simp,rfl,Below.refl _ _⟩
 case round=>
  obtain⟨k,d,D,rfl,V,aj,he,K⟩:=hrel;have H:=I V;have m:=I he;have E:=I K;have ai:=K.size;clear V he K;by_cases hlt:k<b.length
  ·obtain⟨g,off,rfl,N⟩:=HC.o k hlt;have J:wr.cell? ⟨g,off+k,none⟩=some (.string (sA b[k])):=by rw[E.o.cell (p:=⟨g,off+k,none⟩) (QI N)];exact N
   have i:=I (Qw1 M hlt);have C:=I (Y6 b[k] wr (HS.o _ (List.getElem_mem hlt)));have ah:(k:Int)<(b.length:Int):=by omega
   obtain⟨x,Z⟩:=Qf (b[k]);rw[Z]at J i C;obtain⟨y,hy⟩:=Qf (zL x);rw[hy]at i C;have s:((sA y).toList==[102,114,111,109])=decide (y=[102,114,111,109]):=by rw[ByteArray.toList_eq];show(y==[102,114,111,109])=_;rw[Zh];simp
   have t:((sA y).toList==[116,111])=decide (y=[116,111]):=by rw[ByteArray.toList_eq];show(y==[116,111])=_;rw[Zh];simp
   clear N Z hy;go_wp2_with fail;refine C.o.mono ?_;rintro e B ⟨rfl,L⟩;have l:=YV H.o L;have r:=I (E.o.trans (L.mono ai));have R:B.cell? ⟨sb,0,none⟩=some (.string (sA M.fr)):=by rw[r.o.cell (p:=⟨sb,0,none⟩) X];exact Q
   have S:B.cell? ⟨sb,1,none⟩=some (.string (sA M.to)):=by rw[r.o.cell (p:=⟨sb,1,none⟩) X];exact c1
   have Y:w.heap.size<=B.heap.size:=r.o.size;clear L H C;by_cases h1:y=[102,114,111,109]
   ·have n:Hid (envL M b=(d++[M.fr])++envL M (b.drop (k+1))):=by show _=_;rw[m.o,i.o,if_pos h1,List.append_assoc]
    subst h1;have ae:((sA [102,114,111,109]).toList==[102,114,111,109])=true:=s.trans (by decide);have af:((sA [102,114,111,109]).toList==[116,111])=false:=t.trans (by decide);clear s t i m;generalize sA [102,114,111,109]=yy at *;go_wp2_with (at_builtin;refine wpList_append_own _ rfl _ _ 61 rfl w.heap.size 9 i0 (.string ⟨#[]⟩) 1 16 underlying61 U aa ab ac rfl (by decide) _ _ _ rfl (l.alloc _) ⟨B.heap.size,0,none⟩ 1 1 [.string (sA M.fr)] rfl rfl ?c1 ?c2 ?c3 ?c4 ?c5 ?_)
    case c1=>
     intro j u f
     match j,f with
     |0,f=>simp at f;subst f;simp[Addr.add]
    case c2=>intro u A;simp at A;subst A;rfl
    case c3=>unfold maxLen;omega
    case c4=>omega
    case c5=>simp;omega
    ·intro v' w5 q z _;have F:=I (Ke r.o Y z (fun k D=>(l.lt k D).1));rw[Jz]at q;have G:=I q;clear q z l R S J;go_wp2;go_roundw
     case rel=>exact⟨k+1,d++[M.fr],by omega,by go_num,by simpa using G.o,by simp;omega,n.o,F.o⟩
     case measure=>simp[intOf];omega
   ·by_cases h2:y=[116,111]
    ·have n:Hid (envL M b=(d++[M.to])++envL M (b.drop (k+1))):=by show _=_;rw[m.o,i.o,if_neg h1,if_pos h2,List.append_assoc]
     subst h2;have ae:((sA [116,111]).toList==[102,114,111,109])=false:=s.trans (by decide);have af:((sA [116,111]).toList==[116,111])=true:=t.trans (by decide);clear s t i m h1;generalize sA [116,111]=yy at *;go_wp2_with (at_builtin;refine wpList_append_own _ rfl _ _ 61 rfl w.heap.size 9 i0 (.string ⟨#[]⟩) 1 16 underlying61 U aa ab ac rfl (by decide) _ _ _ rfl (l.alloc _) ⟨B.heap.size,0,none⟩ 1 1 [.string (sA M.to)] rfl rfl ?c1 ?c2 ?c3 ?c4 ?c5 ?_)
     case c1=>
      intro j u f
      match j,f with
      |0,f=>simp at f;subst f;simp[Addr.add]
     case c2=>intro u A;simp at A;subst A;rfl
     case c3=>unfold maxLen;omega
     case c4=>omega
     case c5=>simp;omega
     ·intro v' w5 q z _;have F:=I (Ke r.o Y z (fun k D=>(l.lt k D).1));rw[Jz]at q;have G:=I q;clear q z l R S J;go_wp2;go_roundw
      case rel=>exact⟨k+1,d++[M.to],by omega,by go_num,by simpa using G.o,by simp;omega,n.o,F.o⟩
      case measure=>simp[intOf];omega
    ·have n:Hid (envL M b=d++envL M (b.drop (k+1))):=by show _=_;rw[m.o,i.o,if_neg h1,if_neg h2];rfl
     rw[Qr h1]at s;rw[Qr h2]at t;have ad:=I l;clear h1 h2 i m l;go_wp2;go_roundw
     case rel=>exact⟨k+1,d,by omega,by go_num,ad.o,by omega,n.o,r.o⟩
     case measure=>simp[intOf];omega
  ·have ag:k=b.length:=by omega
   subst ag;have ah:¬(b.length:Int)<(b.length:Int):=by omega
   have n:Hid (envL M b=d):=by show _=_;rw[m.o,Zi Qt];exact List.append_nil _
   go_wp2;go_ret;exact⟨_,rfl,by rw[n.o];exact H.o,E.o⟩
theorem Lp(sb:Nat)(M:Msg)(v:Value)(b:Qa)(w:World)(d:w.cell? ⟨sb,0,none⟩=some (.string (sA M.fr)))(f:w.cell? ⟨sb,1,none⟩=some (.string (sA M.to)))(h:TxL w v b)(n:b.length<=1000000)(o:∀ x∈b,x.length<=140737488355328) :
 Calls prog 73 #[.pointer (some ⟨sb,0,none⟩),v] w fun e w'=>∃ rv,e=.returned rv/\w'.ownsRow w.heap.size 9 1 rv (envL M b).length (Qw (envL M b))/\Below w.heap.size w w':=by
 obtain⟨a,c,i,k⟩:=h.form;exact Hz sb M v b w d f ⟨a,c,i,fun j m=>by obtain⟨g,e,l⟩:=k j m;exact⟨g,0,e,by rw[Nat.zero_add];exact l⟩⟩ n o
def TxO(w:World)(v:Value)(xs:Qa):Prop:=∃ a c,v=.slice a xs.length c/\∀ j (hj:j<xs.length),∃ g off,a=some ⟨g,off,none⟩/\w.cell? ⟨g,off+j,none⟩=some (.string (sA xs[j]))
theorem TxL.toO{xs:Qa}(h:TxL w v xs):TxO w v xs:=by
 obtain⟨a,c,b,d⟩:=h.form;refine⟨a,c,b,fun j i=>?_⟩;obtain⟨g,e,f⟩:=d j i;exact⟨g,0,e,by rw[Nat.zero_add];exact f⟩
def Vs(y:L8)(hs:List (L8×L8)):Qa:=(hs.filter (fun h=>decide (zL h.1=y))).map (·.2)
theorem Qvc(y:L8){a:List (L8×L8)}{j:Nat}(h:j<a.length):Vs y (a.drop j)=(if zL a[j].1=y then [a[j].2]else [])++Vs y (a.drop (j+1)):=by
 rw[List.drop_eq_getElem_cons h];unfold Vs;by_cases e:zL a[j].1=y
 ·rw[List.filter_cons_of_pos (by simpa using e),if_pos e];rfl
 ·rw[List.filter_cons_of_neg (by simpa using e),if_neg e];rfl
theorem QoN(M:Msg)(s:SS){xs:Qa}(h:k<xs.length):fieldsL M ((xs.map (expL s)).drop k)=Vs (zL (expL s xs[k])) M.hdrs++fieldsL M ((xs.map (expL s)).drop (k+1)):=by
 rw[List.drop_eq_getElem_cons (by simpa using h)];unfold fieldsL;rw[List.flatMap_cons,List.getElem_map];rfl
theorem VI(s:SS){l:L8}(h:l.length<=100000):(expL s l).length<=100000:=by
 cases hv:s.vs with
 |false=>unfold expL;rw[if_neg (by rw[hv];decide)];exact h
 |true=>rw[Ex s l hv,List.length_take];omega
theorem F9(sb:Nat)(s:SS)(nv vv cv:Value)(ns vl:Qa)(M:Msg)(Z:Option Addr)(hq:Nat)(v:Value)(xs:Qa)(w:World)(h:UE w sb s nv vv cv ns vl)(B:∀ t∈vl,t.length<=100000)(hT:∀ t∈s.told,t.length<=100000)(c3:w.cell? ⟨sb,3,none⟩=some (.slice Z M.hdrs.length hq))(hh:∀ j (C:j<M.hdrs.length),∃ g off,Z=some ⟨g,off,none⟩/\w.cell? ⟨g,off+j*2,none⟩=some (.string (sA M.hdrs[j].1))/\w.cell? ⟨g,off+j*2+1,none⟩=some (.string (sA M.hdrs[j].2)))(E:TxO w v xs)(aR:xs.length<=100000)(aw:∀ x∈xs,x.length<=100000)(aP:M.hdrs.length<=1000000)(ak:∀ h∈M.hdrs,h.1.length<=140737488355328) :
 Calls prog 71 #[.pointer (some ⟨sb,0,none⟩),v] w fun e w'=>∃ rv,e=.returned rv/\w'.ownsRow w.heap.size 9 1 rv (fieldsL M (xs.map (expL s))).length (Qw (fieldsL M (xs.map (expL s))))/\Below w.heap.size w w':=by
 obtain⟨a,c,rfl,hc⟩:=E;have HC:=I hc;have HH:=I hh;have ar:=QI c3;have af:=I aw;have aA:=I ak;have az:=I (fun x (E:x.length<=100000) (u:World) (Q:Below w.heap.size w u)=>F8 sb s nv vv cv ns vl x u (h.below Q) E B hT);clear hc hh aw ak h B hT;obtain⟨i0,hi,aL,aM,aN⟩:=info_parts Tryz.infoStr;go_enter func71,ntmps71;go_wp2
 go_loopw [5,6,7,8] (fun ov iv _ _ wr=>∃(k:Nat) (l:Qa),k<=xs.length/\iv=.int .i64 k/\wr.ownsRow w.heap.size 9 1 ov l.length (Qw l)/\l.length<=k*1000000/\fieldsL M (xs.map (expL s))=l++fieldsL M ((xs.map (expL s)).drop k)/\Below w.heap.size w wr) (fun _ iv _ _ _=>xs.length - (intOf iv).toNat)
 case atStart=>exact⟨0,[],by omega,rfl,World.ownsRow_nil _ _ _ _,by simp,rfl,Below.refl _ _⟩
 case round=>
  obtain⟨k,l,hk,rfl,ap,aD,he,B⟩:=hrel;have V:=I ap;have U:=I he;have F:=I B;have aK:=B.size;clear ap he B;by_cases hlt:k<xs.length
  ·obtain⟨g,go,rfl,d⟩:=HC.o k hlt;have A:wr.cell? ⟨g,go+k,none⟩=some (.string (sA xs[k])):=by rw[F.o.cell (p:=⟨g,go+k,none⟩) (QI d)];exact d
   have J:=I (QoN M s hlt);have N:=I (az.o xs[k] (af.o _ (List.getElem_mem hlt)) wr F.o);have ax:=VI s (af.o _ (List.getElem_mem hlt));have aG:(k:Int)<(xs.length:Int):=by omega
   obtain⟨x,E⟩:=Qf (xs[k]);rw[E]at A J N ax;obtain⟨z,hz⟩:=Qf (expL s x);rw[hz]at J N ax;have W:=I (fun u=>Y6 z u (by omega));obtain⟨y,hy⟩:=Qf (zL z);rw[hy]at J W;clear d E hy hz;go_wp2_with (first|(go_at_call 76;refine N.o.mono ?_;rintro e w1 ⟨rfl,X⟩;have ad:=I (YV V.o X);have S:=I (F.o.trans (X.mono aK));have aI:=S.o.size;clear X)|(go_at_call 80;refine(W.o _).mono ?_;rintro e w2 ⟨rfl,Y⟩;have ae:=I (YV ad.o Y);have T:=I (S.o.trans (Y.mono aI));have aQ:=T.o.size;clear Y))
   go_loopw [5,8] (fun ov jv wi=>∃(j:Nat) (b:Qa),j<=M.hdrs.length/\jv=.int .i64 j/\wi.ownsRow w.heap.size 9 1 ov b.length (Qw b)/\b.length<=k*1000000+j/\fieldsL M (xs.map (expL s))=b++(Vs y (M.hdrs.drop j)++fieldsL M ((xs.map (expL s)).drop (k+1)))/\Below w.heap.size w wi) (fun _ jv _=>M.hdrs.length - (intOf jv).toNat)
   case atStart=>exact⟨0,l,QC,rfl,ae.o,Qm aD (Nat.le_add_right _ _),by rw[U.o,J.o,List.drop_zero],T.o⟩
   case round=>
    obtain⟨j,b,C,rfl,aq,aO,ag,P⟩:=hrel;have H:=I aq;have G:=I ag;have q:=I P;have av:=P.size;have d3:wr.cell? ⟨sb,3,none⟩=some (.slice Z M.hdrs.length hq):=by rw[P.cell (p:=⟨sb,3,none⟩) ar];exact c3
    clear aq ag P U J V F ad S ae T N W A;by_cases hlj:j<M.hdrs.length
    ·obtain⟨d,off,rfl,q1,R⟩:=HH.o j hlj;have A:wr.cell? ⟨d,off+j*2,none⟩=some (.string (sA M.hdrs[j].1)):=by rw[q.o.cell (p:=⟨d,off+j*2,none⟩) (QI q1)];exact q1
     have q3:=QI R;have r:=I (Y6 M.hdrs[j].1 wr (aA.o _ (List.getElem_mem hlj)));have i:=I (Qvc y hlj);have aH:(j:Int)<(M.hdrs.length:Int):=by omega
     obtain⟨hn,aj⟩:=Qf (M.hdrs[j].1);obtain⟨D,ao⟩:=Qf (M.hdrs[j].2);rw[aj]at A r i;rw[ao]at R i;obtain⟨K,au⟩:=Qf (zL hn);rw[au]at r i;have Q2:=I R;have ah:((sA K).toList==(sA y).toList)=decide (K=y):=Ky _ _;clear aj ao au q1 R;by_cases hs:K=y
     ·rw[QO hs]at ah;have f:Hid (fieldsL M (xs.map (expL s))=(b++[D])++(Vs y (M.hdrs.drop (j+1))++fieldsL M ((xs.map (expL s)).drop (k+1)))):=by show _=_;rw[G.o,i.o,if_pos hs];simp only[List.append_assoc]
      clear hs i G;go_wp2_with fail;refine r.o.mono ?_;rintro e L ⟨rfl,m⟩;have aa:=YV H.o m;have n:=I (q.o.trans (m.mono av));have aJ:w.heap.size<=L.heap.size:=n.o.size;have b3:L.cell? ⟨sb,3,none⟩=some (.slice (some ⟨d,off,none⟩) M.hdrs.length hq):=by rw[n.o.cell (p:=⟨sb,3,none⟩) ar];exact c3
      have b2:L.cell? ⟨d,off+j*2+1,none⟩=some (.string (sA D)):=by rw[n.o.cell (p:=⟨d,off+j*2+1,none⟩) q3];exact Q2.o
      clear m A d3 q H r;go_wp2_with (at_builtin;refine wpList_append_own _ rfl _ _ 61 rfl w.heap.size 9 i0 (.string ⟨#[]⟩) 1 16 underlying61 hi aL aM aN rfl (by decide) _ _ _ rfl (aa.alloc _) ⟨L.heap.size,0,none⟩ 1 1 [.string (sA D)] rfl rfl ?c1 ?c2 ?c3 ?c4 ?c5 ?_)
      case c1=>
       intro j u C
       match j,C with
       |0,C=>simp at C;subst C;simp[Addr.add]
      case c2=>intro u Q;simp at Q;subst Q;rfl
      case c3=>unfold maxLen;omega
      case c4=>omega
      case c5=>simp;omega
      ·intro v' w5 ab ai _;have ay:=I (Ke n.o aJ ai (fun k hk=>(aa.lt k hk).1));rw[Jz]at ab;have aC:=I ab;clear ab ai aa b2 b3;go_wp2;go_roundw
       case rel=>exact⟨j+1,b++[D],by omega,by go_num,by simpa using aC.o,by simp;omega,f.o,ay.o⟩
       case measure=>simp[intOf];omega
     ·rw[Qr hs]at ah;have f:Hid (fieldsL M (xs.map (expL s))=b++(Vs y (M.hdrs.drop (j+1))++fieldsL M ((xs.map (expL s)).drop (k+1)))):=by show _=_;rw[G.o,i.o,if_neg hs,List.nil_append]
      clear hs i G;go_wp2_with fail;refine r.o.mono ?_;rintro e L ⟨rfl,m⟩;have aB:=I (YV H.o m);have n:=I (q.o.trans (m.mono av));clear m A d3 q H r;go_wp2;go_roundw
      case rel=>exact⟨j+1,b,by omega,by go_num,aB.o,by omega,f.o,n.o⟩
      case measure=>simp[intOf];omega
    ·have aE:j=M.hdrs.length:=by omega
     subst aE;have aH:¬(M.hdrs.length:Int)<(M.hdrs.length:Int):=by omega
     have f:Hid (fieldsL M (xs.map (expL s))=b++fieldsL M ((xs.map (expL s)).drop (k+1))):=by show _=_;rw[G.o,Zi Qt];rfl
     go_wp2;go_roundw
     case rel=>exact⟨k+1,b,by omega,by go_num,H.o,by omega,f.o,q.o⟩
     case measure=>simp[intOf];omega
  ·have aF:k=xs.length:=by omega
   subst aF;have aG:¬(xs.length:Int)<(xs.length:Int):=by omega
   have f:Hid (fieldsL M (xs.map (expL s))=l):=by show _=_;rw[U.o,Zi (by simp)];exact List.append_nil _
   go_wp2;go_ret;exact⟨_,rfl,by rw[f.o];exact V.o,F.o⟩
theorem QoD(M:Msg)(s:SS){xs:Qa}(h:k<xs.length):YB M ((xs.map (expL s)).drop k)=(decide ((fieldsL M ([xs[k]].map (expL s))).length≠0)&&YB M ((xs.map (expL s)).drop (k+1))):=by
 rw[List.drop_eq_getElem_cons (by simpa using h)];unfold YB;rw[List.all_cons,List.getElem_map];congr 1;unfold fieldsL;rw[Zh];simp[List.any_eq_true,List.filter_eq_nil_iff]
theorem Qwi(h:w.ownsRow base e size v n xs):∃ a c,v=.slice a n c:=by
 rcases h.2 with⟨b,d⟩ | ⟨g,i,j,f,_⟩
 ·exact⟨none,0,by rw[b,d]⟩
 ·exact⟨_,_,f⟩
theorem Lh(sb:Nat)(s:SS)(nv P cv:Value)(K q:Qa)(M:Msg)(m:Option Addr)(G:Nat)(a:Option Addr)(c:Nat)(xs:Qa)(w:World)(h:UE w sb s nv P cv K q)(b:∀ t∈q,t.length<=100000)(B:∀ t∈s.told,t.length<=100000)(z:w.cell? ⟨sb,3,none⟩=some (.slice m M.hdrs.length G))(D:∀ j (hj:j<M.hdrs.length),∃ g off,m=some ⟨g,off,none⟩/\w.cell? ⟨g,off+j*2,none⟩=some (.string (sA M.hdrs[j].1))/\w.cell? ⟨g,off+j*2+1,none⟩=some (.string (sA M.hdrs[j].2)))(H:∀ j (hj:j<xs.length),∃ g off,a=some ⟨g,off,none⟩/\w.cell? ⟨g,off+j,none⟩=some (.string (sA xs[j])))(Z:xs.length<=c)(aa:xs.length<=100000)(J:∀ x∈xs,x.length<=100000)(R:M.hdrs.length<=1000000)(E:∀ h∈M.hdrs,h.1.length<=140737488355328) :
 Calls prog 74 #[.pointer (some ⟨sb,0,none⟩),.slice a xs.length c] w fun e w'=>e=.returned (.bool (YB M (xs.map (expL s))))/\Below w.heap.size w w':=by
 have Q:=I H;have U:=QI z;have HFX:=I (fun(v:Value) (x:L8) (u:World) (hu:Below w.heap.size w u) (hv:TxO u v [x]) (hxx:x.length<=100000)=>F9 sb s nv P cv K q M m G v [x] u (h.below hu) b B (by rw[hu.cell (p:=⟨sb,3,none⟩) U];exact z) (fun j hj=>by obtain⟨g,off,e,L,N⟩:=D j hj;exact⟨g,off,e,by rw[hu.cell (p:=⟨g,off+j*2,none⟩) (QI L)];exact L,by rw[hu.cell (p:=⟨g,off+j*2+1,none⟩) (QI N)];exact N⟩) hv (by simp) (fun y W=>by rw[QY W];exact hxx) R E);have HXS:=I J;clear D J E H h b B;go_enter func74,ntmps74;go_wp2
 go_loopw [5] (fun n wr=>∃(k:Nat),k<=xs.length/\n=.int .i64 k/\YB M (xs.map (expL s))=YB M ((xs.map (expL s)).drop k)/\Below w.heap.size w wr) (fun n _=>xs.length - (intOf n).toNat)
 case atStart=>exact⟨0,QC,rfl,rfl,Below.refl _ _⟩
 case round=>
  obtain⟨k,Y,rfl,he,b⟩:=hrel;have f:=I he;have HB:=I b;have V:=b.size;clear he b;by_cases hlt:k<xs.length
  ·obtain⟨g,go,rfl,hg⟩:=Q.o k hlt;have i:=I (QoD M s hlt)
   have HFK:=I (fun cc (v:Value) (hv:v=.slice (some ⟨g,go+k,none⟩) 1 cc)=>HFX.o v xs[k] wr HB.o ⟨_,cc,hv,fun j hj=>by
    obtain rfl:j=0:=by simp at hj;exact hj
    exact ⟨g,go+k,rfl,by rw [Nat.add_zero,HB.o.cell (p:=⟨g,go+k,none⟩) (QI hg)];exact hg⟩⟩ (HXS.o _ (List.getElem_mem hlt)))
   have T:(k:Int)<(xs.length:Int):=by omega
   have X:(k:Int)+1<=(c:Int):=by omega
   obtain⟨l,C⟩:=Qf (fieldsL M ([xs[k]].map (expL s)));rw[C]at i HFK;clear C hg;go_wp2_with (go_at_call 71;refine(HFK.o _ _ rfl).mono ?_;rintro e w1 ⟨rv,rfl,F,A⟩;have r:=I (HB.o.trans (A.mono V));obtain⟨ra,rc,rfl⟩:=Qwi F;clear A F;by_cases hz:l.length=0)
   ·have d:Hid (YB M (xs.map (expL s))=false):=by show _=_;rw[f.o,i.o,Qr (by simpa using hz),Bool.false_and]
    go_ret;exact⟨by rw[d.o];rfl,r.o⟩
   ·have d:Hid (YB M (xs.map (expL s))=YB M ((xs.map (expL s)).drop (k+1))):=by show _=_;rw[f.o,i.o,QO hz,Bool.true_and]
    exact⟨⟨k+1,by omega,by go_num,d.o,r.o⟩,by simp[intOf];omega⟩
  ·have S:k=xs.length:=by omega
   subst S;have T:¬(xs.length:Int)<(xs.length:Int):=by omega
   have d:Hid (YB M (xs.map (expL s))=true):=by show _=_;rw[f.o,Zi (by simp)];rfl
   go_wp2;go_ret;exact⟨by rw[d.o];rfl,HB.o⟩
end
end Go.Proofs.YtgnkjijocdmniaaGreatDoor
