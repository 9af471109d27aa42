import Derived.Test.YtgnkjijocdmniaaGreatDoorZVHeld
namespace Go.Proofs.YtgnkjijocdmniaaGreatDoor
set_option linter.all false
set_option maxRecDepth 100000
set_option maxHeartbeats 4000000
open Go.Proofs.Tryz
open Go.RowKit
variable{b xs:Qn}{base k n size:Nat}{e:TypeId}{l:L8}{s:SS}{v:Value}{w w':World}
section
attribute [local go_sem ↓] Zt Zu
theorem Po(s:SS)(r:L8):(Yo s r).2<=r.length:=by
 have a:r.idxOf 125<=r.length:=List.idxOf_le_length;unfold Yo;split
 .exact QR
 .split
  .rename_i h1 h2;show 2<=_;omega
  .split
   .show r.idxOf 125+1<=_;omega
   .exact QR
theorem L0:∀(b a:Qn) (x v:L8),lookQ b a x=some v->v∈a
 | [],_,_,_,h=>by cases h
 |_::_,[],_,_,h=>by cases h
 |n::b,w::a,x,v,h=>by
  unfold lookQ at h;by_cases e:n=x
  .rw[Qi e]at h;rw[<-ZK h];simp
  .rw[Qg e]at h;exact Kz _ (L0 b a x v h)
theorem QxF{a:Qn}(e:∀x,s.vals x=lookQ b a x)(c:∀t∈a,t.length<=100000)(d:∀t∈s.told,t.length<=100000)(r:L8):(Yo s r).1.length<=100000:=by
 unfold Yo;split
 .exact QR
 .split
  .show(s.told.getD _ []).length<=_
   rw[Zv]
   cases h:s.told[(r.headD 0).toNat-48]? with
   |none=>exact QR
   |some t=>exact d t (Uv h)
  .split
   .show((s.vals _).getD []).length<=_
    rw[e]
    cases h:lookQ b a (zL (r.take (r.idxOf 125)))with
    |none=>exact QR
    |some t=>exact c t (L0 _ _ _ _ h)
   .exact QR
theorem He{E:Nat}{S T J:Value}{R F:Qn}(h:Gu w E s S T J R F)(hl:l.length<=100000)(L:∀t∈F,t.length<=100000)(M:∀t∈s.told,t.length<=100000):Calls prog 76 #[Qc E,Qf l] w fun e w'=>e=.returned (Qf (expL s l))/\Qo w w':=by
 have hz:=Zc l;have H:=O h;have G:=h.c4;have U:=O (QxF h.vals L M);clear h L M
 cases hvs:s.vs with
 |false=>
  rw[hvs]at G;have u:Hid (expL s l=l):=by show _=_;unfold expL;rw[Qg (by rw[hvs];decide)]
  go_enter func76,ntmps76;go_wp2;go_ret;exact⟨by rw[u.o];rfl,QO _ _⟩
 |true=>
  rw[hvs]at G;have u:=O (Of s l hvs);clear hvs;go_enter func76,ntmps76;go_upto_block 0 with fail
  go_cut [5] (fun D wx=>D=Qf (fullL s l)/\(fullL s l).length<=10000100000/\Qo w wx)
  case first=>
   go_wp2_with fail
   go_loopg [5,6,7,8] l.length (fun m D iv _ _ wr=>∃(k:Nat) (o:L8),m=l.length-k/\k<=l.length/\iv=Qa k/\D=Qf o/\fullL s l=o++fullL s (l.drop k)/\o.length<=k*100001/\Qo w wr)
   case atStart=>exact⟨0,[],I,I,rfl,rfl,rfl,Qh,QO _ _⟩
   case round=>
    obtain⟨k,o,rfl,hk,rfl,rfl,hF,ho,i⟩:=hrel;have HF:=O hF;have HB:=O i;have ak:=Zc o;clear hF i;have ac:o.length<=10000100000:=I
    by_cases hlt:k<(sA l).size
    .have ab:l.drop k≠[]:=by intro e;have:=ZI List.length e;rw[Xq,Zl]at this;omega
     have b:=O (Qwp s ab);have d:=Xm hlt;have N:=CM hlt;obtain⟨c,W⟩:=Qw ((sA l)[k]);rw[W]at d N;have ai:(sA [c]).size=1:=rfl;have Z:(k:Int)<(l.length:Int):=I
     by_cases hv:c=36/\∃h:k+1<(sA l).size,(sA l)[k+1]=123
     .obtain⟨rfl,aa,x⟩:=hv;have j:=Xm aa;rw[x]at j;rw[d,j]at b;rw[Qur]at b;have af:(sA l).extract (k+2) l.length=sA (l.drop (k+2)):=by rw[UC,Z7 (by rw[Xq];omega)]
      have B:=O (Qu5 (l.drop (k+2)) (H.o.below HB) (by rw[Xq];omega));have P:=Po s (l.drop (k+2));have ad:=U (l.drop (k+2));rw[Xq]at P;obtain⟨n,z⟩:=Qw ((Yo s (l.drop (k+2))).1);obtain⟨a,y⟩:=Qw ((Yo s (l.drop (k+2))).2);rw[z,y]at B b;rw[y]at P;rw[z]at ad;have ao:=Zc n;have b2:∀h:k+1<(sA l).size,(((sA l)[k+1]'h).toNat:Int)=123:=fun h=>by rw[x];rfl
      have ah:(k:Int)+1<(l.length:Int):=I
      by_cases h0:a=0
      .subst h0;have g:Hid (fullL s l=(o++[36])++fullL s (l.drop (k+1))):=by show _=_;rw[HF.o,d,j,b.o,Qi rfl,YG];rfl
       clear HF b d j z y x;go_wp2_with (go_at_call 117;refine B.mono ?_;rintro e w2 ⟨rfl,r⟩;have A:=O (HB.o.trans (r.mono HB.size));clear r);go_roundg (l.length-(k+1))
       case measure=>omega
       case rel=>exact⟨k+1,o++[36],rfl,I,by go_num,by rw[Gc],g,by rw[Qz];simp;omega,A⟩
      .have ae:((a:Int)==0)=false:=by simp;omega
       have g:Hid (fullL s l=(o++n)++fullL s (l.drop (k+2+a))):=by
        show _=_
        rw[HF.o,d,j,b.o,Qg h0,YG];show o++(n++fullL s ((36::123::l.drop (k+1+1)).drop (2+a)))=_
        rw[show 2+a=a+2 by omega];show o++(n++fullL s ((l.drop (k+1+1)).drop a))=_
        rw[XN]
       clear HF b d j z y x;go_wp2_with (go_at_call 117;refine B.mono ?_;rintro e w2 ⟨rfl,r⟩;have A:=O (HB.o.trans (r.mono HB.size));clear r);go_roundg (l.length-(k+2+a))
       case measure=>omega
       case rel=>exact⟨k+2+a,o++n,rfl,I,by go_num,by rw[Gc],g,by rw[Qz];omega,A⟩
     .have Q:standL s (l.drop k)=([c],1):=by
       rw[QwC s,d]
       .rfl
       .intro e;apply hv;rw[d]at e;by_cases p:k+1<(sA l).size
        .have j:=Xm p;rw[j]at e;have K:c=36/\(sA l)[k+1]=123:=by simpa using e
         exact⟨K.1,p,K.2⟩
        .rw[ZE (show l.length<=k+1 by omega)]at e;simp at e
      have g:Hid (fullL s l=(o++[c])++fullL s (l.drop (k+1))):=by show _=_;rw[HF.o,b.o,Q,YG,XN]
      clear HF b Q d
      have X:(¬(k:Int)+1<(l.length:Int))\/((k:Int)+1<(l.length:Int)/\((c.toNat:Int)==36)=false)\/((k:Int)+1<(l.length:Int)/\((c.toNat:Int)==36)=true/\∃h:k+1<(sA l).size,((((sA l)[k+1]'h).toNat:Int)==123)=false):=by
       by_cases p:k+1<l.length
       .right;by_cases q:c=36
        .right;refine⟨I,by rw[q];rfl,I,?_⟩;cases v:((((sA l)[k+1]' I).toNat:Int)==123)
         .rfl
         .exfalso;refine hv ⟨q,I,?_⟩;apply Xi.1;simp at v;show _=123
          omega
        .left;refine⟨I,?_⟩;cases v:((c.toNat:Int)==36)
         .rfl
         .exfalso;refine q ?_;apply Xi.1;simp at v;show _=36
          omega
       .left;omega
      clear hv;rcases X with p | ⟨p,q⟩ | ⟨p,q,v,h5⟩
      all_goals go_wp2
      all_goals go_roundg (l.length-(k+1))
      all_goals first|omega|exact⟨k+1,o++[c],rfl,I,by go_num,by rw[Gc],g,by rw[Qz];simp;omega,HB⟩
    .have Y:k=l.length:=I
     subst Y;have g:Hid (fullL s l=o):=by show _=_;rw[HF.o,ZE QF,Qyg,J3]
     have Z:¬(l.length:Int)<(l.length:Int):=I
     go_wp2;go_meet;exact⟨by rw[g.o],by rw[g.o];exact ac,HB⟩
  case rest=>
   obtain⟨rfl,ag,C⟩:=hcut;have HB:=O C;have aj:=Zc (fullL s l);clear C;generalize fullL s l=f at *;by_cases h10:1024<f.length
   .have V:(1024:Int)<(f.length:Int):=I
    have N:(sA f).extract 0 1024=sA (f.take 1024):=by rw[UC];simp
    go_wp2;go_ret;exact⟨by rw[u.o];rfl,HB⟩
   .have V:¬(1024:Int)<(f.length:Int):=I
    go_wp2;go_ret;exact⟨by rw[u.o,Z7 I];rfl,HB⟩
def SB(w:World)(sb:Nat)(fr tt:L8)(sz:Int)(hv:Value)(vs:Bool)(nv vv cv av:Value)(kp en:Bool)(er pz:Int):Prop:=
 w.heap[sb]?=some (Qe #[Qf fr,Qf tt,Qa sz,hv,.bool vs,nv,vv,cv,av,.bool kp,.bool en,Qa er,Qa pz] 104)
theorem QwJ{a:Nat}{i m:L8}{sz:Int}{j:Value}{n:Bool}{l q g f:Value}{k c:Bool}{b d:Int}(e p:Int)(h:SB w a i m sz j n l q g f k c b d):Calls prog 46 #[Qc a,Qa e,Qa p] w fun x w'=>x=.returned (.tuple #[])/\Mod a w w'/\SB w' a i m sz j n l q g f k (if b=0 then true else c) (if b=0 then e else b) (if b=0 then p else d):=by
 have v:=fun o=>QQ h o
 have r:=E1 h;have s:=E2 h;have t:=OG h;have H:=O h;clear h;by_cases he:b=0
 .subst he;go_enter func46,ntmps46;go_wp2;go_end0;exact⟨rfl,(((Mod.refl a w).setCell _ _).setCell _ _).setCell _ _,QM (QM (QM H))⟩
 .have u:(b==0)=false:=by simpa using he
  have y:=O he;clear he;go_enter func46,ntmps46;go_wp2;go_end0;exact⟨rfl,Mod.refl a w,H⟩
theorem YA{xs:List Value}(h:w.ownsRow base e size v n xs)(k:Qo w w'):w'.ownsRow base e size v n xs:=by
 obtain⟨f,a⟩:=h;refine⟨f,?_⟩;rcases a with a | ⟨g,c,d,l,i,b,r⟩
 .exact Qt a
 .have j:g<w.heap.size:=by
   rcases Ki g w.heap.size with h'|h'
   .exact h'
   .rw[GH h']at b;cases b
  exact Qr ⟨g,c,d,l,i,by rw[k.block g j];exact b,r⟩
theorem Vv{B:Nat}{u:World}{o:Obj}{row:Option Nat}(h:Below B u w)(hB:B<=w.heap.size)(hg:(w.alloc o).grownBy w' row)(hr:∀k,row=some k->B<=k):Below B u w':=
 (h.alloc hB o).grown hg (by simp;omega) hr
theorem Qyx(M:Msg){a:Qn}(h:k<a.length):envL M (a.drop k)=(if zL a[k]=[102,114,111,109]then [M.fr]else if zL a[k]=[116,111]then [M.to]else [])++envL M (a.drop (k+1)):=by
 rw[Xt h];unfold envL;rw[YS]
theorem Uw:type_of%@Go.Proofs.Tryz.underlying61:=@Go.Proofs.Tryz.underlying61
theorem QwL(q:Nat){M:Msg}(v:Value)(N:w.cell? (Ql q 0)=some (Qf M.fr))(c1:w.cell? (Ql q 1)=some (Qf M.to))(h:∃a c,v=.slice a b.length c/\∀j (f:j<b.length),∃g off,a=some ⟨g,off,none⟩/\w.cell? ⟨g,off+j,none⟩=some (.string (sA b[j])))(hn:b.length<=1000000)(T:∀x∈b,x.length<=140737488355328):Calls prog 73 #[Qc q,v] w fun e w'=>∃rv,e=.returned rv/\w'.ownsRow w.heap.size 9 1 rv (envL M b).length (QW (envL M b))/\Qo w w':=by
 obtain⟨a,c,rfl,R⟩:=h;have HC:=O R;have U:=QX N;have HS:=O T;clear R T;obtain⟨i0,S,Y,Z,aa⟩:=ZU Tryz.infoStr;go_enter func73,ntmps73;go_wp2
 go_loopw [5,6] (fun ov L wr=>∃(k:Nat) (d:Qn),k<=b.length/\L=Qa k/\wr.ownsRow w.heap.size 9 1 ov d.length (QW d)/\d.length<=k/\envL M b=d++envL M (b.drop k)/\Qo w wr) (fun _ L _=>b.length-(intOf L).toNat)
 case atStart=>exact⟨0,[],I,rfl,Z5,Qh,rfl,QO _ _⟩
 case round=>
  obtain⟨k,d,E,rfl,F,ag,he,s⟩:=hrel;have ai:=O F;have HE:=O he;have HB:=O s;have af:=s.size;clear F he s;by_cases hlt:k<b.length
  .obtain⟨g,off,rfl,K⟩:=HC k hlt;have H:=QN HB K (QX K)
   have i:=O (Qyx M hlt);have D:=O (J6 wr (HS _ (ZT hlt)));have ae:(k:Int)<(b.length:Int):=I
   obtain⟨x,W⟩:=Qw (b[k]);rw[W]at H i D;obtain⟨y,X⟩:=Qw (zL x);rw[X]at i D;have t:((sA y).toList==[102,114,111,109])=decide (y=[102,114,111,109]):=by rw[XL];show(y==[102,114,111,109])=_;rw[Xb];simp
   have z:((sA y).toList==[116,111])=decide (y=[116,111]):=by rw[XL];show(y==[116,111])=_;rw[Xb];simp
   clear K W X;go_wp2_with fail;refine D.mono ?_;rintro e C ⟨rfl,J⟩;have l:=YA ai J;have r:=O (HB.o.trans (J.mono af));have P:=QN r N U
   have Q:=QN r c1 U
   have V:w.heap.size<=C.heap.size:=r.size;clear J ai D;by_cases h1:y=[102,114,111,109]
   .have m:Hid (envL M b=(d++[M.fr])++envL M (b.drop (k+1))):=by show _=_;rw[HE.o,i.o,Qi h1,YG]
    subst h1;have ab:((sA [102,114,111,109]).toList==[102,114,111,109])=true:=t.trans Qb;have ac:((sA [102,114,111,109]).toList==[116,111])=false:=z.trans Qb;clear t z i HE;(try simp only[Qf]at *);generalize sA [102,114,111,109]=yy at *;go_wp2_with (at_builtin;refine XM _ rfl _ _ 61 rfl w.heap.size 9 i0 (.string ⟨#[]⟩) 1 16 Uw S Y Z aa rfl Qb _ _ _ rfl (l.alloc _) ⟨C.heap.size,0,none⟩ 1 1 [Qf M.fr] rfl rfl ?c1 ?c2 ?c3 ?c4 ?c5 ?_)
    case c1=>
     intro j u f
     match j,f with
     |0,f=>simp at f;subst f;simp[Addr.add]
    case c2=>intro u B;simp at B;subst B;rfl
    case c3=>unfold maxLen;omega
    case c4=>omega
    case c5=>simp;omega
    .intro v' w5 n A _;have G:=O (Vv r V A (fun k E=>(l.lt k E).1));rw[Jw]at n;have ah:=O n;clear n A l P Q H;go_wp2;go_roundw
     case rel=>exact⟨k+1,d++[M.fr],I,by go_num,by simpa using ah.o,by simp;omega,m,G⟩
     case measure=>simp[intOf];omega
   .by_cases h2:y=[116,111]
    .have m:Hid (envL M b=(d++[M.to])++envL M (b.drop (k+1))):=by show _=_;rw[HE.o,i.o,Qg h1,Qi h2,YG]
     subst h2;have ab:((sA [116,111]).toList==[102,114,111,109])=false:=t.trans Qb;have ac:((sA [116,111]).toList==[116,111])=true:=z.trans Qb;clear t z i HE h1;(try simp only[Qf]at *);generalize sA [116,111]=yy at *;go_wp2_with (at_builtin;refine XM _ rfl _ _ 61 rfl w.heap.size 9 i0 (.string ⟨#[]⟩) 1 16 Uw S Y Z aa rfl Qb _ _ _ rfl (l.alloc _) ⟨C.heap.size,0,none⟩ 1 1 [Qf M.to] rfl rfl ?c1 ?c2 ?c3 ?c4 ?c5 ?_)
     case c1=>
      intro j u f
      match j,f with
      |0,f=>simp at f;subst f;simp[Addr.add]
     case c2=>intro u B;simp at B;subst B;rfl
     case c3=>unfold maxLen;omega
     case c4=>omega
     case c5=>simp;omega
     .intro v' w5 n A _;have G:=O (Vv r V A (fun k E=>(l.lt k E).1));rw[Jw]at n;have ah:=O n;clear n A l P Q H;go_wp2;go_roundw
      case rel=>exact⟨k+1,d++[M.to],I,by go_num,by simpa using ah.o,by simp;omega,m,G⟩
      case measure=>simp[intOf];omega
    .have m:Hid (envL M b=d++envL M (b.drop (k+1))):=by show _=_;rw[HE.o,i.o,Qg h1,Qg h2];rfl
     rw[QB h1]at t;rw[QB h2]at z;have aj:=O l;clear h1 h2 i HE l;go_wp2;go_roundw
     case rel=>exact⟨k+1,d,I,by go_num,aj,I,m,r⟩
     case measure=>simp[intOf];omega
  .have ad:k=b.length:=I
   subst ad;have ae:¬(b.length:Int)<(b.length:Int):=I
   have m:Hid (envL M b=d):=by show _=_;rw[HE.o,ZE QF];exact J3 _
   go_wp2;go_ret;exact⟨_,rfl,by rw[m.o];exact ai,HB⟩
theorem QtU(d:Nat)(M:Msg)(v:Value)(b:Qn)(w:World)(f:w.cell? (Ql d 0)=some (Qf M.fr))(i:w.cell? (Ql d 1)=some (Qf M.to))(h:TxL w v b)(o:b.length<=1000000)(p:∀x∈b,x.length<=140737488355328):Calls prog 73 #[Qc d,v] w fun e w'=>∃rv,e=.returned rv/\w'.ownsRow w.heap.size 9 1 rv (envL M b).length (QW (envL M b))/\Qo w w':=by
 obtain⟨a,c,k,l⟩:=h.form;exact QwL d v f i ⟨a,c,k,fun j n=>by obtain⟨g,e,m⟩:=l j n;exact⟨g,0,e,by rw[J4];exact m⟩⟩ o p
def TxO(w:World)(v:Value)(xs:Qn):Prop:=∃a c,v=.slice a xs.length c/\∀j (hj:j<xs.length),∃g off,a=some ⟨g,off,none⟩/\w.cell? ⟨g,off+j,none⟩=some (.string (sA xs[j]))
theorem TxL.toO(h:TxL w v xs):TxO w v xs:=by
 obtain⟨a,c,b,d⟩:=h.form;refine⟨a,c,b,fun j i=>?_⟩;obtain⟨g,e,f⟩:=d j i;exact⟨g,0,e,by rw[J4];exact f⟩
def Nl(y:L8)(hs:List (L8×L8)):Qn:=(hs.filter (fun h=>decide (zL h.1=y))).map (·.2)
theorem Qwx(y:L8){a:List (L8×L8)}{j:Nat}(h:j<a.length):Nl y (a.drop j)=(if zL a[j].1=y then [a[j].2]else [])++Nl y (a.drop (j+1)):=by
 rw[Xt h];unfold Nl;by_cases e:zL a[j].1=y
 .rw[List.filter_cons_of_pos (by simpa using e),Qi e];rfl
 .rw[List.filter_cons_of_neg (by simpa using e),Qg e];rfl
theorem Tx(M:Msg)(s:SS)(h:k<xs.length):fieldsL M ((xs.map (expL s)).drop k)=Nl (zL (expL s xs[k])) M.hdrs++fieldsL M ((xs.map (expL s)).drop (k+1)):=by
 rw[Xt (by simpa using h)];unfold fieldsL;rw[YS,List.getElem_map];rfl
theorem AO(s:SS)(h:l.length<=100000):(expL s l).length<=100000:=by
 cases hv:s.vs with
 |false=>unfold expL;rw[Qg (by rw[hv];decide)];exact h
 |true=>rw[Of s l hv,YT];omega
theorem F8{l:Nat}{nv vv cv:Value}{ns vl:Qn}(M:Msg)(W:Option Addr)(hq:Nat)(h:Gu w l s nv vv cv ns vl)(d:∀t∈vl,t.length<=100000)(hT:∀t∈s.told,t.length<=100000)(c3:w.cell? (Ql l 3)=some (.slice W M.hdrs.length hq))(hh:∀j (E:j<M.hdrs.length),∃g off,W=some ⟨g,off,none⟩/\w.cell? ⟨g,off+j*2,none⟩=some (.string (sA M.hdrs[j].1))/\w.cell? ⟨g,off+j*2+1,none⟩=some (.string (sA M.hdrs[j].2)))(H:TxO w v xs)(aJ:xs.length<=100000)(aa:∀x∈xs,x.length<=100000)(aI:M.hdrs.length<=1000000)(ai:∀h∈M.hdrs,h.1.length<=140737488355328):Calls prog 71 #[Qc l,v] w fun e w'=>∃rv,e=.returned rv/\w'.ownsRow w.heap.size 9 1 rv (fieldsL M (xs.map (expL s))).length (QW (fieldsL M (xs.map (expL s))))/\Qo w w':=by
 obtain⟨a,c,rfl,hc⟩:=H;have HC:=O hc;have HH:=O hh;have ak:=QX c3;have aO:=O aa;have aP:=O ai;have au:=O (fun(x:L8) (H:x.length<=100000) (u:World) (P:Qo w u)=>He (h.below P) H d hT);clear hc hh aa ai h d hT;obtain⟨i0,hi,aE,aF,aG⟩:=ZU Tryz.infoStr;go_enter func71,ntmps71;go_wp2
 go_loopw [5,6,7,8] (fun ov iv _ _ wr=>∃(k:Nat) (q:Qn),k<=xs.length/\iv=Qa k/\wr.ownsRow w.heap.size 9 1 ov q.length (QW q)/\q.length<=k*1000000/\fieldsL M (xs.map (expL s))=q++fieldsL M ((xs.map (expL s)).drop k)/\Qo w wr) (fun _ iv _ _ _=>xs.length-(intOf iv).toNat)
 case atStart=>exact⟨0,[],I,rfl,Z5,Qh,rfl,QO _ _⟩
 case round=>
  obtain⟨k,q,hk,rfl,N,aw,he,d⟩:=hrel;have aN:=O N;have HE:=O he;have HB:=O d;have aD:=d.size;clear N he d;by_cases hlt:k<xs.length
  .obtain⟨g,go,rfl,i⟩:=HC k hlt;have C:=QN HB i (QX i)
   have J:=O (Tx M s hlt);have L:=O (au xs[k] (aO _ (ZT hlt)) wr HB);have aq:=AO s (aO _ (ZT hlt));have az:(k:Int)<(xs.length:Int):=I
   obtain⟨x,H⟩:=Qw (xs[k]);rw[H]at C J L aq;obtain⟨z,hz⟩:=Qw (expL s x);rw[hz]at J L aq;have T:=O (fun u=>J6 (x:=z) u I);obtain⟨y,hy⟩:=Qw (zL z);rw[hy]at J T;clear i H hy hz;go_wp2_with (first|(go_at_call 76;refine L.mono ?_;rintro e w1 ⟨rfl,U⟩;have ad:=O (YA aN U);have S:=O (HB.o.trans (U.mono aD));have aB:=S.size;clear U)|(go_at_call 80;refine Qv (T _) ?_;rintro w2 V;have ae:=O (YA ad V);have ab:=O (S.o.trans (V.mono aB));clear V))
   go_loopw [5,8] (fun ov jv wi=>∃(j:Nat) (b:Qn),j<=M.hdrs.length/\jv=Qa j/\wi.ownsRow w.heap.size 9 1 ov b.length (QW b)/\b.length<=k*1000000+j/\fieldsL M (xs.map (expL s))=b++(Nl y (M.hdrs.drop j)++fieldsL M ((xs.map (expL s)).drop (k+1)))/\Qo w wi) (fun _ jv _=>M.hdrs.length-(intOf jv).toNat)
   case atStart=>exact⟨0,q,QR,rfl,ae,QE aw (Nat.le_add_right _ _),by rw[HE.o,J.o,Jm],ab⟩
   case round=>
    obtain⟨j,b,E,rfl,F,aH,D,f⟩:=hrel;have aM:=O F;have aL:=O D;have aK:=O f;have ap:=f.size;have d3:=QN f c3 ak
    clear F D f HE J aN HB ad S ae ab L T C;by_cases hlj:j<M.hdrs.length
    .obtain⟨i,off,rfl,q1,Q⟩:=HH j hlj;have C:=QN aK q1 (QX q1)
     have q3:=QX Q;have B:=O (J6 wr (aP _ (ZT hlj)));have n:=O (Qwx y hlj);have aA:(j:Int)<(M.hdrs.length:Int):=I
     obtain⟨X,ah⟩:=Qw (M.hdrs[j].1);obtain⟨G,aj⟩:=Qw (M.hdrs[j].2);rw[ah]at C B n;rw[aj]at Q n;obtain⟨K,ao⟩:=Qw (zL X);rw[ao]at B n;have Q2:=O Q;have af:((sA K).toList==(sA y).toList)=decide (K=y):=U3;clear ah aj ao q1 Q;by_cases hs:K=y
     .rw[QU hs]at af;have m:Hid (fieldsL M (xs.map (expL s))=(b++[G])++(Nl y (M.hdrs.drop (j+1))++fieldsL M ((xs.map (expL s)).drop (k+1)))):=by show _=_;rw[aL.o,n.o,Qi hs];simp only[YG]
      clear hs n aL;go_wp2_with fail;refine B.mono ?_;rintro e R ⟨rfl,r⟩;have Y:=YA aM r;have A:=O (aK.o.trans (r.mono ap));have aC:=A.size;have b3:=QN A c3 ak
      have b2:=QN A Q2 q3
      clear r C d3 aK aM B;go_wp2_with (at_builtin;refine XM _ rfl _ _ 61 rfl w.heap.size 9 i0 (.string ⟨#[]⟩) 1 16 Uw hi aE aF aG rfl Qb _ _ _ rfl (Y.alloc _) ⟨R.heap.size,0,none⟩ 1 1 [Qf G] rfl rfl ?c1 ?c2 ?c3 ?c4 ?c5 ?_)
      case c1=>
       intro j u E
       match j,E with
       |0,E=>simp at E;subst E;simp[Addr.add]
      case c2=>intro u P;simp at P;subst P;rfl
      case c3=>unfold maxLen;omega
      case c4=>omega
      case c5=>simp;omega
      .intro v' w5 Z ag _;have ar:=O (Vv A aC ag (fun k hk=>(Y.lt k hk).1));rw[Jw]at Z;have aQ:=O Z;clear Z ag Y b2 b3;go_wp2;go_roundw
       case rel=>exact⟨j+1,b++[G],I,by go_num,by simpa using aQ.o,by simp;omega,m,ar⟩
       case measure=>simp[intOf];omega
     .rw[QB hs]at af;have m:Hid (fieldsL M (xs.map (expL s))=b++(Nl y (M.hdrs.drop (j+1))++fieldsL M ((xs.map (expL s)).drop (k+1)))):=by show _=_;rw[aL.o,n.o,Qg hs,List.nil_append]
      clear hs n aL;go_wp2_with fail;refine B.mono ?_;rintro e R ⟨rfl,r⟩;have av:=O (YA aM r);have A:=O (aK.o.trans (r.mono ap));clear r C d3 aK aM B;go_wp2;go_roundw
      case rel=>exact⟨j+1,b,I,by go_num,av,I,m,A⟩
      case measure=>simp[intOf];omega
    .have ax:j=M.hdrs.length:=I
     subst ax;have aA:¬(M.hdrs.length:Int)<(M.hdrs.length:Int):=I
     have m:Hid (fieldsL M (xs.map (expL s))=b++fieldsL M ((xs.map (expL s)).drop (k+1))):=by show _=_;rw[aL.o,ZE QF];rfl
     go_wp2;go_roundw
     case rel=>exact⟨k+1,b,I,by go_num,aM,I,m,aK⟩
     case measure=>simp[intOf];omega
  .have ay:k=xs.length:=I
   subst ay;have az:¬(xs.length:Int)<(xs.length:Int):=I
   have m:Hid (fieldsL M (xs.map (expL s))=q):=by show _=_;rw[HE.o,ZE Qh];exact J3 _
   go_wp2;go_ret;exact⟨_,rfl,by rw[m.o];exact aN,HB⟩
theorem WG(M:Msg)(s:SS)(h:k<xs.length):existsL M ((xs.map (expL s)).drop k)=(decide ((fieldsL M ([xs[k]].map (expL s))).length≠0)&&existsL M ((xs.map (expL s)).drop (k+1))):=by
 rw[Xt (by simpa using h)];unfold existsL;rw[List.all_cons,List.getElem_map];congr 1;unfold fieldsL;rw[Xb];simp[List.any_eq_true,List.filter_eq_nil_iff]
theorem Qxy{xs:List Value}(h:w.ownsRow base e size v n xs):∃a c,v=.slice a n c:=by
 rcases h.2 with⟨b,d⟩ | ⟨g,i,j,f,_⟩
 .exact⟨none,0,by rw[b,d]⟩
 .exact⟨_,_,f⟩
theorem Wy{d:Nat}{K P z:Value}{J n:Qn}(M:Msg)(l:Option Addr)(G:Nat){a:Option Addr}{c:Nat}(h:Gu w d s K P z J n)(hB:∀t∈n,t.length<=100000)(B:∀t∈s.told,t.length<=100000)(r:w.cell? (Ql d 3)=some (.slice l M.hdrs.length G))(D:∀j (hj:j<M.hdrs.length),∃g off,l=some ⟨g,off,none⟩/\w.cell? ⟨g,off+j*2,none⟩=some (.string (sA M.hdrs[j].1))/\w.cell? ⟨g,off+j*2+1,none⟩=some (.string (sA M.hdrs[j].2)))(H:∀j (hj:j<xs.length),∃g off,a=some ⟨g,off,none⟩/\w.cell? ⟨g,off+j,none⟩=some (.string (sA xs[j])))(Y:xs.length<=c)(Z:xs.length<=100000)(hxs:∀x∈xs,x.length<=100000)(Q:M.hdrs.length<=1000000)(E:∀h∈M.hdrs,h.1.length<=140737488355328):Calls prog 74 #[Qc d,.slice a xs.length c] w fun e w'=>e=.returned (.bool (existsL M (xs.map (expL s))))/\Qo w w':=by
 have T:=QX r;have HFX:=O (fun(v:Value) (x:L8) (u:World) (hu:Qo w u) (hv:TxO u v [x]) (hxx:x.length<=100000)=>F8 M l G (h.below hu) hB B (by rw[hu.cell (p:=⟨d,3,none⟩) T];exact r) (fun j hj=>by obtain⟨g,off,e,L,N⟩:=D j hj;exact⟨g,off,e,by rw[hu.cell (p:=⟨g,off+j*2,none⟩) (QX L)];exact L,by rw[hu.cell (p:=⟨g,off+j*2+1,none⟩) (QX N)];exact N⟩) hv Qh (fun y V=>by rw[ZV V];exact hxx) Q E);clear D E h hB B;change Qd _ at hxs H;go_enter func74,ntmps74;go_wp2
 go_loopw [5] (fun m wr=>∃(k:Nat),k<=xs.length/\m=Qa k/\existsL M (xs.map (expL s))=existsL M ((xs.map (expL s)).drop k)/\Qo w wr) (fun m _=>xs.length-(intOf m).toNat)
 case atStart=>exact⟨0,QR,rfl,rfl,QO _ _⟩
 case round=>
  obtain⟨k,X,rfl,he,hB⟩:=hrel;have U:=hB.size;change Qd _ at he;replace hB:=O hB;by_cases hlt:k<xs.length
  .obtain⟨g,go,rfl,hg⟩:=H k hlt;have f:=O (WG M s hlt)
   have HFK:=O (fun cc (v:Value) (hv:v=.slice (some ⟨g,go+k,none⟩) 1 cc)=>HFX v xs[k] wr hB ⟨_,cc,hv,fun j hj=>by
    obtain rfl:j=0:=by simp at hj;exact hj
    exact ⟨g,go+k,rfl,by rw [Nat.add_zero,hB.o.cell (p:=⟨g,go+k,none⟩) (QX hg)];exact hg⟩⟩ (hxs _ (ZT hlt)))
   have S:(k:Int)<(xs.length:Int):=I
   have W:(k:Int)+1<=(c:Int):=I
   obtain⟨i,C⟩:=Qw (fieldsL M ([xs[k]].map (expL s)));rw[C]at f HFK;clear C hg;go_wp2_with (go_at_call 71;refine(HFK _ _ rfl).mono ?_;rintro e w1 ⟨rv,rfl,F,A⟩;have q:=O (hB.o.trans (A.mono U));obtain⟨ra,rc,rfl⟩:=Qxy F;clear A F;by_cases hz:i.length=0)
   .have b:Hid (existsL M (xs.map (expL s))=false):=by show _=_;rw[he.o,f.o,QB (by simpa using hz),Bool.false_and]
    go_ret;exact⟨by rw[b.o];rfl,q⟩
   .have b:Hid (existsL M (xs.map (expL s))=existsL M ((xs.map (expL s)).drop (k+1))):=by show _=_;rw[he.o,f.o,QU hz,KE]
    exact⟨⟨k+1,I,by go_num,b,q⟩,by simp[intOf];omega⟩
  .have R:k=xs.length:=I
   subst R;have S:¬(xs.length:Int)<(xs.length:Int):=I
   have b:Hid (existsL M (xs.map (expL s))=true):=by show _=_;rw[he.o,ZE Qh];rfl
   go_wp2;go_ret;exact⟨by rw[b.o];rfl,hB⟩
end
end Go.Proofs.YtgnkjijocdmniaaGreatDoor
