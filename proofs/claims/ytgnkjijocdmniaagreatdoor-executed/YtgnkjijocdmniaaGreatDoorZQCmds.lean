import Derived.Test.YtgnkjijocdmniaaGreatDoorQMatchW
namespace Go.Proofs.YtgnkjijocdmniaaGreatDoor
set_option linter.unusedVariables false
set_option linter.unusedSimpArgs false
set_option maxRecDepth 100000
set_option maxHeartbeats 4000000
open Go.Proofs.Tryz
open Go.RowKit
attribute [local go_sem ↓] Go.wp_at_zero Go.wp_at_succ
variable{α β:Type}{F base n pos tb:Nat}{R:Qb (List α×PS)}{a l:L8}{acc:List α}{e:TypeId}{rq zs:Qa}{s:PS}{st:Qb PS}{sub:PS->Qb (α×PS)}{tst:PS->Qb (β×PS)}{v:Value}{w w1:World}
structure RdI (w:World) (rb tb:Nat) (nv:Value) (rq:Qa):Prop where
 r:RdQ w rb tb nv
 n:rb≠tb
 q:(rq=[]∧nv=.slice none 0 0)∨∃ g c,nv=.slice (some ⟨g,0,none⟩) rq.length c∧Zx w g rq∧g≠tb
 z:rq.length<=140737488355328
theorem RdI.txl{rb:Nat}{nv:Value}(h:RdI w rb tb nv rq):TxL w nv rq:=by
 rcases h.q with h | ⟨g,c,a,b,_⟩
 ·exact Qd h
 ·exact Qc ⟨g,c,a,b⟩
theorem RdI.mod{w w':World}{rb tb:Nat}{nv:Value}{rq:Qa}(h:RdI w rb tb nv rq)(d:Mod tb w w'):RdI w' rb tb nv rq:=by
 refine⟨h.r.mod d h.n,h.n,?_,h.z⟩;rcases h.q with h | ⟨g,c,e,f,b⟩
 ·exact Qd h
 ·refine Qc ⟨g,c,e,fun j i=>?_,b⟩;have:=f j i;rw[ZA (w:=w) (a:=⟨g,j,none⟩) (d.block g (Qq this) b)];exact this
theorem Xr.gd     (h:Xr w tb l s):Gd l s:=⟨h.le,fun e=>by
 have:=h.wd;rcases this with h|h|h|h|h|h
 ·exact h.2.1
 all_goals omega⟩
theorem Aw:∀ z∈tNs,∃ c r,z=c::r/\QL c.toNat=true:=by
 intro z a;simp only[tNs,List.mem_cons,List.not_mem_nil,or_false]at a;rcases a with rfl|rfl|rfl|rfl|rfl|rfl|rfl|rfl|rfl|rfl<;>exact⟨_,_,rfl,rfl⟩
theorem AS:∀ z∈cNs,∃ c r,z=c::r/\QL c.toNat=true:=by
 intro z a;simp only[cNs,List.mem_cons,List.not_mem_nil,or_false]at a;rcases a with rfl|rfl|rfl|rfl|rfl|rfl|rfl|rfl<;>exact⟨_,_,rfl,rfl⟩
theorem AU{x:L8}(h:∀ z∈zs,¬ x=z):wL zs x=0:=by
 apply Nat.eq_zero_of_not_pos;intro b;have a:=(X1 _ _).1 b;exact h x a rfl
theorem GE{x:Wd}(h:WdQ x)(a:∀ z∈zs,∃ c r,z=c::r/\QL c.toNat=true):wL zs x.spelt=if x.kind=1 then wL zs (sQ x)else 0:=by
 by_cases hk:x.kind=1
 ·rw[if_pos hk]
  have e:∀ z∈zs,(z=x.spelt↔z=sQ x):=fun z f=>by
   rw[eq_comm,VM h (a z f)];exact⟨fun h=>h.2.symm,fun h=>⟨hk,h.symm⟩⟩
  clear a
  induction zs with
  |nil=>rfl
  |cons z r ih=>
   have g:=ih (fun z a=>e z (List.mem_cons_of_mem _ a));have b:=e z (List.mem_cons_self);unfold wL;by_cases hx:z=x.spelt
   ·rw[if_pos hx,if_pos (b.1 hx)]
   ·rw[if_neg hx,if_neg (fun e=>hx (b.2 e)),g]
 ·rw[if_neg hk];exact AU (fun z d e=>hk ((VM h (a z d)).1 e).1)
theorem SD(h:¬ wL tNs a=0):ZX rq a=if a=QX then decide (0<wL rq QX)else if a=Z4 then decide (0<wL rq Xc)else true:=by
 have b:=(X1 a tNs).1 (by omega);simp only[tNs,List.mem_cons,List.not_mem_nil,or_false]at b;unfold ZX;rcases b with rfl|rfl|rfl|rfl|rfl|rfl|rfl|rfl|rfl|rfl<;>simp[KF,KD,KS,Kx,Kz,JR,QX,Z4,Kw,KI,ZB,ZD,Xy]
theorem Ls(h:TSt w tb l st)(b:¬(O l st).1=119):∃ f,failS st ⟨4,(O l st).2.2.2⟩=.error f/\bindS st (Qy l rq F n)=.error f:=by
 cases st with
 |error f=>exact⟨f,rfl,rfl⟩
 |ok s=>
  have a:¬ s.1.kind=1:=fun e=>b ((Kv h.wd).2 e)
  refine⟨_,rfl,?_⟩;show Qy l rq F n s=_
  cases n with
  |zero=>unfold Qy;rw[if_neg a];rfl
  |succ n=>rw[Qy,GE h.wd Aw,if_neg a,if_pos rfl];rfl
theorem ZR(h:TSt w tb l st)(a:(O l st).1=119):∃ s,st=.ok s/\s.1.kind=1/\Xr w tb l s:=by
 cases st with
 |error f=>exact absurd a (by show ¬(0:Nat)=119;decide)
 |ok s=>exact⟨s,rfl,(Kv h.wd).1 a,h⟩
theorem PZ(h:TSt w tb l st)(b:(O l st).1=119):failS st ⟨5,(O l st).2.2.2⟩=.error ⟨5,(O l st).2.2.2⟩/\bindS st (Qy l rq F 0)=.error ⟨5,(O l st).2.2.2⟩:=by
 obtain⟨s,rfl,a,c⟩:=ZR h b;refine⟨rfl,?_⟩;show Qy l rq F 0 s=_
 unfold Qy;rw[if_pos a];rfl
theorem IT(h:TSt w tb l st)(c:(O l st).1=119)(d:wL tNs (O l st).2.1=0):failS st ⟨4,(O l st).2.2.2⟩=.error ⟨4,(O l st).2.2.2⟩/\bindS st (Qy l rq F (n+1))=.error ⟨4,(O l st).2.2.2⟩:=by
 obtain⟨s,rfl,a,b⟩:=ZR h c;refine⟨rfl,?_⟩;show Qy l rq F (n+1) s=_
 have e:wL tNs (sQ s.1)=0:=d;rw[Qy,GE b.wd Aw,if_pos a,e,if_pos rfl];rfl
theorem Eb{b:Bool}{K:PS->Qb (α×PS)}:(if b=true then nextThen l s (fun s1=>K s1)else .error ⟨6,s.1.pos⟩)=bindS (nextS l (if b=true then .ok s else .error ⟨6,s.1.pos⟩)) K:=by
 cases b with
 |false=>rfl
 |true=>
  show nextThen l s _=bindS (nL l s.2) _
  unfold nextThen;cases nL l s.2<;>rfl
theorem JX(h:TSt w tb l st)(e:(O l st).1=119)(g:¬ wL tNs (O l st).2.1=0) :
 bindS st (Qy l rq F (n+1))=bindS (nextS l (preS l rq (O l st).2.1 st)) (Zl l F (Qy l rq F n) (wL tNs (O l st).2.1 - 1) (O l st).2.2.2):=by
 obtain⟨s,rfl,c,d⟩:=ZR h e;show Qy l rq F (n+1) s=_
 have a:¬ wL tNs (sQ s.1)=0:=g
 have b:s.1.spelt=sQ s.1:=by
  have f:=(X1 (sQ s.1) tNs).1 (by omega);exact(VM d.wd (Aw _ f)).2 ⟨c,rfl⟩
 rw[Qy,b,if_neg a,SD a];refine(Eb (α:=Yn (n+1)) (K:=Zl l F (Qy l rq F n) (wL tNs (sQ s.1) - 1) s.1.pos)).trans ?_;refine congrArg (fun x=>bindS (nextS l x) _) ?_;show _=preS l rq (sQ s.1) (.ok s)
 unfold preS Xx;by_cases e1:sQ s.1=QX
 ·rw[if_pos e1,if_pos e1];by_cases h:0<wL rq QX
  ·rw[if_pos h,if_pos (Qw h)]
  ·rw[if_neg h,if_neg (by simpa using h)];rfl
 ·rw[if_neg e1,if_neg e1];by_cases e2:sQ s.1=Z4
  ·rw[if_pos e2,if_pos e2];by_cases h:0<wL rq Xc
   ·rw[if_pos h,if_pos (Qw h)]
   ·rw[if_neg h,if_neg (by simpa using h)];rfl
  ·rw[if_neg e2,if_neg e2,if_pos rfl]
theorem OX(g:WdQ s.1)(c:UInt8)(d:XS c=true):paL l [[c]] s=match signS l c.toNat (.ok s)with | .ok s'=>.ok (1,s') | .error f=>.error f:=by
 have b:=YS g d;unfold paL signS;by_cases h:s.1.spelt=[c]
 ·have a:wL [[c]] s.1.spelt=1:=by rw[JZ,if_pos h.symm]
  rw[a,if_neg (by decide)];have:(O l (.ok s)).1=c.toNat:=b.2 h;rw[if_pos this];show _=match nL l s.2 with | .ok s'=>_ | .error f=>_
  cases nL l s.2<;>rfl
 ·have a:wL [[c]] s.1.spelt=0:=by rw[JZ,if_neg (fun e=>h e.symm)]
  rw[a,if_pos rfl];have:¬(O l (.ok s)).1=c.toNat:=fun e=>h (b.1 e)
  rw[if_neg this];rfl
theorem GR(h:TSt w tb l st)(c:UInt8)(a:XS c=true)(k:PS->Qb (β×PS)):bindS st (fun s=>Qo (paL l [[c]] s) fun _ s1=>k s1)=bindS (signS l c.toNat st) k:=by
 cases st with
 |error f=>
  have:signS l c.toNat (.error f)=.error f:=by
   unfold signS;split<;>rfl
  rw[this];rfl
 |ok s=>
  simp only[bindS];rw[OX h.wd c a];cases signS l c.toNat (.ok s)<;>rfl
def Ny{α:Type}(l:L8)(sub:PS->Qb (α×PS))(f:Nat)(acc:List α)(s:PS):Qb (List α×PS):=Qo (sub s) fun t s1=>X7 l sub f (acc++[t]) s1
structure Nx {α:Type} (R:Qb (List α×PS)) (l:L8) (sub:PS->Qb (α×PS)) (st:Qb PS) (acc:List α):Prop where
 r:∃ f,(∀ s,st=.ok s->mu l.length s < f)∧R=bindS st (Ny l sub f acc)
theorem PO(h:TSt w tb l st)(a:TSt w1 tb l (signS l 40 st))(b:l.length<=600)(hF:2*l.length+2<=F):Nx (bindS st (groupL l F sub)) l sub (signS l 40 st) []:=by
 refine⟨F,fun s c=>?_,?_⟩
 ·rw[c]at a;have:=UB a b;omega
 ·exact GR h 40 rfl (Ny l sub F [])
theorem RF(u:∀ s,Gd l s->Dn 1 l (sub s) s)(h:Nx R l sub st acc)(A:TSt w tb l st)(d:TSt w1 tb l (stOf (bindS st sub))) :
 ((O l (stOf (bindS st sub))).1=44->errS (stOf (bindS st sub))=0/\muS l (nextS l (stOf (bindS st sub)))<muS l st/\∃ z,bindS st sub=.ok z/\Nx R l sub (nextS l (stOf (bindS st sub))) (acc++[z.1]))/\
 (¬(O l (stOf (bindS st sub))).1=44->stOf R=signS l 41 (stOf (bindS st sub))/\∀ y,R=.ok y->∃ z,bindS st sub=.ok z/\y.1=acc++[z.1]):=by
 obtain⟨⟨f,v,j⟩⟩:=h
 cases st with
 |error g=>
  have a:R=.error g:=j;subst a;refine⟨fun h=>absurd h (by show ¬(0:Nat)=44;decide),fun _=>⟨rfl,fun y e=>by cases e⟩⟩
 |ok s=>
  have D:=v s rfl;obtain⟨f,rfl⟩:∃ g,f=g+1:=⟨f - 1,by omega⟩;simp only[bindS]at d j ⊢
  cases hs:sub s with
  |error g=>
   have a:R=.error g:=by rw[j];unfold Ny;rw[hs];rfl
   subst a;refine⟨fun h=>absurd h (by show ¬(0:Nat)=44;decide),fun _=>⟨rfl,fun y e=>by cases e⟩⟩
  |ok z=>
   rw[hs]at d;have b:Xr w1 tb l z.2:=d;have a:R=X7 l sub (f+1) (acc++[z.1]) z.2:=by rw[j];unfold Ny;rw[hs];rfl
   have G:=(u s (Xr.gd A) z hs).2;rw[X7]at a;refine⟨fun k=>?_,fun k=>?_⟩
   ·have m:kQ z.2.1=44:=k
    have o:¬ z.2.1.kind=0:=fun r=>by
     have:kQ z.2.1=0:=(Vi b.wd).2 r;omega
    have x:=VW b o;have E:muS l (nL l z.2.2)<mu l.length z.2+1:=x;have F:muS l (.ok s)=mu l.length s+1:=rfl
    have i:paL l [[44],[41]] z.2=match nL l z.2.2 with | .ok s'=>.ok (1,s') | .error f=>.error f:=by
     have e:z.2.1.spelt=[44]:=(YS b.wd (c:=44) (by decide)).1 m;unfold paL;have n:wL [[44],[41]] z.2.1.spelt=1:=by rw[e];rfl
     rw[n,if_neg (by decide)];cases nL l z.2.2<;>rfl
    refine⟨rfl,?_,z,rfl,⟨f,fun q d=>?_,?_⟩⟩
    ·show muS l (nL l z.2.2)<_
     omega
    ·have t:nL l z.2.2=.ok q:=d;have:=Yt b.le o t;omega
    ·rw[a,i];show _=bindS (nL l z.2.2) _
     cases nL l z.2.2<;>rfl
   ·have m:¬ kQ z.2.1=44:=k;by_cases h41:kQ z.2.1=41
    ·have e:signS l 41 (stOf (.ok z))=nL l z.2.2:=if_pos h41
     have i:paL l [[44],[41]] z.2=match nL l z.2.2 with | .ok s'=>.ok (2,s') | .error f=>.error f:=by
      have e:z.2.1.spelt=[41]:=(YS b.wd (c:=41) (by decide)).1 h41;unfold paL;have n:wL [[44],[41]] z.2.1.spelt=2:=by rw[e];rfl
      rw[n,if_neg (by decide)];cases nL l z.2.2<;>rfl
     rw[e,a,i]
     cases nL l z.2.2 with
     |error g=>exact⟨rfl,fun y e=>by cases e⟩
     |ok q=>exact⟨rfl,fun y e=>⟨z,rfl,by cases e;rfl⟩⟩
    ·have e:signS l 41 (stOf (.ok z))=.error ⟨4,z.2.1.pos⟩:=if_neg h41
     have i:paL l [[44],[41]] z.2=.error ⟨4,z.2.1.pos⟩:=by
      have B:¬ z.2.1.spelt=[44]:=fun e=>m ((YS b.wd (c:=44) (by decide)).2 e)
      have C:¬ z.2.1.spelt=[41]:=fun e=>h41 ((YS b.wd (c:=41) (by decide)).2 e)
      unfold paL;rw[AU (by intro z p;simp at p;rcases p with rfl|rfl;exact B;exact C),if_pos rfl]
     rw[e,a,i];exact⟨rfl,fun y e=>by cases e⟩
theorem Tu(h:TSt w tb l st)(v:Nat)(b:v=if(O l st).1=58 then wL [Kc,J4] (O l st).2.1 else 0) :
 bindS st (sizeL l pos)=bindS (if v=0 then failS st ⟨4,(O l st).2.2.2⟩else nextS l st) fun s1=>if s1.1.kind=4 then nextThen l s1 fun s2=>.ok (⟨9,pos,v,false,[],[],s1.1.num⟩,s2)else .error ⟨4,s1.1.pos⟩:=by
 cases st with
 |error f=>
  have a:v=0:=by rw[b];rfl
  subst a;rw[if_pos rfl];rfl
 |ok s=>
  have c:wL [UO,UL] s.1.spelt=v:=by
   rw[b];by_cases hk:s.1.kind=2
   ·have:(O l (.ok s)).1=58:=(Ua h.wd).2 hk;rw[if_pos this,Ax h.wd hk,E7,VQ];rfl
   ·have:¬(O l (.ok s)).1=58:=fun e=>hk ((Ua h.wd).1 e)
    rw[if_neg this,E7,GK h.wd hk _ neS]
  show sizeL l pos s=_
  unfold sizeL paL;rw[c];by_cases a:v=0
  ·rw[if_pos a,if_pos a];rfl
  ·rw[if_neg a,if_neg a];show _=bindS (nL l s.2) _
   cases nL l s.2<;>rfl
theorem SQ{v:Nat}(h:TSt w tb l st) :
 stOf (bindS st fun s1=>if s1.1.kind=4 then nextThen l s1 fun s2=>.ok ((⟨9,pos,v,false,[],[],s1.1.num⟩:ZV),s2)else .error ⟨4,s1.1.pos⟩)=signS l 48 st/\∀ y,(bindS st fun s1=>if s1.1.kind=4 then nextThen l s1 fun s2=>.ok ((⟨9,pos,v,false,[],[],s1.1.num⟩:ZV),s2)else .error ⟨4,s1.1.pos⟩)=.ok y->y.1=⟨9,pos,v,false,[],[],(O l st).2.2.1⟩:=by
 cases st with
 |error f=>
  exact⟨by unfold signS;split<;>rfl,fun y e=>by cases e⟩
 |ok s=>
  simp only[bindS];by_cases hk:s.1.kind=4
  ·have:(O l (.ok s)).1=48:=(E3 h.wd).2 hk;unfold signS;rw[if_pos this,if_pos hk];show stOf (nextThen l s _)=nL l s.2/\∀ y,nextThen l s _=_->_
   unfold nextThen
   cases nL l s.2 with
   |error f=>exact⟨rfl,fun y e=>by cases e⟩
   |ok s2=>exact⟨rfl,fun y e=>by cases e;rfl⟩
  ·have:¬(O l (.ok s)).1=48:=fun e=>hk ((E3 h.wd).1 e)
   unfold signS;rw[if_neg this,if_neg hk];exact⟨rfl,fun y e=>by cases e⟩
def Uf(l:L8)(rq:Qa)(nm:L8)(st:Qb PS):Qb PS:=
 if nm=ZB\/nm=ZD then Xx l rq nm st else if nm=Xy then Xx l rq Xc st else st
theorem TY(h:¬ wL cNs a=0):ZX rq a=if a=ZB\/a=ZD then decide (0<wL rq a)else if a=Xy then decide (0<wL rq Xc)else true:=by
 have b:=(X1 a cNs).1 (by omega);simp only[cNs,List.mem_cons,List.not_mem_nil,or_false]at b;unfold ZX;rcases b with rfl|rfl|rfl|rfl|rfl|rfl|rfl|rfl<;>simp[KM,Kt,KH,ZB,Kk,ZD,Xy,kIf,QX,Z4]
theorem CA(b:WdQ s.1)(a:¬ s.1.kind=1):QG l rq F n s=.error ⟨4,s.1.pos⟩:=by
 cases n with
 |zero=>unfold QG;rw[if_neg a]
 |succ n=>rw[QG,GE b AS,if_neg a,if_pos rfl]
theorem SN(h:TSt w tb l st)(b:(O l st).1=119):bindS st (QG l rq F 0)=.error ⟨5,(O l st).2.2.2⟩:=by
 obtain⟨s,rfl,a,c⟩:=ZR h b;show QG l rq F 0 s=_
 unfold QG;rw[if_pos a];rfl
theorem IP(h:TSt w tb l st)(c:(O l st).1=119)(d:wL cNs (O l st).2.1=0):bindS st (QG l rq F (n+1))=.error ⟨4,(O l st).2.2.2⟩:=by
 obtain⟨s,rfl,a,b⟩:=ZR h c;show QG l rq F (n+1) s=_
 have e:wL cNs (sQ s.1)=0:=d;rw[QG,GE b.wd AS,if_pos a,e,if_pos rfl];rfl
theorem Gc(h:TSt w tb l st)(e:(O l st).1=119)(g:¬ wL cNs (O l st).2.1=0) :
 bindS st (QG l rq F (n+1))=bindS (nextS l (Uf l rq (O l st).2.1 st)) (Zp l F (Qy l rq F n) (QG l rq F n) (wL cNs (O l st).2.1 - 1) (O l st).2.2.2):=by
 obtain⟨s,rfl,c,d⟩:=ZR h e;show QG l rq F (n+1) s=_
 have a:¬ wL cNs (sQ s.1)=0:=g
 have b:s.1.spelt=sQ s.1:=by
  have f:=(X1 (sQ s.1) cNs).1 (by omega);exact(VM d.wd (AS _ f)).2 ⟨c,rfl⟩
 rw[QG,b,if_neg a,TY a];refine(Eb (α:=Zt (n+1)) (K:=Zp l F (Qy l rq F n) (QG l rq F n) (wL cNs (sQ s.1) - 1) s.1.pos)).trans ?_;refine congrArg (fun x=>bindS (nextS l x) _) ?_;show _=Uf l rq (sQ s.1) (.ok s)
 unfold Uf Xx;by_cases e1:sQ s.1=ZB\/sQ s.1=ZD
 ·rw[if_pos e1,if_pos e1];by_cases h:0<wL rq (sQ s.1)
  ·rw[if_pos h,if_pos (Qw h)]
  ·rw[if_neg h,if_neg (by simpa using h)];rfl
 ·rw[if_neg e1,if_neg e1];by_cases e2:sQ s.1=Xy
  ·rw[if_pos e2,if_pos e2];by_cases h:0<wL rq Xc
   ·rw[if_pos h,if_pos (Qw h)]
   ·rw[if_neg h,if_neg (by simpa using h)];rfl
  ·rw[if_neg e2,if_neg e2,if_pos rfl]
structure Gr {α:Type} (R:Qb (List α×PS)) (l:L8) (sub:PS->Qb (α×PS)) (st:Qb PS) (acc:List α):Prop where
 r:∃ f,(∀ s,st=.ok s->mu l.length s < f)∧R=bindS st (Xu l sub f acc)
theorem Pk(h:TSt w tb l st)(a:TSt w1 tb l (signS l 123 st))(b:l.length<=600)(hF:2*l.length+2<=F):Gr (bindS st (blockL l F sub)) l sub (signS l 123 st) []:=by
 refine⟨F,fun s c=>?_,?_⟩
 ·rw[c]at a;have:=UB a b;omega
 ·exact GR h 123 rfl (Xu l sub F [])
theorem D4{c:UInt8}(d:WdQ s.1)(a:XS c=true)(b:¬ kQ s.1=c.toNat):mayL l [[c]] s=.ok (0,s):=by
 have h:¬ s.1.spelt=[c]:=fun e=>b ((YS d a).2 e)
 unfold mayL;rw[if_pos (by rw[JZ,if_neg (fun e=>h e.symm)])]
theorem RU{d:List α}(m:∀ s,Gd l s->Dn 1 l (sub s) s)(h:Gr R l sub st acc)(p:TSt w tb l st)(k:(O l st).1=119)(i:∀ z,bindS st sub=.ok z->d=acc++[z.1]):Gr R l sub (stOf (bindS st sub)) d:=by
 obtain⟨⟨f,n,b⟩⟩:=h;obtain⟨s,rfl,r,j⟩:=ZR p k;have t:=n s rfl;obtain⟨f,rfl⟩:∃ g,f=g+1:=⟨f - 1,by omega⟩;simp only[bindS]at b i ⊢;have o:kQ s.1=119:=k;rw[Xu,D4 j.wd (c:=125) rfl (by rw[o];decide)]at b;have a:R=Qo (sub s) fun c q=>Xu l sub f (acc++[c]) q:=b
 cases hs:sub s with
 |error g=>
  rw[hs]at a;exact⟨0,(fun s e=>by cases e),a⟩
 |ok z=>
  rw[hs]at a;rw[i z hs];have u:=(m s j.gd z hs).2;refine⟨f,fun v e=>?_,a⟩;cases e;omega
theorem S2(p:∀ s,WdQ s.1->¬ s.1.kind=1->sub s=.error ⟨4,s.1.pos⟩)(h:Gr R l sub st acc)(r:TSt w tb l st)(o:¬(O l st).1=119):stOf R=signS l 125 st/\∀ y,R=.ok y->y.1=acc:=by
 obtain⟨⟨f,n,a⟩⟩:=h
 cases st with
 |error g=>
  have m:R=.error g:=a;subst m;exact⟨by unfold signS;split<;>rfl,fun y e=>by cases e⟩
 |ok s=>
  have u:=n s rfl;obtain⟨f,rfl⟩:∃ g,f=g+1:=⟨f - 1,by omega⟩;simp only[bindS]at a;have b:Xr w tb l s:=r;have k:¬ s.1.kind=1:=fun e=>o ((Kv b.wd).2 e)
  rw[Xu]at a;by_cases h125:kQ s.1=125
  ·have e:signS l 125 (.ok s)=nL l s.2:=if_pos h125
   have q:mayL l [[125]] s=match nL l s.2 with | .ok s'=>.ok (1,s') | .error f=>.error f:=by
    have e:s.1.spelt=[125]:=(YS b.wd (c:=125) (by decide)).1 h125;have t:wL [[125]] s.1.spelt=1:=by rw[JZ,if_pos e.symm]
    unfold mayL;rw[t,if_neg (by decide)];cases nL l s.2<;>rfl
   rw[e,a,q]
   cases nL l s.2 with
   |error g=>exact⟨rfl,fun y e=>by cases e⟩
   |ok d=>exact⟨rfl,fun y e=>by cases e;rfl⟩
  ·have e:signS l 125 (.ok s)=.error ⟨4,s.1.pos⟩:=if_neg h125;rw[e,a,D4 b.wd (c:=125) rfl h125];have:Qo (.ok (0,s)) (fun i d=>if i=0 then Qo (sub d) fun c j=>Xu l sub f (acc++[c]) j else .ok (acc,d))=Qo (sub s) fun c j=>Xu l sub f (acc++[c]) j:=rfl
   rw[this,p s b.wd k];exact⟨rfl,fun y e=>by cases e⟩
structure Gs {α:Type} (R:Qb (List α)) (l:L8) (sub:PS->Qb (α×PS)) (st:Qb PS) (acc:List α):Prop where
 r:∃ f,(∀ s,st=.ok s->mu l.length s < f)∧R=bindS st (cMr sub f acc)
theorem Rs{R:Qb (List α)}{b:List α}(d:∀ s,Gd l s->Dn 1 l (sub s) s)(h:Gs R l sub st acc)(m:TSt w tb l st)(k:(O l st).1=119)(c:∀ z,bindS st sub=.ok z->b=acc++[z.1]):Gs R l sub (stOf (bindS st sub)) b:=by
 obtain⟨⟨f,i,a⟩⟩:=h;obtain⟨s,rfl,n,j⟩:=ZR m k;have o:=i s rfl;obtain⟨f,rfl⟩:∃ g,f=g+1:=⟨f - 1,by omega⟩;simp only[bindS]at a c ⊢;rw[cMr,if_neg (by omega)]at a
 cases hs:sub s with
 |error g=>
  rw[hs]at a;exact⟨0,(fun s e=>by cases e),a⟩
 |ok z=>
  rw[hs]at a;rw[c z hs];have p:=(d s j.gd z hs).2;refine⟨f,fun q e=>?_,a⟩;cases e;omega
theorem TV{R:Qb (List α)}(k:∀ s,WdQ s.1->¬ s.1.kind=1->sub s=.error ⟨4,s.1.pos⟩)(h:Gs R l sub st acc)(m:TSt w tb l st)(j:¬(O l st).1=119):R=bindS (if(O l st).1=0 then st else failS st ⟨4,(O l st).2.2.2⟩) fun _=>.ok acc:=by
 obtain⟨⟨f,i,b⟩⟩:=h
 cases st with
 |error g=>
  have d:R=.error g:=b;rw[d];rfl
 |ok s=>
  have n:=i s rfl;obtain⟨f,rfl⟩:∃ g,f=g+1:=⟨f - 1,by omega⟩;simp only[bindS]at b;have a:Xr w tb l s:=m;have c:¬ s.1.kind=1:=fun e=>j ((Kv a.wd).2 e)
  rw[b,cMr];by_cases h0:s.1.kind=0
  ·have e:(O l (.ok s)).1=0:=(Vi a.wd).2 h0;rw[if_pos h0,if_pos e];rfl
  ·have e:¬(O l (.ok s)).1=0:=fun e=>h0 ((Vi a.wd).1 e)
   rw[if_neg h0,if_neg e,k s a.wd c];rfl
theorem G9(d:Xr w tb l s)(z:L8)(g:∃ c r,z=c::r/\QL c.toNat=true):mayL l [z] s=if s.1.kind=1/\sQ s.1=z then(match nL l s.2 with | .ok s'=>.ok (1,s') | .error f=>.error f)else .ok (0,s):=by
 have b:=VM d.wd g;unfold mayL;by_cases h:s.1.spelt=z
 ·have a:wL [z] s.1.spelt=1:=by rw[JZ,if_pos h.symm]
  rw[a,if_neg (by decide),if_pos (b.1 h)];cases nL l s.2<;>rfl
 ·have a:wL [z] s.1.spelt=0:=by rw[JZ,if_neg (fun e=>h e.symm)]
  rw[a,if_pos rfl,if_neg (fun e=>h (b.2 e))]
def Uc{α β:Type}(l:L8)(F:Nat)(tst:PS->Qb (β×PS))(sub:PS->Qb (α×PS))(f:Nat)(acc:List (β×List α))(s:PS):Qb (List (β×List α)×PS):=Qo (armL l F tst sub s) fun a s1=>Z9 l F tst sub f (acc++[a]) s1
structure ArmI {α β:Type} (R:Qb (List (β×List α)×PS)) (l:L8) (F:Nat) (tst:PS->Qb (β×PS)) (sub:PS->Qb (α×PS)) (st:Qb PS) (acc:List (β×List α)):Prop where
 r:∃ f,(∀ s,st=.ok s->mu l.length s < f)∧R=bindS st (Uc l F tst sub f acc)
theorem RZ{p:World}{R:Qb (List (β×List α)×PS)}{a:Qb PS}{acc:List (β×List α)}(t:∀ s,Gd l s->Dn 1 l (tst s) s)(r:∀ s,Gd l s->Dn 1 l (sub s) s)(h:ArmI R l F tst sub st acc)(C:TSt w tb l st)(b:a=stOf (bindS (stOf (bindS st tst)) (blockL l F sub)))(D:TSt p tb l a) :
 (((O l a).1=119/\(O l a).2.1=Yi)->errS a=0/\muS l (nextS l a)<muS l st/\∃ z1 z2,bindS st tst=.ok z1/\bindS (stOf (bindS st tst)) (blockL l F sub)=.ok z2/\ArmI R l F tst sub (nextS l a) (acc++[(z1.1,z2.1)]))/\
 (¬((O l a).1=119/\(O l a).2.1=Yi)->stOf R=a/\∀ y,R=.ok y->∃ z1 z2,bindS st tst=.ok z1/\bindS (stOf (bindS st tst)) (blockL l F sub)=.ok z2/\y.1=acc++[(z1.1,z2.1)]):=by
 obtain⟨⟨f,u,i⟩⟩:=h;have n:∀ g,¬((O l (.error g)).1=119/\(O l (.error g)).2.1=Yi):=fun g h=>absurd h.1 (by show ¬(0:Nat)=119;decide)
 cases st with
 |error g=>
  have c:R=.error g:=i;subst c;have d:a=.error g:=b;subst d;exact⟨fun h=>absurd h (n g),fun _=>⟨rfl,fun y e=>by cases e⟩⟩
 |ok s=>
  have G:=u s rfl;have v:Xr w tb l s:=C;obtain⟨f,rfl⟩:∃ g,f=g+1:=⟨f - 1,by omega⟩;simp only[bindS]at b i ⊢
  cases hs:tst s with
  |error g=>
   have c:R=.error g:=by rw[i];unfold Uc armL;rw[hs];rfl
   subst c;rw[hs]at b;have d:a=.error g:=b;subst d;exact⟨fun h=>absurd h (n g),fun _=>⟨rfl,fun y e=>by cases e⟩⟩
  |ok z=>
   rw[hs]at b;obtain⟨A,L⟩:=t s v.gd z hs;simp only[stOf]at b ⊢
   cases hb:blockL l F sub z.2 with
   |error g=>
    have c:R=.error g:=by rw[i];unfold Uc armL;rw[hs];simp only[Qo];rw[hb]
    subst c;rw[hb]at b;have d:a=.error g:=b;subst d;exact⟨fun h=>absurd h (n g),fun _=>⟨rfl,fun y e=>by cases e⟩⟩
   |ok x=>
    rw[hb]at b;have d:a=.ok x.2:=b;subst d;have j:Xr p tb l x.2:=D;obtain⟨H,K⟩:=AH r A x hb;have c:R=Z9 l F tst sub (f+1) (acc++[(z.1,x.1)]) x.2:=by rw[i];unfold Uc armL;rw[hs];simp only[Qo];rw[hb]
    rw[Z9,G9 j Yi ⟨_,_,rfl,rfl⟩]at c;refine⟨fun k=>?_,fun k=>?_⟩
    ·have m:x.2.1.kind=1:=(Kv j.wd).1 k.1;have o:¬ x.2.1.kind=0:=by omega
     rw[if_pos ⟨m,k.2⟩]at c;have B:=VW j o;have J:muS l (nL l x.2.2)<mu l.length x.2+1:=B;refine⟨rfl,?_,z,x,rfl,rfl,⟨f,fun E m=>?_,?_⟩⟩
     ·show muS l (nL l x.2.2)<mu l.length s+1
      omega
     ·have b:nL l x.2.2=.ok E:=m;have:=Yt j.le o b;omega
     ·rw[c];show _=bindS (nL l x.2.2) _
      cases nL l x.2.2<;>rfl
    ·rw[if_neg (fun e=>k ⟨(Kv j.wd).2 e.1,e.2⟩)]at c;have q:R=.ok (acc++[(z.1,x.1)],x.2):=c;rw[q];exact⟨rfl,fun y e=>⟨z,x,rfl,rfl,by cases e;rfl⟩⟩
theorem TM(h:TSt w tb l st)(n:l.length<=600)(hF:2*l.length+2<=F) :
 ∃ R,ArmI R l F tst sub st []/\∀ w1,TSt w1 tb l (stOf R)->
  (((O l (stOf R)).1=119/\(O l (stOf R)).2.1=Yk)->stOf (bindS st (Zp l F tst sub 7 pos))=stOf (bindS (nextS l (stOf R)) (blockL l F sub))/\∀ y,bindS st (Zp l F tst sub 7 pos)=.ok y->∃ z x,R=.ok z/\bindS (nextS l (stOf R)) (blockL l F sub)=.ok x/\y.1=(⟨7,pos,0,[],[],true⟩,z.1,x.1))/\
  (¬((O l (stOf R)).1=119/\(O l (stOf R)).2.1=Yk)->stOf (bindS st (Zp l F tst sub 7 pos))=stOf R/\∀ y,bindS st (Zp l F tst sub 7 pos)=.ok y->∃ z,R=.ok z/\y.1=(⟨7,pos,0,[],[],false⟩,z.1,[])):=by
 refine⟨bindS st (Uc l F tst sub F []),⟨F,fun s p=>?_,rfl⟩,fun w1 c=>?_⟩
 ·rw[p]at h;have:=UB h n;omega
 ·have o:∀ g,¬((O l (.error g)).1=119/\(O l (.error g)).2.1=Yk):=fun g h=>absurd h.1 (by show ¬(0:Nat)=119;decide)
  have m:bindS st (Zp l F tst sub 7 pos)=Qo (bindS st (Uc l F tst sub F [])) fun f q=>Qo (mayL l [Yk] q) fun i b=>
   if i=0 then .ok ((⟨7,pos,0,[],[],false⟩,f,[]),b)
   else Qo (blockL l F sub b) fun j r=>.ok ((⟨7,pos,0,[],[],true⟩,f,j),r):=by
   cases st with
   |error g=>rfl
   |ok s=>
    simp only[bindS,Zp,Uc];cases armL l F tst sub s<;>rfl
  rw[m];revert c;generalize bindS st (Uc l F tst sub F [])=R;intro c
  cases R with
  |error g=>exact⟨fun h=>absurd h (o g),fun _=>⟨rfl,fun y e=>by cases e⟩⟩
  |ok z=>
   have d:Xr w1 tb l z.2:=c;simp only[Qo,stOf];rw[G9 d Yk ⟨_,_,rfl,rfl⟩];refine⟨fun a=>?_,fun a=>?_⟩
   ·have k:z.2.1.kind=1:=(Kv d.wd).1 a.1;rw[if_pos ⟨k,a.2⟩];show _=stOf (bindS (nL l z.2.2) _)/\∀ y,_->∃ z' x,_/\bindS (nL l z.2.2) _=_/\_
    cases nL l z.2.2 with
    |error g=>exact⟨rfl,fun y e=>by cases e⟩
    |ok b=>
     simp only[bindS];rw[if_neg (by decide)]
     cases blockL l F sub b with
     |error g=>exact⟨rfl,fun y e=>by cases e⟩
     |ok x=>exact⟨rfl,fun y e=>⟨z,x,rfl,rfl,by cases e;rfl⟩⟩
   ·rw[if_neg (fun e=>a ⟨(Kv d.wd).2 e.1,e.2⟩)];exact⟨rfl,fun y e=>⟨z,rfl,by cases e;rfl⟩⟩
theorem Zg(x z:L8):((sA x).toList==z)=decide (x=z):=by rw[ByteArray.toList_eq];show(x==z)=_;rw[Zo];simp
def XL(_:World)(v:Value):Prop:=∃ g,v=.pointer (some ⟨g,0,none⟩)
theorem Kr{gb:Nat}{X:Nat->Prop}{x:ZV}{e:List (Yn n)}{c a b:Value}{d:L8}(f:X gb)(g:w.heap[gb]?=some (.cells #[.string (sA d),c,a,b,.int .i64 x.tag,.bool x.octet,.int .i64 x.num] 200))(l:tNs.getD x.kind []=d)(m:trY (ZG n) X e w c)(j:slY X x.fr w a)(k:slY X x.keys w b)(i:x.kind=8->VC a:=by exact fun _=>Ql):ZG (n+1) X (x,e) w (.pointer (some ⟨gb,0,none⟩)):=by
 subst l;exact⟨gb,c,a,b,rfl,f,g,m,j,k,i⟩
theorem Y8{b:Nat}(h:Mod b w.drew w1):Mod b w w1:=⟨h.os,h.tape,h.output,h.size,h.block⟩
theorem GT(rb tb:Nat)(nv:Value)(rq:Qa)(l:L8)(F n L:Nat)(st:Qb PS)(w:World)(u:RdI w rb tb nv rq)(h:TSt w tb l st)(hl:l.length<=600)(hF:2*l.length+2<=F)(R:L+n=7)(i:¬(O l st).1=119\/(n=0/\(O l st).1=119)\/((O l st).1=119/\0<n/\wL tNs (O l st).2.1=0)) :
 Calls prog 214 #[.pointer (some ⟨rb,0,none⟩),.int .i64 L] w (QY (bindS st (Qy l rq F n)) tb l w (ZG n (fromB w.heap.size)) XL):=by
 have r0:=Qk u.r;obtain⟨c2,c4,V,c6,c7⟩:=h.cells;have H:=I h;have x:=I u;have ab:=Qg u.r;have ac:=h.lt;have aa:w.heap.size≠tb:=by omega
 obtain⟨a,N⟩:=Qe ((O l st).2.1);rw[N]at V i;obtain⟨j,B⟩:=QF (w.alloc (.cells #[.string (sA a),.slice none 0 0,.slice none 0 0,.slice none 0 0,.int .i64 0,.bool false,.int .i64 0] 200));have K:=I B;have q:Hid (Mod tb w j):=by show Mod _ _ _;rw[B];exact(Mod.refl _ _).alloc _
 have A:Hid (TSt j tb l st):=by show TSt _ _ _ _;rw[B];exact h.below (Qp _)
 have v:=I (fun c=>Yu tb l st ⟨c+1,(O l st).2.2.2⟩ j.drew (A.o.block rfl) hl (Nat.succ_ne_zero c));by_cases he:errS st=0;rotate_left
 ·have X:((errS st:Int) != 0)=true:=by simp;omega
  have J:Hid (∃ f,st=.error f):=by cases st with|ok s=>exact absurd rfl he|error f=>exact⟨f,rfl⟩
  clear h u i he;go_enter func214,ntmps214;go_wp2;go_ret;rw[<-K.o];obtain⟨f,M⟩:=J.o;exact QY.mk q.o (by rw[M];rw[M]at A;exact A.o) ⟨_,rfl⟩ (fun y d=>by rw[M]at d;cases d)
 ·have X:((errS st:Int) != 0)=false:=by simp;omega
  have J:Hid (∀ g,failS st g=.error g):=by intro g;obtain⟨s,hs⟩:=h.err0.1 he;rw[hs];rfl
  by_cases hk:(O l st).1=119;rotate_left
  ·have Z:(((O l st).1:Int) != 119)=true:=by simp;omega
   have t:=I (Ls (rq:=rq) (F:=F) (n:=n) h hk);have C:=I (v.o 3);clear h u i he hk B v;go_enter func214,ntmps214;go_wp2_with fail;rw[<-K.o];have P:=Qk (w:=j) (x.o.r.mod q.o x.o.n);have Q:=A.o.cells.2.2.2.2;go_region_with (first|(go_at_call 70;refine C.o.mono ?_;rintro e U G;obtain⟨rfl,k,p⟩:=G;have D:=I k;have E:=I p;clear k p;skip))
   all_goals go_wp2
   all_goals go_ret
   all_goals
    obtain⟨f,Y,S⟩:=t.o;exact QY.mk (q.o.trans (Y8 D.o)) (by rw[S];have:=E.o;rw[Y]at this;exact this) ⟨_,rfl⟩ (fun y d=>by rw[S]at d;cases d)
  ·have Z:(((O l st).1:Int) != 119)=false:=by simp;omega
   rcases i with i | ⟨i,_⟩ | ⟨_,i,T⟩
   ·exact absurd hk i
   ·subst i;have W:decide ((6:Int)<(L:Int))=true:=Qw (by omega);have t:=I (PZ (rq:=rq) (F:=F) h hk);have C:=I (v.o 4);clear h u he hk B v R;go_enter func214,ntmps214;go_wp2_with fail;rw[<-K.o];have P:=Qk (w:=j) (x.o.r.mod q.o x.o.n);have Q:=A.o.cells.2.2.2.2;go_region_with (first|(go_at_call 70;refine C.o.mono ?_;rintro e U G;obtain⟨rfl,k,p⟩:=G;have D:=I k;have E:=I p;clear k p;skip))
    all_goals go_wp2
    all_goals go_ret
    all_goals exact QY.mk (q.o.trans (Y8 D.o)) (by rw[t.o.2];have:=E.o;rw[J.o]at this;exact this) ⟨_,rfl⟩ (fun y d=>by rw[t.o.2]at d;cases d)
   ·obtain⟨n,rfl⟩:∃ m,n=m+1:=⟨n - 1,by omega⟩;have W:decide ((6:Int)<(L:Int))=false:=Qh (by omega);have t:=I (IT (rq:=rq) (F:=F) (n:=n) h hk (by rw[N];exact T));have C:=I (v.o 3);have b:∀ z∈tNs,¬ a=z:=fun z hz e=>by have:=(X1 a tNs).2 (by rw[e];exact hz);omega
    have e0:((sA a).toList==[116,114,117,101])=false:=by rw[Zg];exact Qh (b KF (by simp[tNs]))
    have e1:((sA a).toList==[102,97,108,115,101])=false:=by rw[Zg];exact Qh (b KD (by simp[tNs]))
    have e2:((sA a).toList==[110,111,116])=false:=by rw[Zg];exact Qh (b KS (by simp[tNs]))
    have e3:((sA a).toList==[97,108,108,111,102])=false:=by rw[Zg];exact Qh (b Kx (by simp[tNs]))
    have e4:((sA a).toList==[97,110,121,111,102])=false:=by rw[Zg];exact Qh (b Kz (by simp[tNs]))
    have e5:((sA a).toList==[104,101,97,100,101,114])=false:=by rw[Zg];exact Qh (b JR (by simp[tNs]))
    have e6:((sA a).toList==[101,110,118,101,108,111,112,101])=false:=by rw[Zg];exact Qh (b QX (by simp[tNs]))
    have e7:((sA a).toList==[115,116,114,105,110,103])=false:=by rw[Zg];exact Qh (b Z4 (by simp[tNs]))
    have e8:((sA a).toList==[101,120,105,115,116,115])=false:=by rw[Zg];exact Qh (b Kw (by simp[tNs]))
    have e9:((sA a).toList==[115,105,122,101])=false:=by rw[Zg];exact Qh (b KI (by simp[tNs]))
    clear h u he hk B v R b T i N;go_enter func214,ntmps214;go_wp2_with fail;rw[<-K.o];have P:=Qk (w:=j) (x.o.r.mod q.o x.o.n);have Q:=A.o.cells.2.2.2.2;go_region_with (first|(go_at_call 70;refine C.o.mono ?_;rintro e U G;obtain⟨rfl,k,p⟩:=G;have D:=I k;have E:=I p;clear k p;skip))
    all_goals go_wp2
    all_goals go_ret
    all_goals exact QY.mk (q.o.trans (Y8 D.o)) (by rw[t.o.2];have:=E.o;rw[J.o]at this;exact this) ⟨_,rfl⟩ (fun y d=>by rw[t.o.2]at d;cases d)
theorem Tryz.infoPtrCmd:(prog.info? 151).map (fun i=>(i.zero,i.size,i.bytes))=some (some (.pointer none),1,8):=by kernel_rfl
def Bf(_:World)(v:Value):Prop:=∃ p m c,v=.slice p m c
def COk(rb tb:Nat)(nv:Value)(rq:Qa)(l:L8)(F n deep:Nat):Prop:=
 ∀ st w,RdI w rb tb nv rq->TSt w tb l st->(O l st).1=119->Calls prog 115 #[.pointer (some ⟨rb,0,none⟩),.int .i64 deep] w (QY (bindS st (QG l rq F n)) tb l w (ZU n (fromB w.heap.size)) XL)
def Wp(n:Nat)(J:Qb PS->List (Zt n)->Prop)(tb:Nat)(l:L8)(w:World)(e:Ending)(w':World):Prop:=
 ∃ v st1 cs,e=.returned v/\Mod tb w w'/\TSt w' tb l st1/\J st1 cs/\¬(O l st1).1=119/\Bf w' v/\∀ s,st1=.ok s->trY (ZU n) (fromB w.heap.size) cs w' v
theorem Uz{size:Nat}{xs:List Value}(h:w.ownsRow base e size v n xs):Bf w v:=by
 rcases h.2 with⟨h,_⟩ | ⟨g,c,_,h,_⟩
 ·exact⟨_,_,_,h⟩
 ·exact⟨_,_,_,h⟩
theorem JU{α:Type}{P:α->Value->Prop}:∀ {xs:List α} {a:List Value},Q3 P xs a->xs.length=a.length
 | [],[],_=>rfl
 |_::_,_::_,h=>by simp[JU h.2]
 | [],_::_,h=>h.elim
 |_::_,[],h=>h.elim
theorem trY.of_owns{P:(Nat->Prop)->α->World->Value->Prop}(g:TreeQ P){xs:List α}{b:List Value}(h:w.ownsRow base e 1 v b.length b)(f:b=[]->v=.slice none 0 0)(d:Q3 (fun a u=>Q8 P base w v a u) xs b):trY P (fromB base) xs w v:=by
 have c:=JU d;by_cases hx:xs=[]
 ·subst hx;have i:b=[]:=Xz c.symm;exact Qd ⟨rfl,f i⟩
 ·exact Qc ⟨hx,trX.of_ownsQ g (by rw[<-c]at h;exact h) rfl hx d⟩
theorem Wx(a:∀ s,Gd l s->Dn 1 l (sub s) s)(d:TSt w tb l st)(c:(O l st).1=119):muS l (stOf (bindS st sub))<muS l st:=by
 obtain⟨s,rfl,e,b⟩:=ZR d c;simp only[bindS]
 cases hs:sub s with
 |error g=>exact Nat.succ_pos _
 |ok z=>
  have:=(a s b.gd z hs).2;show mu l.length z.2+1<mu l.length s+1
  omega
theorem Bx(n:Nat)(J:Qb PS->List (Zt n)->Prop)(rb tb:Nat)(nv:Value)(rq:Qa)(l:L8)(F ad:Nat)(st:Qb PS)(w:World)(V:RdI w rb tb nv rq)(h:TSt w tb l st)(hl:l.length<=600)(hC:COk rb tb nv rq l F n ad)(ae:J st [])(hJ:∀ w1 st1 acc acc',J st1 acc->TSt w1 tb l st1->(O l st1).1=119->(∀ z,bindS st1 (QG l rq F n)=.ok z->acc'=acc++[z.1])->J (stOf (bindS st1 (QG l rq F n))) acc') :
 Calls prog 69 #[.pointer (some ⟨rb,0,none⟩),.int .i64 ad] w (Wp n J tb l w):=by
 have ai:=h.lt;have aH:=Qg V.r;have H:=I h;have HR:=I V;have HC:=I hC;have HJ:=I hJ;have ap:=I ae;have ao:=I (fun s G=>UJ (l:=l) (req:=rq) (F:=F) n s G);have aG:=Gb h hl;clear h V hC hJ ae;obtain⟨i0,hi,aC,aD,aE⟩:=info_parts Tryz.infoPtrCmd;go_enter func69,ntmps69;go_upto_block 0 with fail
 go_cut [5] (fun y Q=>∃(st1:Qb PS) (d:List (Zt n)) (b:List Value),Q.ownsRow w.heap.size 151 1 y b.length b/\(b=[]->y=.slice none 0 0)/\TSt Q tb l st1/\Mod tb w Q/\J st1 d/\¬(O l st1).1=119/\∀ s,st1=.ok s->Q3 (fun a u=>Q8 (ZU n) w.heap.size Q y a u) d b)
 case first=>
  go_wp2_with fail
  go_loopg [5,6] (muS l st) (fun k y _ wr=>∃(st1:Qb PS) (d:List (Zt n)) (b:List Value),k=muS l st1/\wr.ownsRow w.heap.size 151 1 y b.length b/\(b=[]->y=.slice none 0 0)/\TSt wr tb l st1/\Mod tb w wr/\J st1 d/\b.length+muS l st1<=1300/\∀ s,st1=.ok s->Q3 (fun a u=>Q8 (ZU n) w.heap.size wr y a u) d b)
  case atStart=>exact⟨st,[],[],rfl,Zj,fun _=>rfl,H.o,Mod.refl _ _,ap.o,by simp;omega,fun _ _=>trivial⟩
  case round=>
   obtain⟨st1,d,b,rfl,E,M,q,C,g,aF,x⟩:=hrel;have S:=I E;have ar:=I M;have A:=I q;have R:=I C;have X:=I g;have ab:=I x;have aB:=C.size;have r0:wr.cell? ⟨rb,0,none⟩=some (.pointer (some ⟨tb,0,none⟩)):=Qi (HR.o.mod C).r 0;obtain⟨c2,c4,_,_,_⟩:=q.cells;clear E M q C g x;by_cases i:(O l st1).1=119;rotate_left
   ·have az:(((O l st1).1:Int)==119)=false:=by simp;omega
    have HK:=I i;clear i;cases ay:((errS st1:Int)==0)
    all_goals go_wp2
    all_goals go_meet
    all_goals exact⟨st1,d,b,S.o,ar.o,A.o,R.o,X.o,HK.o,ab.o⟩
   ·have az:(((O l st1).1:Int)==119)=true:=by simp;omega
    have he:errS st1=0:=by obtain⟨s,rfl,_,_⟩:=ZR A.o i;rfl
    have ay:((errS st1:Int)==0)=true:=by simp;omega
    have aq:=I (Wx ao.o A.o i);have ak:=I (HC.o st1 wr (HR.o.mod R.o) A.o i);have W:=I (fun acc'=>HJ.o wr st1 d acc' X.o A.o i);have au:Hid (∃ s,st1=.ok s):=by obtain⟨s,h,_,_⟩:=ZR A.o i;exact⟨s,h⟩
    clear he i;go_wp2_with fail;refine ak.o.mono ?_;rintro e N h2;obtain⟨L,ah,v,rfl,⟨B,rfl⟩,aj⟩:=h2.st;have Y:=I (R.o.trans L);have ax:=I ah;have U:=ZP S.o L ai;have aI:w.heap.size<=N.heap.size:=Y.o.size;have aA:=I (fun k i=>(S.o.lt k i).2)
    have av:Hid (∀ z,bindS st1 (QG l rq F n)=.ok z->Q3 (fun a u=>Q8 (ZU n) w.heap.size N u5 a u) (d++[z.1]) (b++[.pointer (some ⟨B,0,none⟩)])):=by
     intro z t;obtain⟨s,G⟩:=au.o;exact Q3.snoc (P:=fun a u=>Q8 (ZU n) w.heap.size N u5 a u) (GathQ.new (ZZ n) (aj z t) aB aA.o) ((ab.o s G).imp (fun a u D=>GathQ.mod (ZZ n) D L ai))
    have T:=aq.o;clear h2 L ah aj;go_wp2_with (at_builtin;refine wpList_append_own_at _ rfl _ _ 113 rfl w.heap.size 151 i0 (.pointer none) 1 8 underlying113 hi aC aD aE rfl (by decide) _ _ _ rfl (U.alloc _) ⟨N.heap.size,0,none⟩ 1 1 [.pointer (some ⟨B,0,none⟩)] rfl rfl ?c1 ?c2 ?c3 ?c4 ?c5 ?_)
    case c1=>
     intro j u g
     match j,g with
     |0,g=>simp at g;subst g;simp[Addr.add]
    case c2=>intro u D;simp at D;subst D;rfl
    case c3=>unfold maxLen;omega
    case c4=>omega
    case c5=>simp;omega
    ·intro v' w5 ag K _ af;have x:∀ k,(u5).ownBlock=some k->w.heap.size<=k:=fun k i=>(U.lt k i).1
     have Z:=I ((Y.o.alloc (Obj.cells #[.pointer (some ⟨B,0,none⟩)] 151)).grown K x);have ac:=I ((ax.o.below (Qp (Obj.cells #[.pointer (some ⟨B,0,none⟩)] 151))).block (K.block tb (by simp;omega) (fun e=>by have:=x tb e.symm;omega)));have aa:=I ag;have aw:=I (fun z t=>(av.o z t).imp (fun a u D=>GathQ.grown (ZZ n) D K af));clear ag K U x af;go_wp2;go_roundg (muS l (stOf (bindS st1 (QG l rq F n))))
     case measure=>exact T
     case rel=>
      cases t:bindS st1 (QG l rq F n)with
      |error f=>
       have g:=W.o d (fun z e=>by rw[t]at e;cases e);have q:=ac.o;rw[t]at g q;exact⟨_,d,b++[.pointer (some ⟨B,0,none⟩)],rfl,by simpa using aa.o,fun e=>by simp at e,q,Z.o,g,by rw[t]at T;simp;omega,fun s e=>by cases e⟩
      |ok z=>
       have g:=W.o (d++[z.1]) (fun z' e=>by rw[t]at e;cases e;rfl);have q:=ac.o;rw[t]at g q;exact⟨_,d++[z.1],b++[.pointer (some ⟨B,0,none⟩)],rfl,by simpa using aa.o,fun e=>by simp at e,q,Z.o,g,by rw[t]at T;simp;omega,fun s e=>aw.o z t⟩
 case rest=>
  obtain⟨st1,d,b,E,M,q,C,g,i,x⟩:=hcut;obtain⟨p,m,c,rfl⟩:=Uz E;go_wp2;go_ret;exact⟨_,st1,d,rfl,C,q,g,i,⟨p,m,c,rfl⟩,fun s G=>trY.of_owns (ZZ n) E M (x s G)⟩
theorem CB(rb tb:Nat)(nv:Value)(rq:Qa)(l:L8)(F n b:Nat)(st:Qb PS)(w:World)(x:RdI w rb tb nv rq)(h:TSt w tb l st)(g:l.length<=600)(hF:2*l.length+2<=F)(hd:b<=6)(J:COk rb tb nv rq l F n (b+1)) :
 Calls prog 215 #[.pointer (some ⟨rb,0,none⟩),.int .i64 b] w (QY (bindS st (blockL l F (QG l rq F n))) tb l w (trY (ZU n) (fromB w.heap.size)) Bf):=by
 have V:=I (YQ rb tb nv l 123 st w x.r h g);have G:=I x;have H:=I h;have R:=I J;have S:=I (fun s z=>UJ (l:=l) (req:=rq) (F:=F) n s z);clear h x J;go_enter func215,ntmps215;go_wp2_with fail;refine V.o.mono ?_;rintro e C ⟨rfl,t,A⟩;have D:=I t;have X:=I A;have Q:=I (Pk (F:=F) (sub:=QG l rq F n) H.o A g hF);have aa:=t.size;clear t A;go_wp2_with fail;refine(Bx n (Gr (bindS st (blockL l F (QG l rq F n))) l (QG l rq F n)) rb tb nv rq l F (b+1) _ _ (G.o.mod D.o) X.o g R.o Q.o (fun C i ac ad a q h3 h4=>RU S.o a q h3 h4)).mono ?_;rintro e w2 ⟨v,i,cs,rfl,L,B,K,d,⟨p,m,c,rfl⟩,N⟩;have j:=I (S2 (fun s a q=>CA a q) K B d);have E:=I (D.o.trans L);have W:=I (YQ rb tb nv l 125 i w2 (G.o.mod E.o).r B g);have Z:=I N;clear L B K d N;go_wp2_with fail;refine W.o.mono ?_;rintro e w3 ⟨rfl,u,M⟩;have U:=I (E.o.trans u);have T:=I u;have Y:=I M;have ae:=H.o.lt;clear u M;go_wp2;go_ret;refine QY.mk U.o (by rw[j.o.1];exact Y.o) ⟨_,_,_,rfl⟩ (fun y P=>?_);rw[j.o.2 y P]
 have ab:∃ s,i=.ok s:=by
  cases i with
  |ok s=>exact⟨s,rfl⟩
  |error f=>
   have a:=j.o.1;rw[P]at a;have:signS l 125 (.error f)=.error f:=by unfold signS;split<;>rfl
   rw[this]at a;cases a
 obtain⟨s,z⟩:=ab;refine(ZL (ZZ n)).weak (fromB C.heap.size) _ _ _ _ ((ZL (ZZ n)).keep _ _ _ _ _ (Z.o s z) (T.o.abvX (fun e=>by have e':C.heap.size<=tb:=e;omega))) (fun k d _=>Qs aa d)
end Go.Proofs.YtgnkjijocdmniaaGreatDoor
