import Derived.Test.YtgnkjijocdmniaaGreatDoorQMatchW
namespace Go.Proofs.YtgnkjijocdmniaaGreatDoor
set_option linter.all false
set_option maxRecDepth 100000
set_option maxHeartbeats 4000000
open Go.Proofs.Tryz
open Go.RowKit
variable{α β:Type}{F base n pos tb:Nat}{R:Qq (List α×PS)}{a nv v:Value}{acc:List α}{c:UInt8}{e:TypeId}{l x:L8}{rq zs:Qn}{s:PS}{st:Qq PS}{sub:PS->Qq (α×PS)}{tst:PS->Qq (β×PS)}{w w1:World}
structure RdI (w:World) (rb tb:Nat) (nv:Value) (rq:Qn):Prop where
 r:RdQ w rb tb nv
 n:rb≠tb
 q:(rq=[]∧nv=.slice none 0 0)∨∃g c,nv=Qs g rq.length c∧ZQ w g rq∧g≠tb
 z:rq.length<=140737488355328
theorem RdI.txl{e:Nat}(h:RdI w e tb a rq):TxL w a rq:=by
 rcases h.q with h | ⟨g,c,b,d,_⟩
 .exact Qt h
 .exact Qr ⟨g,c,b,d⟩
theorem RdI.mod{w w':World}{f tb:Nat}{e:Value}{rq:Qn}(h:RdI w f tb e rq)(d:Mod tb w w'):RdI w' f tb e rq:=by
 refine⟨h.r.mod d h.n,h.n,?_,h.z⟩;rcases h.q with h | ⟨g,c,i,k,b⟩
 .exact Qt h
 .refine Qr ⟨g,c,i,fun j l=>?_,b⟩;have:=k j l;rw[Xo (w:=w) (a:=⟨g,j,none⟩) (d.block g (QX this) b)];exact this
theorem Y0.gd     (h:Y0 w tb l s):Gd l s:=⟨h.le,fun e=>by
 have:=h.wd;rcases this with h|h|h|h|h|h
 .exact h.2.1
 all_goals omega⟩
theorem DB:∀z∈tNs,∃c r,z=c::r/\Za c.toNat=true:=by
 intro z a;simp only[tNs,XW,List.not_mem_nil,or_false]at a;rcases a with rfl|rfl|rfl|rfl|rfl|rfl|rfl|rfl|rfl|rfl<;>exact⟨_,_,rfl,rfl⟩
theorem Ek:∀z∈cNs,∃c r,z=c::r/\Za c.toNat=true:=by
 intro z a;simp only[cNs,XW,List.not_mem_nil,or_false]at a;rcases a with rfl|rfl|rfl|rfl|rfl|rfl|rfl|rfl<;>exact⟨_,_,rfl,rfl⟩
theorem Ef(h:∀z∈zs,¬x=z):wL zs x=0:=by
 apply Nat.eq_zero_of_not_pos;intro b;have a:=(Jn _ _).1 b;exact h x a rfl
theorem Br{x:Wd}(h:WdQ x)(a:∀z∈zs,∃c r,z=c::r/\Za c.toNat=true):wL zs x.spelt=if x.kind=1 then wL zs (sQ x)else 0:=by
 by_cases hk:x.kind=1
 .rw[Qi hk]
  have e:∀z∈zs,(z=x.spelt↔z=sQ x):=fun z f=>by
   rw[eq_comm,Ap h (a z f)];exact⟨fun h=>h.2.symm,fun h=>⟨hk,h.symm⟩⟩
  clear a
  induction zs with
  |nil=>rfl
  |cons z r ih=>
   have g:=ih (fun z a=>e z (Kz _ a));have b:=e z (Kh);unfold wL;by_cases hx:z=x.spelt
   .rw[Qi hx,Qi (b.1 hx)]
   .rw[Qg hx,Qg (fun e=>hx (b.2 e)),g]
 .rw[Qg hk];exact Ef (fun z d e=>hk ((Ap h (a z d)).1 e).1)
theorem Qyf{a:L8}(h:¬wL tNs a=0):Z4 rq a=if a=Zb then decide (0<wL rq Zb)else if a=Xc then decide (0<wL rq Z8)else true:=by
 have b:=(Jn a tNs).1 I;simp only[tNs,XW,List.not_mem_nil,or_false]at b;unfold Z4;rcases b with rfl|rfl|rfl|rfl|rfl|rfl|rfl|rfl|rfl|rfl<;>simp[Uj,Ud,kNot,JV,JU,Y_,Zb,Xc,YL,JK,ZN,ZM,Xw]
theorem Tl(h:TSt w tb l st)(b:¬(Qk l st).1=119):∃f,failS st ⟨4,(Qk l st).2.2.2⟩=.error f/\bindS st (QP l rq F n)=.error f:=by
 cases st with
 |error f=>exact⟨f,rfl,rfl⟩
 |ok s=>
  have a:¬s.1.kind=1:=fun e=>b ((VH h.wd).2 e)
  refine⟨_,rfl,?_⟩;show QP l rq F n s=_
  cases n with
  |zero=>unfold QP;rw[Qg a];rfl
  |succ n=>rw[QP,Br h.wd DB,Qg a,Qi rfl];rfl
theorem XS(h:TSt w tb l st)(a:(Qk l st).1=119):∃s,st=.ok s/\s.1.kind=1/\Y0 w tb l s:=by
 cases st with
 |error f=>exact absurd a (by show ¬(0:Nat)=119;decide)
 |ok s=>exact⟨s,rfl,(VH h.wd).1 a,h⟩
theorem QuV(h:TSt w tb l st)(b:(Qk l st).1=119):failS st ⟨5,(Qk l st).2.2.2⟩=.error ⟨5,(Qk l st).2.2.2⟩/\bindS st (QP l rq F 0)=.error ⟨5,(Qk l st).2.2.2⟩:=by
 obtain⟨s,rfl,a,c⟩:=XS h b;refine⟨rfl,?_⟩;show QP l rq F 0 s=_
 unfold QP;rw[Qi a];rfl
theorem SO(h:TSt w tb l st)(c:(Qk l st).1=119)(hw:wL tNs (Qk l st).2.1=0):failS st ⟨4,(Qk l st).2.2.2⟩=.error ⟨4,(Qk l st).2.2.2⟩/\bindS st (QP l rq F (n+1))=.error ⟨4,(Qk l st).2.2.2⟩:=by
 obtain⟨s,rfl,a,b⟩:=XS h c;refine⟨rfl,?_⟩;show QP l rq F (n+1) s=_
 have d:wL tNs (sQ s.1)=0:=hw;rw[QP,Br b.wd DB,Qi a,d,Qi rfl];rfl
theorem Mv{b:Bool}{K:PS->Qq (α×PS)}:(if b=true then nextThen l s (fun s1=>K s1)else .error ⟨6,s.1.pos⟩)=bindS (nextS l (if b=true then .ok s else .error ⟨6,s.1.pos⟩)) K:=by
 cases b with
 |false=>rfl
 |true=>
  show nextThen l s _=bindS (nL l s.2) _
  unfold nextThen;cases nL l s.2<;>rfl
theorem U9(h:TSt w tb l st)(e:(Qk l st).1=119)(hw:¬wL tNs (Qk l st).2.1=0) :
 bindS st (QP l rq F (n+1))=bindS (nextS l (preS l rq (Qk l st).2.1 st)) (tBd l F (QP l rq F n) (wL tNs (Qk l st).2.1-1) (Qk l st).2.2.2):=by
 obtain⟨s,rfl,c,d⟩:=XS h e;show QP l rq F (n+1) s=_
 have a:¬wL tNs (sQ s.1)=0:=hw
 have b:s.1.spelt=sQ s.1:=by
  have f:=(Jn (sQ s.1) tNs).1 I;exact(Ap d.wd (DB _ f)).2 ⟨c,rfl⟩
 rw[QP,b,Qg a,Qyf a];refine(Mv (α:=Zn (n+1)) (K:=tBd l F (QP l rq F n) (wL tNs (sQ s.1)-1) s.1.pos)).trans ?_;refine ZI (fun x=>bindS (nextS l x) _) ?_;show _=preS l rq (sQ s.1) (.ok s)
 unfold preS YC;by_cases e1:sQ s.1=Zb
 .rw[Qi e1,Qi e1];by_cases h:0<wL rq Zb
  .rw[Qi h,Qi (QU h)]
  .rw[Qg h,Qg (by simpa using h)];rfl
 .rw[Qg e1,Qg e1];by_cases e2:sQ s.1=Xc
  .rw[Qi e2,Qi e2];by_cases h:0<wL rq Z8
   .rw[Qi h,Qi (QU h)]
   .rw[Qg h,Qg (by simpa using h)];rfl
  .rw[Qg e2,Qg e2,Qi rfl]
theorem QwD(hw:WdQ s.1)(d:Y' c=true):paL l [[c]] s=match signS l c.toNat (.ok s)with | .ok s'=>.ok (1,s') | .error f=>.error f:=by
 have b:=KN hw d;unfold paL signS;by_cases h:s.1.spelt=[c]
 .have a:wL [[c]] s.1.spelt=1:=by rw[Vd,Qi h.symm]
  rw[a,Qg Qb];have:(Qk l (.ok s)).1=c.toNat:=b.2 h;rw[Qi this];show _=match nL l s.2 with | .ok s'=>_ | .error f=>_
  cases nL l s.2<;>rfl
 .have a:wL [[c]] s.1.spelt=0:=by rw[Vd,Qg (fun e=>h e.symm)]
  rw[a,Qi rfl];have:¬(Qk l (.ok s)).1=c.toNat:=fun e=>h (b.1 e)
  rw[Qg this];rfl
theorem BR(h:TSt w tb l st)(c:UInt8)(a:Y' c=true)(k:PS->Qq (β×PS)):bindS st (fun s=>QL (paL l [[c]] s) fun _ s1=>k s1)=bindS (signS l c.toNat st) k:=by
 cases st with
 |error f=>
  have:signS l c.toNat (.error f)=.error f:=by
   unfold signS;split<;>rfl
  rw[this];rfl
 |ok s=>
  simp only[bindS];rw[QwD h.wd a];cases signS l c.toNat (.ok s)<;>rfl
def Cy{α:Type}(l:L8)(sub:PS->Qq (α×PS))(f:Nat)(acc:List α)(s:PS):Qq (List α×PS):=QL (sub s) fun t s1=>gMr l sub f (acc++[t]) s1
structure A5 {α:Type} (R:Qq (List α×PS)) (l:L8) (sub:PS->Qq (α×PS)) (st:Qq PS) (acc:List α):Prop where
 r:∃f,(∀s,st=.ok s->mu l.length s < f)∧R=bindS st (Cy l sub f acc)
theorem QvB(h:TSt w tb l st)(a:TSt w1 tb l (signS l 40 st))(b:l.length<=600)(hF:2*l.length+2<=F):A5 (bindS st (groupL l F sub)) l sub (signS l 40 st) []:=by
 refine⟨F,fun s c=>?_,?_⟩
 .rw[c]at a;have:=G3 a b;omega
 .exact BR h 40 rfl (Cy l sub F [])
theorem Qxk(u:∀s,Gd l s->Dn 1 l (sub s) s)(h:A5 R l sub st acc)(A:TSt w tb l st)(d:TSt w1 tb l (stOf (bindS st sub))) :
 ((Qk l (stOf (bindS st sub))).1=44->errS (stOf (bindS st sub))=0/\muS l (nextS l (stOf (bindS st sub)))<muS l st/\∃z,bindS st sub=.ok z/\A5 R l sub (nextS l (stOf (bindS st sub))) (acc++[z.1]))/\
 (¬(Qk l (stOf (bindS st sub))).1=44->stOf R=signS l 41 (stOf (bindS st sub))/\∀y,R=.ok y->∃z,bindS st sub=.ok z/\y.1=acc++[z.1]):=by
 obtain⟨⟨f,v,j⟩⟩:=h
 cases st with
 |error g=>
  have a:R=.error g:=j;subst a;refine⟨fun h=>absurd h (by show ¬(0:Nat)=44;decide),fun _=>⟨rfl,fun y e=>by cases e⟩⟩
 |ok s=>
  have D:=v s rfl;obtain⟨f,rfl⟩:∃g,f=g+1:=⟨f-1,I⟩;simp only[bindS]at d j ⊢
  cases hs:sub s with
  |error g=>
   have a:R=.error g:=by rw[j];unfold Cy;rw[hs];rfl
   subst a;refine⟨fun h=>absurd h (by show ¬(0:Nat)=44;decide),fun _=>⟨rfl,fun y e=>by cases e⟩⟩
  |ok z=>
   rw[hs]at d;have b:Y0 w1 tb l z.2:=d;have a:R=gMr l sub (f+1) (acc++[z.1]) z.2:=by rw[j];unfold Cy;rw[hs];rfl
   have G:=(u s (Y0.gd A) z hs).2;rw[gMr]at a;refine⟨fun k=>?_,fun k=>?_⟩
   .have m:kQ z.2.1=44:=k
    have o:¬z.2.1.kind=0:=fun r=>by
     have:kQ z.2.1=0:=(NY b.wd).2 r;omega
    have x:=AK b o;have E:muS l (nL l z.2.2)<mu l.length z.2+1:=x;have F:muS l (.ok s)=mu l.length s+1:=rfl
    have i:paL l [[44],[41]] z.2=match nL l z.2.2 with | .ok s'=>.ok (1,s') | .error f=>.error f:=by
     have e:z.2.1.spelt=[44]:=(KN b.wd (c:=44) Qb).1 m;unfold paL;have n:wL [[44],[41]] z.2.1.spelt=1:=by rw[e];rfl
     rw[n,Qg Qb];cases nL l z.2.2<;>rfl
    refine⟨rfl,?_,z,rfl,⟨f,fun q d=>?_,?_⟩⟩
    .show muS l (nL l z.2.2)<_
     omega
    .have t:nL l z.2.2=.ok q:=d;have:=J' b.le o t;omega
    .rw[a,i];show _=bindS (nL l z.2.2) _
     cases nL l z.2.2<;>rfl
   .have m:¬kQ z.2.1=44:=k;by_cases h41:kQ z.2.1=41
    .have e:signS l 41 (stOf (.ok z))=nL l z.2.2:=Qi h41
     have i:paL l [[44],[41]] z.2=match nL l z.2.2 with | .ok s'=>.ok (2,s') | .error f=>.error f:=by
      have e:z.2.1.spelt=[41]:=(KN b.wd (c:=41) Qb).1 h41;unfold paL;have n:wL [[44],[41]] z.2.1.spelt=2:=by rw[e];rfl
      rw[n,Qg Qb];cases nL l z.2.2<;>rfl
     rw[e,a,i]
     cases nL l z.2.2 with
     |error g=>exact⟨rfl,fun y e=>by cases e⟩
     |ok q=>exact⟨rfl,fun y e=>⟨z,rfl,by cases e;rfl⟩⟩
    .have e:signS l 41 (stOf (.ok z))=.error ⟨4,z.2.1.pos⟩:=Qg h41
     have i:paL l [[44],[41]] z.2=.error ⟨4,z.2.1.pos⟩:=by
      have B:¬z.2.1.spelt=[44]:=fun e=>m ((KN b.wd (c:=44) Qb).2 e)
      have C:¬z.2.1.spelt=[41]:=fun e=>h41 ((KN b.wd (c:=41) Qb).2 e)
      unfold paL;rw[Ef (by intro z p;simp at p;rcases p with rfl|rfl;exact B;exact C),Qi rfl]
     rw[e,a,i];exact⟨rfl,fun y e=>by cases e⟩
theorem PC(h:TSt w tb l st){v:Nat}(b:v=if(Qk l st).1=58 then wL [Vh,Vb] (Qk l st).2.1 else 0) :
 bindS st (sizeL l pos)=bindS (if v=0 then failS st ⟨4,(Qk l st).2.2.2⟩else nextS l st) fun s1=>if s1.1.kind=4 then nextThen l s1 fun s2=>.ok (⟨9,pos,v,false,[],[],s1.1.num⟩,s2)else .error ⟨4,s1.1.pos⟩:=by
 cases st with
 |error f=>
  have a:v=0:=by rw[b];rfl
  subst a;rw[Qi rfl];rfl
 |ok s=>
  have c:wL [JI,JE] s.1.spelt=v:=by
   rw[b];by_cases hk:s.1.kind=2
   .have:(Qk l (.ok s)).1=58:=(Gj h.wd).2 hk;rw[Qi this,DP h.wd hk,E8,Az];rfl
   .have:¬(Qk l (.ok s)).1=58:=fun e=>hk ((Gj h.wd).1 e)
    rw[Qg this,E8,Bj h.wd hk neS]
  show sizeL l pos s=_
  unfold sizeL paL;rw[c];by_cases a:v=0
  .rw[Qi a,Qi a];rfl
  .rw[Qg a,Qg a];show _=bindS (nL l s.2) _
   cases nL l s.2<;>rfl
theorem Qxh{v:Nat}(h:TSt w tb l st) :
 stOf (bindS st fun s1=>if s1.1.kind=4 then nextThen l s1 fun s2=>.ok ((⟨9,pos,v,false,[],[],s1.1.num⟩:Zk),s2)else .error ⟨4,s1.1.pos⟩)=signS l 48 st/\∀y,(bindS st fun s1=>if s1.1.kind=4 then nextThen l s1 fun s2=>.ok ((⟨9,pos,v,false,[],[],s1.1.num⟩:Zk),s2)else .error ⟨4,s1.1.pos⟩)=.ok y->y.1=⟨9,pos,v,false,[],[],(Qk l st).2.2.1⟩:=by
 cases st with
 |error f=>
  exact⟨by unfold signS;split<;>rfl,fun y e=>by cases e⟩
 |ok s=>
  simp only[bindS];by_cases hk:s.1.kind=4
  .have:(Qk l (.ok s)).1=48:=(Om h.wd).2 hk;unfold signS;rw[Qi this,Qi hk];show stOf (nextThen l s _)=nL l s.2/\∀y,nextThen l s _=_->_
   unfold nextThen
   cases nL l s.2 with
   |error f=>exact⟨rfl,fun y e=>by cases e⟩
   |ok s2=>exact⟨rfl,fun y e=>by cases e;rfl⟩
  .have:¬(Qk l (.ok s)).1=48:=fun e=>hk ((Om h.wd).1 e)
   unfold signS;rw[Qg this,Qg hk];exact⟨rfl,fun y e=>by cases e⟩
def Gs(l:L8)(rq:Qn)(nm:L8)(st:Qq PS):Qq PS:=
 if nm=ZN\/nm=ZM then YC l rq nm st else if nm=Xw then YC l rq Z8 st else st
theorem O9{a:L8}(h:¬wL cNs a=0):Z4 rq a=if a=ZN\/a=ZM then decide (0<wL rq a)else if a=Xw then decide (0<wL rq Z8)else true:=by
 have b:=(Jn a cNs).1 I;simp only[cNs,XW,List.not_mem_nil,or_false]at b;unfold Z4;rcases b with rfl|rfl|rfl|rfl|rfl|rfl|rfl|rfl<;>simp[Ul,K_,Uk,ZN,Jt,ZM,Xw,kIf,Zb,Xc]
theorem Ix(hw:WdQ s.1)(a:¬s.1.kind=1):cmdL l rq F n s=.error ⟨4,s.1.pos⟩:=by
 cases n with
 |zero=>unfold cmdL;rw[Qg a]
 |succ n=>rw[cmdL,Br hw Ek,Qg a,Qi rfl]
theorem Qyo(h:TSt w tb l st)(b:(Qk l st).1=119):bindS st (cmdL l rq F 0)=.error ⟨5,(Qk l st).2.2.2⟩:=by
 obtain⟨s,rfl,a,c⟩:=XS h b;show cmdL l rq F 0 s=_
 unfold cmdL;rw[Qi a];rfl
theorem T6(h:TSt w tb l st)(c:(Qk l st).1=119)(hw:wL cNs (Qk l st).2.1=0):bindS st (cmdL l rq F (n+1))=.error ⟨4,(Qk l st).2.2.2⟩:=by
 obtain⟨s,rfl,a,b⟩:=XS h c;show cmdL l rq F (n+1) s=_
 have d:wL cNs (sQ s.1)=0:=hw;rw[cmdL,Br b.wd Ek,Qi a,d,Qi rfl];rfl
theorem AT(h:TSt w tb l st)(e:(Qk l st).1=119)(hw:¬wL cNs (Qk l st).2.1=0) :
 bindS st (cmdL l rq F (n+1))=bindS (nextS l (Gs l rq (Qk l st).2.1 st)) (cBd l F (QP l rq F n) (cmdL l rq F n) (wL cNs (Qk l st).2.1-1) (Qk l st).2.2.2):=by
 obtain⟨s,rfl,c,d⟩:=XS h e;show cmdL l rq F (n+1) s=_
 have a:¬wL cNs (sQ s.1)=0:=hw
 have b:s.1.spelt=sQ s.1:=by
  have f:=(Jn (sQ s.1) cNs).1 I;exact(Ap d.wd (Ek _ f)).2 ⟨c,rfl⟩
 rw[cmdL,b,Qg a,O9 a];refine(Mv (α:=Q5 (n+1)) (K:=cBd l F (QP l rq F n) (cmdL l rq F n) (wL cNs (sQ s.1)-1) s.1.pos)).trans ?_;refine ZI (fun x=>bindS (nextS l x) _) ?_;show _=Gs l rq (sQ s.1) (.ok s)
 unfold Gs YC;by_cases e1:sQ s.1=ZN\/sQ s.1=ZM
 .rw[Qi e1,Qi e1];by_cases h:0<wL rq (sQ s.1)
  .rw[Qi h,Qi (QU h)]
  .rw[Qg h,Qg (by simpa using h)];rfl
 .rw[Qg e1,Qg e1];by_cases e2:sQ s.1=Xw
  .rw[Qi e2,Qi e2];by_cases h:0<wL rq Z8
   .rw[Qi h,Qi (QU h)]
   .rw[Qg h,Qg (by simpa using h)];rfl
  .rw[Qg e2,Qg e2,Qi rfl]
structure Ac {α:Type} (R:Qq (List α×PS)) (l:L8) (sub:PS->Qq (α×PS)) (st:Qq PS) (acc:List α):Prop where
 r:∃f,(∀s,st=.ok s->mu l.length s < f)∧R=bindS st (bMr l sub f acc)
theorem Qvo(h:TSt w tb l st)(a:TSt w1 tb l (signS l 123 st))(b:l.length<=600)(hF:2*l.length+2<=F):Ac (bindS st (blockL l F sub)) l sub (signS l 123 st) []:=by
 refine⟨F,fun s c=>?_,?_⟩
 .rw[c]at a;have:=G3 a b;omega
 .exact BR h 123 rfl (bMr l sub F [])
theorem Ma(hw:WdQ s.1)(a:Y' c=true)(b:¬kQ s.1=c.toNat):mayL l [[c]] s=.ok (0,s):=by
 have h:¬s.1.spelt=[c]:=fun e=>b ((KN hw a).2 e)
 unfold mayL;rw[Qi (by rw[Vd,Qg (fun e=>h e.symm)])]
theorem QxS{d:List α}(m:∀s,Gd l s->Dn 1 l (sub s) s)(h:Ac R l sub st acc)(p:TSt w tb l st)(k:(Qk l st).1=119)(i:∀z,bindS st sub=.ok z->d=acc++[z.1]):Ac R l sub (stOf (bindS st sub)) d:=by
 obtain⟨⟨f,n,b⟩⟩:=h;obtain⟨s,rfl,r,j⟩:=XS p k;have t:=n s rfl;obtain⟨f,rfl⟩:∃g,f=g+1:=⟨f-1,I⟩;simp only[bindS]at b i ⊢;have o:kQ s.1=119:=k;rw[bMr,Ma j.wd (c:=125) rfl (by rw[o];decide)]at b;have a:R=QL (sub s) fun c q=>bMr l sub f (acc++[c]) q:=b
 cases hs:sub s with
 |error g=>
  rw[hs]at a;exact⟨0,(fun s e=>by cases e),a⟩
 |ok z=>
  rw[hs]at a;rw[i z hs];have u:=(m s j.gd z hs).2;refine⟨f,fun v e=>?_,a⟩;cases e;omega
theorem QzC(p:∀s,WdQ s.1->¬s.1.kind=1->sub s=.error ⟨4,s.1.pos⟩)(h:Ac R l sub st acc)(r:TSt w tb l st)(o:¬(Qk l st).1=119):stOf R=signS l 125 st/\∀y,R=.ok y->y.1=acc:=by
 obtain⟨⟨f,n,a⟩⟩:=h
 cases st with
 |error g=>
  have m:R=.error g:=a;subst m;exact⟨by unfold signS;split<;>rfl,fun y e=>by cases e⟩
 |ok s=>
  have u:=n s rfl;obtain⟨f,rfl⟩:∃g,f=g+1:=⟨f-1,I⟩;simp only[bindS]at a;have b:Y0 w tb l s:=r;have k:¬s.1.kind=1:=fun e=>o ((VH b.wd).2 e)
  rw[bMr]at a;by_cases h125:kQ s.1=125
  .have e:signS l 125 (.ok s)=nL l s.2:=Qi h125
   have q:mayL l [[125]] s=match nL l s.2 with | .ok s'=>.ok (1,s') | .error f=>.error f:=by
    have e:s.1.spelt=[125]:=(KN b.wd (c:=125) Qb).1 h125;have t:wL [[125]] s.1.spelt=1:=by rw[Vd,Qi e.symm]
    unfold mayL;rw[t,Qg Qb];cases nL l s.2<;>rfl
   rw[e,a,q]
   cases nL l s.2 with
   |error g=>exact⟨rfl,fun y e=>by cases e⟩
   |ok d=>exact⟨rfl,fun y e=>by cases e;rfl⟩
  .have e:signS l 125 (.ok s)=.error ⟨4,s.1.pos⟩:=Qg h125;rw[e,a,Ma b.wd (c:=125) rfl h125];have:QL (.ok (0,s)) (fun i d=>if i=0 then QL (sub d) fun c j=>bMr l sub f (acc++[c]) j else .ok (acc,d))=QL (sub s) fun c j=>bMr l sub f (acc++[c]) j:=rfl
   rw[this,p s b.wd k];exact⟨rfl,fun y e=>by cases e⟩
structure Aa {α:Type} (R:Qq (List α)) (l:L8) (sub:PS->Qq (α×PS)) (st:Qq PS) (acc:List α):Prop where
 r:∃f,(∀s,st=.ok s->mu l.length s < f)∧R=bindS st (cMr sub f acc)
theorem Qx4{R:Qq (List α)}{b:List α}(d:∀s,Gd l s->Dn 1 l (sub s) s)(h:Aa R l sub st acc)(m:TSt w tb l st)(k:(Qk l st).1=119)(c:∀z,bindS st sub=.ok z->b=acc++[z.1]):Aa R l sub (stOf (bindS st sub)) b:=by
 obtain⟨⟨f,i,a⟩⟩:=h;obtain⟨s,rfl,n,j⟩:=XS m k;have o:=i s rfl;obtain⟨f,rfl⟩:∃g,f=g+1:=⟨f-1,I⟩;simp only[bindS]at a c ⊢;rw[cMr,Q8]at a
 cases hs:sub s with
 |error g=>
  rw[hs]at a;exact⟨0,(fun s e=>by cases e),a⟩
 |ok z=>
  rw[hs]at a;rw[c z hs];have p:=(d s j.gd z hs).2;refine⟨f,fun q e=>?_,a⟩;cases e;omega
theorem QzR{R:Qq (List α)}(k:∀s,WdQ s.1->¬s.1.kind=1->sub s=.error ⟨4,s.1.pos⟩)(h:Aa R l sub st acc)(m:TSt w tb l st)(j:¬(Qk l st).1=119):R=bindS (if(Qk l st).1=0 then st else failS st ⟨4,(Qk l st).2.2.2⟩) fun _=>.ok acc:=by
 obtain⟨⟨f,i,b⟩⟩:=h
 cases st with
 |error g=>
  have d:R=.error g:=b;rw[d];rfl
 |ok s=>
  have n:=i s rfl;obtain⟨f,rfl⟩:∃g,f=g+1:=⟨f-1,I⟩;simp only[bindS]at b;have a:Y0 w tb l s:=m;have c:¬s.1.kind=1:=fun e=>j ((VH a.wd).2 e)
  rw[b,cMr];by_cases h0:s.1.kind=0
  .have e:(Qk l (.ok s)).1=0:=(NY a.wd).2 h0;rw[Qi h0,Qi e];rfl
  .have e:¬(Qk l (.ok s)).1=0:=fun e=>h0 ((NY a.wd).1 e)
   rw[Qg h0,Qg e,k s a.wd c];rfl
theorem B3(d:Y0 w tb l s)(z:L8)(g:∃c r,z=c::r/\Za c.toNat=true):mayL l [z] s=if s.1.kind=1/\sQ s.1=z then(match nL l s.2 with | .ok s'=>.ok (1,s') | .error f=>.error f)else .ok (0,s):=by
 have b:=Ap d.wd g;unfold mayL;by_cases h:s.1.spelt=z
 .have a:wL [z] s.1.spelt=1:=by rw[Vd,Qi h.symm]
  rw[a,Qg Qb,Qi (b.1 h)];cases nL l s.2<;>rfl
 .have a:wL [z] s.1.spelt=0:=by rw[Vd,Qg (fun e=>h e.symm)]
  rw[a,Qi rfl,Qg (fun e=>h (b.2 e))]
def Gm{α β:Type}(l:L8)(F:Nat)(tst:PS->Qq (β×PS))(sub:PS->Qq (α×PS))(f:Nat)(acc:List (β×List α))(s:PS):Qq (List (β×List α)×PS):=QL (armL l F tst sub s) fun a s1=>aMr l F tst sub f (acc++[a]) s1
structure ArmI {α β:Type} (R:Qq (List (β×List α)×PS)) (l:L8) (F:Nat) (tst:PS->Qq (β×PS)) (sub:PS->Qq (α×PS)) (st:Qq PS) (acc:List (β×List α)):Prop where
 r:∃f,(∀s,st=.ok s->mu l.length s < f)∧R=bindS st (Gm l F tst sub f acc)
theorem QxP{p:World}{R:Qq (List (β×List α)×PS)}{a:Qq PS}{acc:List (β×List α)}(t:∀s,Gd l s->Dn 1 l (tst s) s)(r:∀s,Gd l s->Dn 1 l (sub s) s)(h:ArmI R l F tst sub st acc)(C:TSt w tb l st)(b:a=stOf (bindS (stOf (bindS st tst)) (blockL l F sub)))(D:TSt p tb l a) :
 (((Qk l a).1=119/\(Qk l a).2.1=YB)->errS a=0/\muS l (nextS l a)<muS l st/\∃z1 z2,bindS st tst=.ok z1/\bindS (stOf (bindS st tst)) (blockL l F sub)=.ok z2/\ArmI R l F tst sub (nextS l a) (acc++[(z1.1,z2.1)]))/\
 (¬((Qk l a).1=119/\(Qk l a).2.1=YB)->stOf R=a/\∀y,R=.ok y->∃z1 z2,bindS st tst=.ok z1/\bindS (stOf (bindS st tst)) (blockL l F sub)=.ok z2/\y.1=acc++[(z1.1,z2.1)]):=by
 obtain⟨⟨f,u,i⟩⟩:=h;have n:∀g,¬((Qk l (.error g)).1=119/\(Qk l (.error g)).2.1=YB):=fun g h=>absurd h.1 (by show ¬(0:Nat)=119;decide)
 cases st with
 |error g=>
  have c:R=.error g:=i;subst c;have d:a=.error g:=b;subst d;exact⟨fun h=>absurd h (n g),fun _=>⟨rfl,fun y e=>by cases e⟩⟩
 |ok s=>
  have G:=u s rfl;have v:Y0 w tb l s:=C;obtain⟨f,rfl⟩:∃g,f=g+1:=⟨f-1,I⟩;simp only[bindS]at b i ⊢
  cases hs:tst s with
  |error g=>
   have c:R=.error g:=by rw[i];unfold Gm armL;rw[hs];rfl
   subst c;rw[hs]at b;have d:a=.error g:=b;subst d;exact⟨fun h=>absurd h (n g),fun _=>⟨rfl,fun y e=>by cases e⟩⟩
  |ok z=>
   rw[hs]at b;obtain⟨A,L⟩:=t s v.gd z hs;simp only[stOf]at b ⊢
   cases hb:blockL l F sub z.2 with
   |error g=>
    have c:R=.error g:=by rw[i];unfold Gm armL;rw[hs];simp only[QL];rw[hb]
    subst c;rw[hb]at b;have d:a=.error g:=b;subst d;exact⟨fun h=>absurd h (n g),fun _=>⟨rfl,fun y e=>by cases e⟩⟩
   |ok x=>
    rw[hb]at b;have d:a=.ok x.2:=b;subst d;have j:Y0 p tb l x.2:=D;obtain⟨H,K⟩:=D4 r A x hb;have c:R=aMr l F tst sub (f+1) (acc++[(z.1,x.1)]) x.2:=by rw[i];unfold Gm armL;rw[hs];simp only[QL];rw[hb]
    rw[aMr,B3 j YB ⟨_,_,rfl,rfl⟩]at c;refine⟨fun k=>?_,fun k=>?_⟩
    .have m:x.2.1.kind=1:=(VH j.wd).1 k.1;have o:¬x.2.1.kind=0:=I
     rw[Qi ⟨m,k.2⟩]at c;have B:=AK j o;have J:muS l (nL l x.2.2)<mu l.length x.2+1:=B;refine⟨rfl,?_,z,x,rfl,rfl,⟨f,fun E m=>?_,?_⟩⟩
     .show muS l (nL l x.2.2)<mu l.length s+1
      omega
     .have b:nL l x.2.2=.ok E:=m;have:=J' j.le o b;omega
     .rw[c];show _=bindS (nL l x.2.2) _
      cases nL l x.2.2<;>rfl
    .rw[Qg (fun e=>k ⟨(VH j.wd).2 e.1,e.2⟩)]at c;have q:R=.ok (acc++[(z.1,x.1)],x.2):=c;rw[q];exact⟨rfl,fun y e=>⟨z,x,rfl,rfl,by cases e;rfl⟩⟩
theorem P5(h:TSt w tb l st)(n:l.length<=600)(hF:2*l.length+2<=F) :
 ∃R,ArmI R l F tst sub st []/\∀w1,TSt w1 tb l (stOf R)->
  (((Qk l (stOf R)).1=119/\(Qk l (stOf R)).2.1=Yv)->stOf (bindS st (cBd l F tst sub 7 pos))=stOf (bindS (nextS l (stOf R)) (blockL l F sub))/\∀y,bindS st (cBd l F tst sub 7 pos)=.ok y->∃z x,R=.ok z/\bindS (nextS l (stOf R)) (blockL l F sub)=.ok x/\y.1=(⟨7,pos,0,[],[],true⟩,z.1,x.1))/\
  (¬((Qk l (stOf R)).1=119/\(Qk l (stOf R)).2.1=Yv)->stOf (bindS st (cBd l F tst sub 7 pos))=stOf R/\∀y,bindS st (cBd l F tst sub 7 pos)=.ok y->∃z,R=.ok z/\y.1=(⟨7,pos,0,[],[],false⟩,z.1,[])):=by
 refine⟨bindS st (Gm l F tst sub F []),⟨F,fun s p=>?_,rfl⟩,fun w1 c=>?_⟩
 .rw[p]at h;have:=G3 h n;omega
 .have o:∀g,¬((Qk l (.error g)).1=119/\(Qk l (.error g)).2.1=Yv):=fun g h=>absurd h.1 (by show ¬(0:Nat)=119;decide)
  have m:bindS st (cBd l F tst sub 7 pos)=QL (bindS st (Gm l F tst sub F [])) fun f q=>QL (mayL l [Yv] q) fun i b=>
   if i=0 then .ok ((⟨7,pos,0,[],[],false⟩,f,[]),b)
   else QL (blockL l F sub b) fun j r=>.ok ((⟨7,pos,0,[],[],true⟩,f,j),r):=by
   cases st with
   |error g=>rfl
   |ok s=>
    simp only[bindS,cBd,Gm];cases armL l F tst sub s<;>rfl
  rw[m];revert c;generalize bindS st (Gm l F tst sub F [])=R;intro c
  cases R with
  |error g=>exact⟨fun h=>absurd h (o g),fun _=>⟨rfl,fun y e=>by cases e⟩⟩
  |ok z=>
   have d:=c;simp only[QL,stOf];rw[B3 d Yv ⟨_,_,rfl,rfl⟩];refine⟨fun a=>?_,fun a=>?_⟩
   .have k:=(VH d.wd).1 a.1;rw[Qi ⟨k,a.2⟩];show _=stOf (bindS (nL l z.2.2) _)/\∀y,_->∃z' x,_/\bindS (nL l z.2.2) _=_/\_
    cases nL l z.2.2 with
    |error g=>exact⟨rfl,fun y e=>by cases e⟩
    |ok b=>
     simp only[bindS];rw[Qg Qb]
     cases blockL l F sub b with
     |error g=>exact⟨rfl,fun y e=>by cases e⟩
     |ok x=>exact⟨rfl,fun y e=>⟨z,x,rfl,rfl,by cases e;rfl⟩⟩
   .rw[Qg (fun e=>a ⟨(VH d.wd).2 e.1,e.2⟩)];exact⟨rfl,fun y e=>⟨z,rfl,by cases e;rfl⟩⟩
section
attribute [local go_sem ↓] Zt Zu
theorem Z3{z:L8}:((sA x).toList==z)=decide (x=z):=by rw[XL];show(x==z)=_;rw[Xb];simp
def YW(_:World)(v:Value):Prop:=∃g,v=(Qc g)
theorem Vz{gb:Nat}{X:Nat->Prop}{x:Zk}{e:List (Zn n)}{c b:Value}{d:L8}(f:X gb)(g:w.heap[gb]?=some (Qe #[Qf d,c,a,b,Qa x.tag,.bool x.octet,Qa x.num] 200))(l:tNs.getD x.kind []=d)(m:trY (RTest n) X e w c)(j:slY X x.fr w a)(k:slY X x.keys w b)(i:x.kind=8->Nx a:=by exact fun _=>QF):RTest (n+1) X (x,e) w (Qc gb):=by
 subst l;exact⟨gb,c,a,b,rfl,f,g,m,j,k,i⟩
theorem Uc{b:Nat}(h:Mod b w.drew w1):Mod b w w1:=⟨h.os,h.tape,h.output,h.size,h.block⟩
theorem Bo{U:Nat}(K:Nat)(q:RdI w U tb nv rq)(h:TSt w tb l st)(hl:l.length<=600)(hF:2*l.length+2<=F)(R:K+n=7)(i:¬(Qk l st).1=119\/(n=0/\(Qk l st).1=119)\/((Qk l st).1=119/\0<n/\wL tNs (Qk l st).2.1=0)):Calls prog 214 #[Qc U,Qa K] w (Zq (bindS st (QP l rq F n)) tb l w (RTest n (fromB w.heap.size)) YW):=by
 have r0:=Qj q.r 0;obtain⟨c2,c4,W,c6,c7⟩:=h.cells;have H:=O h;have u:=O q;have ab:=QI q.r;have ac:=h.lt;obtain⟨a,N⟩:=Qw ((Qk l st).2.1);rw[N]at W i;obtain⟨D,x⟩:=Q3 (w.alloc (Qe #[Qf a,Qp,Qp,Qp,Qa 0,.bool false,Qa 0] 200));have J:=O x;have k:Hid (Mod tb w D):=by show Mod _ _ _;rw[x];exact(Mod.refl _ _).alloc _
 have v:Hid (TSt D tb l st):=by show TSt _ _ _ _;rw[x];exact h.below (QH _)
 have t:=O (fun c=>Ka ⟨c+1,(Qk l st).2.2.2⟩ (w:=D.drew) (v.o.block rfl) hl (Yh c));by_cases he:errS st=0;rotate_left
 .have Y:((errS st:Int) != 0)=true:=by simp;omega
  have G:Hid (∃f,st=.error f):=by cases st with|ok s=>exact absurd rfl he|error f=>exact⟨f,rfl⟩
  clear h q i he;go_enter func214,ntmps214;go_wp2;go_ret;rw[<-J.o];obtain⟨f,M⟩:=G.o;exact Zq.mk k (by rw[M];rw[M]at v;exact v) ⟨_,rfl⟩ (fun y d=>by rw[M]at d;cases d)
 .have Y:((errS st:Int) != 0)=false:=by simp;omega
  have G:Hid (∀g,failS st g=.error g):=by intro g;obtain⟨s,hs⟩:=h.err0.1 he;rw[hs];rfl
  by_cases hk:(Qk l st).1=119;rotate_left
  .have aa:(((Qk l st).1:Int) != 119)=true:=by simp;omega
   have p:=O (Tl (rq:=rq) (F:=F) (n:=n) h hk);have B:=O (t 3);clear h q i he hk x t;go_enter func214,ntmps214;go_wp2_with fail;rw[<-J.o];have P:=Qj (u.r.mod k u.n) 0;have Q:=v.o.cells.2.2.2.2;go_region_with (first|(go_at_call 70;refine B.mono ?_;rintro e V E;obtain⟨rfl,A,j⟩:=E;have L:=O A;have C:=O j;clear A j;skip))
   all_goals go_wp2
   all_goals go_ret
   all_goals
    obtain⟨f,Z,S⟩:=p.o;exact Zq.mk (k.o.trans (Uc L)) (by rw[S];have:=C.o;rw[Z]at this;exact this) ⟨_,rfl⟩ (fun y d=>by rw[S]at d;cases d)
  .have aa:(((Qk l st).1:Int) != 119)=false:=by simp;omega
   rcases i with i | ⟨i,_⟩ | ⟨_,i,T⟩
   .exact absurd hk i
   .subst i;have X:decide ((6:Int)<(K:Int))=true:=QU I;have p:=O (QuV (rq:=rq) (F:=F) h hk);have B:=O (t 4);clear h q he hk x t R;go_enter func214,ntmps214;go_wp2_with fail;rw[<-J.o];have P:=Qj (u.r.mod k u.n) 0;have Q:=v.o.cells.2.2.2.2;go_region_with (first|(go_at_call 70;refine B.mono ?_;rintro e V E;obtain⟨rfl,A,j⟩:=E;have L:=O A;have C:=O j;clear A j;skip))
    all_goals go_wp2
    all_goals go_ret
    all_goals exact Zq.mk (k.o.trans (Uc L)) (by rw[p.2];have:=C.o;rw[G.o]at this;exact this) ⟨_,rfl⟩ (fun y d=>by rw[p.2]at d;cases d)
   .obtain⟨n,rfl⟩:∃m,n=m+1:=⟨n-1,I⟩;have X:decide ((6:Int)<(K:Int))=false:=QB I;have p:=O (SO (rq:=rq) (F:=F) (n:=n) h hk (by rw[N];exact T));have B:=O (t 3);have b:∀z∈tNs,¬a=z:=fun z hz e=>by have:=(Jn a tNs).2 (by rw[e];exact hz);omega
    have e0:((sA a).toList==[116,114,117,101])=false:=by rw[Z3];exact QB (b Uj (by simp[tNs]))
    have e1:((sA a).toList==[102,97,108,115,101])=false:=by rw[Z3];exact QB (b Ud (by simp[tNs]))
    have e2:((sA a).toList==[110,111,116])=false:=by rw[Z3];exact QB (b kNot (by simp[tNs]))
    have e3:((sA a).toList==[97,108,108,111,102])=false:=by rw[Z3];exact QB (b JV (by simp[tNs]))
    have e4:((sA a).toList==[97,110,121,111,102])=false:=by rw[Z3];exact QB (b JU (by simp[tNs]))
    have e5:((sA a).toList==[104,101,97,100,101,114])=false:=by rw[Z3];exact QB (b Y_ (by simp[tNs]))
    have e6:((sA a).toList==[101,110,118,101,108,111,112,101])=false:=by rw[Z3];exact QB (b Zb (by simp[tNs]))
    have e7:((sA a).toList==[115,116,114,105,110,103])=false:=by rw[Z3];exact QB (b Xc (by simp[tNs]))
    have e8:((sA a).toList==[101,120,105,115,116,115])=false:=by rw[Z3];exact QB (b YL (by simp[tNs]))
    have e9:((sA a).toList==[115,105,122,101])=false:=by rw[Z3];exact QB (b JK (by simp[tNs]))
    clear h q he hk x t R b T i N;go_enter func214,ntmps214;go_wp2_with fail;rw[<-J.o];have P:=Qj (u.r.mod k u.n) 0;have Q:=v.o.cells.2.2.2.2;go_region_with (first|(go_at_call 70;refine B.mono ?_;rintro e V E;obtain⟨rfl,A,j⟩:=E;have L:=O A;have C:=O j;clear A j;skip))
    all_goals go_wp2
    all_goals go_ret
    all_goals exact Zq.mk (k.o.trans (Uc L)) (by rw[p.2];have:=C.o;rw[G.o]at this;exact this) ⟨_,rfl⟩ (fun y d=>by rw[p.2]at d;cases d)
theorem Tryz.infoPtrCmd:(prog.info? 151).map (fun i=>(i.zero,i.size,i.bytes))=some (some (.pointer none),1,8):=Qm
def EV(_:World)(v:Value):Prop:=∃p m c,v=.slice p m c
def COk(rb tb:Nat)(nv:Value)(rq:Qn)(l:L8)(F n deep:Nat):Prop:=
 ∀st w,RdI w rb tb nv rq->TSt w tb l st->(Qk l st).1=119->Calls prog 115 #[Qc rb,Qa deep] w (Zq (bindS st (cmdL l rq F n)) tb l w (RCmd n (fromB w.heap.size)) YW)
def Rh(n:Nat)(J:Qq PS->List (Q5 n)->Prop)(tb:Nat)(l:L8)(w:World)(e:Ending)(w':World):Prop:=
 ∃v st1 cs,e=.returned v/\Mod tb w w'/\TSt w' tb l st1/\J st1 cs/\¬(Qk l st1).1=119/\EV w' v/\∀s,st1=.ok s->trY (RCmd n) (fromB w.heap.size) cs w' v
theorem G2{size:Nat}{xs:List Value}(h:w.ownsRow base e size v n xs):EV w v:=by
 rcases h.2 with⟨h,_⟩ | ⟨g,c,_,h,_⟩
 .exact⟨_,_,_,h⟩
 .exact⟨_,_,_,h⟩
theorem U8{α:Type}{P:α->Value->Prop}:∀ {xs:List α} {a:List Value},Zz P xs a->xs.length=a.length
 | [],[],_=>rfl
 |_::_,_::_,h=>by simp[U8 h.2]
 | [],_::_,h=>h.elim
 |_::_,[],h=>h.elim
theorem trY.of_owns{P:(Nat->Prop)->α->World->Value->Prop}(g:TreeQ P){xs:List α}{b:List Value}(h:w.ownsRow base e 1 v b.length b)(f:b=[]->v=.slice none 0 0)(d:Zz (fun a u=>ZD P base w v a u) xs b):trY P (fromB base) xs w v:=by
 have c:=U8 d;by_cases hx:xs=[]
 .subst hx;have i:=XV c.symm;exact Qt ⟨rfl,f i⟩
 .exact Qr ⟨hx,trX.of_ownsQ g (by rw[<-c]at h;exact h) rfl hx d⟩
theorem P8(a:∀s,Gd l s->Dn 1 l (sub s) s)(d:TSt w tb l st)(c:(Qk l st).1=119):muS l (stOf (bindS st sub))<muS l st:=by
 obtain⟨s,rfl,e,b⟩:=XS d c;simp only[bindS]
 cases hs:sub s with
 |error g=>exact Vr _
 |ok z=>
  have:=(a s b.gd z hs).2;show mu l.length z.2+1<mu l.length s+1
  omega
theorem FA(J:Qq PS->List (Q5 n)->Prop){V:Nat}{ad:Nat}(N:RdI w V tb nv rq)(h:TSt w tb l st)(hl:l.length<=600)(hC:COk V tb nv rq l F n ad)(ae:J st [])(hJ:∀w1 st1 acc acc',J st1 acc->TSt w1 tb l st1->(Qk l st1).1=119->(∀z,bindS st1 (cmdL l rq F n)=.ok z->acc'=acc++[z.1])->J (stOf (bindS st1 (cmdL l rq F n))) acc'):Calls prog 69 #[Qc V,Qa ad] w (Rh n J tb l w):=by
 have ag:=h.lt;have H:=O h;have HR:=O N;have HC:=O hC;have HJ:=O hJ;have aG:=O ae;have aj:=O (fun s G=>Na (l:=l) (req:=rq) (F:=F) n s G);have aB:=AV h hl;clear h N hC hJ ae;obtain⟨i0,hi,ax,ay,az⟩:=ZU Tryz.infoPtrCmd;go_enter func69,ntmps69;go_upto_block 0 with fail
 go_cut [5] (fun B Q=>∃(st1:Qq PS) (d:List (Q5 n)) (b:List Value),Q.ownsRow w.heap.size 151 1 B b.length b/\(b=[]->B=.slice none 0 0)/\TSt Q tb l st1/\Mod tb w Q/\J st1 d/\¬(Qk l st1).1=119/\∀s,st1=.ok s->Zz (fun a u=>ZD (RCmd n) w.heap.size Q B a u) d b)
 case first=>
  go_wp2_with fail
  go_loopg [5,6] (muS l st) (fun k B _ wr=>∃(st1:Qq PS) (d:List (Q5 n)) (b:List Value),k=muS l st1/\wr.ownsRow w.heap.size 151 1 B b.length b/\(b=[]->B=.slice none 0 0)/\TSt wr tb l st1/\Mod tb w wr/\J st1 d/\b.length+muS l st1<=1300/\∀s,st1=.ok s->Zz (fun a u=>ZD (RCmd n) w.heap.size wr B a u) d b)
  case atStart=>exact⟨st,[],[],rfl,Z5,fun _=>rfl,H,Mod.refl _ _,aG,by simp;omega,fun _ _=>trivial⟩
  case round=>
   obtain⟨st1,d,b,rfl,y,M,q,x,g,aA,A⟩:=hrel;have aE:=O y;have aH:=O M;have C:=O q;have aD:=O x;have Y:=O g;have ab:=O A;have aw:=x.size;have r0:=Qj (HR.o.mod x).r 0;obtain⟨c2,c4,_,_,_⟩:=q.cells;clear y M q x g A;by_cases i:(Qk l st1).1=119;rotate_left
   .have au:(((Qk l st1).1:Int)==119)=false:=by simp;omega
    have HK:=O i;clear i;cases ar:((errS st1:Int)==0)
    all_goals go_wp2
    all_goals go_meet
    all_goals exact⟨st1,d,b,aE,aH,C,aD,Y,HK,ab⟩
   .have au:(((Qk l st1).1:Int)==119)=true:=by simp;omega
    have he:errS st1=0:=by obtain⟨s,rfl,_,_⟩:=XS C i;rfl
    have ar:((errS st1:Int)==0)=true:=by simp;omega
    have ak:=O (P8 aj C i);have ai:=O (HC st1 wr (HR.o.mod aD) C i);have X:=O (fun acc'=>HJ wr st1 d acc' Y C i);have ao:Hid (∃s,st1=.ok s):=by obtain⟨s,h,_,_⟩:=XS C i;exact⟨s,h⟩
    clear he i;go_wp2_with fail;refine ai.mono ?_;rintro e W h2;obtain⟨L,U,v,rfl,⟨D,rfl⟩,ah⟩:=h2.st;have Z:=O (aD.o.trans L);have aI:=O U;have S:=XP aE L ag;have aC:=Z.size;have av:=O (fun k i=>(aE.o.lt k i).2)
    have ap:Hid (∀z,bindS st1 (cmdL l rq F n)=.ok z->Zz (fun a u=>ZD (RCmd n) w.heap.size W u5 a u) (d++[z.1]) (b++[Qc D])):=by
     intro z t;obtain⟨s,G⟩:=ao.o;exact Zz.snoc (P:=fun a u=>ZD (RCmd n) w.heap.size W u5 a u) (GathQ.new (XD n) (ah z t) aw av) ((ab s G).imp (fun a u E=>GathQ.mod (XD n) E L ag))
    have R:=ak.o;clear h2 L U ah;go_wp2_with (at_builtin;refine Kf _ rfl _ _ 113 rfl w.heap.size 151 i0 (.pointer none) 1 8 underlying113 hi ax ay az rfl Qb _ _ _ rfl (S.alloc _) ⟨W.heap.size,0,none⟩ 1 1 [Qc D] rfl rfl ?c1 ?c2 ?c3 ?c4 ?c5 ?_)
    case c1=>
     intro j u g
     match j,g with
     |0,g=>simp at g;subst g;simp[Addr.add]
    case c2=>intro u E;simp at E;subst E;rfl
    case c3=>unfold maxLen;omega
    case c4=>omega
    case c5=>simp;omega
    .intro v' w5 T K _ af;have A:∀k,(u5).ownBlock=some k->w.heap.size<=k:=fun k i=>(S.lt k i).1
     have aa:=O ((Z.o.alloc (Obj.cells #[Qc D] 151)).grown K A);have ac:=O ((aI.o.below (QH (Obj.cells #[Qc D] 151))).block (K.block tb (by simp;omega) (fun e=>by have:=A tb e.symm;omega)));have aF:=O T;have aq:=O (fun z t=>(ap z t).imp (fun a u E=>GathQ.grown (XD n) E K af));clear T K S A af;go_wp2;go_roundg (muS l (stOf (bindS st1 (cmdL l rq F n))))
     case measure=>exact R
     case rel=>
      cases t:bindS st1 (cmdL l rq F n)with
      |error f=>
       have g:=X d (fun z e=>by rw[t]at e;cases e);have q:=ac.o;rw[t]at g q;exact⟨_,d,b++[Qc D],rfl,by simpa using aF.o,fun e=>by simp at e,q,aa,g,by rw[t]at R;simp;omega,fun s e=>by cases e⟩
      |ok z=>
       have g:=X (d++[z.1]) (fun z' e=>by rw[t]at e;cases e;rfl);have q:=ac.o;rw[t]at g q;exact⟨_,d++[z.1],b++[Qc D],rfl,by simpa using aF.o,fun e=>by simp at e,q,aa,g,by rw[t]at R;simp;omega,fun s e=>aq z t⟩
 case rest=>
  obtain⟨st1,d,b,y,M,q,x,g,i,A⟩:=hcut;obtain⟨p,m,c,rfl⟩:=G2 y;go_wp2;go_ret;exact⟨_,st1,d,rfl,x,q,g,i,⟨p,m,c,rfl⟩,fun s G=>trY.of_owns (XD n) y M (A s G)⟩
theorem Ip{b:Nat}{g:Value}{i:Nat}(d:RdI w b tb g rq)(h:TSt w tb l st)(q:l.length<=600)(hF:2*l.length+2<=F)(hd:i<=6)(H:COk b tb g rq l F n (i+1)):Calls prog 215 #[Qc b,Qa i] w (Zq (bindS st (blockL l F (cmdL l rq F n))) tb l w (trY (RCmd n) (fromB w.heap.size)) EV):=by
 have S:=O (KJ 123 d.r h q);have Q:=O (fun s B=>Na (l:=l) (req:=rq) (F:=F) n s B);change Qd _ at H;replace h:=O h;replace d:=O d;go_enter func215,ntmps215;go_wp2_with fail;refine S.mono ?_;rintro e E ⟨rfl,t,C⟩;have P:=O (Qvo (F:=F) (sub:=cmdL l rq F n) h C q hF);have W:=t.size;change Qd _ at t C;go_wp2_with fail;refine(FA (Ac (bindS st (blockL l F (cmdL l rq F n))) l (cmdL l rq F n)) (d.o.mod t) C q H P (fun E u Z aa a z U V=>QxS Q a z U V)).mono ?_;rintro e Y ⟨v,u,cs,rfl,K,D,J,j,⟨p,m,c,rfl⟩,M⟩;have x:=O (QzC (fun s a z=>Ix a z) J D j);have G:=O (t.o.trans K);have T:=O (KJ 125 (d.o.mod G).r D q);clear K D J j;change Qd _ at M;go_wp2_with fail;refine T.mono ?_;rintro e w3 ⟨rfl,A,L⟩;have R:=O (G.o.trans A);have ab:=h.o.lt;change Qd _ at A L;go_wp2;go_ret;refine Zq.mk R (by rw[x.1];exact L) ⟨_,_,_,rfl⟩ (fun y N=>?_);rw[x.2 y N]
 have X:∃s,u=.ok s:=by
  cases u with
  |ok s=>exact⟨s,rfl⟩
  |error f=>
   have a:=x.1;rw[N]at a;have:signS l 125 (.error f)=.error f:=by unfold signS;split<;>rfl
   rw[this]at a;cases a
 obtain⟨s,B⟩:=X;refine(Xk (XD n)).weak (fromB E.heap.size) _ _ _ _ ((Xk (XD n)).keep _ _ _ _ _ (M s B) (A.abvX (fun e=>by have e':E.heap.size<=tb:=e;omega))) (fun k j _=>QE W j)
end
end Go.Proofs.YtgnkjijocdmniaaGreatDoor
