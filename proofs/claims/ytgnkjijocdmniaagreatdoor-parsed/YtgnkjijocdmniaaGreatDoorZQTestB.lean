import Derived.Test.YtgnkjijocdmniaaGreatDoorQMatchW
namespace Go.Proofs.YtgnkjijocdmniaaGreatDoor
set_option linter.unusedVariables false
set_option linter.unusedSimpArgs false
set_option maxRecDepth 100000
set_option maxHeartbeats 4000000
section
open Go.RowKit
structure RdI (w:World) (rb tb:Nat) (nv:Value) (rq:List (List UInt8)):Prop where
 r:RdQ w rb tb nv
 n:rb≠tb
 q:(rq=[]∧nv=.slice none 0 0)∨∃ g c,nv=.slice (some ⟨g,0,none⟩) rq.length c∧TxtAt w g rq∧g≠tb
 z:rq.length≤140737488355328
theorem RdI.txl {w:World} {rb tb:Nat} {nv:Value} {rq:List (List UInt8)} (h:RdI w rb tb nv rq):TxL w nv rq:=by
 rcases h.q with h | ⟨g,c,h1,h2,_⟩
 ·exact Or.inl h
 ·exact Or.inr ⟨g,c,h1,h2⟩
theorem RdI.mod {w w':World} {rb tb:Nat} {nv:Value} {rq:List (List UInt8)} (h:RdI w rb tb nv rq) (hm:Mod tb w w'):RdI w' rb tb nv rq:=by
 refine ⟨h.r.mod hm h.n,h.n,?_,h.z⟩
 rcases h.q with h | ⟨g,c,h1,h2,h3⟩
 ·exact Or.inl h
 ·refine Or.inr ⟨g,c,h1,fun j hj=>?_,h3⟩
  have:=h2 j hj
  rw [World.cell?_of_block (w:=w) (a:=⟨g,j,none⟩) (hm.block g (cell_lt this) h3)]
  exact this
theorem TGood.gd {w:World} {tb:Nat} {l:List UInt8} {s:PS} (h:TGood w tb l s):Gd l s:=⟨h.le,fun e=>by
 have:=h.wd
 rcases this with h | h | h | h | h | h
 ·exact h.2.1
 all_goals omega⟩
theorem tests_let:∀ z∈testNames,∃ c r,z=c :: r∧isLetN c.toNat=true:=by
 intro z hz
 simp only [testNames,List.mem_cons,List.not_mem_nil,or_false] at hz
 rcases hz with rfl | rfl | rfl | rfl | rfl | rfl | rfl | rfl | rfl | rfl <;> exact ⟨_,_,rfl,rfl⟩
theorem cmds_let:∀ z∈cmdNames,∃ c r,z=c :: r∧isLetN c.toNat=true:=by
 intro z hz
 simp only [cmdNames,List.mem_cons,List.not_mem_nil,or_false] at hz
 rcases hz with rfl | rfl | rfl | rfl | rfl | rfl | rfl | rfl <;> exact ⟨_,_,rfl,rfl⟩
theorem which_no {zs:List (List UInt8)} {x:List UInt8} (h:∀ z∈zs,¬ x=z):whichL zs x=0:=by
 apply Nat.eq_zero_of_not_pos
 intro hp
 have hm:=(whichL_pos_iff _ _).1 hp
 exact h x hm rfl
theorem which_word {x:Wd} (h:WdQ x) {zs:List (List UInt8)} (hz:∀ z∈zs,∃ c r,z=c :: r∧isLetN c.toNat=true):whichL zs x.spelt=if x.kind=1 then whichL zs (sQ x) else 0:=by
 by_cases hk:x.kind=1
 ·rw [if_pos hk]
  have e:∀ z∈zs,(z=x.spelt↔z=sQ x):=fun z hz'=>by
   rw [eq_comm,spelt_word h (hz z hz')]
   exact ⟨fun h=>h.2.symm,fun h=>⟨hk,h.symm⟩⟩
  clear hz
  induction zs with
  | nil=>rfl
  | cons z r ih=>
   have ih':=ih (fun z hz=>e z (List.mem_cons_of_mem _ hz))
   have ez:=e z (List.mem_cons_self)
   unfold whichL
   by_cases hx:z=x.spelt
   ·rw [if_pos hx,if_pos (ez.1 hx)]
   ·rw [if_neg hx,if_neg (fun e=>hx (ez.2 e)),ih']
 ·rw [if_neg hk]
  exact which_no (fun z hm e=>hk ((spelt_word h (hz z hm)).1 e).1)
theorem use_test {rq:List (List UInt8)} {nm:List UInt8} (h:¬ whichL testNames nm=0):useOk rq nm=if nm=kEnvelope then decide (0 < whichL rq kEnvelope) else if nm=kString then decide (0 < whichL rq kVariables) else true:=by
 have hm:=(whichL_pos_iff nm testNames).1 (by omega)
 simp only [testNames,List.mem_cons,List.not_mem_nil,or_false] at hm
 unfold useOk
 rcases hm with rfl | rfl | rfl | rfl | rfl | rfl | rfl | rfl | rfl | rfl <;> simp [kTrue,kFalse,kNot,kAllof,kAnyof,kHeader,kEnvelope,kString,kExists,kSize,kFileinto,kReject,kSet]
theorem test_noword {w:World} {tb:Nat} {l:List UInt8} {rq:List (List UInt8)} {F n:Nat} {st:Except Flt PS} (h:TSt w tb l st) (hk:¬ (wordS l st).1=119):∃ f,failS st ⟨4,(wordS l st).2.2.2⟩=.error f∧bindS st (testL l rq F n)=.error f:=by
 cases st with
 | error f=>exact ⟨f,rfl,rfl⟩
 | ok s=>
  have h1:¬ s.1.kind=1:=fun e=>hk ((kQ_word h.wd).2 e)
  refine ⟨_,rfl,?_⟩
  show testL l rq F n s=_
  cases n with
  | zero=>unfold testL;rw [if_neg h1];rfl
  | succ n=>rw [testL,which_word h.wd tests_let,if_neg h1,if_pos rfl];rfl
theorem ok_word {w:World} {tb:Nat} {l:List UInt8} {st:Except Flt PS} (h:TSt w tb l st) (hk:(wordS l st).1=119):∃ s,st=.ok s∧s.1.kind=1∧TGood w tb l s:=by
 cases st with
 | error f=>exact absurd hk (by show ¬ (0:Nat)=119;decide)
 | ok s=>exact ⟨s,rfl,(kQ_word h.wd).1 hk,h⟩
theorem test_deep {w:World} {tb:Nat} {l:List UInt8} {rq:List (List UInt8)} {F:Nat} {st:Except Flt PS} (h:TSt w tb l st) (hk:(wordS l st).1=119):failS st ⟨5,(wordS l st).2.2.2⟩=.error ⟨5,(wordS l st).2.2.2⟩∧bindS st (testL l rq F 0)=.error ⟨5,(wordS l st).2.2.2⟩:=by
 obtain ⟨s,rfl,h1,hg⟩:=ok_word h hk
 refine ⟨rfl,?_⟩
 show testL l rq F 0 s=_
 unfold testL
 rw [if_pos h1];rfl
theorem test_unknown {w:World} {tb:Nat} {l:List UInt8} {rq:List (List UInt8)} {F n:Nat} {st:Except Flt PS} (h:TSt w tb l st) (hk:(wordS l st).1=119) (hw:whichL testNames (wordS l st).2.1=0):failS st ⟨4,(wordS l st).2.2.2⟩=.error ⟨4,(wordS l st).2.2.2⟩∧bindS st (testL l rq F (n+1))=.error ⟨4,(wordS l st).2.2.2⟩:=by
 obtain ⟨s,rfl,h1,hg⟩:=ok_word h hk
 refine ⟨rfl,?_⟩
 show testL l rq F (n+1) s=_
 have hw':whichL testNames (sQ s.1)=0:=hw
 rw [testL,which_word hg.wd tests_let,if_pos h1,hw',if_pos rfl];rfl
theorem ite_next {α:Type} {b:Bool} {l:List UInt8} {s:PS} {K:PS→Except Flt (α×PS)}:(if b=true then nextThen l s (fun s1=>K s1) else .error ⟨6,s.1.pos⟩)=bindS (nextS l (if b=true then .ok s else .error ⟨6,s.1.pos⟩)) K:=by
 cases b with
 | false=>rfl
 | true=>
  show nextThen l s _=bindS (nextL l s.2) _
  unfold nextThen
  cases nextL l s.2 <;> rfl
theorem test_is {w:World} {tb:Nat} {l:List UInt8} {rq:List (List UInt8)} {F n:Nat} {st:Except Flt PS} (h:TSt w tb l st) (hk:(wordS l st).1=119) (hw:¬ whichL testNames (wordS l st).2.1=0) :
 bindS st (testL l rq F (n+1))=bindS (nextS l (preS l rq (wordS l st).2.1 st)) (testBody l F (testL l rq F n) (whichL testNames (wordS l st).2.1 - 1) (wordS l st).2.2.2):=by
 obtain ⟨s,rfl,h1,hg⟩:=ok_word h hk
 show testL l rq F (n+1) s=_
 have hw':¬ whichL testNames (sQ s.1)=0:=hw
 have es:s.1.spelt=sQ s.1:=by
  have hm:=(whichL_pos_iff (sQ s.1) testNames).1 (by omega)
  exact (spelt_word hg.wd (tests_let _ hm)).2 ⟨h1,rfl⟩
 rw [testL,es,if_neg hw',use_test hw']
 refine (ite_next (α:=TestT (n+1)) (K:=testBody l F (testL l rq F n) (whichL testNames (sQ s.1) - 1) s.1.pos)).trans ?_
 refine congrArg (fun x=>bindS (nextS l x) _) ?_
 show _=preS l rq (sQ s.1) (.ok s)
 unfold preS usesS
 by_cases e1:sQ s.1=kEnvelope
 ·rw [if_pos e1,if_pos e1]
  by_cases h:0 < whichL rq kEnvelope
  ·rw [if_pos h,if_pos (decide_eq_true h)]
  ·rw [if_neg h,if_neg (by simpa using h)];rfl
 ·rw [if_neg e1,if_neg e1]
  by_cases e2:sQ s.1=kString
  ·rw [if_pos e2,if_pos e2]
   by_cases h:0 < whichL rq kVariables
   ·rw [if_pos h,if_pos (decide_eq_true h)]
   ·rw [if_neg h,if_neg (by simpa using h)];rfl
  ·rw [if_neg e2,if_neg e2,if_pos rfl]
theorem pass_sign {l:List UInt8} {s:PS} (hw:WdQ s.1) (c:UInt8) (hc:isSign c=true):passL l [[c]] s=match signS l c.toNat (.ok s) with | .ok s'=>.ok (1,s') | .error f=>.error f:=by
 have hi:=kQ_sign hw hc
 unfold passL signS
 by_cases h:s.1.spelt=[c]
 ·have hz:whichL [[c]] s.1.spelt=1:=by rw [which1,if_pos h.symm]
  rw [hz,if_neg (by decide)]
  have:(wordS l (.ok s)).1=c.toNat:=hi.2 h
  rw [if_pos this]
  show _=match nextL l s.2 with | .ok s'=>_ | .error f=>_
  cases nextL l s.2 <;> rfl
 ·have hz:whichL [[c]] s.1.spelt=0:=by rw [which1,if_neg (fun e=>h e.symm)]
  rw [hz,if_pos rfl]
  have:¬ (wordS l (.ok s)).1=c.toNat:=fun e=>h (hi.1 e)
  rw [if_neg this]
  rfl
theorem pass_then {β:Type} {w:World} {tb:Nat} {l:List UInt8} {st:Except Flt PS} (h:TSt w tb l st) (c:UInt8) (hc:isSign c=true) (k:PS→Except Flt (β×PS)):bindS st (fun s=>thenL (passL l [[c]] s) fun _ s1=>k s1)=bindS (signS l c.toNat st) k:=by
 cases st with
 | error f=>
  have:signS l c.toNat (.error f)=.error f:=by
   unfold signS
   split <;> rfl
  rw [this];rfl
 | ok s=>
  simp only [bindS]
  rw [pass_sign h.wd c hc]
  cases signS l c.toNat (.ok s) <;> rfl
def grpR {α:Type} (l:List UInt8) (sub:PS→Except Flt (α×PS)) (f:Nat) (acc:List α) (s:PS):Except Flt (List α×PS):=thenL (sub s) fun t s1=>groupMore l sub f (acc++[t]) s1
structure GrpI {α:Type} (R:Except Flt (List α×PS)) (l:List UInt8) (sub:PS→Except Flt (α×PS)) (st:Except Flt PS) (acc:List α):Prop where
 r:∃ f,(∀ s,st=.ok s→mu l.length s < f)∧R=bindS st (grpR l sub f acc)
theorem grp_begin {α:Type} {w w1:World} {tb:Nat} {l:List UInt8} {F:Nat} {sub:PS→Except Flt (α×PS)} {st:Except Flt PS} (h:TSt w tb l st) (h1:TSt w1 tb l (signS l 40 st)) (hl:l.length≤600) (hF:2*l.length+2≤F):GrpI (bindS st (groupL l F sub)) l sub (signS l 40 st) []:=by
 refine ⟨F,fun s hs=>?_,?_⟩
 ·rw [hs] at h1
  have:=mu_bound h1 hl
  omega
 ·exact pass_then h 40 rfl (grpR l sub F [])
theorem grp_step {α:Type} {w w1:World} {tb:Nat} {R:Except Flt (List α×PS)} {l:List UInt8} {sub:PS→Except Flt (α×PS)} {st:Except Flt PS} {acc:List α} (hd:∀ s,Gd l s→Dn 1 l (sub s) s) (h:GrpI R l sub st acc) (ht:TSt w tb l st) (h1:TSt w1 tb l (stOf (bindS st sub))) :
 ((wordS l (stOf (bindS st sub))).1=44→errS (stOf (bindS st sub))=0∧muS l (nextS l (stOf (bindS st sub))) < muS l st∧∃ z,bindS st sub=.ok z∧GrpI R l sub (nextS l (stOf (bindS st sub))) (acc++[z.1]))∧
 (¬ (wordS l (stOf (bindS st sub))).1=44→stOf R=signS l 41 (stOf (bindS st sub))∧∀ y,R=.ok y→∃ z,bindS st sub=.ok z∧y.1=acc++[z.1]):=by
 obtain ⟨⟨f,hf,hR⟩⟩:=h
 cases st with
 | error g=>
  have hR':R=.error g:=hR
  subst hR'
  refine ⟨fun h=>absurd h (by show ¬ (0:Nat)=44;decide),fun _=>⟨rfl,fun y e=>by cases e⟩⟩
 | ok s=>
  have hfs:=hf s rfl
  obtain ⟨f,rfl⟩:∃ g,f=g+1:=⟨f - 1,by omega⟩
  simp only [bindS] at h1 hR ⊢
  cases hs:sub s with
  | error g=>
   have hR':R=.error g:=by rw [hR];unfold grpR;rw [hs];rfl
   subst hR'
   refine ⟨fun h=>absurd h (by show ¬ (0:Nat)=44;decide),fun _=>⟨rfl,fun y e=>by cases e⟩⟩
  | ok z=>
   rw [hs] at h1
   have hg:TGood w1 tb l z.2:=h1
   have hR':R=groupMore l sub (f+1) (acc++[z.1]) z.2:=by rw [hR];unfold grpR;rw [hs];rfl
   have hmu:=(hd s (TGood.gd ht) z hs).2
   rw [groupMore] at hR'
   refine ⟨fun h44=>?_,fun h44=>?_⟩
   ·have hk:kQ z.2.1=44:=h44
    have h0:¬ z.2.1.kind=0:=fun e0=>by
     have:kQ z.2.1=0:=(kQ_end hg.wd).2 e0
     omega
    have hm:=muS_next hg h0
    have hm':muS l (nextL l z.2.2) < mu l.length z.2+1:=hm
    have hms:muS l (.ok s)=mu l.length s+1:=rfl
    have hp:passL l [[44],[41]] z.2=match nextL l z.2.2 with | .ok s'=>.ok (1,s') | .error f=>.error f:=by
     have e:z.2.1.spelt=[44]:=(kQ_sign hg.wd (c:=44) (by decide)).1 hk
     unfold passL
     have hw':whichL [[44],[41]] z.2.1.spelt=1:=by rw [e];rfl
     rw [hw',if_neg (by decide)]
     cases nextL l z.2.2 <;> rfl
    refine ⟨rfl,?_,z,rfl,⟨f,fun s1 h1=>?_,?_⟩⟩
    ·show muS l (nextL l z.2.2) < _
     omega
    ·have h2:nextL l z.2.2=.ok s1:=h1
     have:=nextL_mu hg.le h0 h2
     omega
    ·rw [hR',hp]
     show _=bindS (nextL l z.2.2) _
     cases nextL l z.2.2 <;> rfl
   ·have hk:¬ kQ z.2.1=44:=h44
    by_cases h41:kQ z.2.1=41
    ·have e:signS l 41 (stOf (.ok z))=nextL l z.2.2:=if_pos h41
     have hp:passL l [[44],[41]] z.2=match nextL l z.2.2 with | .ok s'=>.ok (2,s') | .error f=>.error f:=by
      have e:z.2.1.spelt=[41]:=(kQ_sign hg.wd (c:=41) (by decide)).1 h41
      unfold passL
      have hw':whichL [[44],[41]] z.2.1.spelt=2:=by rw [e];rfl
      rw [hw',if_neg (by decide)]
      cases nextL l z.2.2 <;> rfl
     rw [e,hR',hp]
     cases nextL l z.2.2 with
     | error g=>exact ⟨rfl,fun y e=>by cases e⟩
     | ok s1=>exact ⟨rfl,fun y e=>⟨z,rfl,by cases e;rfl⟩⟩
    ·have e:signS l 41 (stOf (.ok z))=.error ⟨4,z.2.1.pos⟩:=if_neg h41
     have hp:passL l [[44],[41]] z.2=.error ⟨4,z.2.1.pos⟩:=by
      have n1:¬ z.2.1.spelt=[44]:=fun e=>hk ((kQ_sign hg.wd (c:=44) (by decide)).2 e)
      have n2:¬ z.2.1.spelt=[41]:=fun e=>h41 ((kQ_sign hg.wd (c:=41) (by decide)).2 e)
      unfold passL
      rw [which_no (by intro z hz;simp at hz;rcases hz with rfl | rfl;exact n1;exact n2),if_pos rfl]
     rw [e,hR',hp]
     exact ⟨rfl,fun y e=>by cases e⟩
theorem size_is {w:World} {tb:Nat} {l:List UInt8} {pos:Nat} {st:Except Flt PS} (h:TSt w tb l st) (v:Nat) (hv:v=if (wordS l st).1=58 then whichL [qOver,qUnder] (wordS l st).2.1 else 0) :
 bindS st (sizeL l pos)=bindS (if v=0 then failS st ⟨4,(wordS l st).2.2.2⟩ else nextS l st) fun s1=>if s1.1.kind=4 then nextThen l s1 fun s2=>.ok (⟨9,pos,v,false,[],[],s1.1.num⟩,s2) else .error ⟨4,s1.1.pos⟩:=by
 cases st with
 | error f=>
  have h0:v=0:=by rw [hv];rfl
  subst h0
  rw [if_pos rfl];rfl
 | ok s=>
  have hw:whichL [tOver,tUnder] s.1.spelt=v:=by
   rw [hv]
   by_cases hk:s.1.kind=2
   ·have:(wordS l (.ok s)).1=58:=(kQ_tag h.wd).2 hk
    rw [if_pos this,tag_spelt h.wd hk,tagsS,which_tag];rfl
   ·have:¬ (wordS l (.ok s)).1=58:=fun e=>hk ((kQ_tag h.wd).1 e)
    rw [if_neg this,tagsS,which_tag0 h.wd hk _ neS]
  show sizeL l pos s=_
  unfold sizeL passL
  rw [hw]
  by_cases h0:v=0
  ·rw [if_pos h0,if_pos h0];rfl
  ·rw [if_neg h0,if_neg h0]
   show _=bindS (nextL l s.2) _
   cases nextL l s.2 <;> rfl
theorem size_end {w:World} {tb:Nat} {l:List UInt8} {pos v:Nat} {st:Except Flt PS} (h:TSt w tb l st) :
 stOf (bindS st fun s1=>if s1.1.kind=4 then nextThen l s1 fun s2=>.ok ((⟨9,pos,v,false,[],[],s1.1.num⟩:TLab),s2) else .error ⟨4,s1.1.pos⟩)=signS l 48 st∧∀ y,(bindS st fun s1=>if s1.1.kind=4 then nextThen l s1 fun s2=>.ok ((⟨9,pos,v,false,[],[],s1.1.num⟩:TLab),s2) else .error ⟨4,s1.1.pos⟩)=.ok y→y.1=⟨9,pos,v,false,[],[],(wordS l st).2.2.1⟩:=by
 cases st with
 | error f=>
  exact ⟨by unfold signS;split <;> rfl,fun y e=>by cases e⟩
 | ok s=>
  simp only [bindS]
  by_cases hk:s.1.kind=4
  ·have:(wordS l (.ok s)).1=48:=(kQ_num h.wd).2 hk
   unfold signS
   rw [if_pos this,if_pos hk]
   show stOf (nextThen l s _)=nextL l s.2∧∀ y,nextThen l s _=_→_
   unfold nextThen
   cases nextL l s.2 with
   | error f=>exact ⟨rfl,fun y e=>by cases e⟩
   | ok s2=>exact ⟨rfl,fun y e=>by cases e;rfl⟩
  ·have:¬ (wordS l (.ok s)).1=48:=fun e=>hk ((kQ_num h.wd).1 e)
   unfold signS
   rw [if_neg this,if_neg hk]
   exact ⟨rfl,fun y e=>by cases e⟩
end
section
open Go.RowKit
def preC (l:List UInt8) (rq:List (List UInt8)) (nm:List UInt8) (st:Except Flt PS):Except Flt PS:=
 if nm=kFileinto∨nm=kReject then usesS l rq nm st else if nm=kSet then usesS l rq kVariables st else st
theorem use_cmd {rq:List (List UInt8)} {nm:List UInt8} (h:¬ whichL cmdNames nm=0):useOk rq nm=if nm=kFileinto∨nm=kReject then decide (0 < whichL rq nm) else if nm=kSet then decide (0 < whichL rq kVariables) else true:=by
 have hm:=(whichL_pos_iff nm cmdNames).1 (by omega)
 simp only [cmdNames,List.mem_cons,List.not_mem_nil,or_false] at hm
 unfold useOk
 rcases hm with rfl | rfl | rfl | rfl | rfl | rfl | rfl | rfl <;> simp [kKeep,kDiscard,kStop,kFileinto,kRedirect,kReject,kSet,kIf,kEnvelope,kString]
theorem cmd_noword {l:List UInt8} {rq:List (List UInt8)} {F n:Nat} {s:PS} (hw:WdQ s.1) (hk:¬ s.1.kind=1):cmdL l rq F n s=.error ⟨4,s.1.pos⟩:=by
 cases n with
 | zero=>unfold cmdL;rw [if_neg hk]
 | succ n=>rw [cmdL,which_word hw cmds_let,if_neg hk,if_pos rfl]
theorem cmd_deep {w:World} {tb:Nat} {l:List UInt8} {rq:List (List UInt8)} {F:Nat} {st:Except Flt PS} (h:TSt w tb l st) (hk:(wordS l st).1=119):bindS st (cmdL l rq F 0)=.error ⟨5,(wordS l st).2.2.2⟩:=by
 obtain ⟨s,rfl,h1,hg⟩:=ok_word h hk
 show cmdL l rq F 0 s=_
 unfold cmdL
 rw [if_pos h1];rfl
theorem cmd_unknown {w:World} {tb:Nat} {l:List UInt8} {rq:List (List UInt8)} {F n:Nat} {st:Except Flt PS} (h:TSt w tb l st) (hk:(wordS l st).1=119) (hw:whichL cmdNames (wordS l st).2.1=0):bindS st (cmdL l rq F (n+1))=.error ⟨4,(wordS l st).2.2.2⟩:=by
 obtain ⟨s,rfl,h1,hg⟩:=ok_word h hk
 show cmdL l rq F (n+1) s=_
 have hw':whichL cmdNames (sQ s.1)=0:=hw
 rw [cmdL,which_word hg.wd cmds_let,if_pos h1,hw',if_pos rfl];rfl
theorem cmd_is {w:World} {tb:Nat} {l:List UInt8} {rq:List (List UInt8)} {F n:Nat} {st:Except Flt PS} (h:TSt w tb l st) (hk:(wordS l st).1=119) (hw:¬ whichL cmdNames (wordS l st).2.1=0) :
 bindS st (cmdL l rq F (n+1))=bindS (nextS l (preC l rq (wordS l st).2.1 st)) (cmdBody l F (testL l rq F n) (cmdL l rq F n) (whichL cmdNames (wordS l st).2.1 - 1) (wordS l st).2.2.2):=by
 obtain ⟨s,rfl,h1,hg⟩:=ok_word h hk
 show cmdL l rq F (n+1) s=_
 have hw':¬ whichL cmdNames (sQ s.1)=0:=hw
 have es:s.1.spelt=sQ s.1:=by
  have hm:=(whichL_pos_iff (sQ s.1) cmdNames).1 (by omega)
  exact (spelt_word hg.wd (cmds_let _ hm)).2 ⟨h1,rfl⟩
 rw [cmdL,es,if_neg hw',use_cmd hw']
 refine (ite_next (α:=CmdT (n+1)) (K:=cmdBody l F (testL l rq F n) (cmdL l rq F n) (whichL cmdNames (sQ s.1) - 1) s.1.pos)).trans ?_
 refine congrArg (fun x=>bindS (nextS l x) _) ?_
 show _=preC l rq (sQ s.1) (.ok s)
 unfold preC usesS
 by_cases e1:sQ s.1=kFileinto∨sQ s.1=kReject
 ·rw [if_pos e1,if_pos e1]
  by_cases h:0 < whichL rq (sQ s.1)
  ·rw [if_pos h,if_pos (decide_eq_true h)]
  ·rw [if_neg h,if_neg (by simpa using h)];rfl
 ·rw [if_neg e1,if_neg e1]
  by_cases e2:sQ s.1=kSet
  ·rw [if_pos e2,if_pos e2]
   by_cases h:0 < whichL rq kVariables
   ·rw [if_pos h,if_pos (decide_eq_true h)]
   ·rw [if_neg h,if_neg (by simpa using h)];rfl
  ·rw [if_neg e2,if_neg e2,if_pos rfl]
structure BlkI {α:Type} (R:Except Flt (List α×PS)) (l:List UInt8) (sub:PS→Except Flt (α×PS)) (st:Except Flt PS) (acc:List α):Prop where
 r:∃ f,(∀ s,st=.ok s→mu l.length s < f)∧R=bindS st (blockMore l sub f acc)
theorem blk_begin {α:Type} {w w1:World} {tb:Nat} {l:List UInt8} {F:Nat} {sub:PS→Except Flt (α×PS)} {st:Except Flt PS} (h:TSt w tb l st) (h1:TSt w1 tb l (signS l 123 st)) (hl:l.length≤600) (hF:2*l.length+2≤F):BlkI (bindS st (blockL l F sub)) l sub (signS l 123 st) []:=by
 refine ⟨F,fun s hs=>?_,?_⟩
 ·rw [hs] at h1
  have:=mu_bound h1 hl
  omega
 ·exact pass_then h 123 rfl (blockMore l sub F [])
theorem word_may {l:List UInt8} {s:PS} {c:UInt8} (hw:WdQ s.1) (hc:isSign c=true) (hk:¬ kQ s.1=c.toNat):mayL l [[c]] s=.ok (0,s):=by
 have h:¬ s.1.spelt=[c]:=fun e=>hk ((kQ_sign hw hc).2 e)
 unfold mayL
 rw [if_pos (by rw [which1,if_neg (fun e=>h e.symm)])]
theorem blk_step {α:Type} {w:World} {tb:Nat} {R:Except Flt (List α×PS)} {l:List UInt8} {sub:PS→Except Flt (α×PS)} {st:Except Flt PS} {acc acc':List α} (hd:∀ s,Gd l s→Dn 1 l (sub s) s) (h:BlkI R l sub st acc) (ht:TSt w tb l st) (hk:(wordS l st).1=119) (ha:∀ z,bindS st sub=.ok z→acc'=acc++[z.1]):BlkI R l sub (stOf (bindS st sub)) acc':=by
 obtain ⟨⟨f,hf,hR⟩⟩:=h
 obtain ⟨s,rfl,h1,hg⟩:=ok_word ht hk
 have hfs:=hf s rfl
 obtain ⟨f,rfl⟩:∃ g,f=g+1:=⟨f - 1,by omega⟩
 simp only [bindS] at hR ha ⊢
 have hk':kQ s.1=119:=hk
 rw [blockMore,word_may hg.wd (c:=125) rfl (by rw [hk'];decide)] at hR
 have hR2:R=thenL (sub s) fun c s2=>blockMore l sub f (acc++[c]) s2:=hR
 cases hs:sub s with
 | error g=>
  rw [hs] at hR2
  exact ⟨0,(fun s e=>by cases e),hR2⟩
 | ok z=>
  rw [hs] at hR2
  rw [ha z hs]
  have hmu:=(hd s hg.gd z hs).2
  refine ⟨f,fun s1 e=>?_,hR2⟩
  cases e
  omega
theorem blk_end {α:Type} {w:World} {tb:Nat} {R:Except Flt (List α×PS)} {l:List UInt8} {sub:PS→Except Flt (α×PS)} {st:Except Flt PS} {acc:List α} (hn:∀ s,WdQ s.1→¬ s.1.kind=1→sub s=.error ⟨4,s.1.pos⟩) (h:BlkI R l sub st acc) (ht:TSt w tb l st) (hk:¬ (wordS l st).1=119):stOf R=signS l 125 st∧∀ y,R=.ok y→y.1=acc:=by
 obtain ⟨⟨f,hf,hR⟩⟩:=h
 cases st with
 | error g=>
  have hR':R=.error g:=hR
  subst hR'
  exact ⟨by unfold signS;split <;> rfl,fun y e=>by cases e⟩
 | ok s=>
  have hfs:=hf s rfl
  obtain ⟨f,rfl⟩:∃ g,f=g+1:=⟨f - 1,by omega⟩
  simp only [bindS] at hR
  have hg:TGood w tb l s:=ht
  have h1:¬ s.1.kind=1:=fun e=>hk ((kQ_word hg.wd).2 e)
  rw [blockMore] at hR
  by_cases h125:kQ s.1=125
  ·have e:signS l 125 (.ok s)=nextL l s.2:=if_pos h125
   have hp:mayL l [[125]] s=match nextL l s.2 with | .ok s'=>.ok (1,s') | .error f=>.error f:=by
    have e:s.1.spelt=[125]:=(kQ_sign hg.wd (c:=125) (by decide)).1 h125
    have hz:whichL [[125]] s.1.spelt=1:=by rw [which1,if_pos e.symm]
    unfold mayL
    rw [hz,if_neg (by decide)]
    cases nextL l s.2 <;> rfl
   rw [e,hR,hp]
   cases nextL l s.2 with
   | error g=>exact ⟨rfl,fun y e=>by cases e⟩
   | ok s1=>exact ⟨rfl,fun y e=>by cases e;rfl⟩
  ·have e:signS l 125 (.ok s)=.error ⟨4,s.1.pos⟩:=if_neg h125
   rw [e,hR,word_may hg.wd (c:=125) rfl h125]
   have:thenL (.ok (0,s)) (fun i s1=>if i=0 then thenL (sub s1) fun c s2=>blockMore l sub f (acc++[c]) s2 else .ok (acc,s1))=thenL (sub s) fun c s2=>blockMore l sub f (acc++[c]) s2:=rfl
   rw [this,hn s hg.wd h1]
   exact ⟨rfl,fun y e=>by cases e⟩
structure TopI {α:Type} (R:Except Flt (List α)) (l:List UInt8) (sub:PS→Except Flt (α×PS)) (st:Except Flt PS) (acc:List α):Prop where
 r:∃ f,(∀ s,st=.ok s→mu l.length s < f)∧R=bindS st (cmdsMore sub f acc)
theorem top_step {α:Type} {w:World} {tb:Nat} {R:Except Flt (List α)} {l:List UInt8} {sub:PS→Except Flt (α×PS)} {st:Except Flt PS} {acc acc':List α} (hd:∀ s,Gd l s→Dn 1 l (sub s) s) (h:TopI R l sub st acc) (ht:TSt w tb l st) (hk:(wordS l st).1=119) (ha:∀ z,bindS st sub=.ok z→acc'=acc++[z.1]):TopI R l sub (stOf (bindS st sub)) acc':=by
 obtain ⟨⟨f,hf,hR⟩⟩:=h
 obtain ⟨s,rfl,h1,hg⟩:=ok_word ht hk
 have hfs:=hf s rfl
 obtain ⟨f,rfl⟩:∃ g,f=g+1:=⟨f - 1,by omega⟩
 simp only [bindS] at hR ha ⊢
 rw [cmdsMore,if_neg (by omega)] at hR
 cases hs:sub s with
 | error g=>
  rw [hs] at hR
  exact ⟨0,(fun s e=>by cases e),hR⟩
 | ok z=>
  rw [hs] at hR
  rw [ha z hs]
  have hmu:=(hd s hg.gd z hs).2
  refine ⟨f,fun s1 e=>?_,hR⟩
  cases e
  omega
theorem top_end {α:Type} {w:World} {tb:Nat} {R:Except Flt (List α)} {l:List UInt8} {sub:PS→Except Flt (α×PS)} {st:Except Flt PS} {acc:List α} (hn:∀ s,WdQ s.1→¬ s.1.kind=1→sub s=.error ⟨4,s.1.pos⟩) (h:TopI R l sub st acc) (ht:TSt w tb l st) (hk:¬ (wordS l st).1=119):R=bindS (if (wordS l st).1=0 then st else failS st ⟨4,(wordS l st).2.2.2⟩) fun _=>.ok acc:=by
 obtain ⟨⟨f,hf,hR⟩⟩:=h
 cases st with
 | error g=>
  have hR':R=.error g:=hR
  rw [hR'];rfl
 | ok s=>
  have hfs:=hf s rfl
  obtain ⟨f,rfl⟩:∃ g,f=g+1:=⟨f - 1,by omega⟩
  simp only [bindS] at hR
  have hg:TGood w tb l s:=ht
  have h1:¬ s.1.kind=1:=fun e=>hk ((kQ_word hg.wd).2 e)
  rw [hR,cmdsMore]
  by_cases h0:s.1.kind=0
  ·have e:(wordS l (.ok s)).1=0:=(kQ_end hg.wd).2 h0
   rw [if_pos h0,if_pos e];rfl
  ·have e:¬ (wordS l (.ok s)).1=0:=fun e=>h0 ((kQ_end hg.wd).1 e)
   rw [if_neg h0,if_neg e,hn s hg.wd h1];rfl
theorem may_word {w:World} {tb:Nat} {l:List UInt8} {s:PS} (hg:TGood w tb l s) (z:List UInt8) (hz:∃ c r,z=c :: r∧isLetN c.toNat=true):mayL l [z] s=if s.1.kind=1∧sQ s.1=z then (match nextL l s.2 with | .ok s'=>.ok (1,s') | .error f=>.error f) else .ok (0,s):=by
 have hi:=spelt_word hg.wd hz
 unfold mayL
 by_cases h:s.1.spelt=z
 ·have h1:whichL [z] s.1.spelt=1:=by rw [which1,if_pos h.symm]
  rw [h1,if_neg (by decide),if_pos (hi.1 h)]
  cases nextL l s.2 <;> rfl
 ·have h1:whichL [z] s.1.spelt=0:=by rw [which1,if_neg (fun e=>h e.symm)]
  rw [h1,if_pos rfl,if_neg (fun e=>h (hi.2 e))]
def armsR {α β:Type} (l:List UInt8) (F:Nat) (tst:PS→Except Flt (β×PS)) (sub:PS→Except Flt (α×PS)) (f:Nat) (acc:List (β×List α)) (s:PS):Except Flt (List (β×List α)×PS):=thenL (armL l F tst sub s) fun a s1=>armsMore l F tst sub f (acc++[a]) s1
structure ArmI {α β:Type} (R:Except Flt (List (β×List α)×PS)) (l:List UInt8) (F:Nat) (tst:PS→Except Flt (β×PS)) (sub:PS→Except Flt (α×PS)) (st:Except Flt PS) (acc:List (β×List α)):Prop where
 r:∃ f,(∀ s,st=.ok s→mu l.length s < f)∧R=bindS st (armsR l F tst sub f acc)
theorem arm_step {α β:Type} {w w2:World} {tb:Nat} {R:Except Flt (List (β×List α)×PS)} {l:List UInt8} {F:Nat} {tst:PS→Except Flt (β×PS)} {sub:PS→Except Flt (α×PS)} {st st2:Except Flt PS} {acc:List (β×List α)} (hdt:∀ s,Gd l s→Dn 1 l (tst s) s) (hds:∀ s,Gd l s→Dn 1 l (sub s) s) (h:ArmI R l F tst sub st acc) (ht:TSt w tb l st) (h2:st2=stOf (bindS (stOf (bindS st tst)) (blockL l F sub))) (ht2:TSt w2 tb l st2) :
 (((wordS l st2).1=119∧(wordS l st2).2.1=kElsif)→errS st2=0∧muS l (nextS l st2) < muS l st∧∃ z1 z2,bindS st tst=.ok z1∧bindS (stOf (bindS st tst)) (blockL l F sub)=.ok z2∧ArmI R l F tst sub (nextS l st2) (acc++[(z1.1,z2.1)]))∧
 (¬ ((wordS l st2).1=119∧(wordS l st2).2.1=kElsif)→stOf R=st2∧∀ y,R=.ok y→∃ z1 z2,bindS st tst=.ok z1∧bindS (stOf (bindS st tst)) (blockL l F sub)=.ok z2∧y.1=acc++[(z1.1,z2.1)]):=by
 obtain ⟨⟨f,hf,hR⟩⟩:=h
 have hne:∀ g,¬ ((wordS l (.error g)).1=119∧(wordS l (.error g)).2.1=kElsif):=fun g h=>absurd h.1 (by show ¬ (0:Nat)=119;decide)
 cases st with
 | error g=>
  have hR':R=.error g:=hR
  subst hR'
  have h2':st2=.error g:=h2
  subst h2'
  exact ⟨fun h=>absurd h (hne g),fun _=>⟨rfl,fun y e=>by cases e⟩⟩
 | ok s=>
  have hfs:=hf s rfl
  have hgs:TGood w tb l s:=ht
  obtain ⟨f,rfl⟩:∃ g,f=g+1:=⟨f - 1,by omega⟩
  simp only [bindS] at h2 hR ⊢
  cases hs:tst s with
  | error g=>
   have hR':R=.error g:=by rw [hR];unfold armsR armL;rw [hs];rfl
   subst hR'
   rw [hs] at h2
   have h2':st2=.error g:=h2
   subst h2'
   exact ⟨fun h=>absurd h (hne g),fun _=>⟨rfl,fun y e=>by cases e⟩⟩
  | ok z=>
   rw [hs] at h2
   obtain ⟨hgz,hmz⟩:=hdt s hgs.gd z hs
   simp only [stOf] at h2 ⊢
   cases hb:blockL l F sub z.2 with
   | error g=>
    have hR':R=.error g:=by rw [hR];unfold armsR armL;rw [hs];simp only [thenL];rw [hb]
    subst hR'
    rw [hb] at h2
    have h2':st2=.error g:=h2
    subst h2'
    exact ⟨fun h=>absurd h (hne g),fun _=>⟨rfl,fun y e=>by cases e⟩⟩
   | ok x=>
    rw [hb] at h2
    have h2':st2=.ok x.2:=h2
    subst h2'
    have hg:TGood w2 tb l x.2:=ht2
    obtain ⟨hgx,hmx⟩:=block_dn hds hgz x hb
    have hR':R=armsMore l F tst sub (f+1) (acc++[(z.1,x.1)]) x.2:=by rw [hR];unfold armsR armL;rw [hs];simp only [thenL];rw [hb]
    rw [armsMore,may_word hg kElsif ⟨_,_,rfl,rfl⟩] at hR'
    refine ⟨fun hw=>?_,fun hw=>?_⟩
    ·have h1:x.2.1.kind=1:=(kQ_word hg.wd).1 hw.1
     have h0:¬ x.2.1.kind=0:=by omega
     rw [if_pos ⟨h1,hw.2⟩] at hR'
     have hm:=muS_next hg h0
     have hm':muS l (nextL l x.2.2) < mu l.length x.2+1:=hm
     refine ⟨rfl,?_,z,x,rfl,rfl,⟨f,fun s1 h1=>?_,?_⟩⟩
     ·show muS l (nextL l x.2.2) < mu l.length s+1
      omega
     ·have h2:nextL l x.2.2=.ok s1:=h1
      have:=nextL_mu hg.le h0 h2
      omega
     ·rw [hR']
      show _=bindS (nextL l x.2.2) _
      cases nextL l x.2.2 <;> rfl
    ·rw [if_neg (fun e=>hw ⟨(kQ_word hg.wd).2 e.1,e.2⟩)] at hR'
     have hR2:R=.ok (acc++[(z.1,x.1)],x.2):=hR'
     rw [hR2]
     exact ⟨rfl,fun y e=>⟨z,x,rfl,rfl,by cases e;rfl⟩⟩
theorem ite_is {w1 w:World} {tb:Nat} {α β:Type} {l:List UInt8} {F pos:Nat} {tst:PS→Except Flt (β×PS)} {sub:PS→Except Flt (α×PS)} {st:Except Flt PS} (h:TSt w tb l st) (hl:l.length≤600) (hF:2*l.length+2≤F) :
 ∃ R,ArmI R l F tst sub st []∧∀ w1,TSt w1 tb l (stOf R)→
  (((wordS l (stOf R)).1=119∧(wordS l (stOf R)).2.1=kElse)→stOf (bindS st (cmdBody l F tst sub 7 pos))=stOf (bindS (nextS l (stOf R)) (blockL l F sub))∧∀ y,bindS st (cmdBody l F tst sub 7 pos)=.ok y→∃ z x,R=.ok z∧bindS (nextS l (stOf R)) (blockL l F sub)=.ok x∧y.1=(⟨7,pos,0,[],[],true⟩,z.1,x.1))∧
  (¬ ((wordS l (stOf R)).1=119∧(wordS l (stOf R)).2.1=kElse)→stOf (bindS st (cmdBody l F tst sub 7 pos))=stOf R∧∀ y,bindS st (cmdBody l F tst sub 7 pos)=.ok y→∃ z,R=.ok z∧y.1=(⟨7,pos,0,[],[],false⟩,z.1,[])):=by
 refine ⟨bindS st (armsR l F tst sub F []),⟨F,fun s hs=>?_,rfl⟩,fun w1 h1=>?_⟩
 ·rw [hs] at h
  have:=mu_bound h hl
  omega
 ·have hne:∀ g,¬ ((wordS l (.error g)).1=119∧(wordS l (.error g)).2.1=kElse):=fun g h=>absurd h.1 (by show ¬ (0:Nat)=119;decide)
  have hC:bindS st (cmdBody l F tst sub 7 pos)=thenL (bindS st (armsR l F tst sub F [])) fun arms s2=>thenL (mayL l [kElse] s2) fun i s3=>
   if i=0 then .ok ((⟨7,pos,0,[],[],false⟩,arms,[]),s3)
   else thenL (blockL l F sub s3) fun cs s4=>.ok ((⟨7,pos,0,[],[],true⟩,arms,cs),s4):=by
   cases st with
   | error g=>rfl
   | ok s=>
    simp only [bindS,cmdBody,armsR]
    cases armL l F tst sub s <;> rfl
  rw [hC]
  revert h1
  generalize bindS st (armsR l F tst sub F [])=R
  intro h1
  cases R with
  | error g=>exact ⟨fun h=>absurd h (hne g),fun _=>⟨rfl,fun y e=>by cases e⟩⟩
  | ok z=>
   have hg:TGood w1 tb l z.2:=h1
   simp only [thenL,stOf]
   rw [may_word hg kElse ⟨_,_,rfl,rfl⟩]
   refine ⟨fun hw=>?_,fun hw=>?_⟩
   ·have e1:z.2.1.kind=1:=(kQ_word hg.wd).1 hw.1
    rw [if_pos ⟨e1,hw.2⟩]
    show _=stOf (bindS (nextL l z.2.2) _)∧∀ y,_→∃ z' x,_∧bindS (nextL l z.2.2) _=_∧_
    cases nextL l z.2.2 with
    | error g=>exact ⟨rfl,fun y e=>by cases e⟩
    | ok s3=>
     simp only [bindS]
     rw [if_neg (by decide)]
     cases blockL l F sub s3 with
     | error g=>exact ⟨rfl,fun y e=>by cases e⟩
     | ok x=>exact ⟨rfl,fun y e=>⟨z,x,rfl,rfl,by cases e;rfl⟩⟩
   ·rw [if_neg (fun e=>hw ⟨(kQ_word hg.wd).2 e.1,e.2⟩)]
    exact ⟨rfl,fun y e=>⟨z,rfl,by cases e;rfl⟩⟩
end
section
open Go.RowKit
attribute [local go_sem ↓] Go.wp_at_zero Go.wp_at_succ
theorem str_eq (x z:List UInt8):((strA x).toList == z)=decide (x=z):=by rw [ByteArray.toList_eq];show (x == z)=_;rw [Bool.eq_iff_iff];simp
def anyPtr (_:World) (v:Value):Prop:=∃ g,v=.pointer (some ⟨g,0,none⟩)
theorem rtest_mk {n gb:Nat} {X:Nat→Prop} {x:TLab} {ts:List (TestT n)} {w:World} {tv fv kv:Value} {nm:List UInt8} (hX:X gb) (hc:w.heap[gb]?=some (.cells #[.string (strA nm),tv,fv,kv,.int .i64 x.tag,.bool x.octet,.int .i64 x.num] 200)) (hn:testNames.getD x.kind []=nm) (ht:trY (RTest n) X ts w tv) (hf:slY X x.fr w fv) (hk:slY X x.keys w kv):RTest (n+1) X (x,ts) w (.pointer (some ⟨gb,0,none⟩)):=by
 subst hn
 exact ⟨gb,tv,fv,kv,rfl,hX,hc,ht,hf,hk⟩
theorem mod_fix {b:Nat} {w w1:World} (h:Mod b w.drew w1):Mod b w w1:=⟨h.os,h.tape,h.output,h.size,h.block⟩
theorem qtest_bad (rb tb:Nat) (nv:Value) (rq:List (List UInt8)) (l:List UInt8) (F n deep:Nat) (st:Except Flt PS) (w:World) (hr:RdI w rb tb nv rq) (h:TSt w tb l st) (hl:l.length≤600) (hF:2*l.length+2≤F) (hd:deep+n=7) (hx:¬ (wordS l st).1=119∨(n=0∧(wordS l st).1=119)∨((wordS l st).1=119∧0 < n∧whichL testNames (wordS l st).2.1=0)) :
 Calls Tryz.prog 214 #[.pointer (some ⟨rb,0,none⟩),.int .i64 deep] w (QPost (bindS st (testL l rq F n)) tb l w (RTest n (fromB w.heap.size)) anyPtr):=by
 have r0:w.cell? ⟨rb,0,none⟩=some (.pointer (some ⟨tb,0,none⟩)):=blk_cell hr.r 0
 obtain ⟨c2,c4,c5,c6,c7⟩:=h.cells
 have H:=hide h
 have HR:=hide hr
 have hrl:=blk_lt hr.r
 have htl:=h.lt
 have hgt:w.heap.size≠tb:=by omega
 obtain ⟨nm,hnm⟩:∃ nm,(wordS l st).2.1=nm:=⟨_,rfl⟩
 rw [hnm] at c5 hx
 obtain ⟨W0,hW0⟩:∃ W0,W0=w.alloc (.cells #[.string (strA nm),.slice none 0 0,.slice none 0 0,.slice none 0 0,.int .i64 0,.bool false,.int .i64 0] 200):=⟨_,rfl⟩
 have HWW:=hide hW0
 have HM0:Hid (Mod tb w W0):=by show Mod _ _ _;rw [hW0];exact (Mod.refl _ _).alloc _
 have HT0:Hid (TSt W0 tb l st):=by show TSt _ _ _ _;rw [hW0];exact h.below ((Below.refl _ _).alloc (Nat.le_refl _) _)
 have HF:=hide (fun c=>qfail_st tb l st ⟨c+1,(wordS l st).2.2.2⟩ W0.drew (HT0.out.block rfl) hl (Nat.succ_ne_zero c))
 by_cases he:errS st=0
 rotate_left
 ·have heb:((errS st:Int) != 0)=true:=by simp;omega
  have HE:Hid (∃ f,st=.error f):=by cases st with | ok s=>exact absurd rfl he | error f=>exact ⟨f,rfl⟩
  clear h hr hx he
  go_enter Tryz.func214,Tryz.ntmps214
  go_wp2
  go_ret
  rw [← HWW.out]
  obtain ⟨f,hf⟩:=HE.out
  exact QPost.mk HM0.out (by rw [hf];rw [hf] at HT0;exact HT0.out) ⟨_,rfl⟩ (fun y hy=>by rw [hf] at hy;cases hy)
 ·have heb:((errS st:Int) != 0)=false:=by simp;omega
  have HE:Hid (∀ g,failS st g=.error g):=by intro g;obtain ⟨s,hs⟩:=h.err0.1 he;rw [hs];rfl
  by_cases hk:(wordS l st).1=119
  rotate_left
  ·have hkb:(((wordS l st).1:Int) != 119)=true:=by simp;omega
   have HX:=hide (test_noword (rq:=rq) (F:=F) (n:=n) h hk)
   have HF4:=hide (HF.out 3)
   clear h hr hx he hk hW0 HF
   go_enter Tryz.func214,Tryz.ntmps214
   go_wp2_with fail
   rw [← HWW.out]
   have d0:W0.cell? ⟨rb,0,none⟩=some (.pointer (some ⟨tb,0,none⟩)):=blk_cell (HR.out.r.mod HM0.out HR.out.n) 0
   have d7:=HT0.out.cells.2.2.2.2
   go_region_with (first | (go_at_call 70;refine HF4.out.mono ?_;rintro e w1 h1;obtain ⟨rfl,hm1,ht1⟩:=h1;have HM1:=hide hm1;have HT1:=hide ht1;clear hm1 ht1;skip))
   all_goals go_wp2
   all_goals go_ret
   all_goals
    obtain ⟨f,hf1,hf2⟩:=HX.out
    exact QPost.mk (HM0.out.trans (mod_fix HM1.out)) (by rw [hf2];have:=HT1.out;rw [hf1] at this;exact this) ⟨_,rfl⟩ (fun y hy=>by rw [hf2] at hy;cases hy)
  ·have hkb:(((wordS l st).1:Int) != 119)=false:=by simp;omega
   rcases hx with hx | ⟨hx,_⟩ | ⟨_,hx,hw⟩
   ·exact absurd hk hx
   ·subst hx
    have hdb:decide ((6:Int) < (deep:Int))=true:=decide_eq_true (by omega)
    have HX:=hide (test_deep (rq:=rq) (F:=F) h hk)
    have HF4:=hide (HF.out 4)
    clear h hr he hk hW0 HF hd
    go_enter Tryz.func214,Tryz.ntmps214
    go_wp2_with fail
    rw [← HWW.out]
    have d0:W0.cell? ⟨rb,0,none⟩=some (.pointer (some ⟨tb,0,none⟩)):=blk_cell (HR.out.r.mod HM0.out HR.out.n) 0
    have d7:=HT0.out.cells.2.2.2.2
    go_region_with (first | (go_at_call 70;refine HF4.out.mono ?_;rintro e w1 h1;obtain ⟨rfl,hm1,ht1⟩:=h1;have HM1:=hide hm1;have HT1:=hide ht1;clear hm1 ht1;skip))
    all_goals go_wp2
    all_goals go_ret
    all_goals exact QPost.mk (HM0.out.trans (mod_fix HM1.out)) (by rw [HX.out.2];have:=HT1.out;rw [HE.out] at this;exact this) ⟨_,rfl⟩ (fun y hy=>by rw [HX.out.2] at hy;cases hy)
   ·obtain ⟨n,rfl⟩:∃ m,n=m+1:=⟨n - 1,by omega⟩
    have hdb:decide ((6:Int) < (deep:Int))=false:=decide_eq_false (by omega)
    have HX:=hide (test_unknown (rq:=rq) (F:=F) (n:=n) h hk (by rw [hnm];exact hw))
    have HF4:=hide (HF.out 3)
    have hno:∀ z∈testNames,¬ nm=z:=fun z hz e=>by have:=(whichL_pos_iff nm testNames).2 (by rw [e];exact hz);omega
    have e0:((strA nm).toList == [116,114,117,101])=false:=by rw [str_eq];exact decide_eq_false (hno kTrue (by simp [testNames]))
    have e1:((strA nm).toList == [102,97,108,115,101])=false:=by rw [str_eq];exact decide_eq_false (hno kFalse (by simp [testNames]))
    have e2:((strA nm).toList == [110,111,116])=false:=by rw [str_eq];exact decide_eq_false (hno kNot (by simp [testNames]))
    have e3:((strA nm).toList == [97,108,108,111,102])=false:=by rw [str_eq];exact decide_eq_false (hno kAllof (by simp [testNames]))
    have e4:((strA nm).toList == [97,110,121,111,102])=false:=by rw [str_eq];exact decide_eq_false (hno kAnyof (by simp [testNames]))
    have e5:((strA nm).toList == [104,101,97,100,101,114])=false:=by rw [str_eq];exact decide_eq_false (hno kHeader (by simp [testNames]))
    have e6:((strA nm).toList == [101,110,118,101,108,111,112,101])=false:=by rw [str_eq];exact decide_eq_false (hno kEnvelope (by simp [testNames]))
    have e7:((strA nm).toList == [115,116,114,105,110,103])=false:=by rw [str_eq];exact decide_eq_false (hno kString (by simp [testNames]))
    have e8:((strA nm).toList == [101,120,105,115,116,115])=false:=by rw [str_eq];exact decide_eq_false (hno kExists (by simp [testNames]))
    have e9:((strA nm).toList == [115,105,122,101])=false:=by rw [str_eq];exact decide_eq_false (hno kSize (by simp [testNames]))
    clear h hr he hk hW0 HF hd hno hw hx hnm
    go_enter Tryz.func214,Tryz.ntmps214
    go_wp2_with fail
    rw [← HWW.out]
    have d0:W0.cell? ⟨rb,0,none⟩=some (.pointer (some ⟨tb,0,none⟩)):=blk_cell (HR.out.r.mod HM0.out HR.out.n) 0
    have d7:=HT0.out.cells.2.2.2.2
    go_region_with (first | (go_at_call 70;refine HF4.out.mono ?_;rintro e w1 h1;obtain ⟨rfl,hm1,ht1⟩:=h1;have HM1:=hide hm1;have HT1:=hide ht1;clear hm1 ht1;skip))
    all_goals go_wp2
    all_goals go_ret
    all_goals exact QPost.mk (HM0.out.trans (mod_fix HM1.out)) (by rw [HX.out.2];have:=HT1.out;rw [HE.out] at this;exact this) ⟨_,rfl⟩ (fun y hy=>by rw [HX.out.2] at hy;cases hy)
end
end Go.Proofs.YtgnkjijocdmniaaGreatDoor
