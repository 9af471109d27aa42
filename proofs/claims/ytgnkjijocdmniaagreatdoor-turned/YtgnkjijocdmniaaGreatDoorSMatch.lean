import Derived.Test.YtgnkjijocdmniaaGreatDoorMWay
namespace Go.Proofs.YtgnkjijocdmniaaGreatDoor
set_option linter.unusedVariables false
set_option linter.unusedSimpArgs false
set_option maxRecDepth 100000
set_option maxHeartbeats 4000000
open Go.Proofs.Tryz
open Go.RowKit
attribute [local go_sem ↓] Go.wp_at_zero Go.wp_at_succ
def QhZ (r:Bool×SS) (B sb:Nat) (M:Msg) (w:World) (e:Ending) (w':World):Prop:=
 e=.returned (.bool r.1)∧SAt w' B sb M r.2∧Fr (PSt B) w w'
theorem SBd.told'{M:Msg}{s:SS}(b:SBd M s)(t:List (L8))(h1:∀ x∈t,x.length<=100000)(h2:t.length<=1000000):SBd M (QtH s t):=⟨b.fr,b.tu,b.hl,b.hd,h1,h2,b.vals,b.met⟩
theorem SI.setTold{w:World}{B sb:Nat}{M:Msg}{s:SS}{hv:Value}{mb:Nat}{tv mv:Value}(h:SI w B sb M s hv mb tv mv)(t:List (L8))(v:Value)(ht:SlT w v t)(h1:∀ x∈t,x.length<=100000)(h2:t.length<=1000000):SI (w.setCell ⟨sb,6,none⟩ v) B sb M (QtH s t) hv mb v mv:=by
 have hf:Fr (fun k _=>k=sb) w (w.setCell ⟨sb,6,none⟩ v):=(Fr.refl _ w).set h.blk rfl 6 v
 have ab:∀(k:Nat) (o:Obj),w.heap[k]?=some o->(∀ cs,o≠.cells cs 274)->k≠sb:=fun k o hk ho e=>by
  subst e;rw[h.blk]at hk;cases hk;exact ho _ rfl
 obtain⟨es,c,hm,hu⟩:=h.mp;obtain⟨m,h7⟩:=h.m1;refine⟨h.bs,h.bm,h.b1,⟨m,?_⟩,?_,?_,⟨es,c,hf.block _ _ hm (ab _ _ hm (fun cs e=>by cases e)),hu⟩,?_,?_,h.mn,h.bd.told' t h1 h2⟩
 ·have:(1:Nat)≠sb:=by have:=h.b1;have:=h.bs;omega
  rw[World.cell?_of_block (a:=⟨1,0,none⟩) (Below.heap_setCell _ _ _ _ this)];exact h7
 ·exact Qah _ _ _ _ _ _ h.blk
 ·rcases h.hd with h' | ⟨g,c,cs,aa,hb,hc⟩
  ·exact Or.inl h'
  ·exact Or.inr ⟨g,c,cs,aa,hf.block _ _ hb (ab _ _ hb (fun cs e=>by injection e with e1 e2;exact absurd e2 (by decide))),hc⟩
 ·rcases ht with h' | ⟨g,c,aa,cs,hb,hc⟩
  ·exact Or.inl h'
  ·exact Or.inr ⟨g,c,aa,cs,hf.block _ _ hb (ab _ _ hb (fun cs e=>by injection e with e1 e2;exact absurd e2 (by decide))),hc⟩
 ·obtain⟨h1,h2⟩:=h.met;refine⟨h1,?_⟩;rcases h2 with h2 | ⟨g,ac,ad,aa,hg,hh,r⟩
  ·exact Or.inl h2
  ·exact Or.inr ⟨g,ac,ad,aa,hg,hf.block _ _ hh (ab _ _ hh (fun cs e=>by injection e with e1 e2;exact absurd e2 (by decide))),r⟩
theorem Qoh{tag:Int}{oct:Bool}{v:L8}(ks:List (L8))(j:Nat)(hj:j<ks.length):Qt8 tag oct v (ks.drop j)=if QtF tag oct v ks[j]then some ks[j]else Qt8 tag oct v (ks.drop (j+1)):=by
 rw[List.drop_eq_getElem_cons hj];rfl
theorem QoF{tag:Int}{oct:Bool}{ks:List (L8)}(vs:List (L8))(i:Nat)(hi:i<vs.length):QpO tag oct ks (vs.drop i)=match Qt8 tag oct vs[i] ks with|some k=>some (vs[i],k)|none=>QpO tag oct ks (vs.drop (i+1)):=by
 rw[List.drop_eq_getElem_cons hi];rfl
theorem QnH{tag:Int}{oct:Bool}{ks:List (L8)}{vs:List (L8)}{i:Nat}{hi:i<vs.length}(h:Qt8 tag oct vs[i] ks=none):QpO tag oct ks (vs.drop i)=QpO tag oct ks (vs.drop (i+1)):=by
 rw[QoF vs i hi,h]
theorem Qhg{tag:Int}{oct:Bool}{ks:List (L8)}{vs:List (L8)}{i:Nat}{hi:i<vs.length}{k:L8}(h:Qt8 tag oct vs[i] ks=some k):QpO tag oct ks (vs.drop i)=some (vs[i],k):=by
 rw[QoF vs i hi,h]
theorem Qne{s:SS}{tag:Int}{oct:Bool}{vals keys:List (L8)}(h:QpO tag oct (keys.map (expL s)) vals=none):askL s tag oct vals keys=(false,s):=by unfold askL;rw[h]
theorem Qu0{s:SS}{tag:Int}{oct:Bool}{vals keys:List (L8)}{v k:L8}(h:QpO tag oct (keys.map (expL s)) vals=some (v,k))(ht:wayT tag oct v k=none):askL s tag oct vals keys=(true,s):=by unfold askL;rw[h];dsimp only;rw[ht]
theorem Qog{s:SS}{tag:Int}{oct:Bool}{vals keys:List (L8)}{v k:L8}{t:List (L8)}(h:QpO tag oct (keys.map (expL s)) vals=some (v,k))(ht:wayT tag oct v k=some t):askL s tag oct vals keys=(true,QtH s t):=by unfold askL;rw[h];dsimp only;rw[ht]
theorem Qp1(tag:Int)(oct:Bool)(p:Nat)(B sb:Nat)(M:Msg)(s:SS)(vals keys:List (L8))(vv kv:Value)(w:World)
 (hw:∀ W v k,Below w.heap.size w W->v.length<=100000->k.length<=100000->Calls Tryz.prog 245 #[.string (Qaf v),.string (Qaf k),.pointer (some ⟨p,0,none⟩)] W (QfI tag oct v k W))
 (h:SAt w B sb M s) (aD:SlT w vv vals) (aM:SlT w kv keys) (aO:∀ z∈vals,z.length<=100000) (ay:∀ z∈keys,z.length<=100000) (hvn:vals.length<=1000000000000) (aL:keys.length<=1000000) :
 Calls Tryz.prog 207 #[.pointer (some ⟨sb,0,none⟩),.func (.func 245) #[] #[.pointer (some ⟨p,0,none⟩)],vv,kv] w (QhZ (askL s tag oct vals keys) B sb M w):=by
 obtain⟨va,vc,aE⟩:=aD.len;subst aE;have aV:=Qab aD;have HS:=Qab h;have HW:=Qab hw;have aU:=Qab aO;go_enter func207,ntmps207;go_wp2_with fail;refine(QfN B sb M s keys _ w h aM (fun z hz=>Nat.le_trans (ay z hz) (by decide)) aL).mono ?_;rintro e w1 ⟨v1,rfl,aB,aI⟩;have HT:=Qab (SlT.of_owns aB (by simp));have aQ:=Qab aI;obtain⟨ta,tc,a1⟩:=QaD aB;subst a1;have aP:∀ y∈keys.map (expL s),y.length<=100000:=Qhd s keys _ ay (by decide);have ao:keys.length=(keys.map (expL s)).length:=by simp
 obtain⟨ks,az⟩:∃ ks,keys.map (expL s)=ks:=⟨_,rfl⟩;have aq:=Qab az;have aF:=Qab aP;rw[az]at HT aF ao;rw[ao]at aL HT;rw[ao];clear aB aP ao aI aM ay h aD aO hw az;go_wp2_with fail
 go_loopw [10,12,13,14,20] (fun _ _ _ _ i wr=>∃(a:Nat),a<=vals.length/\i=.int .i64 (a:Int)/\Below w.heap.size w wr/\Below w1.heap.size w1 wr/\QpO tag oct ks vals=QpO tag oct ks (vals.drop a)) (fun _ _ _ _ i _=>vals.length - (intOf i).toNat)
 case atStart=>exact⟨0,Nat.zero_le _,rfl,aQ.o,Below.refl _ _,rfl⟩
 case round=>
  obtain⟨a,ha,rfl,hB,aH,ah⟩:=hrel;have HB:=Qab hB;have aR:=Qab aH;have HA:=Qab ah;clear hB aH ah;by_cases hlt:a<vals.length;rotate_left
  ·have aY:¬(a:Int)<(vals.length:Int):=by omega
   have HD:=Qab (QeX vals a hlt);go_wp2;go_ret;have hm:=Qne (s:=s) (tag:=tag) (oct:=oct) (vals:=vals) (keys:=keys) (by rw[aq.o,HA.o,HD.o];rfl);rw[hm];exact⟨rfl,HS.o.below HB.o,Fr.of_below HB.o⟩
  have aY:(a:Int)<(vals.length:Int):=by omega
  obtain⟨g,a0,aW,aJ⟩:=aV.o.get' a hlt;subst a0;have c1:wr.cell? ⟨g,a,none⟩=some (.string (Qaf vals[a])):=by rw[HB.o.cell (p:=⟨g,a,none⟩) aW];exact aJ
  have aC:=aU.o _ (List.getElem_mem hlt);obtain⟨v,hv⟩:∃ v,vals[a]=v:=⟨_,rfl⟩;have HV:=Qab hv;rw[hv]at c1 aC;clear hv aJ;go_wp2_with fail
  go_loopw [12,13,14,26] (fun _ _ _ i wr=>∃(j:Nat),j<=ks.length/\i=.int .i64 (j:Int)/\Below w.heap.size w wr/\Below w1.heap.size w1 wr/\Qt8 tag oct v ks=Qt8 tag oct v (ks.drop j)) (fun _ _ _ i _=>ks.length - (intOf i).toNat)
  case atStart=>exact⟨0,Nat.zero_le _,rfl,HB.o,aR.o,rfl⟩
  case round=>
   obtain⟨j,hj,rfl,aG,af,ai⟩:=hrel;have aj:=Qab aG;have aa:=Qab af;have HK:=Qab ai;clear aG af ai;by_cases hjl:j<ks.length;rotate_left
   ·have aX:¬(j:Int)<(ks.length:Int):=by omega
    have HD:=Qab (QeX ks j hjl);go_wp2;refine⟨⟨a+1,by omega,by go_num,aj.o,aa.o,?_⟩,by simp[intOf];omega⟩;rw[HA.o];exact QnH (hi:=hlt) (by rw[HV.o,HK.o,HD.o];rfl)
   have aX:(j:Int)<(ks.length:Int):=by omega
   obtain⟨g2,aA,ax,aK⟩:=HT.o.get' j hjl;subst aA;have c2:wr.cell? ⟨g2,j,none⟩=some (.string (Qaf ks[j])):=by rw[aa.o.cell (p:=⟨g2,j,none⟩) ax];exact aK
   have aZ:=aF.o _ (List.getElem_mem hjl);have ac:=Qab (Qoh (tag:=tag) (oct:=oct) (v:=v) ks j hjl);generalize ks[j]=k at *;clear aK;go_wp2_with fail;refine(HW.o _ v k aj.o aC aZ).mono ?_;rintro e w3 ⟨av,ag⟩;have ae:=Qab (aj.o.trans (av.mono aj.o.size));have ap:=Qab (aa.o.trans (av.mono aa.o.size));clear av;rcases ag with⟨ab,rfl⟩ | ⟨ab,ad,rfl⟩ | ⟨ab,t,g3,c3,ad,rfl,hg3,aN⟩
   ·rw[ab]at ac;clear ab;go_wp2;refine⟨⟨j+1,by omega,by go_num,ae.o,ap.o,?_⟩,by simp[intOf];omega⟩;rw[HK.o,ac.o];rfl
   ·rw[ab]at ac;have au:=Qab ad;clear ab ad;go_wp2;go_ret;have hm:=Qu0 (s:=s) (tag:=tag) (oct:=oct) (vals:=vals) (keys:=keys) (v:=v) (k:=k) (by rw[aq.o,HA.o,Qhg (hi:=hlt) (k:=k) (by rw[HV.o,HK.o,ac.o];rfl),HV.o]) au.o;rw[hm];exact⟨rfl,HS.o.below ae.o,Fr.of_below ae.o⟩
   ·rw[ab]at ac;have au:=Qab ad;have aw:=QtZ ad;obtain⟨a2,mb,tv,mv,ak⟩:=HS.o.below ae.o;have ar:=Qab ak;have cc6:w3.cell? ⟨sb,6,none⟩=some tv:=ak.cell 6;have ff6:=ak.frozen 6;have aT:=Qab aN;have htl:=aw.2;have aS:=Qab aw.1;clear ab ad ak aN aw;go_wp2;go_ret;have hm:=Qog (s:=s) (tag:=tag) (oct:=oct) (vals:=vals) (keys:=keys) (v:=v) (k:=k) (t:=t) (by rw[aq.o,HA.o,Qhg (hi:=hlt) (k:=k) (by rw[HV.o,HK.o,ac.o];rfl),HV.o]) au.o;rw[hm];refine⟨rfl,⟨a2,mb,_,mv,ar.o.setTold t _ (Or.inr ⟨g3,c3,rfl,aT.o⟩) (fun x hx=>Nat.le_trans (aS.o x hx) aC) (by omega)⟩,?_⟩;exact(Fr.of_below ae.o).set ar.o.blk ar.o.ps _ _
theorem Qsi(tag:Int)(oct:Bool)(p q:Nat)(B sb:Nat)(M:Msg)(s:SS)(vals keys:List (L8))(vv kv:Value)(w:World)
 (hw:∀ W v k,Below w.heap.size w W->v.length<=100000->k.length<=100000->Calls Tryz.prog 264 #[.string (Qaf v),.string (Qaf k),.pointer (some ⟨p,0,none⟩),.pointer (some ⟨q,0,none⟩)] W (QfI tag oct v k W))
 (h:SAt w B sb M s) (aD:SlT w vv vals) (aM:SlT w kv keys) (aO:∀ z∈vals,z.length<=100000) (ay:∀ z∈keys,z.length<=100000) (hvn:vals.length<=1000000000000) (aL:keys.length<=1000000) :
 Calls Tryz.prog 207 #[.pointer (some ⟨sb,0,none⟩),.func (.func 264) #[] #[.pointer (some ⟨p,0,none⟩),.pointer (some ⟨q,0,none⟩)],vv,kv] w (QhZ (askL s tag oct vals keys) B sb M w):=by
 obtain⟨va,vc,aE⟩:=aD.len;subst aE;have aV:=Qab aD;have HS:=Qab h;have HW:=Qab hw;have aU:=Qab aO;go_enter func207,ntmps207;go_wp2_with fail;refine(QfN B sb M s keys _ w h aM (fun z hz=>Nat.le_trans (ay z hz) (by decide)) aL).mono ?_;rintro e w1 ⟨v1,rfl,aB,aI⟩;have HT:=Qab (SlT.of_owns aB (by simp));have aQ:=Qab aI;obtain⟨ta,tc,a1⟩:=QaD aB;subst a1;have aP:∀ y∈keys.map (expL s),y.length<=100000:=Qhd s keys _ ay (by decide);have ao:keys.length=(keys.map (expL s)).length:=by simp
 obtain⟨ks,az⟩:∃ ks,keys.map (expL s)=ks:=⟨_,rfl⟩;have aq:=Qab az;have aF:=Qab aP;rw[az]at HT aF ao;rw[ao]at aL HT;rw[ao];clear aB aP ao aI aM ay h aD aO hw az;go_wp2_with fail
 go_loopw [10,12,13,14,20] (fun _ _ _ _ i wr=>∃(a:Nat),a<=vals.length/\i=.int .i64 (a:Int)/\Below w.heap.size w wr/\Below w1.heap.size w1 wr/\QpO tag oct ks vals=QpO tag oct ks (vals.drop a)) (fun _ _ _ _ i _=>vals.length - (intOf i).toNat)
 case atStart=>exact⟨0,Nat.zero_le _,rfl,aQ.o,Below.refl _ _,rfl⟩
 case round=>
  obtain⟨a,ha,rfl,hB,aH,ah⟩:=hrel;have HB:=Qab hB;have aR:=Qab aH;have HA:=Qab ah;clear hB aH ah;by_cases hlt:a<vals.length;rotate_left
  ·have aY:¬(a:Int)<(vals.length:Int):=by omega
   have HD:=Qab (QeX vals a hlt);go_wp2;go_ret;have hm:=Qne (s:=s) (tag:=tag) (oct:=oct) (vals:=vals) (keys:=keys) (by rw[aq.o,HA.o,HD.o];rfl);rw[hm];exact⟨rfl,HS.o.below HB.o,Fr.of_below HB.o⟩
  have aY:(a:Int)<(vals.length:Int):=by omega
  obtain⟨g,a0,aW,aJ⟩:=aV.o.get' a hlt;subst a0;have c1:wr.cell? ⟨g,a,none⟩=some (.string (Qaf vals[a])):=by rw[HB.o.cell (p:=⟨g,a,none⟩) aW];exact aJ
  have aC:=aU.o _ (List.getElem_mem hlt);obtain⟨v,hv⟩:∃ v,vals[a]=v:=⟨_,rfl⟩;have HV:=Qab hv;rw[hv]at c1 aC;clear hv aJ;go_wp2_with fail
  go_loopw [12,13,14,26] (fun _ _ _ i wr=>∃(j:Nat),j<=ks.length/\i=.int .i64 (j:Int)/\Below w.heap.size w wr/\Below w1.heap.size w1 wr/\Qt8 tag oct v ks=Qt8 tag oct v (ks.drop j)) (fun _ _ _ i _=>ks.length - (intOf i).toNat)
  case atStart=>exact⟨0,Nat.zero_le _,rfl,HB.o,aR.o,rfl⟩
  case round=>
   obtain⟨j,hj,rfl,aG,af,ai⟩:=hrel;have aj:=Qab aG;have aa:=Qab af;have HK:=Qab ai;clear aG af ai;by_cases hjl:j<ks.length;rotate_left
   ·have aX:¬(j:Int)<(ks.length:Int):=by omega
    have HD:=Qab (QeX ks j hjl);go_wp2;refine⟨⟨a+1,by omega,by go_num,aj.o,aa.o,?_⟩,by simp[intOf];omega⟩;rw[HA.o];exact QnH (hi:=hlt) (by rw[HV.o,HK.o,HD.o];rfl)
   have aX:(j:Int)<(ks.length:Int):=by omega
   obtain⟨g2,aA,ax,aK⟩:=HT.o.get' j hjl;subst aA;have c2:wr.cell? ⟨g2,j,none⟩=some (.string (Qaf ks[j])):=by rw[aa.o.cell (p:=⟨g2,j,none⟩) ax];exact aK
   have aZ:=aF.o _ (List.getElem_mem hjl);have ac:=Qab (Qoh (tag:=tag) (oct:=oct) (v:=v) ks j hjl);generalize ks[j]=k at *;clear aK;go_wp2_with fail;refine(HW.o _ v k aj.o aC aZ).mono ?_;rintro e w3 ⟨av,ag⟩;have ae:=Qab (aj.o.trans (av.mono aj.o.size));have ap:=Qab (aa.o.trans (av.mono aa.o.size));clear av;rcases ag with⟨ab,rfl⟩ | ⟨ab,ad,rfl⟩ | ⟨ab,t,g3,c3,ad,rfl,hg3,aN⟩
   ·rw[ab]at ac;clear ab;go_wp2;refine⟨⟨j+1,by omega,by go_num,ae.o,ap.o,?_⟩,by simp[intOf];omega⟩;rw[HK.o,ac.o];rfl
   ·rw[ab]at ac;have au:=Qab ad;clear ab ad;go_wp2;go_ret;have hm:=Qu0 (s:=s) (tag:=tag) (oct:=oct) (vals:=vals) (keys:=keys) (v:=v) (k:=k) (by rw[aq.o,HA.o,Qhg (hi:=hlt) (k:=k) (by rw[HV.o,HK.o,ac.o];rfl),HV.o]) au.o;rw[hm];exact⟨rfl,HS.o.below ae.o,Fr.of_below ae.o⟩
   ·rw[ab]at ac;have au:=Qab ad;have aw:=QtZ ad;obtain⟨a2,mb,tv,mv,ak⟩:=HS.o.below ae.o;have ar:=Qab ak;have cc6:w3.cell? ⟨sb,6,none⟩=some tv:=ak.cell 6;have ff6:=ak.frozen 6;have aT:=Qab aN;have htl:=aw.2;have aS:=Qab aw.1;clear ab ad ak aN aw;go_wp2;go_ret;have hm:=Qog (s:=s) (tag:=tag) (oct:=oct) (vals:=vals) (keys:=keys) (v:=v) (k:=k) (t:=t) (by rw[aq.o,HA.o,Qhg (hi:=hlt) (k:=k) (by rw[HV.o,HK.o,ac.o];rfl),HV.o]) au.o;rw[hm];refine⟨rfl,⟨a2,mb,_,mv,ar.o.setTold t _ (Or.inr ⟨g3,c3,rfl,aT.o⟩) (fun x hx=>Nat.le_trans (aS.o x hx) aC) (by omega)⟩,?_⟩;exact(Fr.of_below ae.o).set ar.o.blk ar.o.ps _ _
theorem QgR(tag:Int)(oct:Bool)(B sb:Nat)(M:Msg)(s:SS)(vals keys:List (L8))(wv vv kv:Value)(w:World)(hw:WayV w tag oct wv)
 (h:SAt w B sb M s) (ag:SlT w vv vals) (ac:SlT w kv keys) (ae:∀ z∈vals,z.length<=100000) (aa:∀ z∈keys,z.length<=100000) (af:vals.length<=1000000000000) (ab:keys.length<=1000000) :
 Calls Tryz.prog 207 #[.pointer (some ⟨sb,0,none⟩),wv,vv,kv] w (QhZ (askL s tag oct vals keys) B sb M w):=by
 rcases hw with⟨rfl,p,rfl,hp⟩ | ⟨p,q,rfl,hq,hh⟩
 ·refine Qp1 3 oct p B sb M s vals keys vv kv w (fun W v k hW h1 h2=>?_) h ag ac ae aa af ab;exact Qw0 oct p v k W (by omega) (by omega) ((hW.cell (p:=⟨p,0,none⟩) (Qau hp)).trans hp)
 ·refine Qsi tag oct p q B sb M s vals keys vv kv w (fun W v k hW h1 h2=>?_) h ag ac ae aa af ab;have ad:=(hW.cell (p:=⟨q,0,none⟩) (Qau hq)).trans hq;rcases hh with⟨rfl,hp⟩ | ⟨rfl,hp⟩
  ·exact Ql4 oct p q v k W (by omega) (by omega) ad ((hW.cell (p:=⟨p,0,none⟩) (Qau hp)).trans hp)
  ·obtain⟨hv,mb,tv,mv,hS⟩:=h;obtain⟨m,hm⟩:=hS.m1;exact QkO oct p q v k W (by omega) (by omega) ad ((hW.cell (p:=⟨p,0,none⟩) (Qau hp)).trans hp) m ((hW.cell (p:=⟨1,0,none⟩) (Qau hm)).trans hm)
end Go.Proofs.YtgnkjijocdmniaaGreatDoor
