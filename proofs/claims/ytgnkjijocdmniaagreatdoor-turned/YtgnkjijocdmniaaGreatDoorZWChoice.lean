import Derived.Test.YtgnkjijocdmniaaGreatDoorWGroup
namespace Go.Proofs.YtgnkjijocdmniaaGreatDoor
set_option linter.unusedVariables false
set_option linter.unusedSimpArgs false
set_option maxRecDepth 100000
set_option maxHeartbeats 4000000
open Go.Proofs.Tryz
section
open Go.RowKit
attribute [local go_sem ↓] Go.wp_at_zero Go.wp_at_succ
theorem QkP(hw:L8)(p g n c:Nat)(ts:List (L8))(w:World)(hn:n=ts.length)(af:ts≠[])(aa:(Qbg hw ts).length<=4294967280)
 (hc:∀ j,j<ts.length->∃ ty y,w.cell? ⟨g,j,none⟩=some (.iface ty y)/\QiM 198 w (.iface ty y) (ts.getD j [])) :
 Calls Tryz.prog 198 #[.iface 224 (.agg #[.string (Qaf hw),.int .i64 p,.slice (some ⟨g,0,none⟩) n c])] w fun e w'=>e=.returned (.string (Qaf (Qbg hw ts)))/\Below w.heap.size w w':=by
 subst hn;have n0:=Tryz.noNot;have yy:=Tryz.yesAllOf;have ab:∀ o,Below w.heap.size w (w.alloc o):=fun o=>(Below.refl _ _).alloc (Nat.le_refl _) o
 have ad:=Qab ab;have HL:=Qab aa
 have HC:Hid (∀ o j,j<ts.length->∃ ty y,(w.alloc o).cell? ⟨g,j,none⟩=some (.iface ty y)/\QiM 198 (w.alloc o) (.iface ty y) (ts.getD j [])):=fun o j hj=>by
  obtain⟨ty,y,h1,h2⟩:=hc j hj;exact⟨ty,y,by rw[World.cell?_alloc_past _ _ _ (Qau h1)];exact h1,h2.below (ab o)⟩
 clear ab aa hc;go_enter func198,ntmps198;go_wp2_with fail;refine(Qg2 hw p g ts.length c ts _ rfl af HL.o (HC.o _)).mono ?_;rintro e w1 ⟨rfl,ac⟩;have ae:=Qab ((ad.o _).trans (ac.mono (by simp)));clear ac;go_wp2;go_ret;exact⟨rfl,ae.o⟩
theorem QkN(hw:L8)(p g n c:Nat)(ts:List (L8))(w:World)(hn:n=ts.length)(af:ts≠[])(aa:(Qbg hw ts).length<=4294967280)
 (hc:∀ j,j<ts.length->∃ ty y,w.cell? ⟨g,j,none⟩=some (.iface ty y)/\QiM 198 w (.iface ty y) (ts.getD j [])) :
 Calls Tryz.prog 198 #[.iface 225 (.agg #[.string (Qaf hw),.int .i64 p,.slice (some ⟨g,0,none⟩) n c])] w fun e w'=>e=.returned (.string (Qaf (Qbg hw ts)))/\Below w.heap.size w w':=by
 subst hn;have n0:=Tryz.noNot;have n1:=Tryz.noAllOf;have yy:=Tryz.yesAnyOf;have ab:∀ o,Below w.heap.size w (w.alloc o):=fun o=>(Below.refl _ _).alloc (Nat.le_refl _) o
 have ad:=Qab ab;have HL:=Qab aa
 have HC:Hid (∀ o j,j<ts.length->∃ ty y,(w.alloc o).cell? ⟨g,j,none⟩=some (.iface ty y)/\QiM 198 (w.alloc o) (.iface ty y) (ts.getD j [])):=fun o j hj=>by
  obtain⟨ty,y,h1,h2⟩:=hc j hj;exact⟨ty,y,by rw[World.cell?_alloc_past _ _ _ (Qau h1)];exact h1,h2.below (ab o)⟩
 clear ab aa hc;go_enter func198,ntmps198;go_wp2_with fail;refine(Qg2 hw p g ts.length c ts _ rfl af HL.o (HC.o _)).mono ?_;rintro e w1 ⟨rfl,ac⟩;have ae:=Qab ((ad.o _).trans (ac.mono (by simp)));clear ac;go_wp2;go_ret;exact⟨rfl,ae.o⟩
theorem Qip{req:List (L8)}:∀(n:Nat) (X:Nat->Prop) (x:Qa6 n) (w:World) (v:Value),TestV n X x w v->QiY (WfT req) n x->Tab w->(Qay n x).length<=4294967280->
 Calls Tryz.prog 198 #[v] w fun e w'=>e=.returned (.string (Qaf (Qay n x)))/\Below w.heap.size w w'
 |0,X,x,w,v,h,ha,_,_=>ha.elim
 |n+1,X,x,w,v,h,ha,ht,hlen=>by
  obtain⟨hw,ad⟩:=ha;have h:Qei X (TestV n) x w v:=h;have hlen:(QaB x.1 (x.2.map (Qay n))).length<=4294967280:=hlen
  have af:∀ a∈x.2,∀ u,TestV n X a w u->(Qay n a).length<=4294967280->∃ ty y,u=.iface ty y/\QiM 198 w (.iface ty y) (Qay n a):=fun a ha u hu hl=>by
   obtain⟨ty,y,rfl⟩:=(Qbf n).form _ _ _ _ hu;exact⟨ty,y,rfl,fun W hW=>Qip n X a W _ ((Qbf n).keep _ _ _ _ _ hu (fun k _ hk=>hW.block k hk)) (ad a ha) (ht.below hW) hl⟩
  show Calls Tryz.prog 198 #[v] w fun e w'=>e=.returned (.string (Qaf (QaB x.1 (x.2.map (Qay n)))))/\Below w.heap.size w w'
  have ac:∀(hd:L8) (u:Value),trX X (TestV n) x.2 w u->x.2≠[]->(Qbg hd (x.2.map (Qay n))).length<=4294967280->∃ g c,u=.slice (some ⟨g,0,none⟩) x.2.length c/\∀ j,j<(x.2.map (Qay n)).length->∃ ty y,w.cell? ⟨g,j,none⟩=some (.iface ty y)/\QiM 198 w (.iface ty y) ((x.2.map (Qay n)).getD j []):=fun hd u hu aa hl=>by
   obtain⟨g,c,rfl,hg,hx⟩:=hu;refine⟨g,c,rfl,fun j hj=>?_⟩;rw[List.length_map]at hj;obtain⟨uj,ag,ah⟩:=hx j hj;have ab:x.2[j]∈x.2:=List.getElem_mem hj;obtain⟨ty,y,rfl,ae⟩:=af _ ab uj ah (Nat.le_trans (Qh9 (hw:=hd) (List.mem_map_of_mem ab)) hl);refine⟨ty,y,ag,?_⟩;rw[List.getD_eq_getElem?_getD,List.getElem?_map,List.getElem?_eq_getElem hj];exact ae
  unfold Qei at h
  split at h
  ·rename_i e;obtain⟨h2,rfl⟩:=h;have et:QaB x.1 (x.2.map (Qay n))=QfB:=by unfold QaB;rw[e];rfl
   rw[et];exact Qgu QfB _ true w
  ·rename_i e;obtain⟨h2,rfl⟩:=h;have et:QaB x.1 (x.2.map (Qay n))=QcD:=by unfold QaB;rw[e];rfl
   rw[et];exact Qgu QcD _ false w
  ·rename_i e;obtain⟨a,u,h2,rfl,hu⟩:=h;have et:QaB x.1 (x.2.map (Qay n))=phraseL [kNot,Qay n a]:=by unfold QaB;rw[e,h2];rfl
   rw[et]at hlen ⊢;obtain⟨ty,y,rfl,ae⟩:=af a (by rw[h2];simp) u hu (Nat.le_trans (QbB (ps:=[kNot,Qay n a]) (by simp)) hlen);exact QoL kNot _ ty y _ w ae hlen
  ·rename_i e;obtain⟨u,rfl,hu,aa⟩:=h;have et:QaB x.1 (x.2.map (Qay n))=Qbg QbW (x.2.map (Qay n)):=by unfold QaB;rw[e];rfl
   rw[et]at hlen ⊢;obtain⟨g,c,rfl,hx⟩:=ac QbW u hu aa hlen;exact QkP QbW _ g _ c _ w (by simp) (by simpa using aa) hlen hx
  ·rename_i e;obtain⟨u,rfl,hu,aa⟩:=h;have et:QaB x.1 (x.2.map (Qay n))=Qbg QbV (x.2.map (Qay n)):=by unfold QaB;rw[e];rfl
   rw[et]at hlen ⊢;obtain⟨g,c,rfl,hx⟩:=ac QbV u hu aa hlen;exact QkN QbV _ g _ c _ w (by simp) (by simpa using aa) hlen hx
  ·rename_i e;obtain⟨h2,u,rfl,hu⟩:=h;have et:QaB x.1 (x.2.map (Qay n))=Qbd QbX x.1:=by unfold QaB;rw[e];rfl
   rw[et]at hlen ⊢;exact Qjj X QbX x.1 u w hu (hw.tag (by omega) (by omega)).1 (hw.tag (by omega) (by omega)).2 hlen
  ·rename_i e;obtain⟨h2,u,rfl,hu⟩:=h;have et:QaB x.1 (x.2.map (Qay n))=Qbd QaL x.1:=by unfold QaB;rw[e];rfl
   rw[et]at hlen ⊢;exact QhC X QaL x.1 u w hu (hw.tag (by omega) (by omega)).1 (hw.tag (by omega) (by omega)).2 hlen
  ·rename_i e;obtain⟨h2,u,rfl,hu⟩:=h;have et:QaB x.1 (x.2.map (Qay n))=Qbd Qbx x.1:=by unfold QaB;rw[e];rfl
   rw[et]at hlen ⊢;exact Qkq X Qbx x.1 u w hu (hw.tag (by omega) (by omega)).1 (hw.tag (by omega) (by omega)).2 hlen
  ·rename_i e;obtain⟨h2,u,rfl,hu⟩:=h;have et:QaB x.1 (x.2.map (Qay n))=phraseL [QbK,Qam x.1.fr]:=by unfold QaB;rw[e];rfl
   rw[et]at hlen ⊢;exact Qjq X QbK _ _ u w hu hlen
  ·rename_i h0 h1 h2 h3 h4 h5 h6 h7 h8;obtain⟨_,rfl⟩:=h
   have e:x.1.kind=9:=by
    have a0:x.1.kind≠0:=h0;have a1:x.1.kind≠1:=h1;have a2:x.1.kind≠2:=h2;have a3:x.1.kind≠3:=h3;have a4:x.1.kind≠4:=h4;have a5:x.1.kind≠5:=h5;have a6:x.1.kind≠6:=h6;have a7:x.1.kind≠7:=h7;have a8:x.1.kind≠8:=h8;have:=hw.kind;omega
   have et:QaB x.1 (x.2.map (Qay n))=phraseL [Qd5,tagTextL x.1.tag [Qdh,Qb9],iL x.1.num]:=by unfold QaB;rw[e];rfl
   rw[et]at hlen ⊢;exact QmQ Qd5 _ _ _ w ht (hw.size e).2 hw.num hlen
def Qx2 (w:World) (v:Value) (i t:L8):Prop:=
 ∀ W,Below w.heap.size w W→Calls Tryz.prog 99 #[v,.string (Qaf i)] W fun e w'=>e=.returned (.string (Qaf t))∧Below W.heap.size W w'
theorem Qqd(i:L8)(ts:List (L8))(k:Nat):(QcZ i (ts.take k)).length<=(QcZ i ts).length:=by
 have h:QcZ i ts=QcZ i (ts.take k)++QcZ i (ts.drop k):=by
  unfold QcZ;rw[<-List.flatMap_append,List.take_append_drop]
 rw[h,List.length_append];omega
theorem Qph(i:L8)(ts:List (L8))(k:Nat)(h:k<ts.length):QcZ i (ts.take (k+1))=QcZ i (ts.take k)++(i++ts.getD k []++[10]):=by
 unfold QcZ;rw[List.take_add_one,List.flatMap_append,List.getElem?_eq_getElem h,List.getD_eq_getElem?_getD,List.getElem?_eq_getElem h];simp
theorem QuU(i:L8)(w:World):Calls Tryz.prog 63 #[.slice none 0 0,.string (Qaf i)] w fun e w'=>e=.returned (.string (Qaf []))/\Below w.heap.size w w':=by
 go_enter func63,ntmps63;go_wp2_with fail;refine wp_loop_rounds 1 ?_;rw[rounds_succ];go_wp2;go_ret;exact⟨rfl,Below.refl _ _⟩
theorem Qsc(i:L8)(g c:Nat)(ts:List (L8))(w:World)(ao:ts≠[])(aa:(QcZ i ts).length<=4294967280)
 (hc:∀ j,j<ts.length->∃ ty y,w.cell? ⟨g,j,none⟩=some (.iface ty y)/\Qx2 w (.iface ty y) i (ts.getD j [])) :
 Calls Tryz.prog 63 #[.slice (some ⟨g,0,none⟩) ts.length c,.string (Qaf i)] w fun e w'=>e=.returned (.string (Qaf (QcZ i ts)))/\Below w.heap.size w w':=by
 have aj:g<w.heap.size:=by
  obtain⟨ty,y,h,_⟩:=hc 0 (List.length_pos_iff.2 ao);exact Qau h
 have hxl:ts.length<=4294967280:=Nat.le_trans (Qkb i ts) aa;have HC:=Qab hc;have HL:=Qab aa;clear hc aa;go_enter func63,ntmps63;go_wp2_with fail
 go_loopw [5,7,10] (fun v _ i' wr=>∃(k:Nat) (t:L8),k<=ts.length/\i'=.int .i64 k/\v=.string (Qaf t)/\t=QcZ i (ts.take k)/\Below w.heap.size w wr) (fun _ _ i' _=>ts.length - (intOf i').toNat)
 case atStart=>exact⟨0,[],Nat.zero_le _,by go_num,rfl,rfl,Below.refl _ _⟩
 case round=>
  obtain⟨k,t,hk,rfl,rfl,ab,hB⟩:=hrel;have ai:=hB.size;by_cases hlt:k<ts.length
  ·obtain⟨ty,y,ae,ac⟩:=HC.o k hlt
   have hck:wr.cell? ⟨g,k,none⟩=some (.iface ty y):=by
    rw[hB.cell (p:=⟨g,k,none⟩) aj];exact ae
   have HS:=Qab (Qph i ts k hlt);have h1:=Qqd i ts (k+1);rw[HS.o,<-ab]at h1;rw[<-ab]at HS;have h2:=Nat.le_trans h1 HL.o;clear h1 ab;generalize ts.getD k []=x at HS ac h2
   have hl:t.length+(i.length+x.length+1)<=4294967280:=by
    simp only[List.length_append,List.length_cons,List.length_nil]at h2;omega
   clear h2;have ah:=Qab ac;have HB:=Qab hB;have hs1:=Qaj t;have hs2:=Qaj i;have hs3:=Qaj x;have hs4:(Qaf i++Qaf x).size=i.length+x.length:=by rw[QaJ,Qaj,List.length_append]
   have hs5:(Qaf i++Qaf x++(⟨#[10]⟩:ByteArray)).size=i.length+x.length+1:=by
    show(Qaf i++Qaf x++Qaf [10]).size=_
    rw[QaJ,QaJ,Qaj];simp only[List.length_append,List.length_cons,List.length_nil]
   have af:Hid (Qaf t++(Qaf i++Qaf x++(⟨#[10]⟩:ByteArray))=Qaf (t++(i++x++[10]))):=by
    show Qaf t++(Qaf i++Qaf x++Qaf [10])=_
    rw[QaJ,QaJ,QaJ]
   clear ac hB ae;go_wp2_with fail;refine(ah.o wr HB.o).mono ?_;rintro e w1 ⟨rfl,ad⟩;have ag:=Qab (HB.o.trans (ad.mono ai));clear ad;go_wp2;go_roundw
   case rel=>exact⟨k+1,t++(i++x++[10]),by omega,by go_num,by rw[af.o],HS.o.symm,ag.o⟩
   case measure=>simp[intOf];omega
  ·have ak:k=ts.length:=by omega
   subst ak;rw[List.take_length]at ab;subst ab;have HB:=Qab hB;clear hB;go_wp2;go_ret;exact⟨rfl,HB.o⟩
end
section
open Go.RowKit
def Qlp (w:World) (v:Value) (i t:L8):Prop:=
 ∀ W,Below w.heap.size w W→Calls Tryz.prog 63 #[v,.string (Qaf i)] W fun e w'=>e=.returned (.string (Qaf t))∧Below W.heap.size W w'
theorem Qlp.below{w w':World}{v:Value}{i t:L8}(h:Qlp w v i t)(hb:Below w.heap.size w w'):Qlp w' v i t:=
 fun W hW=>h W (hb.trans (hW.mono hb.size))
def Qe1 (k:Nat) (word:L8):L8:=if k=0 then word else Qce
theorem Qih(i:L8):∀(al:List (L8×L8)) (aa:L8) (k:Nat) (h:k<al.length),Qa9 i aa (al.take (k+1))=Qa9 i aa (al.take k)++Qc4 (Qe1 k aa) i (al[k]).1 (al[k]).2
 | [],aa,k,h=>by cases h
 |a::r,aa,0,h=>by simp[Qa9,Qe1]
 |a::r,aa,k+1,h=>by
  have ih:=Qih i r Qce k (by simpa using h);rw[List.take_succ_cons,List.take_succ_cons];show Qc4 aa i a.1 a.2++Qa9 i Qce (r.take (k+1))=(Qc4 aa i a.1 a.2++Qa9 i Qce (r.take k))++_
  rw[ih,List.append_assoc];have e:Qe1 (k+1) aa=Qe1 k Qce:=by unfold Qe1;simp
  rw[e];rfl
theorem QjV(i:L8):∀(al bs:List (L8×L8)) (aa:L8),(Qa9 i aa al).length<=(Qa9 i aa (al++bs)).length
 | [],bs,aa=>by simp[Qa9]
 |a::r,bs,aa=>by
  have:=QjV i r bs Qce;show(Qc4 aa i a.1 a.2++Qa9 i Qce r).length<=(Qc4 aa i a.1 a.2++Qa9 i Qce (r++bs)).length
  rw[List.length_append,List.length_append];omega
theorem QoM(i aa:L8)(al:List (L8×L8))(k:Nat):(Qa9 i aa (al.take k)).length<=(Qa9 i aa al).length:=by
 have:=QjV i (al.take k) (al.drop k) aa;rw[List.take_append_drop]at this;exact this
theorem QkX(i:L8)(p g c:Nat)(aa:Bool)(ea:Option Addr)(en ec:Nat)(al:List (L8×L8))(eb:L8)(w:World)(aP:al≠[])
 (hc:∀ j (hj:j<al.length),∃ ty y a n c',w.cell? ⟨g,2*j,none⟩=some (.iface ty y)/\w.cell? ⟨g,2*j+1,none⟩=some (.slice a n c')/\QiM 198 w (.iface ty y) (al[j]).1/\Qlp w (.slice a n c') (i++[32,32]) (al[j]).2)
 (he:aa=true->Qlp w (.slice ea en ec) (i++[32,32]) eb)
 (ac:(Qa9 i kIf al++(if aa then QeI++eb++i else [])++[125]).length<=4294967280) :
 Calls Tryz.prog 149 #[.agg #[.string (Qaf kIf),.int .i64 p,.slice (some ⟨g,0,none⟩) al.length c,.bool aa,.slice ea en ec],.string (Qaf i)] w fun e w'=>e=.returned (.string (Qaf (Qa9 i kIf al++(if aa then QeI++eb++i else [])++[125])))/\Below w.heap.size w w':=by
 have aG:g<w.heap.size:=by
  obtain⟨ty,y,a,n,c',h,_⟩:=hc 0 (List.length_pos_iff.2 aP);exact Qau h
 have ao:(Qa9 i kIf al).length<=4294967280:=by rw[List.length_append,List.length_append]at ac;omega
 have hxl:al.length<=4294967280:=Nat.le_trans (QhG i al kIf) ao;have HC:=Qab hc;have HE:=Qab he;have HL:=Qab ac;clear hc he ac;go_enter func149,ntmps149;go_wp2_with fail;go_quiet (fail);go_wp2_with fail;refine Qb8 (P:=fun W=>Code.wp _ _ _ _ W) (w:=w) (B:=w.heap.size) (o:=.cells #[.string (Qaf kIf),.int .i64 p,.slice (some ⟨g,0,none⟩) al.length c,.bool aa,.slice ea en ec] 261) (by have h:=(Below.refl w.heap.size w).alloc (Nat.le_refl _) (.cells #[.string (Qaf kIf),.int .i64 p,.slice (some ⟨g,0,none⟩) al.length c,.bool aa,.slice ea en ec] 261);exact⟨h.os,h.tape,h.output,h.size,h.block⟩) (Qat w _) ?_;intro W0 ag ah;have ae:=Qab ag;have af:=Qab ah;clear ag ah
 go_loopw [5,6,8,15] (fun v v6 _ i' wr=>∃(k:Nat) (t:L8),k<=al.length/\i'=.int .i64 k/\v=.string (Qaf t)/\v6=.string (Qaf (Qe1 k kIf))/\t=Qa9 i kIf (al.take k)/\wr.heap[w.heap.size]?=some (.cells #[.string (Qaf kIf),.int .i64 p,.slice (some ⟨g,0,none⟩) al.length c,.bool aa,.slice ea en ec] 261)/\Below w.heap.size w wr) (fun _ _ _ i' _=>al.length - (intOf i').toNat)
 case atStart=>exact⟨0,[],Nat.zero_le _,by go_num,rfl,rfl,rfl,af.o,ae.o⟩
 case round=>
  obtain⟨k,t,hk,rfl,rfl,rfl,ad,hM,hB⟩:=hrel;have av:=hB.size;clear ae af;by_cases hlt:k<al.length
  ·obtain⟨ty,y,a,n,c',aF,aE,aC,aB⟩:=HC.o k hlt;have c0:wr.cell? ⟨g,2*k,none⟩=some (.iface ty y):=by rw[hB.cell (p:=⟨g,2*k,none⟩) aG];exact aF
   have c1:wr.cell? ⟨g,2*k+1,none⟩=some (.slice a n c'):=by rw[hB.cell (p:=⟨g,2*k+1,none⟩) aG];exact aE
   have c0':wr.cell? ⟨g,k*2,none⟩=some (.iface ty y):=by rw[Nat.mul_comm];exact c0
   have c1':wr.cell? ⟨g,k*2+1,none⟩=some (.slice a n c'):=by rw[Nat.mul_comm];exact c1
   have HS:=Qab (Qih i al kIf k hlt);have h1:=QoM i kIf al (k+1);rw[HS.o,<-ad]at h1;rw[<-ad]at HS;have h2:=Nat.le_trans h1 ao;clear h1 ad;generalize (al[k]).1=x at HS aC h2;generalize (al[k]).2=b at HS aB h2;generalize hwd:Qe1 k kIf=wd at HS h2;have ak:Qe1 (k+1) kIf=Qce:=by unfold Qe1;rw[if_neg (by omega)]
   have au:=Qab ak;clear ak hwd;unfold Qc4 at HS h2;simp only[List.length_append]at h2;obtain⟨ph,ap⟩:∃ ph,phraseL [wd,x,Qfe]=ph:=⟨_,rfl⟩;rw[ap]at HS h2;have aK:Hid ((phraseL [wd,x,Qfe]).length<=4294967280):=by show(phraseL [wd,x,Qfe]).length<=_;rw[ap];omega
   have aJ:=Qab ap;have aL:=Qab aC;have HLN:=Qab aB;have HM:=Qab hM;have HB:=Qab hB;have aQ:∀ x:L8,(Qaf x).size=x.length:=Qaj;have aw:Qaf i++(⟨#[32,32]⟩:ByteArray)=Qaf (i++[32,32]):=QaJ i [32,32];have ax:=QaJ ph b;have ay:Qaf (ph++b)++Qaf i=Qaf (ph++(b++i)):=by rw[QaJ,List.append_assoc]
   have az:=QaJ t (ph++(b++i));have q1:¬ 9223372036854775807<i.length+2:=by omega
   have q2:¬ 9223372036854775807<ph.length+b.length:=by omega
   have q3:¬ 9223372036854775807<ph.length+b.length+i.length:=by omega
   have q4:¬ 9223372036854775807<t.length+(ph.length+(b.length+i.length)):=by omega
   clear aC aB hM hB aF aE ap;go_wp2_with fail;refine Qb8 (P:=fun W=>Code.wp _ _ _ _ W) (w:=wr) (B:=wr.heap.size) (o:=.cells #[.iface ty y,.slice a n c'] 298) ((Below.refl _ _).alloc (Nat.le_refl _) _) (Qat _ _) ?_;intro W ai aj;have e0:W.cell? ⟨wr.heap.size,0,none⟩=some (.iface ty y):=Qaa aj 0;have e1:W.cell? ⟨wr.heap.size,1,none⟩=some (.slice a n c'):=Qaa aj 1;have aD:=Qab (HB.o.trans (ai.mono av));have aI:=Qab (Qal HM.o ai);have HWB:=Qab ai;have aM:=Qab aj;have aN:=ai.size;have hWl:=QaI aj;clear ai aj
   go_region_held3 (fun w'=>w'.cell? ⟨wr.heap.size,0,none⟩=some (.iface ty y)∧w'.cell? ⟨wr.heap.size,1,none⟩=some (.slice a n c')) (first | go_keep | exact ⟨Qaa (Qae HW1.o) 0,Qaa (Qae HW1.o) 1⟩) (first
    |(go_at_call 150;refine(QbY [wd,x,Qfe] _ 3 3 _ (Qba w1 [wd,x,Qfe] _ _ rfl) rfl (by simp) aK.o).mono ?_;rintro e w3 ⟨rfl,rfl⟩;rw[aJ.o];skip)
    |(go_at_call 198;refine(aL.o W.drew aD.o.drew).mono ?_;rintro e w1 ⟨rfl,ab⟩;have HB1:=Qab (aD.o.drew.trans (ab.mono (Nat.le_trans av aN)));have HW1:=Qab (Qal (w:=W.drew) aM.o ab);have HM1:=Qab (Qal (w:=W.drew) aI.o ab);have d0:w1.cell? ⟨wr.heap.size,0,none⟩=some (.iface ty y):=Qaa HW1.o 0;have d1:w1.cell? ⟨wr.heap.size,1,none⟩=some (.slice a n c'):=Qaa HW1.o 1;have h1s:=HB1.o.size;have h1l:=QaI HW1.o;clear ab;skip)
    | (go_at_call 63;refine (HLN.o (w1.alloc (.cells #[.string (Qaf wd),.string (Qaf x),.string ⟨#[123,10]⟩] 9)) (Qbb HB1.o (Nat.le_refl _) _)).mono ?_;rintro e w2 ⟨rfl,hB2⟩;have HB2:=Qab ((Qbb HB1.o (Nat.le_refl _) (.cells #[.string (Qaf wd),.string (Qaf x),.string ⟨#[123,10]⟩] 9)).trans (hB2.mono (by simp;omega)));have HM2:=Qab (Qal (Qae HM1.o) hB2);have HWW2:=Qab (Qal (Qae HW1.o) hB2);have f0:w2.cell? ⟨wr.heap.size,0,none⟩=some (.iface ty y):=Qaa HWW2.o 0;have f1:w2.cell? ⟨wr.heap.size,1,none⟩=some (.slice a n c'):=Qaa HWW2.o 1;clear hB2;skip))
   all_goals go_wp2
   all_goals go_roundw
   case rel=>exact⟨k+1,t++(ph++(b++i)),by omega,by go_num,rfl,by rw[au.o];rfl,by rw[HS.o,List.append_assoc ph b i],HM2.o,HB2.o⟩
   case measure=>simp[intOf];omega
  ·have aO:k=al.length:=by omega
   subst aO;rw[List.take_length]at ad;have d3:wr.cell? ⟨w.heap.size,3,none⟩=some (.bool aa):=Qaa hM 3;have HM:=Qab hM;have HB:=Qab hB;have ar:=Qab ad;have htl:t.length<=4294967280:=by rw[ad];exact ao
   have d4:wr.cell? ⟨w.heap.size,4,none⟩=some (.slice ea en ec):=Qaa hM 4;have aQ:∀ x:L8,(Qaf x).size=x.length:=Qaj;clear hM hB ad;cases aa
   ·have aA:Qaf t++(⟨#[125]⟩:ByteArray)=Qaf (t++[125]):=QaJ t [125];have q5:¬ 9223372036854775807<t.length+1:=by omega
    go_wp2;go_ret;refine⟨?_,HB.o⟩;rw[ar.o];simp
   ·have aq:=HL.o;simp only[if_true,List.length_append,List.length_cons,List.length_nil,show QeI.length=9 from rfl]at aq;rw[<-ar.o]at aq;have aH:=Qab (HE.o rfl);have aw:Qaf i++(⟨#[32,32]⟩:ByteArray)=Qaf (i++[32,32]):=QaJ i [32,32];have q1:¬ 9223372036854775807<i.length+2:=by omega
    clear ao;go_wp2_with fail;refine(aH.o _ HB.o).mono ?_;rintro e w1 ⟨rfl,ab⟩;have HB1:=Qab (HB.o.trans (ab.mono av));have ax:(⟨#[125,32,101,108,115,101,32,123,10]⟩:ByteArray)++Qaf eb=Qaf (QeI++eb):=QaJ QeI eb;have ay:Qaf (QeI++eb)++Qaf i=Qaf (QeI++(eb++i)):=by rw[QaJ,List.append_assoc]
    have az:=QaJ t (QeI++(eb++i));have aA:Qaf (t++(QeI++(eb++i)))++(⟨#[125]⟩:ByteArray)=Qaf (t++(QeI++(eb++i))++[125]):=QaJ _ [125];have hsE:QeI.length=9:=rfl;have q2:¬ 9223372036854775807<9+eb.length:=by omega
    have q3:¬ 9223372036854775807<9+eb.length+i.length:=by omega
    have q4:¬ 9223372036854775807<t.length+(9+(eb.length+i.length)):=by omega
    have q5:¬ 9223372036854775807<t.length+(9+(eb.length+i.length))+1:=by omega
    clear ab aq;go_wp2;go_ret;refine⟨?_,HB1.o⟩;rw[ar.o];simp
end
end Go.Proofs.YtgnkjijocdmniaaGreatDoor
