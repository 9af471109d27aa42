import Derived.Test.YthkibedbcbgajaaGreatDoorZGSettle
namespace Go.Proofs.YthkibedbcbgajaaGreatDoor
set_option linter.unusedVariables false
set_option linter.unusedSimpArgs false
set_option maxRecDepth 100000
set_option maxHeartbeats 4000000
open Go.Proofs.Tryz
open Go.RowKit
attribute [local go_sem ↓] Go.wp_at_zero Go.wp_at_succ
def Torn (o o':Dop):Prop:=o'=o∨(o.kind=1∧∃ k,o'=⟨1,o.name,o.data.take k⟩)
def CrashOf:Fs→List Dop→Fs→Prop
 | D,[],D'=>D'=D
 | D,o :: r,D'=>CrashOf D r D'∨∃ o',Torn o o'∧CrashOf (doF D o') r D'
theorem QgO:∀(l:List Dop) (D D':Fs) (o:Dop),CrashOf D l D'->CrashOf D (l++[o]) D'
 | [],D,D',o,h=>Or.inl h
 |a::r,D,D',o,h=>by
  rcases h with h | ⟨a',ha,h⟩
  ·exact Or.inl (QgO r D D' o h)
  ·exact Or.inr ⟨a',ha,QgO r _ D' o h⟩
theorem Qf9:∀(l:List Dop) (D D':Fs) (o o':Dop),CrashOf D l D'->Torn o o'->CrashOf D (l++[o]) (doF D' o')
 | [],D,D',o,o',h,ho=>by
  have h':D'=D:=h;subst h';exact Or.inr ⟨o',ho,rfl⟩
 |a::r,D,D',o,o',h,ho=>by
  rcases h with h | ⟨a',ha,h⟩
  ·exact Or.inl (Qf9 r D D' o o' h ho)
  ·exact Or.inr ⟨a',ha,Qf9 r _ D' o o' h ho⟩
theorem QkE(x:L8)(q:Nat):(sA x).extract 0 q=sA (x.take q):=by
 apply ByteArray.ext;simp[sA]
def pickN (k:Int) (n:Nat):Nat:=((if k < 0 then -(k+1) else k) % (n:Int)).toNat
theorem Qqc(k:Int)(n:Nat)(h:0<n):pickN k n<n:=by
 unfold pickN;have h1:=Int.emod_lt_of_pos (if k<0 then -(k+1)else k) (show(0:Int)<(n:Int) by omega);have h2:=Int.emod_nonneg (if k<0 then -(k+1)else k) (show(n:Int)≠0 by omega);omega
theorem QmZ(k:Int)(n:Nat)(w:World)(h0:-9223372036854775808<=k)(h1:k<=9223372036854775807)(hn:0<n)(hn2:n<=1000000000):Calls Tryz.prog 31 #[.int .i64 k,.int .i64 n] w fun e w'=>e=.returned (.int .i64 ((pickN k n:Nat):Int))/\w'=w:=by
 have hn':¬(n:Int)=0:=by omega
 have hnm:¬(n:Int) = -1:=by omega
 by_cases hk:k<0
 ·have he:-(k+1).tmod (n:Int)=((pickN k n:Nat):Int):=by
   unfold pickN;rw[if_pos hk,<-Int.neg_tmod,Int.tmod_eq_emod_of_nonneg (by omega)];have h2:=Int.emod_nonneg (-(k+1)) (show(n:Int)≠0 by omega);omega
  have HE:=Qab he;clear he;go_enter func31,ntmps31;go_wp2;go_ret;refine⟨?_,rfl⟩;show Ending.returned (Value.int IntKind.i64 (-(k+1).tmod (n:Int)))=_
  rw[HE.o]
 ·have he:k % (n:Int)=((pickN k n:Nat):Int):=by
   unfold pickN;rw[if_neg hk];have h2:=Int.emod_nonneg k (show(n:Int)≠0 by omega);omega
  have HE:=Qab he;clear he;go_enter func31,ntmps31;go_wp2;go_ret;refine⟨?_,rfl⟩
  first
   |(show Ending.returned (Value.int IntKind.i64 (k % (n:Int)))=_;rw[HE.o])
   |(show Ending.returned (Value.int IntKind.i64 (k.tmod (n:Int)))=_;rw[Int.tmod_eq_emod_of_nonneg (by omega),HE.o])
theorem Qkj(B db bd bn n:Nat)(A:AD)(kp pt:Int)(w:World)(h:AbsD w B db bd bn n A)(hn:n<=480000)(hp:A.p.length<=10000)(ay:Qb7 A.p)(aD:∀ o∈A.p,o.data.length<=100000000)(h0:-9223372036854775808<=pt)(h1:pt<=9223372036854775807) :
 Calls Tryz.prog 20 #[.pointer (some ⟨db,0,none⟩),.int .i64 kp,.int .i64 pt] w fun e w'=>e=.returned (.tuple #[])/\Fr (PDk B) w w'/\∃ bn' D',CrashOf A.D A.p D'/\AbsD w' B db bd bn' (n+A.p.length) ⟨D',D',[],⟨-1,-1,false⟩⟩:=by
 obtain⟨pv,h⟩:=h;obtain⟨la,lc,a4⟩:=Qat h.row;subst a4;have HD:=Qab h;have HO:=Qab ay;have a0:=Qab aD;have d2:w.cell? ⟨db,2,none⟩=some (.slice la A.p.length lc):=Qaa h.blk 2;have hpi:=Qqc pt (A.p.length+1) (by omega);have HP:=Qab (QmZ pt (A.p.length+1) w h0 h1 (by omega) (by omega));clear h ay aD;go_enter func20,ntmps20;go_wp2_with fail;have ap:((A.p.length+1:Nat):Int)=(A.p.length:Int)+1:=by omega
 rw[ap]at HP;refine HP.o.mono ?_;rintro e w1 ⟨rfl,aT⟩;rw[aT];clear aT ap;generalize pickN pt (A.p.length+1)=tn at *;go_wp2_with fail
 go_loopw [24] (fun i wr=>∃(k:Nat) (Dk:Fs),k<=A.p.length/\i=.int .i64 (k:Int)/\CrashOf A.D (A.p.take k) Dk/\DJ wr B db bd bn (n+k) Dk A.N A.p A.lf.left A.lf.full A.lf.down (.slice la A.p.length lc)/\Fr (PDk B) w wr) (fun i _=>A.p.length - (intOf i).toNat)
 case atStart=>exact⟨0,A.D,Nat.zero_le _,by go_num,rfl,HD.o,Fr.refl _ _⟩
 case round=>
  obtain⟨k,Dk,hk,rfl,hC,hD,hF⟩:=hrel;have HC:=Qab hC;have ax:=Qab hD;have aV:=Qab hF;by_cases hlt:k<A.p.length;rotate_left
  ·have aP:k=A.p.length:=by omega
   have hz:¬(k:Int)<(A.p.length:Int):=by omega
   have d3:wr.cell? ⟨db,3,none⟩=some (.int .i64 A.lf.left):=Qaa hD.blk 3;have d4:wr.cell? ⟨db,4,none⟩=some (.int .i64 A.lf.full):=Qaa hD.blk 4;have z0:∀ j,wr.frozen? ⟨db,j,none⟩=false:=Qah hD.blk;have aU:=Qab aP;obtain⟨W,hW⟩:∃ W,W=(wr.setCell ⟨db,3,none⟩ (.int .i64 (-1))).setCell ⟨db,4,none⟩ (.int .i64 (-1)):=⟨_,rfl⟩;have aN:=Qag wr db 3 (.int .i64 (-1)) _ _ ax.o.blk;have aJ:=Qag _ db 4 (.int .i64 (-1)) _ _ aN;have aK:Fr (PDb db) wr W:=by rw[hW];exact((Fr.refl _ wr).set ax.o.blk ⟨rfl,_,rfl⟩ 3 _).set aN ⟨rfl,_,rfl⟩ 4 _
   rw[<-hW]at aJ;have aF:=Qab (ax.o.turn aK aJ);have a2:Hid (Fr (PDk B) w W):=hF.trans (aK.mono (fun _ _ h=>h.toK ax.o.bb.1));have HW:=Qab hW;clear aK hW aN aJ hD hF hC aP d2;go_wp2_with fail;rw[<-HW.o];refine(QvW B db bd (n+k) Dk (.map (some bn)) (.slice la A.p.length lc) (-1) A.lf.down W ⟨aF.o.bb.1,aF.o.bb.2.1⟩ aF.o.blk aF.o.md (by omega)).mono ?_;rintro e w2 ⟨rfl,ag,aS⟩;have ar:=Qab ag;have aq:=Qab (a2.o.trans aS);clear ag aS;go_wp2;go_end0;have hc:=HC.o;rw[aU.o,List.take_length]at hc;have hd:=ar.o;rw[aU.o]at hd;exact⟨rfl,aq.o,_,Dk,hc,.slice none 0 0,hd.bb,hd.ne,hd.blk,hd.md,hd.mn,hd.row⟩
  have hlt':(k:Int)<(A.p.length:Int):=by omega
  obtain⟨g,c1,aO,_,hgl,hcells⟩:=Qcq hD.row (by omega);injection aO with aO _ hv3
  subst aO;have aB:=QnN A.p k hlt;have e1:wr.cell? ⟨g,k*4,none⟩=some (.int .i64 A.p[k].kind):=hcells _ _ aB.1;have e2:wr.cell? ⟨g,k*4+1,none⟩=some (.string (sA A.p[k].name)):=hcells _ _ aB.2.1;have e3:wr.cell? ⟨g,k*4+2,none⟩=some (.string ⟨#[]⟩):=hcells _ _ aB.2.2.1;have e4:wr.cell? ⟨g,k*4+3,none⟩=some (.string (sA A.p[k].data)):=hcells _ _ aB.2.2.2;have au:=HO.o A.p[k] (List.getElem_mem hlt);have aD:=a0.o A.p[k] (List.getElem_mem hlt);have aH:Hid (A.p.take (k+1)=A.p.take k++[A.p[k]]):=List.take_succ_eq_append_getElem hlt;generalize A.p[k]=o at *;obtain⟨aj,aa,ab⟩:=o;dsimp only at e1 e2 e3 e4 aD;have aY:aj=1\/aj=3:=au.1;have av:aa.length<=1000000:=au.2;have hzd:=Qal ab;obtain⟨V,hV⟩:∃ V,V=wr.alloc (.cells #[.int .i64 aj,.string (sA aa),.string ⟨#[]⟩,.string (sA ab)] 84):=⟨_,rfl⟩;have aC:Below wr.heap.size wr V:=by rw[hV];exact(Below.refl _ _).alloc (Nat.le_refl _) _
  have ad:Hid (V.heap[wr.heap.size]?=some (.cells #[.int .i64 aj,.string (sA aa),.string ⟨#[]⟩,.string (sA ab)] 84)):=by rw[hV];exact Qam _ _
  have ac:=Qab (ax.o.below aC);have ak:=Qab (aV.o.trans (Fr.of_below aC));have aw:=Qab hV;have aM:=Qab aC;clear hcells aB hv3 hD au hF hC hV aC;have aE:Hid (CrashOf A.D (A.p.take (k+1)) Dk):=by show CrashOf _ _ _;rw[aH.o];exact QgO _ _ _ _ HC.o
  rcases aY with a3|hk3
  rotate_left
  ·subst hk3;go_wp2_with fail
   ·rw[<-aw.o];exact⟨⟨k+1,Dk,by omega,by go_num,aE.o,ac.o.mono (by omega),ak.o⟩,by simp[intOf];omega⟩
   rw[<-aw.o];clear e1 e2 e3 e4;have v0:V.cell? ⟨db,0,none⟩=some (.map (some bd)):=Qaa ac.o.blk 0;have o0:V.cell? ⟨wr.heap.size,0,none⟩=some (.int .i64 3):=Qaa ad.o 0;have o1:V.cell? ⟨wr.heap.size,1,none⟩=some (.string (sA aa)):=Qaa ad.o 1;have o2:V.cell? ⟨wr.heap.size,2,none⟩=some (.string ⟨#[]⟩):=Qaa ad.o 2;have o3:V.cell? ⟨wr.heap.size,3,none⟩=some (.string (sA ab)):=Qaa ad.o 3;obtain⟨lv,ai⟩:=Qe6 (w:=V.drew) ac.o.md av;cases au:(Dk aa).isSome
   ·rw[au]at ai;go_wp2_with fail;go_region_held3 (fun w'=>w'.cell? ⟨db,0,none⟩=some (.map (some bd))/\w'.cell? ⟨wr.heap.size,1,none⟩=some (.string (sA aa))) (first|go_keep|exact⟨v0,o1⟩) (fail)
    all_goals go_wp2
    all_goals exact⟨⟨k+1,Dk,by omega,by go_num,aE.o,(ac.o.below (QfY (Below.refl _ _))).mono (by omega),ak.o.drew⟩,by simp[intOf];omega⟩
   ·rw[au]at ai;go_wp2_with fail;go_region_held3 (fun w'=>w'.cell? ⟨db,0,none⟩=some (.map (some bd))/\w'.cell? ⟨wr.heap.size,1,none⟩=some (.string (sA aa))) (first|go_keep|exact⟨v0,o1⟩) (fail)
    all_goals go_wp2_with fail
    all_goals clear ai
    all_goals go_region_held3 (fun w'=>w'.cell? ⟨db,0,none⟩=some (.map (some bd))/\w'.cell? ⟨wr.heap.size,0,none⟩=some (.int .i64 3)/\w'.cell? ⟨wr.heap.size,1,none⟩=some (.string (sA aa))/\w'.cell? ⟨wr.heap.size,2,none⟩=some (.string ⟨#[]⟩)/\w'.cell? ⟨wr.heap.size,3,none⟩=some (.string (sA ab))) (first|go_keep|exact⟨q1,q2,q3,q4,q5⟩) (first|(go_at_call 32;refine(QkF bd (n+k) Dk ⟨3,aa,ab⟩ V.drew.drew ac.o.md (by omega) (by first|exact Or.inl rfl|exact Or.inr rfl) av).mono ?_;rintro e w2 ⟨rfl,ao,af⟩;have ah:=af.undrew.undrew;have ag:=ac.o.durTurn ah ao;have ar:=Qab ag;have ae:=ah.block _ _ ad.o (fun⟨_,es,c,e⟩=>by cases e);have q1:w2.cell? ⟨db,0,none⟩=some (.map (some bd)):=Qaa ag.blk 0;have q2:w2.cell? ⟨wr.heap.size,0,none⟩=some (.int .i64 3):=Qaa ae 0;have q3:w2.cell? ⟨wr.heap.size,1,none⟩=some (.string (sA aa)):=Qaa ae 1;have q4:w2.cell? ⟨wr.heap.size,2,none⟩=some (.string ⟨#[]⟩):=Qaa ae 2;have q5:w2.cell? ⟨wr.heap.size,3,none⟩=some (.string (sA ab)):=Qaa ae 3;have aq:=Qab (ak.o.trans (ah.mono (fun k o hk=>hk.toK ac.o.bb.2.1)));clear ao ah af ag ae;skip))
    all_goals go_wp2
    all_goals exact⟨⟨k+1,doF Dk ⟨3,aa,ab⟩,by omega,by go_num,(by rw[aH.o];exact Qf9 _ _ _ _ _ HC.o (Or.inl rfl)),ar.o.mono (by omega),aq.o⟩,by simp[intOf];omega⟩
  subst a3;by_cases htn:k=tn;rotate_left
  ·have htn':¬((k:Nat):Int)=((tn:Nat):Int):=by omega
   go_wp2_with fail
   ·rw[<-aw.o];exact⟨⟨k+1,Dk,by omega,by go_num,aE.o,ac.o.mono (by omega),ak.o⟩,by simp[intOf];omega⟩
   rw[<-aw.o];clear e1 e2 e3 e4;have v0:V.cell? ⟨db,0,none⟩=some (.map (some bd)):=Qaa ac.o.blk 0;have o0:V.cell? ⟨wr.heap.size,0,none⟩=some (.int .i64 1):=Qaa ad.o 0;have o1:V.cell? ⟨wr.heap.size,1,none⟩=some (.string (sA aa)):=Qaa ad.o 1;have o2:V.cell? ⟨wr.heap.size,2,none⟩=some (.string ⟨#[]⟩):=Qaa ad.o 2;have o3:V.cell? ⟨wr.heap.size,3,none⟩=some (.string (sA ab)):=Qaa ad.o 3;obtain⟨lv,ai⟩:=Qe6 (w:=V.drew) ac.o.md av;generalize (Dk aa).isSome=ok at ai;cases ok
   all_goals go_wp2_with fail
   all_goals go_region_held3 (fun w'=>w'.cell? ⟨db,0,none⟩=some (.map (some bd))/\w'.cell? ⟨wr.heap.size,1,none⟩=some (.string (sA aa))) (first|go_keep|exact⟨v0,o1⟩) (fail)
   all_goals go_wp2_with fail
   all_goals clear ai
   all_goals go_region_held3 (fun w'=>w'.cell? ⟨db,0,none⟩=some (.map (some bd))/\w'.cell? ⟨wr.heap.size,0,none⟩=some (.int .i64 1)/\w'.cell? ⟨wr.heap.size,1,none⟩=some (.string (sA aa))/\w'.cell? ⟨wr.heap.size,2,none⟩=some (.string ⟨#[]⟩)/\w'.cell? ⟨wr.heap.size,3,none⟩=some (.string (sA ab))) (first|go_keep|exact⟨q1,q2,q3,q4,q5⟩) (first|(go_at_call 32;refine(QkF bd (n+k) Dk ⟨1,aa,ab⟩ V.drew.drew ac.o.md (by omega) (by first|exact Or.inl rfl|exact Or.inr rfl) av).mono ?_;rintro e w2 ⟨rfl,ao,af⟩;have ah:=af.undrew.undrew;have ag:=ac.o.durTurn ah ao;have ar:=Qab ag;have ae:=ah.block _ _ ad.o (fun⟨_,es,c,e⟩=>by cases e);have q1:w2.cell? ⟨db,0,none⟩=some (.map (some bd)):=Qaa ag.blk 0;have q2:w2.cell? ⟨wr.heap.size,0,none⟩=some (.int .i64 1):=Qaa ae 0;have q3:w2.cell? ⟨wr.heap.size,1,none⟩=some (.string (sA aa)):=Qaa ae 1;have q4:w2.cell? ⟨wr.heap.size,2,none⟩=some (.string ⟨#[]⟩):=Qaa ae 2;have q5:w2.cell? ⟨wr.heap.size,3,none⟩=some (.string (sA ab)):=Qaa ae 3;have aq:=Qab (ak.o.trans (ah.mono (fun k o hk=>hk.toK ac.o.bb.2.1)));clear ao ah af ag ae;skip))
   all_goals go_wp2
   all_goals exact⟨⟨k+1,doF Dk ⟨1,aa,ab⟩,by omega,by go_num,(by rw[aH.o];exact Qf9 _ _ _ _ _ HC.o (Or.inl rfl)),ar.o.mono (by omega),aq.o⟩,by simp[intOf];omega⟩
  ·subst htn;go_wp2_with fail
   ·rw[<-aw.o];exact⟨⟨k+1,Dk,by omega,by go_num,aE.o,ac.o.mono (by omega),ak.o⟩,by simp[intOf];omega⟩
   rw[<-aw.o];clear e1 e2 e3 e4;have o3:V.cell? ⟨wr.heap.size,3,none⟩=some (.string (sA ab)):=Qaa ad.o 3;have zo:∀ j,V.frozen? ⟨wr.heap.size,j,none⟩=false:=Qah ad.o;obtain⟨dl,az⟩:∃ dl:Nat,dl=ab.length+1:=⟨_,rfl⟩;have aZ:IntKind.i64.wrap ((ab.length:Int)+1)=(dl:Int):=by rw[IntKind.wrap_i64];omega
   obtain⟨q7,aR⟩:∃ q7,IntKind.i64.wrap (pt.tdiv 7)=q7:=⟨_,rfl⟩
   have aA:-9223372036854775808<=q7/\q7<=9223372036854775807:=by
    rw[<-aR,IntKind.wrap_i64];have g1:=Int.emod_nonneg (pt.tdiv 7+9223372036854775808) (show(18446744073709551616:Int)≠0 by decide);have g2:=Int.emod_lt_of_pos (pt.tdiv 7+9223372036854775808) (show(0:Int)<18446744073709551616 by decide);omega
   have hpk:=Qqc q7 dl (by omega);have a1:=Qab (QmZ q7 dl V.drew aA.1 aA.2 (by omega) (by omega));have aI:=Qab az;clear az;generalize pickN q7 dl=m at *;have hml:m<=ab.length:=by have:=aI.o;omega
   go_region_with (go_at_call 31;refine a1.o.mono ?_;rintro e w3 ⟨rfl,aQ⟩;rw[aQ];clear aQ;skip)
   all_goals have aW:(sA ab).extract 0 m=sA (ab.take m):=QkE ab m
   all_goals rw[aW]
   all_goals obtain⟨W2,aG⟩:∃ W2,W2=(V.setCell ⟨wr.heap.size,3,none⟩ (.string (sA (ab.take m)))).drew:=⟨_,rfl⟩
   all_goals have aL:Below wr.heap.size wr W2:=by rw[aG];exact QfY (aM.o.setCell (Nat.le_refl _) _)
   all_goals have ae:W2.heap[wr.heap.size]?=some (.cells #[.int .i64 1,.string (sA aa),.string ⟨#[]⟩,.string (sA (ab.take m))] 84):=by rw[aG];exact Qag _ _ _ _ _ _ ad.o
   all_goals rw[<-aG]
   all_goals clear ad ac ak
   all_goals have ad:=Qab ae
   all_goals have ac:=Qab (ax.o.below aL)
   all_goals have ak:=Qab (aV.o.trans (Fr.of_below aL))
   all_goals clear aG ae aL o3 zo aW aZ aR
   all_goals generalize hdm:ab.take m=dm at *
   all_goals have aX:=Qab hdm
   all_goals clear hdm
   all_goals have v0:W2.cell? ⟨db,0,none⟩=some (.map (some bd)):=Qaa ac.o.blk 0
   all_goals have o0:W2.cell? ⟨wr.heap.size,0,none⟩=some (.int .i64 1):=Qaa ad.o 0
   all_goals have o1:W2.cell? ⟨wr.heap.size,1,none⟩=some (.string (sA aa)):=Qaa ad.o 1
   all_goals have o2:W2.cell? ⟨wr.heap.size,2,none⟩=some (.string ⟨#[]⟩):=Qaa ad.o 2
   all_goals have o3:W2.cell? ⟨wr.heap.size,3,none⟩=some (.string (sA dm)):=Qaa ad.o 3
   all_goals obtain⟨lv,ai⟩:=Qe6 (w:=W2.drew) ac.o.md av
   all_goals generalize (Dk aa).isSome=ok at ai
   all_goals cases ok
   all_goals go_wp2_with fail
   all_goals go_region_held3 (fun w'=>w'.cell? ⟨db,0,none⟩=some (.map (some bd))/\w'.cell? ⟨wr.heap.size,1,none⟩=some (.string (sA aa))) (first|go_keep|exact⟨v0,o1⟩) (fail)
   all_goals go_wp2_with fail
   all_goals clear ai
   all_goals go_region_held3 (fun w'=>w'.cell? ⟨db,0,none⟩=some (.map (some bd))/\w'.cell? ⟨wr.heap.size,0,none⟩=some (.int .i64 1)/\w'.cell? ⟨wr.heap.size,1,none⟩=some (.string (sA aa))/\w'.cell? ⟨wr.heap.size,2,none⟩=some (.string ⟨#[]⟩)/\w'.cell? ⟨wr.heap.size,3,none⟩=some (.string (sA dm))) (first|go_keep|exact⟨q1,q2,q3,q4,q5⟩) (first|(go_at_call 32;refine(QkF bd (n+k) Dk ⟨1,aa,dm⟩ W2.drew.drew ac.o.md (by omega) (by first|exact Or.inl rfl|exact Or.inr rfl) av).mono ?_;rintro e w2 ⟨rfl,ao,af⟩;have ah:=af.undrew.undrew;have ag:=ac.o.durTurn ah ao;have ar:=Qab ag;have ae:=ah.block _ _ ad.o (fun⟨_,es,c,e⟩=>by cases e);have q1:w2.cell? ⟨db,0,none⟩=some (.map (some bd)):=Qaa ag.blk 0;have q2:w2.cell? ⟨wr.heap.size,0,none⟩=some (.int .i64 1):=Qaa ae 0;have q3:w2.cell? ⟨wr.heap.size,1,none⟩=some (.string (sA aa)):=Qaa ae 1;have q4:w2.cell? ⟨wr.heap.size,2,none⟩=some (.string ⟨#[]⟩):=Qaa ae 2;have q5:w2.cell? ⟨wr.heap.size,3,none⟩=some (.string (sA dm)):=Qaa ae 3;have aq:=Qab (ak.o.trans (ah.mono (fun k o hk=>hk.toK ac.o.bb.2.1)));clear ao ah af ag ae;skip))
   all_goals go_wp2
   all_goals exact⟨⟨k+1,doF Dk ⟨1,aa,dm⟩,by omega,by go_num,(by rw[aH.o];exact Qf9 _ _ _ _ _ HC.o (Or.inr ⟨rfl,m,by rw[aX.o]⟩)),ar.o.mono (by omega),aq.o⟩,by simp[intOf];omega⟩
end Go.Proofs.YthkibedbcbgajaaGreatDoor
