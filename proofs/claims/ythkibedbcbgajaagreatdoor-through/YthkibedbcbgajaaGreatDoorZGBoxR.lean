import Derived.Test.YthkibedbcbgajaaGreatDoorGCrash
namespace Go.Proofs.YthkibedbcbgajaaGreatDoor
set_option linter.unusedVariables false
set_option linter.unusedSimpArgs false
set_option maxRecDepth 100000
set_option maxHeartbeats 4000000
open Go.Proofs.Tryz
section
open Go.RowKit Go.Maps
attribute [local go_sem ↓] Go.wp_at_zero Go.wp_at_succ
def Qiw (x:L8):Bool:=Lib.hasPrefix x [46]
theorem Qk7(B:Nat)(l:List (L8))(v:Value)(w:World)(h:NamV w B v l)(hn:l.length<=1000000) :
 Calls Tryz.prog 99 #[v] w fun e w'=>∃ v',e=.returned v'/\NamV w' w.heap.size v' (l.filter Qiw)/\Below w.heap.size w w':=by
 obtain⟨va,vc,ao⟩:=Qat h;subst ao;have HN:=Qab h;obtain⟨i0,hi,aw,av,aq⟩:=info_parts Tryz.infoStr;clear h;go_enter func99,ntmps99;go_wp2_with fail
 go_loopw [3,5,8] (fun o _ i wr=>∃ k:Nat,k<=l.length/\i=.int .i64 k/\NamV wr w.heap.size o ((l.take k).filter Qiw)/\Below w.heap.size w wr) (fun _ _ i _=>l.length - (intOf i).toNat)
 case atStart=>exact⟨0,Nat.zero_le _,rfl,World.ownsRow_nil _ _ _ _,Below.refl _ _⟩
 case round=>
  obtain⟨k,hk,rfl,aa,hB⟩:=hrel;have HB:=Qab hB;have hsz:=hB.size;have aj:((l.take k).filter Qiw).length<=1000000:=Nat.le_trans (List.length_filter_le _ _) (by rw[List.length_take];omega);obtain⟨oa,oc,ak⟩:=Qat aa;subst ak;have HR:=Qab aa;clear hB aa;by_cases hlt:k<l.length;rotate_left
  ·have hz:¬(k:Int)<(l.length:Int):=by omega
   rw[List.take_of_length_le (by omega)]at HR aj ⊢;generalize (l.filter Qiw).length=fl at *;go_wp2;go_ret;exact⟨_,rfl,HR.o,HB.o⟩
  have hlt':(k:Int)<(l.length:Int):=by omega
  have ad:Hid ((l.take (k+1)).filter Qiw=(l.take k).filter Qiw++(if Qiw l[k]=true then [l[k]]else [])):=by
   show _=_
   rw[List.take_succ_eq_append_getElem hlt,List.filter_append];by_cases hd:Qiw l[k]=true
   ·rw[if_pos hd,List.filter_cons_of_pos hd];rfl
   ·rw[if_neg hd,List.filter_cons_of_neg hd];rfl
  have ai:Hid (NamV wr B (.slice va l.length vc) l):=QaR (P:=fun _ _=>False) HN.o (Fr.of_below HB.o) (fun _ _ h=>h);obtain⟨g,ax,hgl,hc⟩:=QpG ai.o k hlt;subst ax;generalize l[k]=x at *;generalize htt:(l.take k).filter Qiw=T at *;have HTT:=Qab htt;clear htt;generalize htn:T.length=tn at *;have ah:=Qab htn;clear htn
  have ag:Hid (wr.ownsRow w.heap.size 9 1 (.slice oa tn oc) tn (T.map encStr)):=by
   have:=HR.o;unfold NamV at this;rw[ah.o]at this;exact this
  by_cases hd:Qiw x=true
  ·rw[if_pos hd]at ad;have HP:=Qab hd;clear hd;go_wp2_with (first|(go_at_call 156;refine(Tryz.strings_HasPrefix _ _ _).mono ?_;rintro e w' ⟨rfl,ac⟩;rw[ac];clear ac;rw[show Lib.hasPrefix (sA x).data.toList _=true from HP.o])|(at_builtin;refine wpList_append_own_at _ rfl _ _ 89 rfl w.heap.size 9 i0 _ 1 16 underlying89 hi aw av aq rfl (by decide) _ _ _ rfl (World.ownsRow.alloc ag.o _) ⟨wr.heap.size,0,none⟩ 1 1 [.string (sA x)] rfl rfl (cell_one_new _ _ _) (Qyx _) (by unfold maxLen;omega) (by omega) (by simp;omega) ?_;intro v5 w5 ae af _ ab;have ar:Hid ((wr.alloc (.cells #[.string (sA x)] 9)).grownBy w5 (Value.slice oa tn oc).ownBlock):=af;have au:=Qab ae;clear ae af ab));have ap:Below w.heap.size w w5:=QcA HB.o HB.o.size ar.o (fun k hk=>(World.ownsRow.lt ag.o k hk).1);refine⟨⟨k+1,by omega,by go_num,?_,ap⟩,by simp[intOf];omega⟩;rw[ad.o];unfold NamV;rw[List.length_append,List.map_append,ah.o];exact au.o
  ·rw[if_neg hd,List.append_nil]at ad;have HP:Hid (Qiw x=false):=by cases h:Qiw x;rfl;exact absurd h hd
   clear hd;go_wp2_with (go_at_call 156;refine(Tryz.strings_HasPrefix _ _ _).mono ?_;rintro e w' ⟨rfl,ac⟩;rw[ac];clear ac;rw[show Lib.hasPrefix (sA x).data.toList _=false from HP.o]);refine⟨⟨k+1,by omega,by go_num,?_,HB.o⟩,by simp[intOf];omega⟩;rw[ad.o];exact HR.o
end
section
open Go.RowKit
attribute [local go_sem ↓] Go.wp_at_zero Go.wp_at_succ
def Qsb (own:Option (List Fl)):List Dop:=match own with | none=>[] | some fs=>Qa8 kJ fs
def Qdo (own:Option (List Fl)):List Dop:=sOp :: Qsb own
theorem QvL{A:AD}(h:(aDo sOp A).1=0):(aDo sOp A).2.N=A.N/\(aDo sOp A).2.p=[]/\(aDo sOp A).2.lf.down=false:=by
 have h0:(aWr A.lf).1=0:=by
  unfold aDo at h;by_cases h0:(aWr A.lf).1=0
  ·exact h0
  ·rw[if_neg h0,if_neg (by rintro⟨h1,_⟩;cases h1)]at h;exact h
 have hd:(aWr A.lf).2.down=false:=by
  unfold aWr at h0 ⊢;split
  ·rename_i hc;rw[if_pos hc]at h0;cases h0
  ·split<;>rfl
 unfold aDo;rw[if_pos h0,if_neg (by decide),if_neg (by decide)];exact⟨rfl,rfl,hd⟩
def QfW (w:World) (N:Fs) (own:Option (List Fl)):Prop:=
 match own with
 | none=>∀ x,(N x).isSome=true→Qiw x=false
 | some fs=>(∀ x,(N x).isSome=true→x≠kJ→Qiw x=false)∧fs.length≤10∧(∀ f∈fs,f.1.length≤1000∧f.2.length≤100000000)∧(∀ f∈fs,f.1≠kJ)∧∃ s,N kJ=some s∧s.length≤90000000∧∀ B W,6 < B→Fr (PDk B) w W→Calls Tryz.prog 157 #[.string (sA kJ),.string (sA s)] W (QxA fs W)
theorem QuE{l:List (L8)}(h:∀ x∈l,Qiw x=false):l.filter Qiw=[]:=by
 rw[List.filter_eq_nil_iff];intro x hx;rw[h x hx];decide
theorem QwG{l:List (L8)}(hn:l.Nodup)(hj:kJ∈l)(h:∀ x∈l,x≠kJ->Qiw x=false):l.filter Qiw=[kJ]:=by
 have hd:Qiw kJ=true:=by decide
 have e:l.filter Qiw=l.filter (fun x=>x==kJ):=by
  apply List.filter_congr;intro x hx;by_cases hk:x=kJ
  ·subst hk;rw[hd];simp
  ·rw[h x hx hk];simpa using hk
 rw[e,List.filter_beq,hn.count,if_pos hj];rfl
theorem QjE(B db bd bn n:Nat)(A:AD)(ad:Option (List Fl))(w:World)(h:AbsD w B db bd bn n A)(hB:6<B)(ht:Tab w)(ag:QfW w A.N ad)(hn:n<=450000)(hp:A.p.length<=50)(ae:Qb7 A.p) :
 Calls Tryz.prog 56 #[Qcr db] w fun e w'=>e=.returned (Qcx (Qa1 (Qdo ad) A).1)/\AbsD w' B db bd bn (n+1300) (Qa1 (Qdo ad) A).2/\Fr (PDk B) w w':=by
 have HA:=Qab h;have HT:=Qab ht;have aU:=Qab ag;have a2:=Qab ae;have hmt:=Qqh db;have hmn:=QmJ db;have ac:Hid (Qa1 (Qdo ad) A=if(aDo sOp A).1=0 then Qa1 (Qsb ad) (aDo sOp A).2 else aDo sOp A):=rfl;clear h ht ag ae;unfold Qcr;go_enter func56,ntmps56;go_wp2_with fail;refine(Qj6 B db bd bn n A w HA.o (by omega) (by omega) a2.o).mono ?_;rintro e w1 ⟨rfl,aD,aG⟩;have aq:=Qab aD;have aT:=Qab aG;clear aD aG;by_cases h0:(aDo sOp A).1=0;rotate_left
 ·have ai:=Qab (QcH h0);rw[ai.o];rw[if_neg h0]at ac;clear h0;go_wp2;go_ret;rw[ac.o];exact⟨by rw[ai.o];rfl,aq.o.mono (by omega),aT.o⟩
 rw[if_pos h0]at ac;have aj:Qcx (aDo sOp A).1=.nilIface:=by rw[h0];rfl
 rw[aj];obtain⟨aJ,ay,aO⟩:=QvL h0;have aW:=Qab ay;have aM:=Qab aO;have aN:=Qab aJ;clear aj h0 aJ ay aO;generalize (aDo sOp A).2=A1 at *;obtain⟨pv,ap⟩:=aq.o;rw[aM.o]at ap;have a3:=Qab ap;clear ap;go_wp2_with fail;refine(Ql8 B db bd bn _ A1.D A1.N A1.p A1.lf.left A1.lf.full pv w1 a3.o (by omega)).mono ?_;rintro e w2 ⟨aK,nv,l,rfl,ao,af,aX,aP⟩;have aY:=Qab ao;obtain⟨na,nc,a1⟩:=Qat ao;subst a1;have ax:=Qab aK;have ab:Hid (∀ x,x∈l↔(A.N x).isSome=true):=by rw[<-aN.o];exact af
 have a0:=Qab aP;have aw:l.length<=1000000:=by omega
 clear aK ao af aP aX;go_wp2_with fail;refine(Qk7 _ l _ w2 aY.o aw).mono ?_;rintro e w3 ⟨ov,rfl,aa,aQ⟩;have aF:=Qab (ax.o.trans (aQ.mono ax.o.size));have ak:=Qab (aT.o.trans (Fr.of_below aF.o));have az:=Qab (aq.o.below aF.o);clear aQ
 cases ad with
 |none=>
  rw[QuE (fun x hx=>aU.o x ((ab.o x).1 hx))]at aa;obtain⟨oa,oc,ar⟩:=Qat aa;subst ar;clear aa;dsimp only[List.length_nil];go_wp2_with fail
  go_loopw [7,8,25] (fun _ _ i wr=>i=.int .i64 0/\wr=w3) (fun _ _ _ _=>0)
  case atStart=>exact⟨rfl,rfl⟩
  case round=>
   obtain⟨hi,hw⟩:=hrel;subst hi hw;go_wp2;go_ret;rw[ac.o];exact⟨rfl,az.o.mono (by omega),ak.o⟩
 |some fs=>
  obtain⟨ah,av,aH,aC,s,hs,aI,aE⟩:=aU.o;rw[QwG a0.o ((ab.o _).2 (by rw[hs];rfl)) (fun x hx=>ah x ((ab.o x).1 hx))]at aa;obtain⟨oa,oc,ar⟩:=Qat aa;subst ar;obtain⟨g,a5,hgl,hc⟩:=QpG aa 0 (by simp);subst a5;have hc0:w3.cell? ⟨g,0,none⟩=some (.string (sA kJ)):=hc;have au:=Qab (Qn1 B db bd bn (n+A.p.length) A1 kJ s w3 az.o aM.o (by decide) (by rw[aN.o];exact hs) aI (HT.o.keep ak.o hB) fs (fun W hW=>aE B W hB (ak.o.trans (Fr.of_below hW))) av aH aC (by omega) (by rw[aW.o];simp) (by rw[aW.o];intro o ho;cases ho));clear aa hc ah aH aC hs aI aE;dsimp only[List.length_singleton];go_wp2_with fail
  go_loopw [7,8,25] (fun _ _ i wr=>(i=.int .i64 0/\wr=w3)\/(i=.int .i64 1/\(Qa1 (Qa8 kJ fs) A1).1=0/\AbsD wr B db bd bn (n+A.p.length+1200) (Qa1 (Qa8 kJ fs) A1).2/\Fr (PDk B) w wr)) (fun _ _ i _=>1 - (intOf i).toNat)
  case atStart=>exact Or.inl ⟨rfl,rfl⟩
  case round=>
   rcases hrel with⟨hi,hw⟩ | ⟨hi,hz,aB,aR⟩
   ·subst hi hw;go_wp2_with fail;refine au.o.mono ?_;rintro e w4 ⟨rfl,aL,aV⟩;have aS:=Qab aL;have aA:=Qab (ak.o.trans aV);clear aL aV;by_cases h4:(Qa1 (Qa8 kJ fs) A1).1=0
    ·have aj:Qcx (Qa1 (Qa8 kJ fs) A1).1=.nilIface:=by rw[h4];rfl
     rw[aj];have H4:=Qab h4;clear aj h4;go_wp2_with fail;exact⟨Or.inr ⟨rfl,H4.o,aS.o,aA.o⟩,by simp[intOf]⟩
    ·have ai:=Qab (QcH h4);rw[ai.o];clear h4;go_wp2;go_ret;rw[ac.o];exact⟨by show _=Ending.returned (Qcx (Qa1 (Qa8 kJ fs) A1).1);rw[ai.o];rfl,aS.o.mono (by omega),aA.o⟩
   ·subst hi;have HZ:=Qab hz;have a4:=Qab aB;have aZ:=Qab aR;clear hz aB aR;go_wp2;go_ret;rw[ac.o];exact⟨by show _=Ending.returned (Qcx (Qa1 (Qa8 kJ fs) A1).1);rw[HZ.o];rfl,a4.o.mono (by omega),aZ.o⟩
theorem Qmz(k:Int)(f:Nat)(aa:Array Value)(R:World->Prop)(w:World)(hcf:∀ args W,(callFunc f args).run Tryz.prog W=.ok (.enter f args) W)
 (hw:Calls Tryz.prog f aa (w.alloc (.cells #[.nilIface] 61)) fun e w'=>e=.returned (.iface 30 (.int .i64 k))/\w'.heap[w.heap.size]?=some (.cells #[.nilIface] 61)/\R w') :
 Calls Tryz.prog 42 #[.func (.func f) #[] aa] w fun e w'=>e=.returned (.iface 30 (.int .i64 k))/\∃ w1,R w1/\w1.heap[w.heap.size]?=some (.cells #[.nilIface] 61)/\w'=w1.setCell ⟨w.heap.size,0,none⟩ (.iface 30 (.int .i64 k)):=by
 have hmf:∀(fn:Fn) (first cap:Array Value) (w:World),(Instr.makeFunc fn first cap).run Tryz.prog w=.ok (.func fn first cap) w:=fun _ _ _ _=>rfl
 have HW:=Qab hw;clear hw;go_enter_defers func42,ntmps42;go_wp2_with fail;refine HW.o.mono ?_;rintro e w1 ⟨rfl,hE,hR⟩;have c0:w1.cell? ⟨w.heap.size,0,none⟩=some .nilIface:=Qaa hE 0;have z0:∀ j,w1.frozen? ⟨w.heap.size,j,none⟩=false:=Qah hE;have HE:=Qab hE;have HR:=Qab hR;clear hE hR;go_wp2;refine leaves_cons (f:=72) (args:=#[.pointer (some ⟨w.heap.size,0,none⟩)]) (by simp) (by simp[go_sem]) ?_;refine(QiS ⟨w.heap.size,0,none⟩ _).mono ?_;rintro e u' w'' ⟨rfl,rfl,rfl⟩;simp[Leaves,settle,results,results42,go_sem,c0];exact⟨w1,HR.o,HE.o,rfl⟩
theorem Qhz(k:Nat)(f:Nat)(aa:Array Value)(R:World->Prop)(w:World)(ab:∀ args W,(callFunc f args).run Tryz.prog W=.ok (.enter f args) W)
 (hw:Calls Tryz.prog f aa (w.alloc (.cells #[.nilIface] 61)) fun e w'=>e=.returned (Qcx k)/\w'.heap[w.heap.size]?=some (.cells #[.nilIface] 61)/\R w') :
 Calls Tryz.prog 42 #[.func (.func f) #[] aa] w fun e w'=>e=.returned (Qcx k)/\∃ w1,R w1/\w1.heap[w.heap.size]?=some (.cells #[.nilIface] 61)/\w'=w1.setCell ⟨w.heap.size,0,none⟩ (Qcx k):=by
 by_cases h:k=0
 ·subst h;exact Qpj f aa R w ab hw
 ·rw[QcH h]at hw ⊢;exact Qmz k f aa R w ab hw
theorem AbsD.er{w w':World}{B db bd bn n:Nat}{A:AD}(h:AbsD w B db bd bn n A)(hf:Fr PEr w w'):AbsD w' B db bd bn n A:=by
 obtain⟨pv,h⟩:=h;exact⟨pv,h.fr hf (fun k cs ⟨cs',e⟩=>by injection e with e1 e2;exact absurd e2 (by decide)) (fun k es c ⟨cs',e⟩=>by cases e) (fun k cs ⟨cs',e⟩=>by injection e with e1 e2;exact absurd e2 (by decide)) (fun k cs ⟨cs',e⟩=>by injection e with e1 e2;exact absurd e2 (by decide))⟩
theorem QkZ(B db bd bn n vb xb fb:Nat)(A:AD)(J:L8)(id text:L8)(a:Option Addr)(m c:Nat)(b:Option Addr)(fl fc:Nat)(fs:List Fl)(w:World)(h:AbsD w B db bd bn n A)(ai:A.lf.down=false)
 (hv:w.heap[vb]?=some (.cells #[.string (sA id),.slice a m c,.string (sA text)] 104)) (hx:w.heap[xb]?=some (.cells #[Qcr db] 75)) (hf:w.heap[fb]?=some (.cells #[.slice b fl fc] 40))
 (af:QkS w (.slice b fl fc) fs) (aj:J.length<=100000000) (aa:∀ W,Below w.heap.size w W->QxF J id text (.slice a m c) W) (ah:A.N kJ=none) (ag:∀ f∈fs,f.1≠kJ)
 (hn:n<=460000) (ad:fs.length<=10) (hp:A.p.length<=50) (ab:Qb7 A.p) (hs:∀ f∈fs,f.1.length<=1000/\f.2.length<=100000000) :
 Calls Tryz.prog 43 #[.pointer (some ⟨vb,0,none⟩),.pointer (some ⟨xb,0,none⟩),.pointer (some ⟨fb,0,none⟩)] w fun e w'=>e=.returned (Qcx (Qa1 (Qbg J fs) A).1)/\AbsD w' B db bd bn (n+1200) (Qa1 (Qbg J fs) A).2/\Fr (PDk B) w w':=by
 have v0:w.cell? ⟨vb,0,none⟩=some (.string (sA id)):=Qaa hv 0;have v1:w.cell? ⟨vb,1,none⟩=some (.slice a m c):=Qaa hv 1;have v2:w.cell? ⟨vb,2,none⟩=some (.string (sA text)):=Qaa hv 2;have x0:w.cell? ⟨xb,0,none⟩=some (Qcr db):=Qaa hx 0;have f0:w.cell? ⟨fb,0,none⟩=some (.slice b fl fc):=Qaa hf 0;have HL:=Qab (QqH B db bd bn n A J id text a m c b fl fc fs w h ai af aj aa ah ag hn ad hp ab hs);clear h hv hx hf af aa ah ag hs ab;unfold Qcr at x0 HL;go_enter func43,ntmps43;go_wp2_with fail;refine HL.o.mono ?_;rintro e w1 ⟨he,h1,h2⟩;obtain⟨kk,ac⟩:∃ kk,kk=(Qa1 (Qbg J fs) A).1:=⟨_,rfl⟩;rw[<-ac]at he;have ae:=Qab ac;clear ac;by_cases hz:kk=0
 ·subst hz;rw[show Qcx 0=.nilIface from rfl]at he;subst he;have H1:=Qab h1;have H2:=Qab h2;clear h1 h2;go_wp2;go_ret;exact⟨by rw[<-ae.o];rfl,H1.o,H2.o⟩
 rw[QcH hz]at he;subst he;have HZ:=Qab hz;clear hz;have H1:=Qab h1;have H2:=Qab h2;clear h1 h2;go_wp2;go_ret;exact⟨by rw[<-ae.o,QcH HZ.o];rfl,H1.o,H2.o⟩
theorem QhJ(B db bd bn n X:Nat)(A:AD)(id text:L8)(aa:List (Int×L8))(a:Option Addr)(c:Nat)(b:Option Addr)(fl fc:Nat)(fs:List Fl)(w w1:World)(h:AbsD w B db bd bn n A)(aj:A.lf.down=false)(ht:Tab w)(hz:Tz w)(ha:QjB w (.slice a aa.length c) aa)
 (h1:id.length<=2000000) (h2:text.length<=2000000) (h3:∀ a∈aa,a.2.length<=2000000) (ap:A.N kJ=none) (hn:n<=450000) (hp:A.p.length<=50) (ae:Qb7 A.p) (ao:(QeX id text aa).length<=100000000) (hf6:fs.length<=6) (h6:aa.length<=6)
 (af:Below w.heap.size w w1) (hx:w1.heap[X]?=some (.cells #[Qcr db] 75)) (hv:w1.heap[X+1]?=some (.cells #[.string (sA id),.slice a aa.length c,.string (sA text)] 104))
 (ah:QkS w1 (.slice b fl fc) fs) (hN:∀ f∈fs,QjH f.1/\f.2.length<=2000000+text.length+8) (hK:∀ a∈aa,0<=a.1/\a.1<=2147483647) :
 Calls Tryz.prog 42 #[.func (.func 43) #[] #[.pointer (some ⟨X+1,0,none⟩),.pointer (some ⟨X,0,none⟩),.pointer (some ⟨w1.heap.size,0,none⟩)]] (w1.alloc (.cells #[.slice b fl fc] 40)) fun e w'=>e=.returned (Qcx (Qa1 (Qbg (QeX id text aa) fs) A).1)/\Fr (PDk B) w w'/\AbsD w' B db bd bn (n+1200) (Qa1 (Qbg (QeX id text aa) fs) A).2:=by
 obtain⟨Y,hY⟩:∃ Y,Y=(w1.alloc (.cells #[.slice b fl fc] 40)).alloc (.cells #[.nilIface] 61):=⟨_,rfl⟩;have ad:Below w1.heap.size w1 Y:=by rw[hY];exact((Below.refl _ _).alloc (Nat.le_refl _) _).alloc (by simp) _
 have ab:Below w.heap.size w Y:=af.trans (ad.mono af.size);have ag:Y.heap[w1.heap.size]?=some (.cells #[.slice b fl fc] 40):=by rw[hY];exact Qac (Qam _ _)
 have ak:Y.heap[(w1.alloc (.cells #[.slice b fl fc] 40)).heap.size]?=some (.cells #[.nilIface] 61):=by rw[hY];exact Qam _ _
 have ac:=QkZ B db bd bn n (X+1) X w1.heap.size A (QeX id text aa) id text a aa.length c b fl fc fs Y (h.below ab) aj (Qai hv ad) (Qai hx ad) ag (ah.fr (P:=fun _ _=>False) (Fr.of_below ad) (fun _ _ h=>h)) ao
  (fun W hW=>Qnb id text kJ aa (.slice a aa.length c) W (ht.below (ab.trans (hW.mono ab.size))) (hz.below (ab.trans (hW.mono ab.size))) (ha.below (ab.trans (hW.mono ab.size))) h1 h2 (fun a ha=>⟨h3 a ha,hK a ha⟩) (by omega) (by decide)) ap (fun f hf e=>by obtain⟨_,c0,r,e1,e2⟩:=(hN f hf).1;rw[e]at e1;injection e1 with e3 _;exact e2 e3.symm) (by omega) (by omega) hp ae (fun f hf=>⟨by have:=(hN f hf).1.1;omega,by have:=(hN f hf).2;omega⟩)
 rw[hY]at ac;refine(Qhz (Qa1 (Qbg (QeX id text aa) fs) A).1 43 _ (fun w'=>AbsD w' B db bd bn (n+1200) (Qa1 (Qbg (QeX id text aa) fs) A).2/\Fr (PDk B) Y w') _ (fun _ _=>by kernel_rfl) (ac.mono ?_)).mono ?_
 ·rintro e w' ⟨rfl,hD,hF⟩;rw[<-hY]at hF;exact⟨rfl,hF.block _ _ ak PDk.notEr,hD,hF⟩
 ·rintro e w' ⟨rfl,w2,⟨hD,hF⟩,hE,rfl⟩;have ai:Fr (PDk B) w w2:=(Fr.of_below ab).trans hF;refine⟨rfl,ai.setNew _ (Nat.le_trans af.size (by simp)) _ _,hD.er ((Fr.refl _ w2).set hE ⟨_,rfl⟩ _ _)⟩
def Qmg (B db bd bn n:Nat) (A:AD) (own:Option (List Fl)) (w:World) (e:Ending) (w':World):Prop:=
 e=.returned (Qcx (Qa1 (Qdo own) A).1)∧AbsD w' B db bd bn (n+1300) (Qa1 (Qdo own) A).2∧Fr (PDk B) w w'
theorem QfW.fr{w w':World}{N:Fs}{aa:Option (List Fl)}{B0:Nat}(h:QfW w N aa)(hb:Below w.heap.size w w'):QfW w' N aa:=by
 cases aa with
 |none=>exact h
 |some fs=>
  obtain⟨h1,h2,h3,h4,s,h5,h6,h7⟩:=h;exact⟨h1,h2,h3,h4,s,h5,h6,fun B W hB hf=>h7 B W hB ((Fr.of_below hb).trans hf)⟩
theorem Qk5(B db bd bn n xb:Nat)(A:AD)(ac:Option (List Fl))(w:World)(h:AbsD w B db bd bn n A)(hB:6<B)(ht:Tab w)(ab:QfW w A.N ac)(hn:n<=450000)(hp:A.p.length<=50)(aa:Qb7 A.p)(hx:w.heap[xb]?=some (.cells #[Qcr db] 75)) :
 Calls Tryz.prog 55 #[.pointer (some ⟨xb,0,none⟩)] w (Qmg B db bd bn n A ac w):=by
 have x0:w.cell? ⟨xb,0,none⟩=some (Qcr db):=Qaa hx 0;have HL:=Qab (QjE B db bd bn n A ac w h hB ht ab hn hp aa);clear h hx ab ht aa;unfold Qcr at x0 HL;go_enter func55,ntmps55;go_wp2_with fail;refine HL.o.mono ?_;rintro e w1 ⟨he,h1,h2⟩;obtain⟨ev,ad⟩:∃ ev,ev=Qcx (Qa1 (Qdo ac) A).1:=⟨_,rfl⟩;rw[<-ad]at he;subst he;have ae:=Qab ad;have H1:=Qab h1;have H2:=Qab h2;clear h1 h2 ad;go_wp2;go_ret;exact⟨by rw[<-ae.o];rfl,H1.o,H2.o⟩
theorem QhC(B db bd bn n:Nat)(A:AD)(ab:Option (List Fl))(w:World)(h:AbsD w B db bd bn n A)(hB:6<B)(ht:Tab w)(ae:QfW w A.N ab)(hn:n<=450000)(hp:A.p.length<=50)(ad:Qb7 A.p) :
 Calls Tryz.prog 42 #[.func (.func 55) #[] #[.pointer (some ⟨w.heap.size,0,none⟩)]] (w.alloc (.cells #[Qcr db] 75)) (Qmg B db bd bn n A ab w):=by
 obtain⟨Y,hY⟩:∃ Y,Y=(w.alloc (.cells #[Qcr db] 75)).alloc (.cells #[.nilIface] 61):=⟨_,rfl⟩;have ac:Below w.heap.size w Y:=by rw[hY];exact((Below.refl _ _).alloc (Nat.le_refl _) _).alloc (by simp) _
 have ah:Y.heap[w.heap.size]?=some (.cells #[Qcr db] 75):=by rw[hY];exact Qac (Qam _ _)
 have ag:Y.heap[(w.alloc (.cells #[Qcr db] 75)).heap.size]?=some (.cells #[.nilIface] 61):=by rw[hY];exact Qam _ _
 have aa:=Qk5 B db bd bn n w.heap.size A ab Y (h.below ac) hB (ht.below ac) (QfW.fr (B0:=0) ae ac) hn hp ad ah;rw[hY]at aa;refine(Qhz (Qa1 (Qdo ab) A).1 55 _ (fun w'=>AbsD w' B db bd bn (n+1300) (Qa1 (Qdo ab) A).2/\Fr (PDk B) Y w') _ (fun _ _=>by kernel_rfl) (aa.mono ?_)).mono ?_
 ·rintro e w' ⟨rfl,hD,hF⟩;rw[<-hY]at hF;exact⟨rfl,hF.block _ _ ag PDk.notEr,hD,hF⟩
 ·rintro e w' ⟨rfl,w2,⟨hD,hF⟩,hE,rfl⟩;have af:Fr (PDk B) w w2:=(Fr.of_below ac).trans hF;exact⟨rfl,hD.er ((Fr.refl _ w2).set hE ⟨_,rfl⟩ _ _),af.setNew _ (by simp) _ _⟩
theorem QkH(B db bd bn n:Nat)(A:AD)(ac:Option (List Fl))(w:World)(h:AbsD w B db bd bn n A)(hB:6<B)(ht:Tab w)(ab:QfW w A.N ac)(hn:n<=450000)(hp:A.p.length<=50)(aa:Qb7 A.p) :
 Calls Tryz.prog 35 #[Qcr db] w (Qmg B db bd bn n A ac w):=by
 have hmf:∀(fn:Fn) (first cap:Array Value) (w:World),(Instr.makeFunc fn first cap).run Tryz.prog w=.ok (.func fn first cap) w:=fun _ _ _ _=>rfl
 have HL:=Qab (QhC B db bd bn n A ac w h hB ht ab hn hp aa);clear h ab ht aa;unfold Qcr at HL ⊢;go_enter func35,ntmps35;go_wp2_with fail;refine HL.o.mono ?_;rintro e w1 ⟨he,h1,h2⟩;obtain⟨ev,ad⟩:∃ ev,ev=Qcx (Qa1 (Qdo ac) A).1:=⟨_,rfl⟩;rw[<-ad]at he;subst he;have ae:=Qab ad;have H1:=Qab h1;have H2:=Qab h2;clear h1 h2 ad;go_wp2;go_ret;exact⟨by rw[<-ae.o];rfl,H1.o,H2.o⟩
theorem QlL(B db bd bn n:Nat)(A:AD)(ac:Option (List Fl))(w:World)(h:AbsD w B db bd bn n A)(hB:6<B)(ht:Tab w)(ab:QfW w A.N ac)(hn:n<=450000)(hp:A.p.length<=50)(aa:Qb7 A.p) :
 Calls Tryz.prog 22 #[Qcr db] w (Qmg B db bd bn n A ac w):=by
 have HL:=Qab (QkH B db bd bn n A ac w h hB ht ab hn hp aa);clear h ab ht aa;unfold Qcr at HL ⊢;go_enter func22,ntmps22;go_wp2_with fail;refine HL.o.mono ?_;rintro e w1 ⟨he,h1,h2⟩;obtain⟨ev,ad⟩:∃ ev,ev=Qcx (Qa1 (Qdo ac) A).1:=⟨_,rfl⟩;rw[<-ad]at he;subst he;have ae:=Qab ad;have H1:=Qab h1;have H2:=Qab h2;clear h1 h2 ad;go_wp2;go_ret;exact⟨by rw[<-ae.o];rfl,H1.o,H2.o⟩
theorem DJ.aim{w:World}{B db bd bn n:Nat}{D N:Fs}{p:List Dop}{ql qf:Int}{dn:Bool}{pv:Value}(h:DJ w B db bd bn n D N p ql qf dn pv)(l f:Int) :
 DJ ((w.setCell ⟨db,3,none⟩ (.int .i64 l)).setCell ⟨db,4,none⟩ (.int .i64 f)).drew B db bd bn n D N p l f dn pv/\Fr (PDb db) w ((w.setCell ⟨db,3,none⟩ (.int .i64 l)).setCell ⟨db,4,none⟩ (.int .i64 f)).drew:=by
 have h1:=Qag w db 3 (.int .i64 l) _ _ h.blk;have h2:=Qag _ db 4 (.int .i64 f) _ _ h1;have hf:Fr (PDb db) w ((w.setCell ⟨db,3,none⟩ (.int .i64 l)).setCell ⟨db,4,none⟩ (.int .i64 f)).drew:=(((Fr.refl _ w).set h.blk ⟨rfl,_,rfl⟩ 3 _).set h1 ⟨rfl,_,rfl⟩ 4 _).drew;exact⟨h.turn hf h2,hf⟩
theorem Qm7(k:Nat)(w:World)(hg:Qfv w) :
 Calls Tryz.prog 19 #[Qcx k] w fun e w'=>e=.returned (.tuple #[.int .i64 (k:Int),.int .i64 (-1)])/\Below w.heap.size w w':=by
 by_cases h:k=0
 ·subst h;exact QlD w
 ·rw[QcH h];exact Qg2 (k:Int) w hg
theorem QfW.kept{w w':World}{N:Fs}{aa:Option (List Fl)}{B:Nat}(h:QfW w N aa)(hf:Fr (PDk B) w w')(hB:6<B):QfW w' N aa:=by
 cases aa with
 |none=>exact h
 |some fs=>
  obtain⟨h1,h2,h3,h4,s,h5,h6,h7⟩:=h;exact⟨h1,h2,h3,h4,s,h5,h6,fun B' W hB' hf'=>h7 (min B B') W (by omega) ((hf.mono (fun k o hk=>⟨by have:=hk.1;omega,hk.2⟩)).trans (hf'.mono (fun k o hk=>⟨by have:=hk.1;omega,hk.2⟩)))⟩
def BoxEnd (R:AD) (D' N':Fs) (p':List Dop):Prop:=(R.lf.down=false∧D'=R.D∧N'=R.N∧p'=R.p)∨(R.lf.down=true∧CrashOf R.D R.p D'∧N'=D'∧p'=[])
theorem QkJ(B bb db bd bn n:Nat)(D N:Fs)(p:List Dop)(l f kp pt:Int)(ap:Option (List Fl))(R:Nat×AD)(w:World)(hb:w.heap[bb]?=some (.cells #[.pointer (some ⟨db,0,none⟩)] 55))(h:AbsD w B db bd bn n ⟨D,N,p,⟨-1,-1,false⟩⟩)(hB:6<B)(ht:Tab w)(hg:Qfv w)(ae:QfW w N ap)(hn:n<=450000)(hp:p.length<=50)(ad:Qb7 p)
 (hR:R=Qa1 (Qdo ap) ⟨D,N,p,⟨l,f,false⟩⟩) (aE:R.2.p.length<=100) (az:Qb7 R.2.p) (av:∀ o∈R.2.p,o.data.length<=100000000) (aL:-9223372036854775808<=pt) (aK:pt<=9223372036854775807) :
 Calls Tryz.prog 12 #[.pointer (some ⟨bb,0,none⟩),.int .i64 l,.int .i64 f,.int .i64 kp,.int .i64 pt] w fun e w'=>e=.returned (.int .i64 (R.1:Int))/\Fr (PDk B) w w'/\∃ bn' D' N' p',BoxEnd R.2 D' N' p'/\AbsD w' B db bd bn' (n+1400) ⟨D',N',p',⟨-1,-1,false⟩⟩:=by
 obtain⟨pv,h⟩:=h;have h':DJ w B db bd bn n D N p (-1) (-1) false pv:=h;have HD:=Qab h';have HT:=Qab ht;have HG:=Qab hg;have aU:=Qab ae;have aT:=Qab hb;have HR:=Qab hR;have aA:=Qab aE;have aS:=Qab az;have aI:=Qab av;have aO:=Qab ad;have b0:w.cell? ⟨bb,0,none⟩=some (.pointer (some ⟨db,0,none⟩)):=Qaa hb 0;have d3:w.cell? ⟨db,3,none⟩=some (.int .i64 (-1)):=Qaa h'.blk 3;have d4:w.cell? ⟨db,4,none⟩=some (.int .i64 (-1)):=Qaa h'.blk 4;have z0:∀ j,w.frozen? ⟨db,j,none⟩=false:=Qah h'.blk;clear h h' ae hb ht hg ad hR aE az av;go_enter func12,ntmps12;go_wp2_with fail;refine wp_region_noPanic ?_;go_region;refine NoPanic.normal ?_;obtain⟨W,hW⟩:∃ W,W=((w.setCell ⟨db,3,none⟩ (.int .i64 l)).setCell ⟨db,4,none⟩ (.int .i64 f)).drew:=⟨_,rfl⟩;obtain⟨ao,ag⟩:=HD.o.aim l f;rw[<-hW]at ao ag;rw[<-hW];have ai:Hid (Fr (PDk B) w W):=ag.mono (fun _ _ h=>h.toK HD.o.bb.1);have aw:=Qab (ag.block _ _ aT.o (fun⟨_,cs,e⟩=>by injection e with e1 e2;exact absurd e2 (by decide)));have b5:W.cell? ⟨bb,0,none⟩=some (.pointer (some ⟨db,0,none⟩)):=Qaa aw.o 0;have HL:=Qab (QlL B db bd bn n ⟨D,N,p,⟨l,f,false⟩⟩ ap W ⟨pv,ao⟩ hB (HT.o.keep ai.o hB) (QfW.kept aU.o ai.o hB) hn hp aO.o);unfold Qmg at HL;rw[<-HR.o]at HL;unfold Qcr at HL;clear hW ao ag b0 d3 d4 z0;go_wp2_with fail;refine HL.o.mono ?_;rintro e w6 ⟨au,⟨pv6,aG⟩,ak⟩;obtain⟨ev,aq⟩:∃ ev,ev=Qcx R.1:=⟨_,rfl⟩;rw[<-aq]at au;subst au;have aF:=Qab (ai.o.trans ak);have aM:=Qab (ak.block _ _ aw.o PDk.notBox);have aV:=Qab aG;have ax:Hid (Calls Tryz.prog 19 #[ev] w6 fun e w'=>e=.returned (.tuple #[.int .i64 (R.1:Int),.int .i64 (-1)])/\Below w6.heap.size w6 w'):=by rw[aq];exact Qm7 R.1 w6 (aF.o.lowCell (a:=⟨0,0,none⟩) (by show 0<B;omega) HG.o)
 clear ak b5 aG aq HL;go_wp2_with fail;refine ax.o.mono ?_;rintro e w7 ⟨rfl,af⟩;have ac:=Qab (aV.o.below af);have ay:Hid (Fr (PDk B) w w7):=aF.o.trans (Fr.of_below af);have aj:=Qai aM.o af;have b0:w7.cell? ⟨bb,0,none⟩=some (.pointer (some ⟨db,0,none⟩)):=Qaa aj 0;have d3:w7.cell? ⟨db,3,none⟩=some (.int .i64 R.2.lf.left):=Qaa ac.o.blk 3;have d4:w7.cell? ⟨db,4,none⟩=some (.int .i64 R.2.lf.full):=Qaa ac.o.blk 4;have d5:w7.cell? ⟨db,5,none⟩=some (.bool R.2.lf.down):=Qaa ac.o.blk 5;have z0:∀ j,w7.frozen? ⟨db,j,none⟩=false:=Qah ac.o.blk;have aP:=Qab aj;have ab:=Qab (ac.o.aim (-1) (-1));clear af aj ax;generalize hdn:R.2.lf.down=dn at *;have ar:=Qab hdn;clear hdn
 cases dn with
 |false=>
  go_wp2_with fail;refine wp_region_noPanic ?_;go_region;refine NoPanic.normal ?_;go_wp2;go_ret;obtain⟨h8,h9⟩:=ab.o;exact⟨rfl,ay.o.trans (h9.mono (fun _ _ h=>h.toK ac.o.bb.1)),bn,R.2.D,R.2.N,R.2.p,Or.inl ⟨ar.o,rfl,rfl,rfl⟩,AbsD.mono ⟨_,h8⟩ (by omega)⟩
 |true=>
  have aQ:=Qab (Qkj B db bd bn (n+1300) R.2 kp pt w7 ⟨_,by rw[ar.o];exact ac.o⟩ (by omega) (by have:=aA.o;omega) aS.o aI.o aL aK);clear ab d3 d4 z0;go_wp2_with fail;refine aQ.o.mono ?_;rintro e w8 ⟨rfl,ah,bn',D',aB,aR,aC⟩;have aa:DJ w8 B db bd bn' (n+1300+R.2.p.length) D' D' [] (-1) (-1) false aR:=aC;have aH:=Qab aa;have aD:=ah.block _ _ aP.o PDk.notBox;have b8:w8.cell? ⟨bb,0,none⟩=some (.pointer (some ⟨db,0,none⟩)):=Qaa aD 0;have e3:w8.cell? ⟨db,3,none⟩=some (.int .i64 (-1)):=Qaa aa.blk 3;have e4:w8.cell? ⟨db,4,none⟩=some (.int .i64 (-1)):=Qaa aa.blk 4;have y0:∀ j,w8.frozen? ⟨db,j,none⟩=false:=Qah aa.blk;have ab:=Qab (aa.aim (-1) (-1));have aN:=Qab (ay.o.trans ah);have aJ:=Qab aB;clear aC aa aD ah aB b0 d5;go_wp2_with fail;refine wp_region_noPanic ?_;go_region;refine NoPanic.normal ?_;go_wp2;go_ret;obtain⟨h8,h9⟩:=ab.o;exact⟨rfl,aN.o.trans (h9.mono (fun _ _ h=>h.toK aH.o.bb.1)),bn',D',D',[],Or.inr ⟨ar.o,aJ.o,rfl,rfl⟩,AbsD.mono ⟨_,h8⟩ (by have:=aA.o;omega)⟩
def Qsq (B db bd bn n:Nat) (A:AD) (id:L8) (acts:List (Int×L8)) (text:L8) (w:World) (e:Ending) (w':World):Prop:=
 Fr (PDk B) w w'∧((∃ k:Nat,filesL id acts text=.error k∧e=.returned (.iface 30 (.int .i64 (k:Int)))∧AbsD w' B db bd bn n A)∨(filesL id acts text=.ok []∧e=.returned .nilIface∧AbsD w' B db bd bn n A)∨∃ fs,filesL id acts text=.ok fs∧fs≠[]∧e=.returned (Qcx (Qa1 (Qbg (QeX id text acts) fs) A).1)∧AbsD w' B db bd bn (n+1200) (Qa1 (Qbg (QeX id text acts) fs) A).2)
theorem QlB(B db bd bn n:Nat)(A:AD)(id text:L8)(aa:List (Int×L8))(av:Value)(w:World)(h:AbsD w B db bd bn n A)(aD:A.lf.down=false)(ht:Tab w)(hz:Tz w)(ha:QjB w av aa)
 (h1:id.length<=2000000) (h2:text.length<=2000000) (h3:∀ a∈aa,a.2.length<=2000000) (h4:aa.length<=2000000) (ar:A.N kJ=none) (hn:n<=450000) (hp:A.p.length<=50) (ag:Qb7 A.p) (ay:∀ fs,filesL id aa text=.ok fs->(QeX id text aa).length<=100000000) :
 Calls Tryz.prog 28 #[Qcr db,.string (sA id),av,.string (sA text)] w (Qsq B db bd bn n A id aa text w):=by
 have hmf:∀(fn:Fn) (first cap:Array Value) (w:World),(Instr.makeFunc fn first cap).run Tryz.prog w=.ok (.func fn first cap) w:=fun _ _ _ _=>rfl
 have HD:=Qab h;have aE:=Qab ag;have HT:=Qab ht;have HZ:=Qab hz;have HA:=Qab ha;have H3:=Qab h3;have aB:=Qab ar;obtain⟨a,c,aL,_⟩:=ha;subst aL;clear h ht hz h3 ar ag;unfold Qcr;go_enter func28,ntmps28;go_wp2_with fail;obtain⟨V,hV⟩:∃ V,V=(w.alloc (.cells #[.iface 52 (.pointer (some ⟨db,0,none⟩))] 75)).alloc (.cells #[.string (sA id),.slice a aa.length c,.string (sA text)] 104):=⟨_,rfl⟩;have au:V.heap[w.heap.size]?=some (.cells #[Qcr db] 75):=by rw[hV];exact Qac (Qam _ _)
 have ao:V.heap[w.heap.size+1]?=some (.cells #[.string (sA id),.slice a aa.length c,.string (sA text)] 104):=by rw[hV];exact Qaq (by simp)
 have ap:Below w.heap.size w V:=by rw[hV];exact((Below.refl _ _).alloc (Nat.le_refl _) _).alloc (by simp) _
 rw[<-hV];clear hV;have aG:=Qab au;have aK:=Qab ao;have ae:=Qab ap;have hVz:=Qar ao;clear au ao ap;refine(Qid id text aa (.slice a aa.length c) V (HT.o.below ae.o) (HA.o.below ae.o) h1 h2 H3.o h4).mono ?_;rintro e w1 ⟨ad,⟨fs,v,af,rfl,ac⟩ | ⟨k,af,rfl⟩⟩
 ·have ab:=Qab (ae.o.trans (ad.mono ae.o.size));have ak:=Qab (Qai aG.o ad);have ai:=Qab (Qai aK.o ad);obtain⟨az,h6,hN,hK⟩:=Qkq 2000000 af H3.o;have aH:=Qab (QkS.of_owns ac);have HN:=Qab hN;have HK:=Qab hK;have ah:=Qab af;obtain⟨va,vc,aC⟩:=Qat ac;subst aC;have hz1:=ad.size;have ax:fs.length<=6:=by omega
  clear ad ac hN hK af az;by_cases h0:fs.length=0
  ·have aM:Hid (fs=[]):=List.eq_nil_of_length_eq_zero h0;have aA:((fs.length:Nat):Int)=0:=by omega
   go_wp2;go_ret;refine⟨?_,Or.inr (Or.inl ⟨by rw[ah.o,aM.o],rfl,?_⟩)⟩
   ·exact Fr.of_below (ab.o.alloc ab.o.size _)
   ·exact HD.o.below (ab.o.alloc ab.o.size _)
  ·have aA:¬((fs.length:Nat):Int)=0:=by omega
   have HG:=Qab (QhJ B db bd bn n w.heap.size A id text aa a c va fs.length vc fs w w1 HD.o aD HT.o HZ.o HA.o h1 h2 H3.o aB.o (by omega) hp aE.o (ay fs ah.o) ax h6 ab.o ak.o ai.o aH.o HN.o HK.o);have aN:Hid (fs≠[]):=fun e=>h0 (by rw[e];rfl)
   go_wp2_with fail;refine HG.o.mono ?_;rintro e w2 ⟨he,aw,aq⟩;obtain⟨ev,aj⟩:∃ ev,ev=Qcx (Qa1 (Qbg (QeX id text aa) fs) A).1:=⟨_,rfl⟩;rw[<-aj]at he;subst he;have aI:=Qab aj;have aJ:=Qab aw;have aF:=Qab aq;clear aw aq aj;go_wp2;go_ret;exact⟨aJ.o,Or.inr (Or.inr ⟨fs,ah.o,aN.o,by rw[<-aI.o];rfl,aF.o⟩)⟩
 ·have ab:=Qab (ae.o.trans (ad.mono ae.o.size));have ah:=Qab af;clear ad af;go_wp2;go_ret;exact⟨Fr.of_below (ab.o.alloc ab.o.size _),Or.inl ⟨k,ah.o,rfl,HD.o.below (ab.o.alloc ab.o.size _)⟩⟩
theorem Qlq(B db bd bn n:Nat)(A:AD)(id text:L8)(aa:List (Int×L8))(av:Value)(w:World)(h:AbsD w B db bd bn n A)(ag:A.lf.down=false)(ht:Tab w)(hz:Tz w)(ha:QjB w av aa)
 (h1:id.length<=2000000) (h2:text.length<=2000000) (h3:∀ a∈aa,a.2.length<=2000000) (h4:aa.length<=2000000) (ad:A.N kJ=none) (hn:n<=450000) (hp:A.p.length<=50) (ab:Qb7 A.p) (ai:∀ fs,filesL id aa text=.ok fs->(QeX id text aa).length<=100000000) :
 Calls Tryz.prog 18 #[Qcr db,.string (sA id),av,.string (sA text)] w (Qsq B db bd bn n A id aa text w):=by
 have HL:=Qab (QlB B db bd bn n A id text aa av w h ag ht hz ha h1 h2 h3 h4 ad hn hp ab ai);obtain⟨a,c,aj,_⟩:=ha;subst aj;clear h ht hz h3 ad ab;unfold Qcr at HL ⊢;go_enter func18,ntmps18;go_wp2_with fail;refine HL.o.mono ?_;rintro e w1 ⟨hF,⟨k,he,rfl,hD⟩ | ⟨he,rfl,hD⟩ | ⟨fs,he,ae,af,hD⟩⟩
 ·have HF:=Qab hF;have HD:=Qab hD;have HE:=Qab he;clear hF hD he;go_wp2;go_ret;exact⟨HF.o,Or.inl ⟨k,HE.o,rfl,HD.o⟩⟩
 ·have HF:=Qab hF;have HD:=Qab hD;have HE:=Qab he;clear hF hD he;go_wp2;go_ret;exact⟨HF.o,Or.inr (Or.inl ⟨HE.o,rfl,HD.o⟩)⟩
 ·obtain⟨ev,ac⟩:∃ ev,ev=Qcx (Qa1 (Qbg (QeX id text aa) fs) A).1:=⟨_,rfl⟩;rw[<-ac]at af;subst af;have ah:=Qab ac;have HF:=Qab hF;have HD:=Qab hD;have HE:=Qab he;have ak:=Qab ae;clear hF hD he ac ae;go_wp2;go_ret;exact⟨HF.o,Or.inr (Or.inr ⟨fs,HE.o,ak.o,by rw[<-ah.o];rfl,HD.o⟩)⟩
end
end Go.Proofs.YthkibedbcbgajaaGreatDoor
