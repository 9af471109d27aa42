import Derived.Test.YthkibedbcbgajaaGreatDoorGCrash
namespace Go.Proofs.YthkibedbcbgajaaGreatDoor
set_option linter.unusedVariables false
set_option linter.unusedSimpArgs false
set_option maxRecDepth 100000
set_option maxHeartbeats 4000000
open Go.Proofs.Tryz
section
open Go.RowKit Go.Maps
attribute [local go_sem ↓] Go.wp_at_zero Go.wp_at_succ
def Qiw (x:L8):Bool:=Lib.hasPrefix x [46]
theorem Qk7(B:Nat)(l:List (L8))(v:Value)(w:World)(h:NamV w B v l)(hn:l.length<=1000000) :
 Calls Tryz.prog 99 #[v] w fun e w'=>∃ v',e=.returned v'/\NamV w' w.heap.size v' (l.filter Qiw)/\Below w.heap.size w w':=by
 obtain⟨va,vc,ap⟩:=Qat h;subst ap;have HN:=Qab h;obtain⟨i0,hi,ar,ai,aq⟩:=info_parts Tryz.infoStr;clear h;go_enter func99,ntmps99;go_wp2_with fail
 go_loopw [3,5,8] (fun o _ i wr=>∃ k:Nat,k<=l.length/\i=.int .i64 k/\NamV wr w.heap.size o ((l.take k).filter Qiw)/\Below w.heap.size w wr) (fun _ _ i _=>l.length - (intOf i).toNat)
 case atStart=>exact⟨0,Nat.zero_le _,rfl,World.ownsRow_nil _ _ _ _,Below.refl _ _⟩
 case round=>
  obtain⟨k,hk,rfl,aa,hB⟩:=hrel;have HB:=Qab hB;have hsz:=hB.size;have ax:((l.take k).filter Qiw).length<=1000000:=Nat.le_trans (List.length_filter_le _ _) (by rw[List.length_take];omega);obtain⟨oa,oc,ao⟩:=Qat aa;subst ao;have HR:=Qab aa;clear hB aa;by_cases hlt:k<l.length;rotate_left
  ·have hz:¬(k:Int)<(l.length:Int):=by omega
   rw[List.take_of_length_le (by omega)]at HR ax ⊢;generalize (l.filter Qiw).length=fl at *;go_wp2;go_ret;exact⟨_,rfl,HR.o,HB.o⟩
  have hlt':(k:Int)<(l.length:Int):=by omega
  have ad:Hid ((l.take (k+1)).filter Qiw=(l.take k).filter Qiw++(if Qiw l[k]=true then [l[k]]else [])):=by
   show _=_
   rw[List.take_succ_eq_append_getElem hlt,List.filter_append];by_cases hd:Qiw l[k]=true
   ·rw[if_pos hd,List.filter_cons_of_pos hd];rfl
   ·rw[if_neg hd,List.filter_cons_of_neg hd];rfl
  have av:Hid (NamV wr B (.slice va l.length vc) l):=QaR (P:=fun _ _=>False) HN.o (Fr.of_below HB.o) (fun _ _ h=>h);obtain⟨g,au,hgl,hc⟩:=QpG av.o k hlt;subst au;generalize l[k]=x at *;generalize htt:(l.take k).filter Qiw=T at *;have HTT:=Qab htt;clear htt;generalize htn:T.length=tn at *;have ag:=Qab htn;clear htn
  have ae:Hid (wr.ownsRow w.heap.size 9 1 (.slice oa tn oc) tn (T.map encStr)):=by
   have:=HR.o;unfold NamV at this;rw[ag.o]at this;exact this
  by_cases hd:Qiw x=true
  ·rw[if_pos hd]at ad;have HP:=Qab hd;clear hd;go_wp2_with (first|(go_at_call 156;refine(Tryz.strings_HasPrefix _ _ _).mono ?_;rintro e w' ⟨rfl,ab⟩;rw[ab];clear ab;rw[show Lib.hasPrefix (sA x).data.toList _=true from HP.o])|(at_builtin;refine wpList_append_own_at _ rfl _ _ 89 rfl w.heap.size 9 i0 _ 1 16 underlying89 hi ar ai aq rfl (by decide) _ _ _ rfl (World.ownsRow.alloc ae.o _) ⟨wr.heap.size,0,none⟩ 1 1 [.string (sA x)] rfl rfl (cell_one_new _ _ _) (Qyx _) (by unfold maxLen;omega) (by omega) (by simp;omega) ?_;intro v5 w5 ah af _ ac;have aw:Hid ((wr.alloc (.cells #[.string (sA x)] 9)).grownBy w5 (Value.slice oa tn oc).ownBlock):=af;have ak:=Qab ah;clear ah af ac));have aj:Below w.heap.size w w5:=QcA HB.o HB.o.size aw.o (fun k hk=>(World.ownsRow.lt ae.o k hk).1);refine⟨⟨k+1,by omega,by go_num,?_,aj⟩,by simp[intOf];omega⟩;rw[ad.o];unfold NamV;rw[List.length_append,List.map_append,ag.o];exact ak.o
  ·rw[if_neg hd,List.append_nil]at ad;have HP:Hid (Qiw x=false):=by cases h:Qiw x;rfl;exact absurd h hd
   clear hd;go_wp2_with (go_at_call 156;refine(Tryz.strings_HasPrefix _ _ _).mono ?_;rintro e w' ⟨rfl,ab⟩;rw[ab];clear ab;rw[show Lib.hasPrefix (sA x).data.toList _=false from HP.o]);refine⟨⟨k+1,by omega,by go_num,?_,HB.o⟩,by simp[intOf];omega⟩;rw[ad.o];exact HR.o
end
section
open Go.RowKit
attribute [local go_sem ↓] Go.wp_at_zero Go.wp_at_succ
def Qsb (own:Option (List Fl)):List Dop:=match own with | none=>[] | some fs=>Qa8 kJ fs
def Qdo (own:Option (List Fl)):List Dop:=sOp :: Qsb own
theorem QvL{A:AD}(h:(aDo sOp A).1=0):(aDo sOp A).2.N=A.N/\(aDo sOp A).2.p=[]/\(aDo sOp A).2.lf.down=false:=by
 have h0:(aWr A.lf).1=0:=by
  unfold aDo at h;by_cases h0:(aWr A.lf).1=0
  ·exact h0
  ·rw[if_neg h0,if_neg (by rintro⟨h1,_⟩;cases h1)]at h;exact h
 have hd:(aWr A.lf).2.down=false:=by
  unfold aWr at h0 ⊢;split
  ·rename_i hc;rw[if_pos hc]at h0;cases h0
  ·split<;>rfl
 unfold aDo;rw[if_pos h0,if_neg (by decide),if_neg (by decide)];exact⟨rfl,rfl,hd⟩
def QfW (w:World) (N:Fs) (own:Option (List Fl)):Prop:=
 match own with
 | none=>∀ x,(N x).isSome=true→Qiw x=false
 | some fs=>(∀ x,(N x).isSome=true→x≠kJ→Qiw x=false)∧fs.length≤10∧(∀ f∈fs,f.1.length≤1000∧f.2.length≤100000000)∧(∀ f∈fs,f.1≠kJ)∧∃ s,N kJ=some s∧s.length≤90000000∧∀ B W,6 < B→Fr (PDk B) w W→Calls Tryz.prog 157 #[.string (sA kJ),.string (sA s)] W (QxA fs W)
theorem QuE{l:List (L8)}(h:∀ x∈l,Qiw x=false):l.filter Qiw=[]:=by
 rw[List.filter_eq_nil_iff];intro x hx;rw[h x hx];decide
theorem QwG{l:List (L8)}(hn:l.Nodup)(hj:kJ∈l)(h:∀ x∈l,x≠kJ->Qiw x=false):l.filter Qiw=[kJ]:=by
 have hd:Qiw kJ=true:=by decide
 have e:l.filter Qiw=l.filter (fun x=>x==kJ):=by
  apply List.filter_congr;intro x hx;by_cases hk:x=kJ
  ·subst hk;rw[hd];simp
  ·rw[h x hx hk];simpa using hk
 rw[e,List.filter_beq,hn.count,if_pos hj];rfl
theorem QjE(B db bd bn n:Nat)(A:AD)(ad:Option (List Fl))(w:World)(h:AbsD w B db bd bn n A)(hB:6<B)(ht:Tab w)(ai:QfW w A.N ad)(hn:n<=450000)(hp:A.p.length<=50)(ah:Qb7 A.p) :
 Calls Tryz.prog 56 #[Qcr db] w fun e w'=>e=.returned (Qcx (Qa1 (Qdo ad) A).1)/\AbsD w' B db bd bn (n+1300) (Qa1 (Qdo ad) A).2/\Fr (PDk B) w w':=by
 have HA:=Qab h;have HT:=Qab ht;have ax:=Qab ai;have aZ:=Qab ah;have hmt:=Qqh db;have hmn:=QmJ db;have ac:Hid (Qa1 (Qdo ad) A=if(aDo sOp A).1=0 then Qa1 (Qsb ad) (aDo sOp A).2 else aDo sOp A):=rfl;clear h ht ai ah;unfold Qcr;go_enter func56,ntmps56;go_wp2_with fail;refine(Qj6 B db bd bn n A w HA.o (by omega) (by omega) aZ.o).mono ?_;rintro e w1 ⟨rfl,aJ,ay⟩;have aq:=Qab aJ;have aT:=Qab ay;clear aJ ay;by_cases h0:(aDo sOp A).1=0;rotate_left
 ·have ae:=Qab (QcH h0);rw[ae.o];rw[if_neg h0]at ac;clear h0;go_wp2;go_ret;rw[ac.o];exact⟨by rw[ae.o];rfl,aq.o.mono (by omega),aT.o⟩
 rw[if_pos h0]at ac;have aj:Qcx (aDo sOp A).1=.nilIface:=by rw[h0];rfl
 rw[aj];obtain⟨aL,aD,aU⟩:=QvL h0;have aK:=Qab aD;have aR:=Qab aU;have aO:=Qab aL;clear aj h0 aL aD aU;generalize (aDo sOp A).2=A1 at *;obtain⟨pv,av⟩:=aq.o;rw[aR.o]at av;have a0:=Qab av;clear av;go_wp2_with fail;refine(Ql8 B db bd bn _ A1.D A1.N A1.p A1.lf.left A1.lf.full pv w1 a0.o (by omega)).mono ?_;rintro e w2 ⟨aC,nv,l,rfl,ap,af,a3,aF⟩;have aX:=Qab ap;obtain⟨na,nc,a4⟩:=Qat ap;subst a4;have aG:=Qab aC;have aa:Hid (∀ x,x∈l↔(A.N x).isSome=true):=by rw[<-aO.o];exact af
 have aY:=Qab aF;have aw:l.length<=1000000:=by omega
 clear aC ap af aF a3;go_wp2_with fail;refine(Qk7 _ l _ w2 aX.o aw).mono ?_;rintro e w3 ⟨ov,rfl,ab,aS⟩;have aI:=Qab (aG.o.trans (aS.mono aG.o.size));have ak:=Qab (aT.o.trans (Fr.of_below aI.o));have aA:=Qab (aq.o.below aI.o);clear aS
 cases ad with
 |none=>
  rw[QuE (fun x hx=>ax.o x ((aa.o x).1 hx))]at ab;obtain⟨oa,oc,ar⟩:=Qat ab;subst ar;clear ab;dsimp only[List.length_nil];go_wp2_with fail
  go_loopw [7,8,25] (fun _ _ i wr=>i=.int .i64 0/\wr=w3) (fun _ _ _ _=>0)
  case atStart=>exact⟨rfl,rfl⟩
  case round=>
   obtain⟨hi,hw⟩:=hrel;subst hi hw;go_wp2;go_ret;rw[ac.o];exact⟨rfl,aA.o.mono (by omega),ak.o⟩
 |some fs=>
  obtain⟨ag,ao,az,aP,s,hs,aE,aH⟩:=ax.o;rw[QwG aY.o ((aa.o _).2 (by rw[hs];rfl)) (fun x hx=>ag x ((aa.o x).1 hx))]at ab;obtain⟨oa,oc,ar⟩:=Qat ab;subst ar;obtain⟨g,a2,hgl,hc⟩:=QpG ab 0 (by simp);subst a2;have hc0:w3.cell? ⟨g,0,none⟩=some (.string (sA kJ)):=hc;have au:=Qab (Qn1 B db bd bn (n+A.p.length) A1 kJ s w3 aA.o aR.o (by decide) (by rw[aO.o];exact hs) aE (HT.o.keep ak.o hB) fs (fun W hW=>aH B W hB (ak.o.trans (Fr.of_below hW))) ao az aP (by omega) (by rw[aK.o];simp) (by rw[aK.o];intro o ho;cases ho));clear ab hc ag az aP hs aE aH;dsimp only[List.length_singleton];go_wp2_with fail
  go_loopw [7,8,25] (fun _ _ i wr=>(i=.int .i64 0/\wr=w3)\/(i=.int .i64 1/\(Qa1 (Qa8 kJ fs) A1).1=0/\AbsD wr B db bd bn (n+A.p.length+1200) (Qa1 (Qa8 kJ fs) A1).2/\Fr (PDk B) w wr)) (fun _ _ i _=>1 - (intOf i).toNat)
  case atStart=>exact Or.inl ⟨rfl,rfl⟩
  case round=>
   rcases hrel with⟨hi,hw⟩ | ⟨hi,hz,aM,aN⟩
   ·subst hi hw;go_wp2_with fail;refine au.o.mono ?_;rintro e w4 ⟨rfl,aV,aQ⟩;have aB:=Qab aV;have aW:=Qab (ak.o.trans aQ);clear aV aQ;by_cases h4:(Qa1 (Qa8 kJ fs) A1).1=0
    ·have aj:Qcx (Qa1 (Qa8 kJ fs) A1).1=.nilIface:=by rw[h4];rfl
     rw[aj];have H4:=Qab h4;clear aj h4;go_wp2_with fail;exact⟨Or.inr ⟨rfl,H4.o,aB.o,aW.o⟩,by simp[intOf]⟩
    ·have ae:=Qab (QcH h4);rw[ae.o];clear h4;go_wp2;go_ret;rw[ac.o];exact⟨by show _=Ending.returned (Qcx (Qa1 (Qa8 kJ fs) A1).1);rw[ae.o];rfl,aB.o.mono (by omega),aW.o⟩
   ·subst hi;have HZ:=Qab hz;have a1:=Qab aM;have a5:=Qab aN;clear hz aM aN;go_wp2;go_ret;rw[ac.o];exact⟨by show _=Ending.returned (Qcx (Qa1 (Qa8 kJ fs) A1).1);rw[HZ.o];rfl,a1.o.mono (by omega),a5.o⟩
theorem Qmz(k:Int)(f:Nat)(aa:Array Value)(R:World->Prop)(w:World)(hcf:∀ args W,(callFunc f args).run Tryz.prog W=.ok (.enter f args) W)
 (hw:Calls Tryz.prog f aa (w.alloc (.cells #[.nilIface] 61)) fun e w'=>e=.returned (.iface 30 (.int .i64 k))/\w'.heap[w.heap.size]?=some (.cells #[.nilIface] 61)/\R w') :
 Calls Tryz.prog 42 #[.func (.func f) #[] aa] w fun e w'=>e=.returned (.iface 30 (.int .i64 k))/\∃ w1,R w1/\w1.heap[w.heap.size]?=some (.cells #[.nilIface] 61)/\w'=w1.setCell ⟨w.heap.size,0,none⟩ (.iface 30 (.int .i64 k)):=by
 have hmf:∀(fn:Fn)(first cap:Array Value)(w:World),(Instr.makeFunc fn first cap).run Tryz.prog w=.ok (.func fn first cap) w:=fun _ _ _ _=>rfl
 have HW:=Qab hw;clear hw;go_enter_defers func42,ntmps42;go_wp2_with fail;refine HW.o.mono ?_;rintro e w1 ⟨rfl,hE,hR⟩;have c0:w1.cell? ⟨w.heap.size,0,none⟩=some .nilIface:=Qaa hE 0;have z0:∀ j,w1.frozen? ⟨w.heap.size,j,none⟩=false:=Qah hE;have HE:=Qab hE;have HR:=Qab hR;clear hE hR;go_wp2;refine leaves_cons (f:=72) (args:=#[.pointer (some ⟨w.heap.size,0,none⟩)]) (by simp) (by simp[go_sem]) ?_;refine(QiS ⟨w.heap.size,0,none⟩ _).mono ?_;rintro e u' w'' ⟨rfl,rfl,rfl⟩;simp[Leaves,settle,results,results42,go_sem,c0];exact⟨w1,HR.o,HE.o,rfl⟩
theorem Qhz(k:Nat)(f:Nat)(aa:Array Value)(R:World->Prop)(w:World)(ab:∀ args W,(callFunc f args).run Tryz.prog W=.ok (.enter f args) W)
 (hw:Calls Tryz.prog f aa (w.alloc (.cells #[.nilIface] 61)) fun e w'=>e=.returned (Qcx k)/\w'.heap[w.heap.size]?=some (.cells #[.nilIface] 61)/\R w') :
 Calls Tryz.prog 42 #[.func (.func f) #[] aa] w fun e w'=>e=.returned (Qcx k)/\∃ w1,R w1/\w1.heap[w.heap.size]?=some (.cells #[.nilIface] 61)/\w'=w1.setCell ⟨w.heap.size,0,none⟩ (Qcx k):=by
 by_cases h:k=0
 ·subst h;exact Qpj f aa R w ab hw
 ·rw[QcH h]at hw ⊢;exact Qmz k f aa R w ab hw
theorem AbsD.er{w w':World}{B db bd bn n:Nat}{A:AD}(h:AbsD w B db bd bn n A)(hf:Fr PEr w w'):AbsD w' B db bd bn n A:=by
 obtain⟨pv,h⟩:=h;exact⟨pv,h.fr hf (fun k cs ⟨cs',e⟩=>by injection e with e1 e2;exact absurd e2 (by decide)) (fun k es c ⟨cs',e⟩=>by cases e) (fun k cs ⟨cs',e⟩=>by injection e with e1 e2;exact absurd e2 (by decide)) (fun k cs ⟨cs',e⟩=>by injection e with e1 e2;exact absurd e2 (by decide))⟩
theorem QkZ(B db bd bn n vb xb fb:Nat)(A:AD)(J:L8)(id text:L8)(a:Option Addr)(m c:Nat)(b:Option Addr)(fl fc:Nat)(fs:List Fl)(w:World)(h:AbsD w B db bd bn n A)(ai:A.lf.down=false)
 (hv:w.heap[vb]?=some (.cells #[.string (sA id),.slice a m c,.string (sA text)] 104))(hx:w.heap[xb]?=some (.cells #[Qcr db] 75))(hf:w.heap[fb]?=some (.cells #[.slice b fl fc] 40))
 (af:QkS w (.slice b fl fc) fs)(aj:J.length<=100000000)(ab:∀ W,Below w.heap.size w W->QxF J id text (.slice a m c) W)(ae:A.N kJ=none)(ag:∀ f∈fs,f.1≠kJ)
 (hn:n<=460000)(ad:fs.length<=10)(hp:A.p.length<=50)(aa:Qb7 A.p)(hs:∀ f∈fs,f.1.length<=1000/\f.2.length<=100000000) :
 Calls Tryz.prog 43 #[.pointer (some ⟨vb,0,none⟩),.pointer (some ⟨xb,0,none⟩),.pointer (some ⟨fb,0,none⟩)] w fun e w'=>e=.returned (Qcx (Qa1 (Qbg J fs) A).1)/\AbsD w' B db bd bn (n+1200) (Qa1 (Qbg J fs) A).2/\Fr (PDk B) w w':=by
 have v0:w.cell? ⟨vb,0,none⟩=some (.string (sA id)):=Qaa hv 0;have v1:w.cell? ⟨vb,1,none⟩=some (.slice a m c):=Qaa hv 1;have v2:w.cell? ⟨vb,2,none⟩=some (.string (sA text)):=Qaa hv 2;have x0:w.cell? ⟨xb,0,none⟩=some (Qcr db):=Qaa hx 0;have f0:w.cell? ⟨fb,0,none⟩=some (.slice b fl fc):=Qaa hf 0;have HL:=Qab (QqH B db bd bn n A J id text a m c b fl fc fs w h ai af aj ab ae ag hn ad hp aa hs);clear h hv hx hf af ab ae ag hs aa;unfold Qcr at x0 HL;go_enter func43,ntmps43;go_wp2_with fail;refine HL.o.mono ?_;rintro e w1 ⟨he,h1,h2⟩;obtain⟨kk,ac⟩:∃ kk,kk=(Qa1 (Qbg J fs) A).1:=⟨_,rfl⟩;rw[<-ac]at he;have ah:=Qab ac;clear ac;by_cases hz:kk=0
 ·subst hz;rw[show Qcx 0=.nilIface from rfl]at he;subst he;have H1:=Qab h1;have H2:=Qab h2;clear h1 h2;go_wp2;go_ret;exact⟨by rw[<-ah.o];rfl,H1.o,H2.o⟩
 rw[QcH hz]at he;subst he;have HZ:=Qab hz;clear hz;have H1:=Qab h1;have H2:=Qab h2;clear h1 h2;go_wp2;go_ret;exact⟨by rw[<-ah.o,QcH HZ.o];rfl,H1.o,H2.o⟩
theorem QhJ(B db bd bn n X:Nat)(A:AD)(id text:L8)(aa:List (Int×L8))(a:Option Addr)(c:Nat)(b:Option Addr)(fl fc:Nat)(fs:List Fl)(w w1:World)(h:AbsD w B db bd bn n A)(aj:A.lf.down=false)(ht:Tab w)(hz:Tz w)(ha:QjB w (.slice a aa.length c) aa)
 (h1:id.length<=2000000)(h2:text.length<=2000000)(h3:∀ a∈aa,a.2.length<=2000000)(ag:A.N kJ=none)(hn:n<=450000)(hp:A.p.length<=50)(ae:Qb7 A.p)(ah:(QeX id text aa).length<=100000000)(hf6:fs.length<=6)(h6:aa.length<=6)
 (af:Below w.heap.size w w1)(hx:w1.heap[X]?=some (.cells #[Qcr db] 75))(hv:w1.heap[X+1]?=some (.cells #[.string (sA id),.slice a aa.length c,.string (sA text)] 104))
 (ai:QkS w1 (.slice b fl fc) fs)(hN:∀ f∈fs,QjH f.1/\f.2.length<=2000000+text.length+8)(hK:∀ a∈aa,0<=a.1/\a.1<=2147483647) :
 Calls Tryz.prog 42 #[.func (.func 43) #[] #[.pointer (some ⟨X+1,0,none⟩),.pointer (some ⟨X,0,none⟩),.pointer (some ⟨w1.heap.size,0,none⟩)]] (w1.alloc (.cells #[.slice b fl fc] 40)) fun e w'=>e=.returned (Qcx (Qa1 (Qbg (QeX id text aa) fs) A).1)/\Fr (PDk B) w w'/\AbsD w' B db bd bn (n+1200) (Qa1 (Qbg (QeX id text aa) fs) A).2:=by
 obtain⟨Y,hY⟩:∃ Y,Y=(w1.alloc (.cells #[.slice b fl fc] 40)).alloc (.cells #[.nilIface] 61):=⟨_,rfl⟩;have ad:Below w1.heap.size w1 Y:=by rw[hY];exact((Below.refl _ _).alloc (Nat.le_refl _) _).alloc (by simp) _
 have ab:Below w.heap.size w Y:=af.trans (ad.mono af.size);have ap:Y.heap[w1.heap.size]?=some (.cells #[.slice b fl fc] 40):=by rw[hY];exact Qac (Qam _ _)
 have ak:Y.heap[(w1.alloc (.cells #[.slice b fl fc] 40)).heap.size]?=some (.cells #[.nilIface] 61):=by rw[hY];exact Qam _ _
 have ac:=QkZ B db bd bn n (X+1) X w1.heap.size A (QeX id text aa) id text a aa.length c b fl fc fs Y (h.below ab) aj (Qai hv ad) (Qai hx ad) ap (ai.fr (P:=fun _ _=>False) (Fr.of_below ad) (fun _ _ h=>h)) ah
  (fun W hW=>Qnb id text kJ aa (.slice a aa.length c) W (ht.below (ab.trans (hW.mono ab.size))) (hz.below (ab.trans (hW.mono ab.size))) (ha.below (ab.trans (hW.mono ab.size))) h1 h2 (fun a ha=>⟨h3 a ha,hK a ha⟩) (by omega) (by decide)) ag;(fun f hf e=>by obtain⟨_,c0,r,e1,e2⟩:=(hN f hf).1;rw[e]at e1;injection e1 with e3 _;exact e2 e3.symm) (by omega) (by omega) hp ae (fun f hf=>⟨by have:=(hN f hf).1.1;omega,by have:=(hN f hf).2;omega⟩)
 rw[hY]at ac;refine(Qhz (Qa1 (Qbg (QeX id text aa) fs) A).1 43 _ (fun w'=>AbsD w' B db bd bn (n+1200) (Qa1 (Qbg (QeX id text aa) fs) A).2/\Fr (PDk B) Y w') _ (fun _ _=>by kernel_rfl) (ac.mono ?_)).mono ?_
 ·rintro e w' ⟨rfl,hD,hF⟩;rw[<-hY]at hF;exact⟨rfl,hF.block _ _ ak PDk.notEr,hD,hF⟩
 ·rintro e w' ⟨rfl,w2,⟨hD,hF⟩,hE,rfl⟩;have ao:Fr (PDk B) w w2:=(Fr.of_below ab).trans hF;refine⟨rfl,ao.setNew _ (Nat.le_trans af.size (by simp)) _ _,hD.er ((Fr.refl _ w2).set hE ⟨_,rfl⟩ _ _)⟩
def Qmg (B db bd bn n:Nat) (A:AD) (own:Option (List Fl)) (w:World) (e:Ending) (w':World):Prop:=
 e=.returned (Qcx (Qa1 (Qdo own) A).1)∧AbsD w' B db bd bn (n+1300) (Qa1 (Qdo own) A).2∧Fr (PDk B) w w'
theorem QfW.fr{w w':World}{N:Fs}{aa:Option (List Fl)}{B0:Nat}(h:QfW w N aa)(hb:Below w.heap.size w w'):QfW w' N aa:=by
 cases aa with
 |none=>exact h
 |some fs=>
  obtain⟨h1,h2,h3,h4,s,h5,h6,h7⟩:=h;exact⟨h1,h2,h3,h4,s,h5,h6,fun B W hB hf=>h7 B W hB ((Fr.of_below hb).trans hf)⟩
theorem Qk5(B db bd bn n xb:Nat)(A:AD)(ac:Option (List Fl))(w:World)(h:AbsD w B db bd bn n A)(hB:6<B)(ht:Tab w)(aa:QfW w A.N ac)(hn:n<=450000)(hp:A.p.length<=50)(ab:Qb7 A.p)(hx:w.heap[xb]?=some (.cells #[Qcr db] 75)) :
 Calls Tryz.prog 55 #[.pointer (some ⟨xb,0,none⟩)] w (Qmg B db bd bn n A ac w):=by
 have x0:w.cell? ⟨xb,0,none⟩=some (Qcr db):=Qaa hx 0;have HL:=Qab (QjE B db bd bn n A ac w h hB ht aa hn hp ab);clear h hx aa ht ab;unfold Qcr at x0 HL;go_enter func55,ntmps55;go_wp2_with fail;refine HL.o.mono ?_;rintro e w1 ⟨he,h1,h2⟩;obtain⟨ev,ad⟩:∃ ev,ev=Qcx (Qa1 (Qdo ac) A).1:=⟨_,rfl⟩;rw[<-ad]at he;subst he;have ae:=Qab ad;have H1:=Qab h1;have H2:=Qab h2;clear h1 h2 ad;go_wp2;go_ret;exact⟨by rw[<-ae.o];rfl,H1.o,H2.o⟩
theorem QhC(B db bd bn n:Nat)(A:AD)(ab:Option (List Fl))(w:World)(h:AbsD w B db bd bn n A)(hB:6<B)(ht:Tab w)(ad:QfW w A.N ab)(hn:n<=450000)(hp:A.p.length<=50)(ae:Qb7 A.p) :
 Calls Tryz.prog 42 #[.func (.func 55) #[] #[.pointer (some ⟨w.heap.size,0,none⟩)]] (w.alloc (.cells #[Qcr db] 75)) (Qmg B db bd bn n A ab w):=by
 obtain⟨Y,hY⟩:∃ Y,Y=(w.alloc (.cells #[Qcr db] 75)).alloc (.cells #[.nilIface] 61):=⟨_,rfl⟩;have ac:Below w.heap.size w Y:=by rw[hY];exact((Below.refl _ _).alloc (Nat.le_refl _) _).alloc (by simp) _
 have af:Y.heap[w.heap.size]?=some (.cells #[Qcr db] 75):=by rw[hY];exact Qac (Qam _ _)
 have ag:Y.heap[(w.alloc (.cells #[Qcr db] 75)).heap.size]?=some (.cells #[.nilIface] 61):=by rw[hY];exact Qam _ _
 have aa:=Qk5 B db bd bn n w.heap.size A ab Y (h.below ac) hB (ht.below ac) (QfW.fr (B0:=0) ad ac) hn hp ae af;rw[hY]at aa;refine(Qhz (Qa1 (Qdo ab) A).1 55 _ (fun w'=>AbsD w' B db bd bn (n+1300) (Qa1 (Qdo ab) A).2/\Fr (PDk B) Y w') _ (fun _ _=>by kernel_rfl) (aa.mono ?_)).mono ?_
 ·rintro e w' ⟨rfl,hD,hF⟩;rw[<-hY]at hF;exact⟨rfl,hF.block _ _ ag PDk.notEr,hD,hF⟩
 ·rintro e w' ⟨rfl,w2,⟨hD,hF⟩,hE,rfl⟩;have ah:Fr (PDk B) w w2:=(Fr.of_below ac).trans hF;exact⟨rfl,hD.er ((Fr.refl _ w2).set hE ⟨_,rfl⟩ _ _),ah.setNew _ (by simp) _ _⟩
theorem QkH(B db bd bn n:Nat)(A:AD)(ac:Option (List Fl))(w:World)(h:AbsD w B db bd bn n A)(hB:6<B)(ht:Tab w)(aa:QfW w A.N ac)(hn:n<=450000)(hp:A.p.length<=50)(ab:Qb7 A.p) :
 Calls Tryz.prog 35 #[Qcr db] w (Qmg B db bd bn n A ac w):=by
 have hmf:∀(fn:Fn)(first cap:Array Value)(w:World),(Instr.makeFunc fn first cap).run Tryz.prog w=.ok (.func fn first cap) w:=fun _ _ _ _=>rfl
 have HL:=Qab (QhC B db bd bn n A ac w h hB ht aa hn hp ab);clear h aa ht ab;unfold Qcr at HL ⊢;go_enter func35,ntmps35;go_wp2_with fail;refine HL.o.mono ?_;rintro e w1 ⟨he,h1,h2⟩;obtain⟨ev,ad⟩:∃ ev,ev=Qcx (Qa1 (Qdo ac) A).1:=⟨_,rfl⟩;rw[<-ad]at he;subst he;have ae:=Qab ad;have H1:=Qab h1;have H2:=Qab h2;clear h1 h2 ad;go_wp2;go_ret;exact⟨by rw[<-ae.o];rfl,H1.o,H2.o⟩
theorem QlL(B db bd bn n:Nat)(A:AD)(ac:Option (List Fl))(w:World)(h:AbsD w B db bd bn n A)(hB:6<B)(ht:Tab w)(aa:QfW w A.N ac)(hn:n<=450000)(hp:A.p.length<=50)(ab:Qb7 A.p) :
 Calls Tryz.prog 22 #[Qcr db] w (Qmg B db bd bn n A ac w):=by
 have HL:=Qab (QkH B db bd bn n A ac w h hB ht aa hn hp ab);clear h aa ht ab;unfold Qcr at HL ⊢;go_enter func22,ntmps22;go_wp2_with fail;refine HL.o.mono ?_;rintro e w1 ⟨he,h1,h2⟩;obtain⟨ev,ad⟩:∃ ev,ev=Qcx (Qa1 (Qdo ac) A).1:=⟨_,rfl⟩;rw[<-ad]at he;subst he;have ae:=Qab ad;have H1:=Qab h1;have H2:=Qab h2;clear h1 h2 ad;go_wp2;go_ret;exact⟨by rw[<-ae.o];rfl,H1.o,H2.o⟩
theorem DJ.aim{w:World}{B db bd bn n:Nat}{D N:Fs}{p:List Dop}{ql qf:Int}{dn:Bool}{pv:Value}(h:DJ w B db bd bn n D N p ql qf dn pv)(l f:Int) :
 DJ ((w.setCell ⟨db,3,none⟩ (.int .i64 l)).setCell ⟨db,4,none⟩ (.int .i64 f)).drew B db bd bn n D N p l f dn pv/\Fr (PDb db) w ((w.setCell ⟨db,3,none⟩ (.int .i64 l)).setCell ⟨db,4,none⟩ (.int .i64 f)).drew:=by
 have h1:=Qag w db 3 (.int .i64 l) _ _ h.blk;have h2:=Qag _ db 4 (.int .i64 f) _ _ h1;have hf:Fr (PDb db) w ((w.setCell ⟨db,3,none⟩ (.int .i64 l)).setCell ⟨db,4,none⟩ (.int .i64 f)).drew:=(((Fr.refl _ w).set h.blk ⟨rfl,_,rfl⟩ 3 _).set h1 ⟨rfl,_,rfl⟩ 4 _).drew;exact⟨h.turn hf h2,hf⟩
theorem Qm7(k:Nat)(w:World)(hg:Qfv w) :
 Calls Tryz.prog 19 #[Qcx k] w fun e w'=>e=.returned (.tuple #[.int .i64 (k:Int),.int .i64 (-1)])/\Below w.heap.size w w':=by
 by_cases h:k=0
 ·subst h;exact QlD w
 ·rw[QcH h];exact Qg2 (k:Int) w hg
theorem QfW.kept{w w':World}{N:Fs}{aa:Option (List Fl)}{B:Nat}(h:QfW w N aa)(hf:Fr (PDk B) w w')(hB:6<B):QfW w' N aa:=by
 cases aa with
 |none=>exact h
 |some fs=>
  obtain⟨h1,h2,h3,h4,s,h5,h6,h7⟩:=h;exact⟨h1,h2,h3,h4,s,h5,h6,fun B' W hB' hf'=>h7 (min B B') W (by omega) ((hf.mono (fun k o hk=>⟨by have:=hk.1;omega,hk.2⟩)).trans (hf'.mono (fun k o hk=>⟨by have:=hk.1;omega,hk.2⟩)))⟩
def BoxEnd (R:AD) (D' N':Fs) (p':List Dop):Prop:=(R.lf.down=false∧D'=R.D∧N'=R.N∧p'=R.p)∨(R.lf.down=true∧CrashOf R.D R.p D'∧N'=D'∧p'=[])
theorem QkJ(B bb db bd bn n:Nat)(D N:Fs)(p:List Dop)(l f kp pt:Int)(ar:Option (List Fl))(R:Nat×AD)(w:World)(hb:w.heap[bb]?=some (.cells #[.pointer (some ⟨db,0,none⟩)] 55))(h:AbsD w B db bd bn n ⟨D,N,p,⟨-1,-1,false⟩⟩)(hB:6<B)(ht:Tab w)(hg:Qfv w)(ae:QfW w N ar)(hn:n<=450000)(hp:p.length<=50)(ad:Qb7 p)
 (hR:R=Qa1 (Qdo ar) ⟨D,N,p,⟨l,f,false⟩⟩)(aG:R.2.p.length<=100)(aE:Qb7 R.2.p)(au:∀ o∈R.2.p,o.data.length<=100000000)(aT:-9223372036854775808<=pt)(aR:pt<=9223372036854775807) :
 Calls Tryz.prog 12 #[.pointer (some ⟨bb,0,none⟩),.int .i64 l,.int .i64 f,.int .i64 kp,.int .i64 pt] w fun e w'=>e=.returned (.int .i64 (R.1:Int))/\Fr (PDk B) w w'/\∃ bn' D' N' p',BoxEnd R.2 D' N' p'/\AbsD w' B db bd bn' (n+1400) ⟨D',N',p',⟨-1,-1,false⟩⟩:=by
 obtain⟨pv,h⟩:=h;have h':DJ w B db bd bn n D N p (-1) (-1) false pv:=h;have HD:=Qab h';have HT:=Qab ht;have HG:=Qab hg;have aI:=Qab ae;have aU:=Qab hb;have HR:=Qab hR;have ax:=Qab aG;have aM:=Qab aE;have aV:=Qab au;have aS:=Qab ad;have b0:w.cell? ⟨bb,0,none⟩=some (.pointer (some ⟨db,0,none⟩)):=Qaa hb 0;have d3:w.cell? ⟨db,3,none⟩=some (.int .i64 (-1)):=Qaa h'.blk 3;have d4:w.cell? ⟨db,4,none⟩=some (.int .i64 (-1)):=Qaa h'.blk 4;have z0:∀ j,w.frozen? ⟨db,j,none⟩=false:=Qah h'.blk;clear h h' ae hb ht hg ad hR aG aE au;go_enter func12,ntmps12;go_wp2_with fail;refine wp_region_noPanic ?_;go_region;refine NoPanic.normal ?_;obtain⟨W,hW⟩:∃ W,W=((w.setCell ⟨db,3,none⟩ (.int .i64 l)).setCell ⟨db,4,none⟩ (.int .i64 f)).drew:=⟨_,rfl⟩;obtain⟨ai,ag⟩:=HD.o.aim l f;rw[<-hW]at ai ag;rw[<-hW];have ak:Hid (Fr (PDk B) w W):=ag.mono (fun _ _ h=>h.toK HD.o.bb.1);have aC:=Qab (ag.block _ _ aU.o (fun⟨_,cs,e⟩=>by injection e with e1 e2;exact absurd e2 (by decide)));have b5:W.cell? ⟨bb,0,none⟩=some (.pointer (some ⟨db,0,none⟩)):=Qaa aC.o 0;have HL:=Qab (QlL B db bd bn n ⟨D,N,p,⟨l,f,false⟩⟩ ar W ⟨pv,ai⟩ hB (HT.o.keep ak.o hB) (QfW.kept aI.o ak.o hB) hn hp aS.o);unfold Qmg at HL;rw[<-HR.o]at HL;unfold Qcr at HL;clear hW ai ag b0 d3 d4 z0;go_wp2_with fail;refine HL.o.mono ?_;rintro e w6 ⟨ay,⟨pv6,aw⟩,ap⟩;obtain⟨ev,aq⟩:∃ ev,ev=Qcx R.1:=⟨_,rfl⟩;rw[<-aq]at ay;subst ay;have aF:=Qab (ak.o.trans ap);have aL:=Qab (ap.block _ _ aC.o PDk.notBox);have aP:=Qab aw;have aB:Hid (Calls Tryz.prog 19 #[ev] w6 fun e w'=>e=.returned (.tuple #[.int .i64 (R.1:Int),.int .i64 (-1)])/\Below w6.heap.size w6 w'):=by rw[aq];exact Qm7 R.1 w6 (aF.o.lowCell (a:=⟨0,0,none⟩) (by show 0<B;omega) HG.o)
 clear ap b5 aw aq HL;go_wp2_with fail;refine aB.o.mono ?_;rintro e w7 ⟨rfl,af⟩;have ac:=Qab (aP.o.below af);have aD:Hid (Fr (PDk B) w w7):=aF.o.trans (Fr.of_below af);have aj:=Qai aL.o af;have b0:w7.cell? ⟨bb,0,none⟩=some (.pointer (some ⟨db,0,none⟩)):=Qaa aj 0;have d3:w7.cell? ⟨db,3,none⟩=some (.int .i64 R.2.lf.left):=Qaa ac.o.blk 3;have d4:w7.cell? ⟨db,4,none⟩=some (.int .i64 R.2.lf.full):=Qaa ac.o.blk 4;have d5:w7.cell? ⟨db,5,none⟩=some (.bool R.2.lf.down):=Qaa ac.o.blk 5;have z0:∀ j,w7.frozen? ⟨db,j,none⟩=false:=Qah ac.o.blk;have aO:=Qab aj;have ab:=Qab (ac.o.aim (-1) (-1));clear af aj aB;generalize hdn:R.2.lf.down=dn at *;have ao:=Qab hdn;clear hdn
 cases dn with
 |false=>
  go_wp2_with fail;refine wp_region_noPanic ?_;go_region;refine NoPanic.normal ?_;go_wp2;go_ret;obtain⟨h8,h9⟩:=ab.o;exact⟨rfl,aD.o.trans (h9.mono (fun _ _ h=>h.toK ac.o.bb.1)),bn,R.2.D,R.2.N,R.2.p,Or.inl ⟨ao.o,rfl,rfl,rfl⟩,AbsD.mono ⟨_,h8⟩ (by omega)⟩
 |true=>
  have aH:=Qab (Qkj B db bd bn (n+1300) R.2 kp pt w7 ⟨_,by rw[ao.o];exact ac.o⟩ (by omega) (by have:=ax.o;omega) aM.o aV.o aT aR);clear ab d3 d4 z0;go_wp2_with fail;refine aH.o.mono ?_;rintro e w8 ⟨rfl,ah,bn',D',aA,aQ,av⟩;have aa:DJ w8 B db bd bn' (n+1300+R.2.p.length) D' D' [] (-1) (-1) false aQ:=av;have aJ:=Qab aa;have az:=ah.block _ _ aO.o PDk.notBox;have b8:w8.cell? ⟨bb,0,none⟩=some (.pointer (some ⟨db,0,none⟩)):=Qaa az 0;have e3:w8.cell? ⟨db,3,none⟩=some (.int .i64 (-1)):=Qaa aa.blk 3;have e4:w8.cell? ⟨db,4,none⟩=some (.int .i64 (-1)):=Qaa aa.blk 4;have y0:∀ j,w8.frozen? ⟨db,j,none⟩=false:=Qah aa.blk;have ab:=Qab (aa.aim (-1) (-1));have aK:=Qab (aD.o.trans ah);have aN:=Qab aA;clear av aa az ah aA b0 d5;go_wp2_with fail;refine wp_region_noPanic ?_;go_region;refine NoPanic.normal ?_;go_wp2;go_ret;obtain⟨h8,h9⟩:=ab.o;exact⟨rfl,aK.o.trans (h9.mono (fun _ _ h=>h.toK aJ.o.bb.1)),bn',D',D',[],Or.inr ⟨ao.o,aN.o,rfl,rfl⟩,AbsD.mono ⟨_,h8⟩ (by have:=ax.o;omega)⟩
def Qsq (B db bd bn n:Nat) (A:AD) (id:L8) (acts:List (Int×L8)) (text:L8) (w:World) (e:Ending) (w':World):Prop:=
 Fr (PDk B) w w'∧((∃ k:Nat,filesL id acts text=.error k∧e=.returned (.iface 30 (.int .i64 (k:Int)))∧AbsD w' B db bd bn n A)∨(filesL id acts text=.ok []∧e=.returned .nilIface∧AbsD w' B db bd bn n A)∨∃ fs,filesL id acts text=.ok fs∧fs≠[]∧e=.returned (Qcx (Qa1 (Qbg (QeX id text acts) fs) A).1)∧AbsD w' B db bd bn (n+1200) (Qa1 (Qbg (QeX id text acts) fs) A).2)
theorem QlB(B db bd bn n:Nat)(A:AD)(id text:L8)(aa:List (Int×L8))(av:Value)(w:World)(h:AbsD w B db bd bn n A)(aN:A.lf.down=false)(ht:Tab w)(hz:Tz w)(ha:QjB w av aa)
 (h1:id.length<=2000000)(h2:text.length<=2000000)(h3:∀ a∈aa,a.2.length<=2000000)(h4:aa.length<=2000000)(aq:A.N kJ=none)(hn:n<=450000)(hp:A.p.length<=50)(ah:Qb7 A.p)(aE:∀ fs,filesL id aa text=.ok fs->(QeX id text aa).length<=100000000) :
 Calls Tryz.prog 28 #[Qcr db,.string (sA id),av,.string (sA text)] w (Qsq B db bd bn n A id aa text w):=by
 have hmf:∀(fn:Fn)(first cap:Array Value)(w:World),(Instr.makeFunc fn first cap).run Tryz.prog w=.ok (.func fn first cap) w:=fun _ _ _ _=>rfl
 have HD:=Qab h;have aF:=Qab ah;have HT:=Qab ht;have HZ:=Qab hz;have HA:=Qab ha;have H3:=Qab h3;have aL:=Qab aq;obtain⟨a,c,aK,_⟩:=ha;subst aK;clear h ht hz h3 aq ah;unfold Qcr;go_enter func28,ntmps28;go_wp2_with fail;obtain⟨V,hV⟩:∃ V,V=(w.alloc (.cells #[.iface 52 (.pointer (some ⟨db,0,none⟩))] 75)).alloc (.cells #[.string (sA id),.slice a aa.length c,.string (sA text)] 104):=⟨_,rfl⟩;have ar:V.heap[w.heap.size]?=some (.cells #[Qcr db] 75):=by rw[hV];exact Qac (Qam _ _)
 have aj:V.heap[w.heap.size+1]?=some (.cells #[.string (sA id),.slice a aa.length c,.string (sA text)] 104):=by rw[hV];exact Qaq (by simp)
 have ap:Below w.heap.size w V:=by rw[hV];exact((Below.refl _ _).alloc (Nat.le_refl _) _).alloc (by simp) _
 rw[<-hV];clear hV;have aG:=Qab ar;have ax:=Qab aj;have af:=Qab ap;have hVz:=Qar aj;clear ar aj ap;refine(Qid id text aa (.slice a aa.length c) V (HT.o.below af.o) (HA.o.below af.o) h1 h2 H3.o h4).mono ?_;rintro e w1 ⟨ac,⟨fs,v,ae,rfl,ad⟩ | ⟨k,ae,rfl⟩⟩
 ·have ab:=Qab (af.o.trans (ac.mono af.o.size));have ai:=Qab (Qai aG.o ac);have ao:=Qab (Qai ax.o ac);obtain⟨aM,h6,hN,hK⟩:=Qkq 2000000 ae H3.o;have aC:=Qab (QkS.of_owns ad);have HN:=Qab hN;have HK:=Qab hK;have ag:=Qab ae;obtain⟨va,vc,aI⟩:=Qat ad;subst aI;have hz1:=ac.size;have aD:fs.length<=6:=by omega
  clear ac ad hN hK ae aM;by_cases h0:fs.length=0
  ·have aA:Hid (fs=[]):=List.eq_nil_of_length_eq_zero h0;have ay:((fs.length:Nat):Int)=0:=by omega
   go_wp2;go_ret;refine⟨?_,Or.inr (Or.inl ⟨by rw[ag.o,aA.o],rfl,?_⟩)⟩
   ·exact Fr.of_below (ab.o.alloc ab.o.size _)
   ·exact HD.o.below (ab.o.alloc ab.o.size _)
  ·have ay:¬((fs.length:Nat):Int)=0:=by omega
   have HG:=Qab (QhJ B db bd bn n w.heap.size A id text aa a c va fs.length vc fs w w1 HD.o aN HT.o HZ.o HA.o h1 h2 H3.o aL.o (by omega) hp aF.o (aE fs ag.o) aD h6 ab.o ai.o ao.o aC.o HN.o HK.o);have aJ:Hid (fs≠[]):=fun e=>h0 (by rw[e];rfl)
   go_wp2_with fail;refine HG.o.mono ?_;rintro e w2 ⟨he,au,aw⟩;obtain⟨ev,ak⟩:∃ ev,ev=Qcx (Qa1 (Qbg (QeX id text aa) fs) A).1:=⟨_,rfl⟩;rw[<-ak]at he;subst he;have aH:=Qab ak;have aB:=Qab au;have az:=Qab aw;clear au aw ak;go_wp2;go_ret;exact⟨aB.o,Or.inr (Or.inr ⟨fs,ag.o,aJ.o,by rw[<-aH.o];rfl,az.o⟩)⟩
 ·have ab:=Qab (af.o.trans (ac.mono af.o.size));have ag:=Qab ae;clear ac ae;go_wp2;go_ret;exact⟨Fr.of_below (ab.o.alloc ab.o.size _),Or.inl ⟨k,ag.o,rfl,HD.o.below (ab.o.alloc ab.o.size _)⟩⟩
theorem Qlq(B db bd bn n:Nat)(A:AD)(id text:L8)(aa:List (Int×L8))(av:Value)(w:World)(h:AbsD w B db bd bn n A)(aj:A.lf.down=false)(ht:Tab w)(hz:Tz w)(ha:QjB w av aa)
 (h1:id.length<=2000000)(h2:text.length<=2000000)(h3:∀ a∈aa,a.2.length<=2000000)(h4:aa.length<=2000000)(ad:A.N kJ=none)(hn:n<=450000)(hp:A.p.length<=50)(ab:Qb7 A.p)(ak:∀ fs,filesL id aa text=.ok fs->(QeX id text aa).length<=100000000) :
 Calls Tryz.prog 18 #[Qcr db,.string (sA id),av,.string (sA text)] w (Qsq B db bd bn n A id aa text w):=by
 have HL:=Qab (QlB B db bd bn n A id text aa av w h aj ht hz ha h1 h2 h3 h4 ad hn hp ab ak);obtain⟨a,c,ai,_⟩:=ha;subst ai;clear h ht hz h3 ad ab;unfold Qcr at HL ⊢;go_enter func18,ntmps18;go_wp2_with fail;refine HL.o.mono ?_;rintro e w1 ⟨hF,⟨k,he,rfl,hD⟩ | ⟨he,rfl,hD⟩ | ⟨fs,he,af,ae,hD⟩⟩
 ·have HF:=Qab hF;have HD:=Qab hD;have HE:=Qab he;clear hF hD he;go_wp2;go_ret;exact⟨HF.o,Or.inl ⟨k,HE.o,rfl,HD.o⟩⟩
 ·have HF:=Qab hF;have HD:=Qab hD;have HE:=Qab he;clear hF hD he;go_wp2;go_ret;exact⟨HF.o,Or.inr (Or.inl ⟨HE.o,rfl,HD.o⟩)⟩
 ·obtain⟨ev,ac⟩:∃ ev,ev=Qcx (Qa1 (Qbg (QeX id text aa) fs) A).1:=⟨_,rfl⟩;rw[<-ac]at ae;subst ae;have ag:=Qab ac;have HF:=Qab hF;have HD:=Qab hD;have HE:=Qab he;have ah:=Qab af;clear hF hD he ac af;go_wp2;go_ret;exact⟨HF.o,Or.inr (Or.inr ⟨fs,HE.o,ah.o,by rw[<-ag.o];rfl,HD.o⟩)⟩
end
end Go.Proofs.YthkibedbcbgajaaGreatDoor
