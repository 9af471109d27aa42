import Derived.Sort.OwnSorted
import Derived.Test.YthkibedbcbgajaaGreatDoorZAAdd
namespace Go.Proofs.YthkibedbcbgajaaGreatDoor
set_option linter.unusedVariables false
set_option linter.unusedSimpArgs false
set_option maxRecDepth 100000
set_option maxHeartbeats 4000000
open Go.Proofs.Tryz
section
open Go.RowKit
attribute [local go_sem ↓] Go.wp_at_zero Go.wp_at_succ
theorem Qu1(id text:L8)(n:Nat)(aa:L8):(⟨#[111,117,116,47]⟩:ByteArray)++sA id++(⟨#[46]⟩:ByteArray)++sA (iL n)=sA (outL id text n aa).1:=by
 show sA QxV++sA id++sA [46]++sA (iL n)=_
 rw[QbW,QbW,QbW];rfl
theorem QvE(id text:L8)(n:Nat)(aa:L8):sA aa++(⟨#[10]⟩:ByteArray)++sA text=sA (outL id text n aa).2:=by
 show sA aa++sA [10]++sA text=_
 rw[QbW,QbW];rfl
theorem Qtk(id text aa:L8)(n:Nat)(a:Option Addr)(m c:Nat)(w:World)(ht:Tab w)(hn:n<=1000000)(h1:id.length<=2000000)(h2:text.length<=2000000)(h3:aa.length<=4000000) :
 Calls Tryz.prog 145 #[.agg #[.string (sA id),.slice a m c,.string (sA text)],.int .i64 n,.string (sA aa)] w fun e w'=>e=.returned (.agg #[.string (sA (outL id text n aa).1),.string (sA (outL id text n aa).2)])/\Below w.heap.size w w':=by
 have hz1:=Qal id;have hz2:=Qal text;have hz3:=Qal aa;go_enter func145,ntmps145;go_wp2_with fail;obtain⟨V,hV⟩:∃ V,V=(w.alloc (.cells #[.string (sA id),.slice a m c,.string (sA text)] 104)).alloc (.cells #[.string ⟨#[]⟩,.string ⟨#[]⟩] 39):=⟨_,rfl⟩;have ae:Below w.heap.size w V:=by rw[hV];exact((Below.refl _ _).alloc (Nat.le_refl _) _).alloc (by simp) _
 have hv:V.heap[w.heap.size]?=some (.cells #[.string (sA id),.slice a m c,.string (sA text)] 104):=by rw[hV];exact Qac (Qam _ _)
 have hr:V.heap[w.heap.size+1]?=some (.cells #[.string ⟨#[]⟩,.string ⟨#[]⟩] 39):=by rw[hV];exact Qaq (by simp)
 have ad:=Qab ae;have af:=Qab hv;have ai:=Qab hr;have v0:V.cell? ⟨w.heap.size,0,none⟩=some (.string (sA id)):=Qaa hv 0;have v2:V.cell? ⟨w.heap.size,2,none⟩=some (.string (sA text)):=Qaa hv 2;rw[<-hV];have ah:Hid (Tab V):=ht.below ad.o;have hil:=Qdm n (by omega);have hzi:=Qal (iL n);have k1:¬ 9223372036854775807<4+id.length:=by omega
 have k2:¬ 9223372036854775807<4+id.length+1:=by omega
 have k3:¬ 9223372036854775807<4+id.length+1+(iL n).length:=by omega
 have k4:¬ 9223372036854775807<aa.length+1:=by omega
 have k5:¬ 9223372036854775807<aa.length+1+text.length:=by omega
 clear hV ae hv hr;go_region_held3 (fun w'=>w'.cell? ⟨w.heap.size,0,none⟩=some (.string (sA id))/\w'.cell? ⟨w.heap.size,2,none⟩=some (.string (sA text))) (first|go_keep|exact⟨q0,q2⟩) (first|(go_at_call 147;refine(QgD n (by omega) V.drew ah.o).mono ?_;rintro e w1 ⟨rfl,ag⟩;have ab:=QaT ag;have aj:=Qab ab;have q0:w1.cell? ⟨w.heap.size,0,none⟩=some (.string (sA id)):=Qaa (Qai af.o ab) 0;have q2:w1.cell? ⟨w.heap.size,2,none⟩=some (.string (sA text)):=Qaa (Qai af.o ab) 2;have ac:=Qai ai.o ab;have r0:w1.cell? ⟨w.heap.size+1,0,none⟩=some (.string ⟨#[]⟩):=Qaa ac 0;have r1:w1.cell? ⟨w.heap.size+1,1,none⟩=some (.string ⟨#[]⟩):=Qaa ac 1;have rf:∀ j,w1.frozen? ⟨w.heap.size+1,j,none⟩=false:=fun j=>Qah ac j;clear ag ab ac;skip))
 all_goals go_wp2
 all_goals have a1:(⟨#[111,117,116,47]⟩:ByteArray)++sA id++(⟨#[46]⟩:ByteArray)++sA (iL n)=sA (outL id text n aa).1:=Qu1 id text n aa
 all_goals have a2:sA aa++(⟨#[10]⟩:ByteArray)++sA text=sA (outL id text n aa).2:=QvE id text n aa
 all_goals rw[a1,a2]
 all_goals refine bodyPost_ret (v:=.agg #[.string (sA (outL id text n aa).1),.string (sA (outL id text n aa).2)]) (by simp[results,results145,go_sem,r0,r1]) rfl ?_
 all_goals exact⟨rfl,((ad.o.trans (aj.o.mono ad.o.size)).setCell (by simp) _).setCell (by simp) _⟩
def QwP (r:Except Nat (L8×L8)):Value:=
 match r with
 | .ok f=>.tuple #[.agg #[.string (sA f.1),.string (sA f.2)],.nilIface]
 | .error e=>.tuple #[.agg #[.string ⟨#[]⟩,.string ⟨#[]⟩],.iface 30 (.int .i64 (e:Int))]
theorem QsK(id:L8):(⟨#[105,110,98,111,120,47]⟩:ByteArray)++sA id=sA (Qh5++id):=QbW Qh5 id
theorem QwR(x id:L8):(⟨#[98,111,120,47]⟩:ByteArray)++sA x++(⟨#[47]⟩:ByteArray)++sA id=sA (Qvf++x++[47]++id):=by
 show sA Qvf++sA x++sA [47]++sA id=_
 rw[QbW,QbW,QbW]
theorem QxT(x:L8):(⟨#[116,111,32]⟩:ByteArray)++sA x=sA (QvS++x):=QbW QvS x
theorem Qwy(x:L8):(⟨#[114,101,106,101,99,116,32]⟩:ByteArray)++sA x=sA (QdD++x):=QbW QdD x
theorem Qul(id text x:L8)(kind:Int)(n:Nat)(a:Option Addr)(m c:Nat)(w:World)(ht:Tab w)(hn:n<=1000000)(h1:id.length<=2000000)(h2:text.length<=2000000)(h3:x.length<=2000000) :
 Calls Tryz.prog 71 #[.agg #[.string (sA id),.slice a m c,.string (sA text)],.int .i64 n,.agg #[.int .i64 kind,.string (sA x)]] w fun e w'=>e=.returned (QwP (fileL id text n (kind,x)))/\Below w.heap.size w w':=by
 have hz1:=Qal id;have hz2:=Qal text;have hz3:=Qal x;have HT:=Qab ht;clear ht;by_cases k1:kind=1
 ·subst k1;have HR:Hid (fileL id text n (1,x)=.ok (Qh5++id,text)):=rfl;have a1:=QsK id;go_enter func71,ntmps71;go_wp2;rw[HR.o];refine bodyPost_ret (v:=.tuple #[.agg #[.string (sA (Qh5++id)),.string (sA text)],.nilIface]) (by simp[results,results71,go_sem]) rfl ?_;exact⟨rfl,(((Below.refl _ _).alloc (Nat.le_refl _) _).alloc (by simp) _).alloc (by simp;omega) _⟩
 by_cases k2:kind=2
 ·subst k2;cases hb:Qbp x
  ·have HR:Hid (fileL id text n (2,x)=.error 8):=by
    show(if(2:Int)=1 then _ else if(2:Int)=2 then(if Qbp x=true then _ else _)else _)=_
    rw[if_neg (by decide),if_pos rfl,hb];rfl
   go_enter func71,ntmps71;go_wp2_with (go_at_call 144;refine(Qmy (sA x) _ (by rw[Qal];omega)).mono ?_;rintro e w' ⟨rfl,ae⟩;rw[ae];rw[show Qbp (sA x).data.toList=false from hb]);rw[HR.o];refine bodyPost_ret (v:=.tuple #[.agg #[.string ⟨#[]⟩,.string ⟨#[]⟩],.iface 30 (.int .i64 8)]) (by simp[results,results71,go_sem]) rfl ?_;exact⟨rfl,(((Below.refl _ _).alloc (Nat.le_refl _) _).alloc (by simp) _).alloc (by simp;omega) _⟩
  ·have HR:Hid (fileL id text n (2,x)=.ok (Qvf++x++[47]++id,text)):=by
    show(if(2:Int)=1 then _ else if(2:Int)=2 then(if Qbp x=true then _ else _)else _)=_
    rw[if_neg (by decide),if_pos rfl,hb];rfl
   have a1:=QwR x id;go_enter func71,ntmps71;go_wp2_with (go_at_call 144;refine(Qmy (sA x) _ (by rw[Qal];omega)).mono ?_;rintro e w' ⟨rfl,ae⟩;rw[ae];rw[show Qbp (sA x).data.toList=true from hb]);rw[HR.o];refine bodyPost_ret (v:=.tuple #[.agg #[.string (sA (Qvf++x++[47]++id)),.string (sA text)],.nilIface]) (by simp[results,results71,go_sem]) rfl ?_;exact⟨rfl,(((Below.refl _ _).alloc (Nat.le_refl _) _).alloc (by simp) _).alloc (by simp;omega) _⟩
 obtain⟨W,hW⟩:∃ W,W=((w.alloc (.cells #[.string (sA id),.slice a m c,.string (sA text)] 104)).alloc (.cells #[.int .i64 kind,.string (sA x)] 34)).alloc (.cells #[.string ⟨#[]⟩,.string ⟨#[]⟩] 39):=⟨_,rfl⟩;have ac:Hid (Below w.heap.size w W):=by rw[hW];exact(((Below.refl _ _).alloc (Nat.le_refl _) _).alloc (by simp) _).alloc (by simp;omega) _
 have ag:Hid (Tab W):=HT.o.below ac.o;have af:Hid (W.heap[w.heap.size+1+1]?=some (.cells #[.string ⟨#[]⟩,.string ⟨#[]⟩] 39)):=by rw[hW];exact Qaq (by simp)
 have ah:=Qab hW;have HK1:=Qab k1;have HK2:=Qab k2;clear hW;by_cases k3:kind=3
 ·subst k3;have HR:Hid (fileL id text n (3,x)=.ok (outL id text n (QvS++x))):=rfl;have a1:=QxT x;clear k1 k2;go_enter func71,ntmps71;go_wp2_with fail;rw[<-ah.o];refine(Qtk id text (QvS++x) n a m c W ag.o hn h1 h2 (by simp[QvS];omega)).mono ?_;rintro e w1 ⟨rfl,ab⟩;have aa:=Qai af.o ab;have ad:=Qab (ac.o.trans (ab.mono ac.o.size));have r0:w1.cell? ⟨w.heap.size+1+1,0,none⟩=some (.string ⟨#[]⟩):=Qaa aa 0;have r1:w1.cell? ⟨w.heap.size+1+1,1,none⟩=some (.string ⟨#[]⟩):=Qaa aa 1;have rf:∀ j,w1.frozen? ⟨w.heap.size+1+1,j,none⟩=false:=fun j=>Qah aa j
  clear ab aa;generalize outL id text n (QvS++x)=f at *;go_wp2;rw[HR.o];refine bodyPost_ret (v:=.tuple #[.agg #[.string (sA f.1),.string (sA f.2)],.nilIface]) (by simp[results,results71,go_sem,r0,r1]) rfl ?_;exact⟨rfl,(ad.o.setCell (by simp;omega) _).setCell (by simp;omega) _⟩
 have HK3:=Qab k3;by_cases k4:kind=4
 ·subst k4;have HR:Hid (fileL id text n (4,x)=.ok (outL id text n (QdD++x))):=rfl;have a1:=Qwy x;clear k1 k2 k3;go_enter func71,ntmps71;go_wp2_with fail;rw[<-ah.o];refine(Qtk id text (QdD++x) n a m c W ag.o hn h1 h2 (by simp[QdD];omega)).mono ?_;rintro e w1 ⟨rfl,ab⟩;have aa:=Qai af.o ab;have ad:=Qab (ac.o.trans (ab.mono ac.o.size));have r0:w1.cell? ⟨w.heap.size+1+1,0,none⟩=some (.string ⟨#[]⟩):=Qaa aa 0;have r1:w1.cell? ⟨w.heap.size+1+1,1,none⟩=some (.string ⟨#[]⟩):=Qaa aa 1;have rf:∀ j,w1.frozen? ⟨w.heap.size+1+1,j,none⟩=false:=fun j=>Qah aa j
  clear ab aa;generalize outL id text n (QdD++x)=f at *;go_wp2;rw[HR.o];refine bodyPost_ret (v:=.tuple #[.agg #[.string (sA f.1),.string (sA f.2)],.nilIface]) (by simp[results,results71,go_sem,r0,r1]) rfl ?_;exact⟨rfl,(ad.o.setCell (by simp;omega) _).setCell (by simp;omega) _⟩
 have HR:Hid (fileL id text n (kind,x)=.error 7):=by
  show(if kind=1 then _ else if kind=2 then _ else if kind=3 then _ else if kind=4 then _ else _)=_
  rw[if_neg k1,if_neg k2,if_neg k3,if_neg k4]
 have e1:(kind==1)=false:=by simp[k1]
 have e2:(kind==2)=false:=by simp[k2]
 have e3:(kind==3)=false:=by simp[k3]
 have e4:(kind==4)=false:=by simp[k4]
 go_enter func71,ntmps71;go_wp2;rw[HR.o];refine bodyPost_ret (v:=.tuple #[.agg #[.string ⟨#[]⟩,.string ⟨#[]⟩],.iface 30 (.int .i64 7)]) (by simp[results,results71,go_sem]) rfl ?_;exact⟨rfl,(((Below.refl _ _).alloc (Nat.le_refl _) _).alloc (by simp) _).alloc (by simp;omega) _⟩
end
section
open Go.RowKit Go.Maps Go.Sort
attribute [local go_sem ↓] Go.wp_at_zero Go.wp_at_succ
def NamV (w:World) (B:Nat) (v:Value) (l:List (L8)):Prop:=w.ownsRow B 9 1 v l.length (l.map encStr)
theorem Qwh{w:World}{D0:DataW Unit}{N:Fs}(h:QxR w D0 N)(x:L8):Maps.has D0 (.string x)=true↔(N x).isSome=true:=by
 cases hx:N x with
 |none=>rw[h.1 x hx];simp
 |some s=>obtain⟨k,h1,_⟩:=h.2 x s hx;rw[Maps.has_true_of_atKey h1];simp
theorem Qyx(x:ByteArray):∀ u∈[Value.string x],u.oneCell'=true:=by
 intro u hu;simp only[List.mem_singleton]at hu;subst hu;rfl
theorem QcA{B:Nat}{u w w':World}{o:Obj}{row:Option Nat}(h:Below B u w)(hB:B<=w.heap.size)(hg:(w.alloc o).grownBy w' row)(hr:∀ k,row=some k->B<=k):Below B u w':=
 (h.alloc hB o).grown hg (by simp;omega) hr
end
section
open Go.RowKit Go.Maps
attribute [local go_sem ↓] Go.wp_at_zero Go.wp_at_succ
def noF:Fs:=fun _=>none
def Que (F:Fs) (f:L8×L8):Fs:=Qfp F f.1 f.2
def Qbo (F:Fs) (l:List (L8×L8)):Fs:=l.foldl Que F
def QyD (w:World) (v:Value) (l:List (L8×L8)):Prop:=
 ∃ a c,v=.slice a l.length c∧(l≠[]→∃ b off,a=some ⟨b,off,none⟩∧∀ j (hj:j < l.length),w.cell? ⟨b,off+j*2,none⟩=some (.string (sA l[j].1))∧w.cell? ⟨b,off+j*2+1,none⟩=some (.string (sA l[j].2)))
theorem QoZ(l:List (L8×L8))(fv:Value)(w:World)(hl:QyD w fv l)(hn:l.length<=400000)(hx:∀ f∈l,f.1.length<=1000000) :
 Calls Tryz.prog 17 #[fv] w fun e w'=>Below w.heap.size w w'/\∃ bn,e=.returned (.pointer (some ⟨w.heap.size+1,0,none⟩))/\DI w' w.heap.size (w.heap.size+1) w.heap.size bn l.length (Qbo noF l) (Qbo noF l) [] (-1) (.slice none 0 0):=by
 obtain⟨a,c,rfl,ah⟩:=hl;have aE:=Qab ah;have HX:=Qab hx;have aG:=@run_makeMap Tryz.prog;obtain⟨W,hW⟩:∃ W,W=(w.alloc (.map #[] 0)).alloc (.cells #[.map (some w.heap.size),.map none,.slice none 0 0,.int .i64 (-1),.int .i64 (-1),.bool false] 59):=⟨_,rfl⟩;have aF:Hid (Below w.heap.size w W):=by rw[hW];exact((Below.refl _ _).alloc (Nat.le_refl _) _).alloc (by simp) _
 have aL:Hid (Qyh W (w.heap.size+1) w.heap.size (.map none) (.slice none 0 0) (-1) false):=by rw[hW];exact Qaq (by simp)
 have ay:Hid (Qfu W w.heap.size 0 noF):=by
  rw[hW];exact⟨.map [],(World.ownsMap_made w Tryz.prog 9 ptrR).alloc _,fun x _=>rfl,fun x s h=>by cases h⟩
 have aD:=Qab hW;clear hW ah hx;go_enter func17,ntmps17;go_wp2_with fail;rw[<-aD.o];clear aG
 go_loopw [12] (fun i wr=>∃ k:Nat,k<=l.length/\i=.int .i64 k/\Qyh wr (w.heap.size+1) w.heap.size (.map none) (.slice none 0 0) (-1) false/\Qfu wr w.heap.size k (Qbo noF (l.take k))/\Below w.heap.size w wr) (fun i _=>l.length - (intOf i).toNat)
 case atStart=>exact⟨0,by omega,rfl,aL.o,ay.o,aF.o⟩
 case round=>
  obtain⟨k,hk,rfl,hD,hM,hB⟩:=hrel;have hwr:=Qar hD;by_cases hlt:k<l.length
  ·have hlt':(k:Int)<(l.length:Int):=by omega
   obtain⟨g,ad,rfl,ap⟩:=aE.o (fun e=>by rw[e]at hlt;exact absurd hlt (Nat.not_lt_zero _));have ae:=ap k hlt;have ai:=Qau ae.1;have e1:wr.cell? ⟨g,ad+k*2,none⟩=some (.string (sA l[k].1)):=(hB.cell (p:=⟨g,ad+k*2,none⟩) ai).trans ae.1;have e2:wr.cell? ⟨g,ad+k*2+1,none⟩=some (.string (sA l[k].2)):=(hB.cell (p:=⟨g,ad+k*2+1,none⟩) ai).trans ae.2;have ao:=HX.o l[k] (List.getElem_mem hlt)
   have aw:Hid (Qbo noF (l.take (k+1))=Qfp (Qbo noF (l.take k)) l[k].1 l[k].2):=by
    show _=_
    rw[List.take_succ_eq_append_getElem hlt];unfold Qbo;rw[List.foldl_append];rfl
   generalize l[k]=f at *;obtain⟨x,s⟩:=f;dsimp only at e1 e2 ao aw;obtain⟨V,hV⟩:∃ V,V=(wr.alloc (.cells #[.string (sA x),.string (sA s)] 39)).alloc (.cells #[.string (sA s)] 9):=⟨_,rfl⟩;have aa:Below wr.heap.size wr V:=by rw[hV];exact((Below.refl _ _).alloc (Nat.le_refl _) _).alloc (by simp) _
   have ag:V.heap[wr.heap.size]?=some (.cells #[.string (sA x),.string (sA s)] 39):=by rw[hV];exact Qac (Qam _ _)
   have af:V.heap[w.heap.size+1]?=some (.cells #[.map (some w.heap.size),.map none,.slice none 0 0,.int .i64 (-1),.int .i64 (-1),.bool false] 59):=Qai hD aa;have ak:=hM.below aa;obtain⟨w2,hput,aq,aj⟩:=Qp0 (w:=V.drew) (k:=wr.heap.size+1) (s:=s) ak (by omega) ao (by show V.heap[_]?=_;rw[hV];exact Qaq (by simp));have ac:=(QdS aj).undrew;have au:Hid (Qyh w2 (w.heap.size+1) w.heap.size (.map none) (.slice none 0 0) (-1) false):=ac.block _ _ af (fun⟨_,es,c,e⟩=>by cases e);have ar:=ac.block _ _ ag (fun⟨_,es,c,e⟩=>by cases e);have aA:Hid (w2.cell? ⟨w.heap.size+1,0,none⟩=some (.map (some w.heap.size))/\w2.cell? ⟨wr.heap.size,0,none⟩=some (.string (sA x))):=⟨Qaa au.o 0,Qaa ar 0⟩;have aI:=Qab aq;have az:Hid (Below w.heap.size w w2):=(hB.trans (aa.mono hB.size)).trans (ac.below (B:=w.heap.size) (fun k o ⟨h,_⟩=>by omega) (by have:=aa.size;have:=hB.size;omega));have v0:V.cell? ⟨w.heap.size+1,0,none⟩=some (.map (some w.heap.size)):=Qaa af 0;have v1:V.cell? ⟨wr.heap.size,0,none⟩=some (.string (sA x)):=Qaa ag 0;have aJ:=Qab hV;clear ak hV aa ag af aq aj ac ar hD hM hB ae ap;go_wp2_with fail;rw[<-aJ.o];go_region_held3 (fun w'=>w'.cell? ⟨w.heap.size+1,0,none⟩=some (.map (some w.heap.size))/\w'.cell? ⟨wr.heap.size,0,none⟩=some (.string (sA x))) (first|go_keep|exact aA.o) (fail)
   all_goals go_wp2
   all_goals exact⟨⟨k+1,by omega,by go_num,au.o,by rw[aw.o];exact aI.o,az.o⟩,by simp[intOf];omega⟩
  ·have aB:k=l.length:=by omega
   subst aB;have hz:¬(l.length:Int)<(l.length:Int):=by omega
   have aC:=Qab hD;have ax:=Qab hM;have aM:=Qab hB;clear hD hM hB;go_wp2_with (go_at_call 27;refine(QvW w.heap.size (w.heap.size+1) w.heap.size l.length _ _ _ _ _ wr ⟨by omega,Nat.le_refl _⟩ aC.o ax.o (by omega)).mono ?_;rintro e w3 ⟨rfl,ab,av⟩;have aK:=Qab ab;have aH:=Qab av;clear ab av);go_ret;have ab:=aK.o;rw[List.take_length]at ab;exact⟨aM.o.trans (aH.o.below (B:=w.heap.size) (fun k o h=>h.1) (by omega)),_,rfl,ab⟩
end
section
open Go.RowKit Go.Maps
abbrev Fl:=L8×L8
def QhP (f:Fl):List Value:=[.string (sA f.1),.string (sA f.2)]
def Qcy (l:List Fl):List Value:=l.flatMap QhP
theorem Qii(l:List Fl)(f:Fl):Qcy l++QhP f=Qcy (l++[f]):=by simp[Qcy]
theorem QiG(l:List Fl)(j:Nat)(hj:j<l.length):(Qcy l)[j*2]?=some (.string (sA l[j].1))/\(Qcy l)[j*2+1]?=some (.string (sA l[j].2)):=by
 induction l generalizing j with
 |nil=>exact absurd hj (Nat.not_lt_zero _)
 |cons a r ih=>
  have e:Qcy (a::r)=.string (sA a.1) :: .string (sA a.2)::Qcy r:=rfl;rw[e]
  cases j with
  |zero=>exact⟨rfl,rfl⟩
  |succ j=>
   have h:=ih j (by simpa using hj);have e1:(j+1)*2=j*2+2:=by omega
   rw[e1];exact h
def Qyz (w:World) (v:Value) (l:List Fl):Prop:=
 ∃ g c cs,v=.slice (some ⟨g,0,none⟩) l.length c∧w.heap[g]?=some (.cells cs 39)∧∀ j (hj:j < l.length),w.cell? ⟨g,j*2,none⟩=some (.string (sA l[j].1))∧w.cell? ⟨g,j*2+1,none⟩=some (.string (sA l[j].2))
def Qye (w:World) (v:Value) (l:List Fl):Prop:=(l=[]∧v=.slice none 0 0)∨Qyz w v l
theorem Tryz.infoFile:(Tryz.prog.info? 39).map (fun i=>(i.zero,i.size,i.bytes))=some (some (.agg #[.string ⟨#[]⟩,.string ⟨#[]⟩]),2,32):=by kernel_rfl
theorem QvZ(w:World)(f:Fl)(t:TypeId):∀ j u,(QhP f)[j]?=some u->(w.alloc (.cells #[.string (sA f.1),.string (sA f.2)] t)).cell? ((⟨w.heap.size,0,none⟩:Addr).add j)=some u:=by
 intro j u h;rw[Qbu,Qaa (Qam w _),<-h];simp[QhP]
theorem QvT(f:Fl):∀ u∈QhP f,u.oneCell'=true:=by
 intro u hu;unfold QhP at hu;simp at hu;rcases hu with rfl|rfl<;>rfl
def QjB (w:World) (v:Value) (l:List (Int×L8)):Prop:=
 ∃ a c,v=.slice a l.length c∧(l≠[]→∃ b off,a=some ⟨b,off,none⟩∧∀ j (hj:j < l.length),w.cell? ⟨b,off+j*2,none⟩=some (.int .i64 l[j].1)∧w.cell? ⟨b,off+j*2+1,none⟩=some (.string (sA l[j].2)))
theorem QjB.below{w w':World}{v:Value}{l:List (Int×L8)}(h:QjB w v l)(hb:Below w.heap.size w w'):QjB w' v l:=by
 obtain⟨a,c,h,hc⟩:=h;refine⟨a,c,h,fun hne=>?_⟩;obtain⟨b,aa,rfl,ab⟩:=hc hne;refine⟨b,aa,rfl,fun j hj=>?_⟩;obtain⟨h1,h2⟩:=ab j hj;have hl:=Qau h1;exact⟨(hb.cell (p:=⟨b,aa+j*2,none⟩) hl).trans h1,(hb.cell (p:=⟨b,aa+j*2+1,none⟩) hl).trans h2⟩
end
section
open Go.RowKit Go.Maps Go.Sort
attribute [local go_sem ↓] Go.wp_at_zero Go.wp_at_succ
theorem Qsm{x y:L8}:Ending.returned (.bool (Op.bytesLess (sA x).toList (sA y).toList))=.returned (.bool (decide (x<y))):=by
 rw[bytesLess_eq,ByteArray.toList_eq,ByteArray.toList_eq];rfl
theorem Qvt(lc g n c i j:Nat)(x y:L8)(w:World)(hl:w.cell? ⟨lc,0,none⟩=some (.slice (some ⟨g,0,none⟩) n c))(hi:i<n)(hj:j<n)(hn:n<=1000000)(h1:w.cell? ⟨g,i*2,none⟩=some (.string (sA x)))(h2:w.cell? ⟨g,j*2,none⟩=some (.string (sA y))) :
 Calls Tryz.prog 34 #[.int .i64 i,.int .i64 j,.pointer (some ⟨lc,0,none⟩)] w fun e w'=>e=.returned (.bool (decide (x<y)))/\∃ q,w'=w.drewN q:=by
 have hi':(i:Int)<(n:Int):=by omega
 have hj':(j:Int)<(n:Int):=by omega
 go_enter func34,ntmps34;go_wp2_with fail;go_quiet (fail)
 all_goals go_wp2
 go_ret;exact⟨Qsm,_,rfl⟩
def ltF (a b:Fl):Bool:=decide (a.1 < b.1)
theorem QyL:SWO ltF where
 irrefl x:=by simp[ltF,List.lt_irrefl]
 trans x y z h1 h2:=by simp only[ltF,decide_eq_true_eq]at *;exact List.lt_trans h1 h2
 ntrans x y z h1 h2:=by
  simp only[ltF,decide_eq_false_iff_not,List.not_lt]at *;exact List.le_trans h2 h1
theorem QxG{w:World}{g:Nat}{l:List Fl}{aa:Array Value}{e:TypeId}(hb:w.heap[g]?=some (.cells aa e (0,0)))(ht:aa.toList.take (l.length*2)=Qcy l):HoldsK QhP 2 w g 0 l.toArray:=by
 intro j hj;have ab:j<l.length*2:=by simpa using hj
 have hq:j / 2<l.length:=by omega
 have e1:(flatK QhP 2 l.toArray)[j]! = (QhP l[j / 2])[j % 2]!:=by
  rw[get_flatK _ _ _ _ (by simpa using ab)];congr 1;simp[hq]
 have e2:w.cell? ⟨g,0+j,none⟩=aa[j]?:=by rw[Nat.zero_add];unfold World.cell?;rw[hb];rfl
 have e3:aa[j]?=(Qcy l)[j]?:=by
  rw[<-ht,List.getElem?_take_of_lt ab,Array.getElem?_toList]
 have h4:=QiG l (j / 2) hq;refine⟨?_,by unfold World.frozen?;rw[hb];simp⟩;rw[e2,e3];show _=some (id _)
 rw[id,e1];generalize l[j / 2]=f at h4 ⊢;rcases Nat.mod_two_eq_zero_or_one j with hm|hm
 ·have h5:j=j / 2*2:=by omega
  rw[hm,congrArg (fun t=>(Qcy l)[t]?) h5];exact h4.1
 ·have h5:j=j / 2*2+1:=by omega
  rw[hm,congrArg (fun t=>(Qcy l)[t]?) h5];exact h4.2
open Go.Shelf Go.Lib in
noncomputable def Qyu:TypeInfo:=(Tryz.prog.info? 40).get (by kernel_rfl)
noncomputable def Qwb:TypeInfo:=(Tryz.prog.info? 39).get (by kernel_rfl)
theorem QyF(n:Nat)(h:2<=n):Lib.swapperK n Qwb 25=9:=by
 have e1:(Qwb.hasPointers&&Qwb.bytes==8)=false:=by kernel_rfl
 have e2:Qwb.hasPointers=true:=by kernel_rfl
 unfold Lib.swapperK;rw[if_neg (by simp;omega),if_neg (by simp;omega),e1,e2];rfl
theorem QtD(lc g c:Nat)(l:List Fl)(ac:Array Value)(w:World)(ag:w.cell? ⟨lc,0,none⟩=some (.slice (some ⟨g,0,none⟩) l.length c))(ae:lc≠g)(hb:w.heap[g]?=some (.cells ac 39 (0,0)))(ht:ac.toList.take (l.length*2)=Qcy l)(hn:l.length<=500000) :
 Calls Tryz.prog 33 #[.iface 40 (.slice (some ⟨g,0,none⟩) l.length c),.func (.func 34) #[] #[.pointer (some ⟨lc,0,none⟩)]] w fun e w'=>e=.returned (.tuple #[])/\∃ l':List Fl,l'.length=l.length/\l'.Perm l/\l'.Pairwise (fun a b=>¬ b.1<a.1)/\w.grownBy w' (some g)/\Qyz w' (.slice (some ⟨g,0,none⟩) l.length c) l':=by
 have aa:=Qar hb;have hH:=QxG hb ht;have af:=Qau ag;have hs:l.toArray.size=l.length:=by simp
 have hcells:∀(W:World) (d:Array Fl),HoldsK QhP 2 W g 0 d->∀ j (hj:j<d.size),W.cell? ⟨g,j*2,none⟩=some (.string (sA d[j]!.1))/\W.cell? ⟨g,j*2+1,none⟩=some (.string (sA d[j]!.2)):=fun W d hW j hj=>by
  have h0:=(hW.cell (i:=j) (c:=0) hj (by decide)).1;have h1:=(hW.cell (i:=j) (c:=1) hj (by decide)).1;simp only[Nat.zero_add,Nat.add_zero]at h0 h1;exact⟨h0,h1⟩
 rcases Nat.lt_or_ge l.length 2 with h2|h2
 ·have h1:l.length=0\/l.length=1:=by omega
  obtain⟨f,hf⟩:∃ f,Tryz.prog.funcs.findIdx? (·.name == "internal/reflectlite" ++ ".Swapper$"++toString (Lib.swapperK l.length Qwb 25))=some f:=by
   rcases h1 with h1|h1
   ·exact⟨80,by rw[h1];kernel_rfl⟩
   ·exact⟨81,by rw[h1];kernel_rfl⟩
  refine(Any.sort_Slice_tiny Tryz.laysGg6 40 39 Qyu Qwb (by kernel_rfl) (by kernel_rfl) (by kernel_rfl) (by kernel_rfl) 25 (fun _=>by kernel_rfl) (some ⟨g,0,none⟩) l.length c (by omega) f hf (.func 34) #[] #[.pointer (some ⟨lc,0,none⟩)] w).mono ?_;rintro e w' ⟨rfl,os,rfl⟩;have aq:(grow w os).heap[g]?=some (.cells ac 39):=(heap_grow_old _ _ aa).trans hb;refine⟨rfl,l,rfl,List.Perm.refl _,?_,⟨rfl,rfl,rfl,by simp,fun k hk _=>heap_grow_old _ _ hk⟩,g,c,ac,rfl,aq,fun j hj=>?_⟩
  ·match l,h1 with
   | [],_=>exact List.Pairwise.nil
   | [a],_=>exact List.pairwise_singleton _ _
  ·have:=hcells (grow w os) l.toArray (holdsK_grow QhP 2 w os g 0 _ aa hH) j (by simpa using hj);simpa[hj]using this
 ·have ab:LessReadsK Tryz.prog 34 #[.pointer (some ⟨lc,0,none⟩)] QhP 2 ltF g 0 l.toArray.size w:=by
   intro m os dk ao i j hi hj
   have e:sortWorldK QhP 2 w g 0 m dk os=putRowK QhP 2 (grow (Sort.ahead w m) os) g 0 dk:=by
    unfold sortWorldK;rw[putRowK_grow _ _ (Sort.ahead w m) _ g 0 _ aa]
   have ar:HoldsK QhP 2 (grow (Sort.ahead w m) os) g 0 l.toArray:=holdsK_grow _ _ _ _ g 0 _ aa (holdsK_ahead _ _ _ _ _ _ _ hH);have ai:=hcells _ dk (holdsK_putRowK _ _ _ g 0 l.toArray dk ar ao)
   have ap:(sortWorldK QhP 2 w g 0 m dk os).cell? ⟨lc,0,none⟩=some (.slice (some ⟨g,0,none⟩) l.length c):=by
    rw[e,cell?_putRowK_other _ _ _ g 0 dk _ (by exact ae),cell?_grow _ _ _ (by exact af)];exact ag
   refine Qvt lc g l.length c i j _ _ _ ap (by omega) (by omega) (by omega) ?_ ?_
   ·rw[e];exact(ai i (by omega)).1
   ·rw[e];exact(ai j (by omega)).1
  refine(Any.sort_Slice_cells_sorted Tryz.laysGg6 40 39 Qyu Qwb (by kernel_rfl) (by kernel_rfl) (by kernel_rfl) (by kernel_rfl) 25 (fun _=>by kernel_rfl) QhP 2 (fun _=>rfl) (by kernel_rfl) (fun _=>by kernel_rfl) (fun x v hv=>by simp[QhP]at hv;rcases hv with rfl|rfl<;>rfl) ltF QyL 34 _ (enters_of func34 (by kernel_rfl) rfl) g 0 c l.toArray (by omega) (by omega) 88 (by rw[hs,QyF _ h2];kernel_rfl) false (fun args W=>run_callFunc_extern func88 (by kernel_rfl) (by kernel_rfl) (by kernel_rfl) (e:=Extern.ReflectliteSwapper.swap false) (by kernel_rfl) args W) w ab hH aa).mono ?_;rintro e w' ⟨rfl,d',n,os,hP,hS,rfl⟩;have ad:d'.size=l.length:=by rw[hP.1,hs]
  refine⟨rfl,d'.toList,by simpa using ad,?_,?_,?_,g,c,putCells id 0 (flatK QhP 2 d') ac,by simp[ad],?_,fun j hj=>?_⟩
  ·have h3:=hP.2.2;rw[hs]at h3;have e1:(d'.extract 0 l.length).toList=d'.toList:=by simp[<-ad]
   have e2:(l.toArray.extract 0 l.length).toList=l:=by simp
   rw[e1,e2]at h3;exact h3
  ·rw[List.pairwise_iff_getElem];intro i j hi hj aj;have:=hS i j (Nat.zero_le _) aj (by rw[hs,<-ad];simpa using hj);simp only[ltF,decide_eq_false_iff_not]at this;simpa[show i<d'.size by simpa using hi,show j<d'.size by simpa using hj]using this
  ·refine⟨rfl,rfl,rfl,by simp[putRowK],fun k hk ae=>?_⟩;have ak:g≠k:=fun e=>ae (by rw[e])
   rw[heap_grow_old _ _ (by simpa[putRowK]using hk)];simp[putRowK,putRow,mapBlock,Sort.ahead,Array.getElem?_modify,ak]
  ·rw[heap_grow_old _ _ (by simpa[putRowK]using aa)];simp[putRowK,putRow,mapBlock,Sort.ahead,Array.getElem?_modify,hb,onCells]
  ·have au:=holdsK_grow QhP 2 _ os g 0 d' (by simpa[putRowK]using aa) (holdsK_putRowK QhP 2 (Sort.ahead w n) g 0 l.toArray d' hH (by omega));have ah:j<d'.size:=by simpa using hj
   have:=hcells _ d' au j ah;simpa[ah]using this
theorem QsH(lc:Nat)(w:World):Calls Tryz.prog 33 #[.iface 40 (.slice none 0 0),.func (.func 34) #[] #[.pointer (some ⟨lc,0,none⟩)]] w fun e w'=>e=.returned (.tuple #[])/\Below w.heap.size w w':=by
 refine(Any.sort_Slice_tiny Tryz.laysGg6 40 39 Qyu Qwb (by kernel_rfl) (by kernel_rfl) (by kernel_rfl) (by kernel_rfl) 25 (fun _=>by kernel_rfl) none 0 0 (by omega) 80 (by kernel_rfl) (.func 34) #[] #[.pointer (some ⟨lc,0,none⟩)] w).mono ?_;rintro e w' ⟨rfl,os,rfl⟩;refine⟨rfl,?_⟩;exact(Below.refl w.heap.size w).grown (row:=none) ⟨rfl,rfl,rfl,by simp,fun k hk _=>heap_grow_old _ _ hk⟩ (Nat.le_refl _) (fun k hk=>by cases hk)
end
section
open Go.RowKit Go.Maps Go.Sort
attribute [local go_sem ↓] Go.wp_at_zero Go.wp_at_succ
def PLb (b:Nat) (k:Nat) (o:Obj):Prop:=k=b∧∃ cs,o=.cells cs 40
theorem Qso{w w':World}{b r n:Nat}{D0:DataW Unit}{left:Lit->Bool}{ae:Nat}(h:w.ranges Tryz.prog 9 ptrR b r n D0 left ae)(h1:w'.heap[b]?=w.heap[b]?)(h2:w'.heap[r]?=w.heap[r]?):w'.ranges Tryz.prog 9 ptrR b r n D0 left ae:=by
 obtain⟨es,aa,ab,ad,c0,hb,F,hs,hD,hr,ac⟩:=h;exact⟨es,aa,ab,ad,c0,h1.trans hb,F,hs,hD,h2.trans hr,ac⟩
theorem QuO{D:Fs}{ss l:List Fl}(hn:(ss.map Prod.fst).Nodup)(hp:l.Perm ss)(hs:l.Pairwise (fun a b=>¬ b.1<a.1))(h1:∀ f∈ss,D f.1=some f.2)(h2:∀ x,(D x).isSome=true->x∈ss.map Prod.fst):Lists D l:=by
 have aa:(l.map Prod.fst).Nodup:=((hp.map Prod.fst).nodup_iff).2 hn;refine⟨(hs.and (List.pairwise_map.1 aa)).imp (fun {a b} h=>Qnp h.1 h.2),fun x s=>?_⟩;rw[hp.mem_iff];refine⟨fun h=>h1 _ h,fun h=>?_⟩;obtain⟨f,hf,rfl⟩:=List.mem_map.1 (h2 x (by rw[h];rfl));have:=h1 f hf;rw[h]at this;cases this;exact hf
theorem Qrl(B db bd bn n:Nat)(D N:Fs)(p:List Dop)(q:Int)(pv:Value)(w:World)(h:DI w B db bd bn n D N p q pv)(hn:n<=500000) :
 Calls Tryz.prog 21 #[.pointer (some ⟨db,0,none⟩)] w fun e w'=>Below w.heap.size w w'/\∃ v l,e=.returned v/\Qye w' v l/\Lists D l/\l.length<=n:=by
 obtain⟨D0,ab,aN⟩:=h.md;have ba:=ab.lt;have hdl:=Qar h.blk;have c0:∀ o,(w.alloc o).cell? ⟨db,0,none⟩=some (.map (some bd)):=fun o=>Qaa (Qac h.blk) 0
 have ax:=Qab aN;have a3:=Qab (World.ownsMap.size_le ab);have e1:∀ o,(w.alloc o).heap.size=w.heap.size+1:=fun o=>by simp
 obtain⟨i0,hi,bf,bq,bb⟩:=info_parts Tryz.infoFile;clear h aN;go_enter func21,ntmps21;go_wp2_with (first|(at_range;refine wpList_range_own _ rfl _ 56 rfl 9 73 Qoa Qvk _ bd n _ rfl (ab.alloc _) ?_;intro w0 ah aA aW)|go_in);go_frame;rw[e1]at ah aW ⊢;have a7:Hid (w0.heap[w.heap.size]?=some (.cells #[.slice none 0 0] 40)):=(aA.block _ (by simp) (by simp)).trans (Qam _ _);have bm:Hid (Below w.heap.size w w0):=((Below.refl _ _).alloc (Nat.le_refl _) _).grown aA (by simp) (fun j hj=>by cases hj);have av:w.heap.size+1<w0.heap.size:=by omega
 have HOW:=Qab ab;clear aA aW c0 e1 ab
 go_loopw [4,5] (fun _ _ wr=>∃(left:Lit->Bool) (aB:Nat) (ss:List Fl) (v:Value),wr.ranges Tryz.prog 9 ptrR bd (w.heap.size+1) n D0 left aB/\ss.length+aB<=Maps.size D0/\wr.heap[w.heap.size]?=some (.cells #[v] 40)/\wr.ownsRow w.heap.size 39 2 v ss.length (Qcy ss)/\Collected D0 left (ss.map Prod.fst)/\(∀ f∈ss,D f.1=some f.2)/\Below w.heap.size w wr/\w.heap.size+1<wr.heap.size) (fun _ _ wr=>wr.rangeLeft bd (w.heap.size+1))
 case atStart=>exact⟨_,_,[],_,ah,by simp,a7.o,World.ownsRow_nil _ _ _ _,Collected.start D0,fun f hf=>(by cases hf),bm.o,av⟩
 case round=>
  obtain⟨left,aB,ss,v,aJ,aV,aL,ag,hC,hF,hB,hsz⟩:=hrel;have HC:=Qab hC;have HF:=Qab hF;have HB:=Qab hB;have aE:=Qab ag;have ar:=Qab aL;have hsn:=a3.o;obtain⟨va,vc,a9⟩:=Qat ag;subst a9;have hll:wr.cell? ⟨w.heap.size,0,none⟩=some (.slice va ss.length vc):=Qaa aL 0;clear hC hF hB ag ah aL av;go_wp2_with (first|(at_next;refine wpList_next_ranges _ rfl _ rfl 9 Qoa ptrR encStr Qyf Qym Qyp bd (w.heap.size+1) n _ _ _ rfl aJ ?_ ?_)|go_in)
  ·intro hc0 bi;have HP:Hid (∀ x,(D x).isSome=true->x∈ss.map Prod.fst):=fun x hx=>(HC.o.2 x).2 ⟨(Qwh ax.o x).2 hx,bi _⟩
   rcases aE.o.2 with⟨bo,h0⟩ | ⟨g,cap,cur,hv,hg,hb,hle,hmx,ay,htk⟩
   ·injection bo with hv1 hv2 hv3
    subst hv1 hv3;have bk:=List.eq_nil_of_length_eq_zero h0;subst bk;have HSF:=Qab (QsH w.heap.size wr);go_wp2_with (go_at_call 33;refine HSF.o.mono ?_;rintro e w3 ⟨rfl,af⟩;have aD:=Qab af;have az:w3.cell? ⟨w.heap.size,0,none⟩=some (.slice none 0 0):=Qaa (Qai ar.o af) 0;clear af);go_ret;exact⟨HB.o.trans (aD.o.mono HB.o.size),_,[],rfl,Or.inl ⟨rfl,rfl⟩,⟨List.Pairwise.nil,fun x s=>⟨fun h=>(by cases h),fun h=>(by have:=HP.o x (by rw[h];rfl);cases this)⟩⟩,Nat.zero_le _⟩
   injection hv with hv1 hv2 hv3
   subst hv1 hv3
   have HSF:=Qab (QtD w.heap.size g vc ss cur wr hll (fun e=>by
    have h1:=ar.o;rw[e,hb]at h1;injection h1 with h1
    injection h1 with h2 h3
    exact absurd h3 (by decide)) hb htk (by omega))
   have hgl:=Qar hb
   have bg:w.heap.size≠g:=fun e=>by
    have h1:=ar.o;rw[e,hb]at h1;injection h1 with h1
    injection h1 with h2 h3
    exact absurd h3 (by decide)
   have aZ:w.heap.size<=g:=hg;clear hb ay htk;go_wp2_with (go_at_call 33;refine HSF.o.mono ?_;rintro e w3 ⟨rfl,l3,aS,aR,aQ,af,aO⟩;have aY:=Qab aR;have bc:=Qab aQ;have aD:=Qab af;have bp:=Qab aO;have a6:=Qab aS;have az:w3.cell? ⟨w.heap.size,0,none⟩=some (.slice (some ⟨g,0,none⟩) ss.length vc):=Qaa (Qf4 ar.o af bg) 0;clear aR aQ af aO aS);go_ret;exact⟨HB.o.grown aD.o HB.o.size (fun j hj=>by cases hj;exact aZ),_,l3,rfl,Or.inr bp.o,QuO HC.o.1 aY.o bc.o HF.o HP.o,by have:=a6.o;omega⟩
  ·intro x c kl yd yp w1 aH ap bj hv aM ao a5 aK av hen;obtain⟨x',ex,rfl,hxl⟩:=Maps.keyOf_str QwL ap;obtain rfl:x=x':=encStr_inj ex
   have a8:yd=.lit (.int .i64 c):=by
    have:=(QkY c).symm.trans hv;cases this;rfl
   subst a8
   have aj:∃ s,D x=some s:=by
    cases hdx:D x with
    |some s=>exact⟨s,rfl⟩
    |none=>have h1:=ax.o.1 x hdx;rw[Maps.has_true_of_atKey aM]at h1;cases h1
   obtain⟨s,aj⟩:=aj;obtain⟨k,aP,aT⟩:=ax.o.2 x s aj
   have a0:k=c:=by
    have h1:=(aP .nil).symm.trans (aM .nil);injection h1 with h1
    injection h1 with _ h1
    omega
   subst a0
   have bl:Hid (Collected D0 (fun z=>left z && !z.sameKey (.string x)) ((ss++[(x,s)]).map Prod.fst)):=by
    show Collected _ _ _
    rw[List.map_append];exact HC.o.step bj aM
   have aC:=HB.o.grown aK HB.o.size (fun j hj=>by cases hj;exact Nat.le_succ _);have aX:=Qab aC;have aw:=Qf4 ar.o aK (by omega);have aF:=Qab aw;have au:Hid (w1.ownsRow w.heap.size 39 2 (.slice va ss.length vc) ss.length (Qcy ss)):=World.ownsRow.kept aE.o aK (Or.inr (row_ne_iter aE.o aJ).symm);have q0:w1.cell? ⟨w.heap.size,0,none⟩=some (.slice va ss.length vc):=Qaa aw 0;have q1:w1.cell? ⟨k,0,none⟩=some (.string (sA s)):=Qaa (Qai aT aC) 0;have aG:=Qar aw;have hw1:w.heap.size+1<w1.heap.size:=by omega
   have ai:Hid (¬(Value.slice va ss.length vc).ownBlock=some w.heap.size):=fun e=>by
    obtain⟨_,cs,aV⟩:=Qbb au.o _ _ e aF.o;injection aV with e1 e2
    exact absurd e2 (by decide)
   have a4:Hid (∀ f∈ss++[(x,s)],D f.1=some f.2):=fun f hf=>by
    rcases List.mem_append.1 hf with h|h
    ·exact HF.o f h
    ·rw[List.mem_singleton.1 h];exact aj
   clear av ex ap hv hll aw aC aP aT aj;go_wp2_with fail;go_region_law (refine step_append_lies _ rfl (.tmp 16) (.tmp 22) 40 rfl w.heap.size 39 i0 (.agg #[.string ⟨#[]⟩,.string ⟨#[]⟩]) 2 32 underlying40 hi bf bq bb rfl (by decide) (.slice va ss.length vc) ss.length (Qcy ss) (by simp[Act.eval,Act.put]) (au.o.alloc _) ⟨w1.heap.size,0,none⟩ 1 1 (QhP (x,s)) (by simp[Act.eval,Act.put]) rfl (QvZ _ (x,s) _) (QvT (x,s)) (by decide) (by unfold maxLen;omega) (by omega) (by simp;omega) _ rfl ?_;intro g' ak w5 ad aa hat5 hlt5;have a2:=Qab ad;have ae:=Qab aa;have t2:w5.cell? ⟨w.heap.size,0,none⟩=some (.slice va ss.length vc):=aa.cell (a:=⟨w.heap.size,0,none⟩) ((World.cell?_of_block (a:=⟨w.heap.size,0,none⟩) (w:=w1) (Below.heap_alloc _ _ _ aG)).trans q0) (fun e=>ai.o e.symm);have hft:∀ j,w5.frozen? ⟨w.heap.size,j,none⟩=false:=fun j=>(World.frozen?_of_block (a:=⟨w.heap.size,j,none⟩) (w:=w1) ((aa.block _ (by simp;omega) (fun e=>ai.o e.symm)).trans (Below.heap_alloc _ _ _ aG))).trans (Qah aF.o j);clear ad aa;skip)
   all_goals go_wp2
   all_goals have aU:w5.heap[w.heap.size]?=some (.cells #[.slice va ss.length vc] 40):=(ae.o.block _ (by simp;omega) (fun e=>ai.o e.symm)).trans ((Below.heap_alloc _ _ _ aG).trans aF.o)
   all_goals have aI:=(Fr.refl (PLb w.heap.size) w5).set aU ⟨rfl,_,rfl⟩ 0 (.slice (some ⟨g',0,none⟩) (ss.length+1) ak)
   all_goals have ac:∀ k,k<w1.heap.size->some k≠(Value.slice va ss.length vc).ownBlock->k≠w.heap.size->(w5.setCell ⟨w.heap.size,0,none⟩ (.slice (some ⟨g',0,none⟩) (ss.length+1) ak)).heap[k]?=w1.heap[k]?:=fun k h1 h2 h3=>(Below.heap_setCell _ _ _ _ h3).trans ((ae.o.block k (by simp;omega) h2).trans (Below.heap_alloc _ _ _ h1))
   all_goals have aq:=Qso ao (ac bd (by omega) (row_ne_low au.o ba) (by omega)) (ac (w.heap.size+1) (by omega) (row_ne_iter au.o ao) (by omega))
   all_goals have a1:Below w.heap.size w w5:=QcA aX.o aX.o.size (row:=(Value.slice va ss.length vc).ownBlock) ⟨ae.o.os,ae.o.tape,ae.o.output,ae.o.size,ae.o.block⟩ (fun k hk=>(World.ownsRow.lt au.o k hk).1)
   all_goals have bh:=ae.o.size
   all_goals exact⟨⟨_,aH,ss++[(x,s)],_,aq,by rw[List.length_append];simp;omega,Qag _ _ _ _ _ _ aU,by rw[List.length_append,<-Qii];exact QaR a2.o aI (fun k cs ⟨_,cs',e⟩=>by injection e with e1 e2;exact absurd e2 (by decide)),bl.o,a4.o,a1.setCell (Nat.le_refl _) _,by simp at bh ⊢;omega⟩,by rw[aq.left_eq,aJ.left_eq];exact a5⟩
end
section
open Go.RowKit
attribute [local go_sem ↓] Go.wp_at_zero Go.wp_at_succ
theorem Qxi(w:World)(o:Obj)(f:Fl)(t:TypeId):∀ j u,(QhP f)[j]?=some u->((w.alloc o).alloc (.cells #[.string (sA f.1),.string (sA f.2)] t)).cell? ((⟨w.heap.size+1,0,none⟩:Addr).add j)=some u:=by
 have h:=QvZ (w.alloc o) f t;rw[show(w.alloc o).heap.size=w.heap.size+1 by simp]at h;exact h
def Qtv (r:Except Nat (List Fl)) (w w':World) (e:Ending):Prop:=
 Below w.heap.size w w'∧((∃ fs v,r=.ok fs∧e=.returned (.tuple #[v,.nilIface])∧w'.ownsRow w.heap.size 39 2 v fs.length (Qcy fs))∨∃ k,r=.error k∧e=.returned (.tuple #[.slice none 0 0,.iface 30 (.int .i64 ((k:Nat):Int))]))
theorem Qid(id text:L8)(aa:List (Int×L8))(av:Value)(w:World)(ht:Tab w)(ha:QjB w av aa)(h1:id.length<=2000000)(h2:text.length<=2000000)(h3:∀ a∈aa,a.2.length<=2000000)(h4:aa.length<=2000000) :
 Calls Tryz.prog 41 #[.agg #[.string (sA id),av,.string (sA text)]] w fun e w'=>Qtv (filesL id aa text) w w' e:=by
 obtain⟨a,c,rfl,aA⟩:=ha;have aN:=Qab aA;have HT:=Qab ht;have H3:=Qab h3;have hz1:=Qal id;obtain⟨W,hW⟩:∃ W,W=w.alloc (.cells #[.string (sA id),.slice a aa.length c,.string (sA text)] 104):=⟨_,rfl⟩;have aq:Hid (Below w.heap.size w W):=by rw[hW];exact(Below.refl _ _).alloc (Nat.le_refl _) _
 have aF:Hid (W.heap[w.heap.size]?=some (.cells #[.string (sA id),.slice a aa.length c,.string (sA text)] 104)):=by rw[hW];exact Qam _ _
 have aK:=Qab hW;have d1:W.cell? ⟨w.heap.size,1,none⟩=some (.slice a aa.length c):=Qaa aF.o 1;obtain⟨i0,hi,aV,au,aQ⟩:=info_parts Tryz.infoFile;clear aA ht h3 hW;go_enter func41,ntmps41;go_wp2_with fail;rw[<-aK.o];refine(Qvr (sA id) W (by rw[Qal];omega)).mono ?_;rintro e w0 ⟨rfl,aB⟩;rw[aB,show Qeu (sA id).data.toList=Qeu id from rfl];clear aB;cases hid:Qeu id
 ·have HR:Hid (filesL id aa text=.error 13):=by show(if Qeu id=true then _ else _)=_;rw[hid];rfl
  go_wp2;go_ret2;exact⟨aq.o,Or.inr ⟨13,HR.o,rfl⟩⟩
 by_cases h6:6<aa.length
 ·have HR:Hid (filesL id aa text=.error 11):=by show(if Qeu id=true then(if 6<aa.length then _ else _)else _)=_;rw[hid,if_pos rfl,if_pos h6]
  have aH:(6:Int)<(aa.length:Int):=by omega
  go_wp2;go_ret2;exact⟨aq.o,Or.inr ⟨11,HR.o,rfl⟩⟩
 have aH:¬(6:Int)<(aa.length:Int):=by omega
 have HR:Hid (filesL id aa text=QvU [] (fTo id text 0 (aa.drop 0))):=by
  show(if Qeu id=true then(if 6<aa.length then _ else _)else _)=_
  rw[hid,if_pos rfl,if_neg h6,Qu0];rfl
 go_wp2
 go_loopw [4,5,6,7,8,22] (fun v _ _ _ _ i wr=>∃(k:Nat) (fs:List Fl),k<=aa.length/\i=.int .i64 k/\fs.length=k/\filesL id aa text=QvU fs (fTo id text k (aa.drop k))/\wr.ownsRow w.heap.size 39 2 v fs.length (Qcy fs)/\Below w.heap.size w wr/\wr.heap[w.heap.size]?=some (.cells #[.string (sA id),.slice a aa.length c,.string (sA text)] 104)) (fun _ _ _ _ _ i _=>aa.length - (intOf i).toNat)
 case atStart=>exact⟨0,[],Nat.zero_le _,rfl,rfl,HR.o,World.ownsRow_nil _ _ _ _,aq.o,aF.o⟩
 case round=>
  obtain⟨k,fs,hk,rfl,ay,hR,ab,hB,hD⟩:=hrel;have ad:=Qab hR;have aO:=Qab ay;have hf6:fs.length<=6:=by omega
  clear ay;have aD:=Qab ab;have HB:=Qab hB;have HD:=Qab hD;have aP:=hB.size;have hDl:=Qar hD;obtain⟨va,vc,aL⟩:=Qat ab;subst aL;have g0:wr.cell? ⟨w.heap.size,0,none⟩=some (.string (sA id)):=Qaa hD 0;have g1:wr.cell? ⟨w.heap.size,1,none⟩=some (.slice a aa.length c):=Qaa hD 1;have g2:wr.cell? ⟨w.heap.size,2,none⟩=some (.string (sA text)):=Qaa hD 2;clear hR ab hB hD d1;by_cases hlt:k<aa.length;rotate_left
  ·have hz:¬(k:Int)<(aa.length:Int):=by omega
   have HE:Hid (filesL id aa text=.ok fs):=by
    show _=_
    rw[ad.o,List.drop_of_length_le (by omega)];simp[QvU,fTo]
   go_wp2;go_ret2;exact⟨HB.o,Or.inl ⟨fs,_,HE.o,rfl,aD.o⟩⟩
  have hlt':(k:Int)<(aa.length:Int):=by omega
  obtain⟨b,ah,rfl,aC⟩:=aN.o (fun e=>by rw[e]at hlt;exact absurd hlt (Nat.not_lt_zero _));have ai:=aC k hlt;have ax:=Qau ai.1;have e1:wr.cell? ⟨b,ah+k*2,none⟩=some (.int .i64 aa[k].1):=(HB.o.cell (p:=⟨b,ah+k*2,none⟩) ax).trans ai.1;have e2:wr.cell? ⟨b,ah+k*2+1,none⟩=some (.string (sA aa[k].2)):=(HB.o.cell (p:=⟨b,ah+k*2+1,none⟩) ax).trans ai.2;have aE:=H3.o aa[k] (List.getElem_mem hlt);rw[List.drop_eq_getElem_cons hlt]at ad;generalize aa[k]=x at *;obtain⟨ac,ar⟩:=x;dsimp only at e1 e2 aE;obtain⟨V,hV⟩:∃ V,V=wr.alloc (.cells #[.int .i64 ac,.string (sA ar)] 34):=⟨_,rfl⟩;have ag:Below wr.heap.size wr V:=by rw[hV];exact(Below.refl _ _).alloc (Nat.le_refl _) _
  have ap:=Qab (HB.o.trans (ag.mono aP));have aR:=Qab (Qai HD.o ag);have aI:Hid (V.ownsRow w.heap.size 39 2 (.slice va fs.length vc) fs.length (Qcy fs)):=QaR (P:=fun _ _=>False) aD.o (Fr.of_below ag) (fun _ _ h=>h);have aS:=Qab hV;have aG:Hid (Tab V):=HT.o.below ap.o;clear hV ag ai aC;go_wp2_with fail;rw[<-aS.o];refine(Qul id text ar ac k _ aa.length c V aG.o (by omega) h1 h2 aE).mono ?_;rintro e w1 ⟨rfl,af⟩;have aj:=Qab (ap.o.trans (af.mono ap.o.size));have ak:=Qab (Qai aR.o af);have ao:Hid (w1.ownsRow w.heap.size 39 2 (.slice va fs.length vc) fs.length (Qcy fs)):=QaR (P:=fun _ _=>False) aI.o (Fr.of_below af) (fun _ _ h=>h);have hw1:w.heap.size<w1.heap.size:=Qar ak.o;clear af e1 e2 g0 g1 g2
  cases hf:fileL id text k (ac,ar)with
  |error e=>
   have HE:=Qab (Qot (r:=aa.drop (k+1)) fs hf);rw[HE.o]at ad;unfold QwP;dsimp only;go_wp2;go_ret2;exact⟨aj.o.alloc aj.o.size _,Or.inr ⟨e,ad.o,rfl⟩⟩
  |ok f=>
   have HE:=Qab (Qrc (r:=aa.drop (k+1)) fs hf);rw[HE.o]at ad;unfold QwP;dsimp only;go_wp2_with (at_builtin;refine wpList_append_own_at _ rfl _ _ 40 rfl w.heap.size 39 i0 _ 2 32 underlying40 hi aV au aQ rfl (by decide) _ _ _ rfl (World.ownsRow.alloc (World.ownsRow.alloc ao.o _) _) ⟨w1.heap.size+1,0,none⟩ 1 1 (QhP f) rfl rfl (Qxi w1 _ f _) (QvT f) (by unfold maxLen;omega) (by omega) (by simp;omega) ?_;intro v5 w5 aw az _ ae;have HG5:Hid (((w1.alloc (.cells #[.string (sA f.1),.string (sA f.2)] 39)).alloc (.cells #[.string (sA f.1),.string (sA f.2)] 39)).grownBy w5 (Value.slice va fs.length vc).ownBlock):=az;have aT:=Qab aw;clear aw az ae);have aJ:=World.ownsRow.lt ao.o;have aM:Below w.heap.size w w5:=QcA (aj.o.alloc aj.o.size _) (by simp;omega) HG5.o (fun k hk=>(aJ k hk).1);refine⟨⟨k+1,fs++[f],by omega,by go_num,by rw[List.length_append,aO.o];rfl,ad.o,?_,aM,?_⟩,by simp[intOf];omega⟩
   ·rw[List.length_append,<-Qii];exact aT.o
   ·rw [HG5.o.block w.heap.size (by simp;omega) (fun e=>by
     obtain⟨_,cs,aU⟩:=Qbb ao.o _ _ e.symm ak.o;injection aU with e1 e2
     exact absurd e2 (by decide))]
    exact Qac (Qac ak.o)
def kJ:L8:=[46,106,111,117,114,110,97,108]
theorem QlE(B:Nat)(l:List (L8))(v:Value)(x:L8)(w:World)(h:NamV w B v l)(hn:l.length<=1000000):Calls Tryz.prog 37 #[v,.string (sA x)] w fun e w'=>e=.returned (.bool (decide (x∈l)))/\w'=w:=by
 rcases h.2 with⟨hv,h0⟩ | ⟨g,ab,cur,hv,hg,hb,hle,hmx,hcs2,htk⟩
 ·have hl:l=[]:=List.eq_nil_of_length_eq_zero h0;subst hl;rw[hv];refine(Tryz.slices_Contains_string_empty none 0 (sA x) w).mono ?_;rintro e w' ⟨rfl,rfl⟩;exact⟨by simp,rfl⟩
 ·rw[hv];refine(Tryz.slices_Contains_string g 0 l.length ab (l.map sA) (sA x) w (by simp) (by omega) (fun j hj=>?_)).mono ?_
  ·have aa:j<l.length:=by simpa using hj
   have h1:=World.ownsRow.cells h (g:=g) (by rw[hv];rfl) j (.string (sA l[j])) (by rw[List.getElem?_map,List.getElem?_eq_getElem aa];rfl);rw[Qbu]at h1;rw[Nat.zero_add,h1];simp[List.getD_eq_getElem?_getD,aa]
  ·rintro e w' ⟨rfl,rfl⟩;refine⟨?_,rfl⟩;have e1:(l.map sA).take l.length=l.map sA:=List.take_of_length_le (by simp);rw[e1];congr 2;rw[Bool.eq_iff_iff,Lib.containsS_iff];simp only[List.mem_map,decide_eq_true_eq];exact⟨fun⟨y,hy,e⟩=>by rw[<-Qf8 e];exact hy,fun h=>⟨x,h,rfl⟩⟩
theorem Qih(B:Nat)(l:List (L8))(v:Value)(w:World)(h:NamV w B v l)(hn:l.length<=1000000)(hj:kJ ∉ l) :
 Calls Tryz.prog 73 #[v] w fun e w'=>e=.returned (.string (sA kJ))/\w'=w:=by
 have hc:=QlE B l v kJ w h hn;rw[decide_eq_false hj]at hc;have HC:=Qab hc;clear hc;go_enter func73,ntmps73;go_wp2;refine wp_loop_rounds 1 ?_;rw[rounds_succ];go_wp2_with (go_at_call 37;refine HC.o.mono ?_;rintro e w' ⟨rfl,rfl⟩);go_ret;exact⟨rfl,rfl⟩
theorem QpG{w:World}{B:Nat}{a:Option Addr}{n c:Nat}{l:List (L8)}(h:NamV w B (.slice a n c) l)(j:Nat)(hj:j<l.length):∃ g,a=some ⟨g,0,none⟩/\g<w.heap.size/\w.cell? ⟨g,j,none⟩=some (.string (sA l[j])):=by
 rcases h.2 with⟨hv,h0⟩ | ⟨g,cap,cur,hv,hg,hb,hle,hmx,hcs2,htk⟩
 ·omega
 ·injection hv with h1 h2 h3
  refine⟨g,h1,Qar hb,?_⟩;have h4:=World.ownsRow.cells h (g:=g) (by rw[h1];rfl) j (.string (sA l[j])) (by rw[List.getElem?_map,List.getElem?_eq_getElem hj];rfl);rw[Qbu]at h4;exact h4
abbrev Qcr (db:Nat):Value:=.iface 52 (.pointer (some ⟨db,0,none⟩))
def QkS (w:World) (v:Value) (l:List Fl):Prop:=∃ a c,v=.slice a l.length c∧(l≠[]→∃ g cs,a=some ⟨g,0,none⟩∧w.heap[g]?=some (.cells cs 39)∧∀ j (hj:j < l.length),w.cell? ⟨g,j*2,none⟩=some (.string (sA l[j].1))∧w.cell? ⟨g,j*2+1,none⟩=some (.string (sA l[j].2)))
theorem PDk.notFile{B k:Nat}{cs:Array Value}:¬ PDk B k (.cells cs 39):=by
 rintro⟨_,⟨aa,e⟩ | ⟨es,c,e⟩ | ⟨aa,e⟩⟩
 ·injection e with e1 e2;exact absurd e2 (by decide)
 ·cases e
 ·injection e with e1 e2;exact absurd e2 (by decide)
theorem PDk.notDisk{B k:Nat}{cs:Array Value}:¬ PDk B k (.cells cs 75):=by
 rintro⟨_,⟨aa,e⟩ | ⟨es,c,e⟩ | ⟨aa,e⟩⟩
 ·injection e with e1 e2;exact absurd e2 (by decide)
 ·cases e
 ·injection e with e1 e2;exact absurd e2 (by decide)
def wOp (f:Fl):Dop:=⟨1,f.1,f.2⟩
theorem Fr.dropNew{P:Nat->Obj->Prop}{w W1 w2:World}{gb:Nat}(h1:Fr P w W1)(h2:Fr (fun k o=>P k o\/PBy gb k o) W1 w2)(hg:w.heap.size<=gb):Fr P w w2:=
 ⟨h2.os.trans h1.os,h2.tape.trans h1.tape,h2.output.trans h1.output,Nat.le_trans h1.size h2.size,fun i o hi hn=>h2.block i o (h1.block i o hi hn) (fun hp=>hp.elim hn (fun⟨e,_⟩=>by have:=Qar hi;omega))⟩
theorem Qs0(db:Nat)(W:World):(method 534 52 (.pointer (some ⟨db,0,none⟩)) "Write").run Tryz.prog W=.ok (316,.pointer (some ⟨db,0,none⟩)) W:=by kernel_rfl
theorem Qrz(db:Nat)(W:World):(method 534 52 (.pointer (some ⟨db,0,none⟩)) "Remove").run Tryz.prog W=.ok (314,.pointer (some ⟨db,0,none⟩)) W:=by kernel_rfl
theorem Qqh(db:Nat)(W:World):(method 534 52 (.pointer (some ⟨db,0,none⟩)) "Sync").run Tryz.prog W=.ok (315,.pointer (some ⟨db,0,none⟩)) W:=by kernel_rfl
theorem QmJ(db:Nat)(W:World):(method 534 52 (.pointer (some ⟨db,0,none⟩)) "Names").run Tryz.prog W=.ok (312,.pointer (some ⟨db,0,none⟩)) W:=by kernel_rfl
theorem Qd3(db:Nat)(a:Option Addr)(m c:Nat)(w:World) :
 Calls Tryz.prog 75 #[Qcr db,.slice a m c] w fun e w'=>∃ fb xb,e=.returned (.func (.func 146) #[] #[.pointer (some ⟨fb,0,none⟩),.pointer (some ⟨xb,0,none⟩)])/\w'.heap[fb]?=some (.cells #[.slice a m c] 40)/\w'.heap[xb]?=some (.cells #[Qcr db] 75)/\Below w.heap.size w w':=by
 go_enter func75,ntmps75;go_wp2;go_ret;exact⟨_,_,rfl,Qaq (by simp),Qac (Qam _ _),((Below.refl _ _).alloc (Nat.le_refl _) _).alloc (by simp) _⟩
theorem QeO(db:Nat)(x:L8)(w:World) :
 Calls Tryz.prog 77 #[Qcr db,.string (sA x)] w fun e w'=>∃ xb nb,e=.returned (.func (.func 150) #[] #[.pointer (some ⟨xb,0,none⟩),.pointer (some ⟨nb,0,none⟩)])/\w'.heap[xb]?=some (.cells #[Qcr db] 75)/\w'.heap[nb]?=some (.cells #[.string (sA x)] 9)/\Below w.heap.size w w':=by
 go_enter func77,ntmps77;go_wp2;go_ret;exact⟨_,_,rfl,Qac (Qam _ _),Qaq (by simp),((Below.refl _ _).alloc (Nat.le_refl _) _).alloc (by simp) _⟩
structure Lf where
 left:Int
 full:Int
 down:Bool
abbrev w64 (x:Int):Int:=wrap64 x
def aWr (a:Lf):Nat×Lf:=
 if a.down=true∨a.left=0 then (16,⟨a.left,a.full,true⟩)
 else if a.full=0 then (15,⟨w64 (a.left - 1),-1,false⟩)
 else (0,⟨w64 (a.left - 1),w64 (a.full - 1),false⟩)
def Qcx (k:Nat):Value:=if k=0 then .nilIface else .iface 30 (.int .i64 (k:Int))
structure DJ (w:World) (B db bd bn n:Nat) (D N:Fs) (p:List Dop) (ql qf:Int) (dn:Bool) (pv:Value):Prop where
 bb:B≤db∧B≤bd∧B≤bn
 ne:bd≠bn
 blk:w.heap[db]?=some (.cells #[.map (some bd),.map (some bn),pv,.int .i64 ql,.int .i64 qf,.bool dn] 59)
 md:Qfu w bd n D
 mn:Qfu w bn n N
 row:w.ownsRow B 84 4 pv p.length (Qdb p)
theorem DJ.fr{P:Nat->Obj->Prop}{w w':World}{B db bd bn n:Nat}{D N:Fs}{p:List Dop}{ql qf:Int}{dn:Bool}{pv:Value}(h:DJ w B db bd bn n D N p ql qf dn pv)(hf:Fr P w w')(h1:∀ k cs,¬ P k (.cells cs 59))(h2:∀ k es c,¬ P k (.map es c))(h3:∀ k cs,¬ P k (.cells cs 84))(h4:∀ k cs,¬ P k (.cells cs 9)):DJ w' B db bd bn n D N p ql qf dn pv:=
 ⟨h.bb,h.ne,hf.block _ _ h.blk (h1 _ _),h.md.fr hf (h2 _) h4,h.mn.fr hf (h2 _) h4,QaR h.row hf h3⟩
theorem DJ.below{w w':World}{B db bd bn n:Nat}{D N:Fs}{p:List Dop}{ql qf:Int}{dn:Bool}{pv:Value}(h:DJ w B db bd bn n D N p ql qf dn pv)(hb:Below w.heap.size w w'):DJ w' B db bd bn n D N p ql qf dn pv:=
 h.fr (P:=fun _ _=>False) (Fr.of_below hb) (fun _ _ h=>h) (fun _ _ _ h=>h) (fun _ _ h=>h) (fun _ _ h=>h)
theorem DJ.turn{w w':World}{B db bd bn n:Nat}{D N:Fs}{p:List Dop}{ql qf:Int}{dn:Bool}{aa ac:Int}{ab:Bool}{pv:Value}(h:DJ w B db bd bn n D N p ql qf dn pv)(hf:Fr (PDb db) w w')(hb:w'.heap[db]?=some (.cells #[.map (some bd),.map (some bn),pv,.int .i64 aa,.int .i64 ac,.bool ab] 59)):DJ w' B db bd bn n D N p aa ac ab pv:=
 ⟨h.bb,h.ne,hb,h.md.fr hf (fun es c ⟨_,cs,e⟩=>by cases e) (fun k cs ⟨_,cs',e⟩=>by injection e with e1 e2;exact absurd e2 (by decide)),h.mn.fr hf (fun es c ⟨_,cs,e⟩=>by cases e) (fun k cs ⟨_,cs',e⟩=>by injection e with e1 e2;exact absurd e2 (by decide)),QaR h.row hf (fun k cs ⟨_,cs',e⟩=>by injection e with e1 e2;exact absurd e2 (by decide))⟩
theorem DJ.rowNe{w:World}{B db bd bn n:Nat}{D N:Fs}{p:List Dop}{ql qf:Int}{dn:Bool}{pv:Value}(h:DJ w B db bd bn n D N p ql qf dn pv):¬ pv.ownBlock=some db:=fun e=>by
 obtain⟨_,cs,aa⟩:=Qbb h.row db _ e h.blk;injection aa with e1 e2
 exact absurd e2 (by decide)
theorem DJ.nowTurn{w w':World}{B db bd bn n:Nat}{D N N':Fs}{p:List Dop}{ql qf:Int}{dn:Bool}{pv:Value}(h:DJ w B db bd bn n D N p ql qf dn pv)(hf:Fr (QuW bn) w w')(hm:Qfu w' bn (n+1) N'):DJ w' B db bd bn (n+1) D N' p ql qf dn pv:=
 ⟨h.bb,h.ne,hf.block _ _ h.blk (fun⟨_,es,c,e⟩=>by cases e),(h.md.fr hf (fun es c ⟨e,_⟩=>h.ne e) (fun k cs ⟨_,es,c,e⟩=>by cases e)).mono (Nat.le_succ _),hm,QaR h.row hf (fun k cs ⟨_,es,c,e⟩=>by cases e)⟩
theorem DJ.durTurn{w w':World}{B db bd bn n:Nat}{D N D':Fs}{p:List Dop}{ql qf:Int}{dn:Bool}{pv:Value}(h:DJ w B db bd bn n D N p ql qf dn pv)(hf:Fr (QuW bd) w w')(hm:Qfu w' bd (n+1) D'):DJ w' B db bd bn (n+1) D' N p ql qf dn pv:=
 ⟨h.bb,h.ne,hf.block _ _ h.blk (fun⟨_,es,c,e⟩=>by cases e),hm,(h.mn.fr hf (fun es c ⟨e,_⟩=>h.ne e.symm) (fun k cs ⟨_,es,c,e⟩=>by cases e)).mono (Nat.le_succ _),QaR h.row hf (fun k cs ⟨_,es,c,e⟩=>by cases e)⟩
theorem DJ.rowTurn{w w5:World}{B db bd bn n:Nat}{D N:Fs}{p p':List Dop}{ql qf:Int}{dn:Bool}{pv v':Value}(h:DJ w B db bd bn n D N p ql qf dn pv)(hf:Fr (fun k _=>pv.ownBlock=some k) w w5)(ho:w5.ownsRow B 84 4 v' p'.length (Qdb p')) :
 DJ (w5.setCell ⟨db,2,none⟩ v') B db bd bn n D N p' ql qf dn v'/\Fr (PDk B) w (w5.setCell ⟨db,2,none⟩ v'):=by
 have hg:Fr (fun k o=>B<=k/\∃ cs,o=.cells cs 84) w w5:=⟨hf.os,hf.tape,hf.output,hf.size,fun k o hk hn=>hf.block k o hk (fun e=>hn (Qbb h.row k o e hk))⟩;have ab:=hg.block _ _ h.blk (fun⟨_,cs,e⟩=>by injection e with e1 e2;exact absurd e2 (by decide));have aa:=(Fr.refl (PDb db) w5).set ab ⟨rfl,_,rfl⟩ 2 v';refine⟨⟨h.bb,h.ne,Qag _ _ _ _ _ _ ab,?_,?_,QaR ho aa (fun k cs ⟨_,cs',e⟩=>by injection e with e1 e2;exact absurd e2 (by decide))⟩,(hg.mono (fun k o hk=>⟨hk.1,Or.inr (Or.inr hk.2)⟩)).trans (aa.mono (fun k o hk=>hk.toK h.bb.1))⟩
 ·exact(h.md.fr hg (fun es c ⟨_,cs,e⟩=>by cases e) (fun k cs ⟨_,cs',e⟩=>by injection e with e1 e2;exact absurd e2 (by decide))).fr aa (fun es c ⟨_,cs,e⟩=>by cases e) (fun k cs ⟨_,cs',e⟩=>by injection e with e1 e2;exact absurd e2 (by decide))
 ·exact(h.mn.fr hg (fun es c ⟨_,cs,e⟩=>by cases e) (fun k cs ⟨_,cs',e⟩=>by injection e with e1 e2;exact absurd e2 (by decide))).fr aa (fun es c ⟨_,cs,e⟩=>by cases e) (fun k cs ⟨_,cs',e⟩=>by injection e with e1 e2;exact absurd e2 (by decide))
theorem QfU(B db bd bn n:Nat)(D N:Fs)(p:List Dop)(a:Lf)(pv:Value)(w:World)(h:DJ w B db bd bn n D N p a.left a.full a.down pv) :
 Calls Tryz.prog 319 #[.pointer (some ⟨db,0,none⟩)] w fun e w'=>e=.returned (Qcx (aWr a).1)/\DJ w' B db bd bn n D N p (aWr a).2.left (aWr a).2.full (aWr a).2.down pv/\Fr (PDb db) w w':=by
 obtain⟨ql,qf,dn⟩:=a;have HD:=Qab h;have d3:w.cell? ⟨db,3,none⟩=some (.int .i64 ql):=Qaa h.blk 3;have d4:w.cell? ⟨db,4,none⟩=some (.int .i64 qf):=Qaa h.blk 4;have d5:w.cell? ⟨db,5,none⟩=some (.bool dn):=Qaa h.blk 5;have f3:∀ j,w.frozen? ⟨db,j,none⟩=false:=fun j=>Qah h.blk j
 clear h;have hP:∀ cs,PDb db db (.cells cs 59):=fun cs=>⟨rfl,_,rfl⟩
 have HS:=Qab (Qag w db 5 (.bool true) _ _ HD.o.blk);have ab:=Qab (Qag w db 3 (.int .i64 (w64 (ql - 1))) _ _ HD.o.blk);have aa:=Qab ((Fr.refl (PDb db) w).set HD.o.blk (hP _) 5 (.bool true));have ac:=Qab ((Fr.refl (PDb db) w).set HD.o.blk (hP _) 3 (.int .i64 (w64 (ql - 1))));by_cases hd:dn=true
 ·subst hd;have HA:Hid (aWr ⟨ql,qf,true⟩=(16,⟨ql,qf,true⟩)):=rfl;go_enter func319,ntmps319;go_wp2;go_ret;rw[HA.o];exact⟨rfl,HD.o.turn aa.o HS.o,aa.o⟩
 have ad:dn=false:=by cases dn with
  |true=>exact absurd rfl hd
  |false=>rfl
 subst ad;by_cases hl:ql=0
 ·subst hl;have HA:Hid (aWr ⟨0,qf,false⟩=(16,⟨0,qf,true⟩)):=by show _=_;unfold aWr;rw[if_pos (Or.inr rfl)]
  go_enter func319,ntmps319;go_wp2;go_ret;rw[HA.o];exact⟨rfl,HD.o.turn aa.o HS.o,aa.o⟩
 by_cases hf:qf=0
 ·subst hf;have HA:Hid (aWr ⟨ql,0,false⟩=(15,⟨w64 (ql - 1),-1,false⟩)):=by show _=_;unfold aWr;rw[if_neg (by simpa using hl),if_pos rfl]
  go_enter func319,ntmps319;go_wp2;go_ret;rw[HA.o];have h4:=Qag _ db 4 (.int .i64 (-1)) _ _ ab.o;have g4:=ac.o.set ab.o (hP _) 4 (.int .i64 (-1));exact⟨rfl,HD.o.turn g4 h4,g4⟩
 ·have HA:Hid (aWr ⟨ql,qf,false⟩=(0,⟨w64 (ql - 1),w64 (qf - 1),false⟩)):=by show _=_;unfold aWr;rw[if_neg (by simpa using hl),if_neg hf]
  go_enter func319,ntmps319;go_wp2;go_ret;rw[HA.o];have h4:=Qag _ db 4 (.int .i64 (w64 (qf - 1))) _ _ ab.o;have g4:=ac.o.set ab.o (hP _) 4 (.int .i64 (w64 (qf - 1)));exact⟨rfl,HD.o.turn g4 h4,g4⟩
theorem Qsc(B db bd bn n:Nat)(D N:Fs)(p:List Dop)(a:Lf)(pv:Value)(x s:L8)(w:World)(h:DJ w B db bd bn n D N p a.left a.full a.down pv)(hn:n<=1000000)(hp:p.length<=1000000)(hx:x.length<=1000000) :
 Calls Tryz.prog 318 #[.pointer (some ⟨db,0,none⟩),.agg #[.int .i64 1,.string (sA x),.string ⟨#[]⟩,.string (sA s)]] w fun e w'=>Fr (PDk B) w w'/\(((aWr a).1=0/\e=.returned .nilIface/\∃ pv',DJ w' B db bd bn (n+1) D (Qfp N x s) (p++[⟨1,x,s⟩]) (aWr a).2.left (aWr a).2.full (aWr a).2.down pv')\/((aWr a).1≠0/\e=.returned (Qcx (aWr a).1)/\DJ w' B db bd bn n D N p (aWr a).2.left (aWr a).2.full (aWr a).2.down pv/\Fr (PDb db) w w')):=by
 obtain⟨W,hW⟩:∃ W,W=w.alloc (.cells #[.int .i64 1,.string (sA x),.string ⟨#[]⟩,.string (sA s)] 84):=⟨_,rfl⟩;have aq:Hid (Below w.heap.size w W):=by rw[hW];exact(Below.refl _ _).alloc (Nat.le_refl _) _
 have aC:Hid (W.heap[w.heap.size]?=some (.cells #[.int .i64 1,.string (sA x),.string ⟨#[]⟩,.string (sA s)] 84)):=by rw[hW];exact Qam _ _
 have ap:=Qab (h.below aq.o);have aA:=Qab hW;have hdl:=Qar h.blk;obtain⟨la,lc,rfl⟩:=Qat h.row;clear hW h;go_enter func318,ntmps318;go_wp2_with fail;rw[<-aA.o];refine(QfU B db bd bn n D N p a _ W ap.o).mono ?_;rintro e w1 ⟨rfl,ac,af⟩;by_cases hk0:(aWr a).1=0;rotate_left
 ·have ax:=Qab ((Fr.of_below (P:=PDk B) aq.o).trans (af.mono (fun k o hk=>hk.toK ap.o.bb.1)));have aB:=Qab ((Fr.of_below (P:=PDb db) aq.o).trans af);have ao:=Qab ac;have av:=Qab hk0;have he:Qcx (aWr a).1=.iface 30 (.int .i64 (((aWr a).1:Nat):Int)):=by unfold Qcx;rw[if_neg hk0]
  rw[he];have aI:=Qab he;clear ac af he hk0;go_wp2;go_ret;exact⟨ax.o,Or.inr ⟨av.o,by rw[aI.o];rfl,ao.o,aB.o⟩⟩
 have av:=Qab hk0;have he:Qcx (aWr a).1=.nilIface:=by unfold Qcx;rw[if_pos hk0]
 rw[he];clear he hk0;have ao:=Qab ac;have ax:=Qab ((Fr.of_below (P:=PDk B) aq.o).trans (af.mono (fun k o hk=>hk.toK ap.o.bb.1)));have ae:=af.block _ _ aC.o (fun⟨_,cs,e⟩=>by injection e with e1 e2;exact absurd e2 (by decide));have aG:=Qab ae;have d1:w1.cell? ⟨db,1,none⟩=some (.map (some bn)):=Qaa ac.blk 1;have o0:w1.cell? ⟨w.heap.size,0,none⟩=some (.int .i64 1):=Qaa ae 0;have o1:w1.cell? ⟨w.heap.size,1,none⟩=some (.string (sA x)):=Qaa ae 1;have o2:w1.cell? ⟨w.heap.size,2,none⟩=some (.string ⟨#[]⟩):=Qaa ae 2;have o3:w1.cell? ⟨w.heap.size,3,none⟩=some (.string (sA s)):=Qaa ae 3;obtain⟨lv,ay⟩:=Qe6 (w:=w1.drew) ac.mn hx;generalize (N x).isSome=ok at ay;have hml:=Qar ae;have hdl1:=Qar ac.blk;clear ac af ae;cases ok
 all_goals go_wp2_with fail
 all_goals go_region_held3 (fun w'=>w'.cell? ⟨db,1,none⟩=some (.map (some bn))/\w'.cell? ⟨w.heap.size,1,none⟩=some (.string (sA x))) (first|go_keep|exact⟨d1,o1⟩) (fail)
 all_goals go_wp2_with fail
 all_goals clear ay
 all_goals go_region_held3 (fun w'=>w'.cell? ⟨db,1,none⟩=some (.map (some bn))/\w'.cell? ⟨w.heap.size,0,none⟩=some (.int .i64 1)/\w'.cell? ⟨w.heap.size,1,none⟩=some (.string (sA x))/\w'.cell? ⟨w.heap.size,2,none⟩=some (.string ⟨#[]⟩)/\w'.cell? ⟨w.heap.size,3,none⟩=some (.string (sA s))) (first|go_keep|exact⟨q1,q2,q3,q4,q5⟩) (first|(go_at_call 32;refine(Qv0 bn n N x s w1.drew.drew ao.o.mn hn hx).mono ?_;rintro e w2 ⟨rfl,az,ah⟩;have ar:=ah.undrew.undrew;have au:=ao.o.nowTurn ar az;have ad:=Qab au;have ag:=ar.block _ _ aG.o (fun⟨_,es,c,e⟩=>by cases e);have HO2:=Qab ag;have q1:w2.cell? ⟨db,1,none⟩=some (.map (some bn)):=Qaa au.blk 1;have q2:w2.cell? ⟨w.heap.size,0,none⟩=some (.int .i64 1):=Qaa ag 0;have q3:w2.cell? ⟨w.heap.size,1,none⟩=some (.string (sA x)):=Qaa ag 1;have q4:w2.cell? ⟨w.heap.size,2,none⟩=some (.string ⟨#[]⟩):=Qaa ag 2;have q5:w2.cell? ⟨w.heap.size,3,none⟩=some (.string (sA s)):=Qaa ag 3;have aJ:=Qab (ax.o.trans (ar.mono (fun k o hk=>hk.toK ap.o.bb.2.2)));clear az ar ah au ag;skip))
 all_goals go_wp2_with fail
 all_goals have s2:w2.cell? ⟨db,2,none⟩=some (.slice la p.length lc):=Qaa ad.o.blk 2
 all_goals have ai:=Qar ad.o.blk
 all_goals have hBd:=ad.o.bb.1
 all_goals have hB2:B<=w2.heap.size:=by omega
 all_goals have ak:=Qab ad.o.rowNe
 all_goals clear q1
 all_goals obtain⟨i0,hi,aK,aH,aD⟩:=info_parts Tryz.infoOp
 all_goals go_region_law (refine step_append_lies _ rfl (.tmp 51) (.tmp 53) 57 rfl B 84 i0 (.agg #[.int .i64 0,.string ⟨#[]⟩,.string ⟨#[]⟩,.string ⟨#[]⟩]) 4 56 underlying57 hi aK aH aD rfl (by decide) (.slice la p.length lc) p.length (Qdb p) (by simp[Act.eval,Act.put]) (ad.o.row.alloc _) ⟨w2.heap.size,0,none⟩ 1 1 (Qlp ⟨1,x,s⟩) (by simp[Act.eval,Act.put]) rfl (QnT _ ⟨1,x,s⟩ _) (Qtz ⟨1,x,s⟩) (by decide) (by unfold maxLen;omega) (by omega) (by simp;omega) _ rfl ?_;intro g' aw w5 ab aa hat hlt5;have aF:=Qab ab;have aE:=Qab aa;have t2:w5.cell? ⟨db,2,none⟩=some (.slice la p.length lc):=aa.cell (a:=⟨db,2,none⟩) ((World.cell?_of_block (a:=⟨db,2,none⟩) (w:=w2) (Below.heap_alloc _ _ _ ai)).trans s2) (fun e=>ak.o e.symm);have hft:∀ j,w5.frozen? ⟨db,j,none⟩=false:=fun j=>(World.frozen?_of_block (a:=⟨db,j,none⟩) (w:=w2) ((aa.block db (by simp;omega) (fun e=>ak.o e.symm)).trans (Below.heap_alloc _ _ _ ai))).trans (Qah ad.o.blk j);clear ab aa;skip)
 all_goals go_wp2
 all_goals go_ret
 all_goals have aj:=ad.o.rowTurn (p':=p++[⟨1,x,s⟩]) ((((Fr.refl _ w2).alloc _).drew).grown aE.o (fun k o e _=>e)) (v':=.slice (some ⟨g',0,none⟩) (p.length+1) aw) (by rw[List.length_append,<-QfD];exact aF.o)
 all_goals exact⟨aJ.o.trans aj.2,Or.inl ⟨av.o,rfl,_,aj.1⟩⟩
theorem Qsz(B db bd bn n:Nat)(D N:Fs)(p:List Dop)(a:Lf)(pv:Value)(x s:L8)(w:World)(h:DJ w B db bd bn n D N p a.left a.full a.down pv)(hn:n<=1000000)(hp:p.length<=1000000)(hx:x.length<=1000000)(hh:(N x).isSome=true) :
 Calls Tryz.prog 318 #[.pointer (some ⟨db,0,none⟩),.agg #[.int .i64 3,.string (sA x),.string ⟨#[]⟩,.string (sA s)]] w fun e w'=>Fr (PDk B) w w'/\(((aWr a).1=0/\e=.returned .nilIface/\∃ pv',DJ w' B db bd bn (n+1) D (Qj2 N x) (p++[⟨3,x,s⟩]) (aWr a).2.left (aWr a).2.full (aWr a).2.down pv')\/((aWr a).1≠0/\e=.returned (Qcx (aWr a).1)/\DJ w' B db bd bn n D N p (aWr a).2.left (aWr a).2.full (aWr a).2.down pv/\Fr (PDb db) w w')):=by
 obtain⟨W,hW⟩:∃ W,W=w.alloc (.cells #[.int .i64 3,.string (sA x),.string ⟨#[]⟩,.string (sA s)] 84):=⟨_,rfl⟩;have aq:Hid (Below w.heap.size w W):=by rw[hW];exact(Below.refl _ _).alloc (Nat.le_refl _) _
 have aC:Hid (W.heap[w.heap.size]?=some (.cells #[.int .i64 3,.string (sA x),.string ⟨#[]⟩,.string (sA s)] 84)):=by rw[hW];exact Qam _ _
 have ap:=Qab (h.below aq.o);have aA:=Qab hW;have aD:=Qab hh;clear hh;have hdl:=Qar h.blk;obtain⟨la,lc,rfl⟩:=Qat h.row;clear hW h;go_enter func318,ntmps318;go_wp2_with fail;rw[<-aA.o];refine(QfU B db bd bn n D N p a _ W ap.o).mono ?_;rintro e w1 ⟨rfl,ac,af⟩;by_cases hk0:(aWr a).1=0;rotate_left
 ·have ax:=Qab ((Fr.of_below (P:=PDk B) aq.o).trans (af.mono (fun k o hk=>hk.toK ap.o.bb.1)));have aB:=Qab ((Fr.of_below (P:=PDb db) aq.o).trans af);have ao:=Qab ac;have av:=Qab hk0;have he:Qcx (aWr a).1=.iface 30 (.int .i64 (((aWr a).1:Nat):Int)):=by unfold Qcx;rw[if_neg hk0]
  rw[he];have aJ:=Qab he;clear ac af he hk0;go_wp2;go_ret;exact⟨ax.o,Or.inr ⟨av.o,by rw[aJ.o];rfl,ao.o,aB.o⟩⟩
 have av:=Qab hk0;have he:Qcx (aWr a).1=.nilIface:=by unfold Qcx;rw[if_pos hk0]
 rw[he];clear he hk0;have ao:=Qab ac;have ax:=Qab ((Fr.of_below (P:=PDk B) aq.o).trans (af.mono (fun k o hk=>hk.toK ap.o.bb.1)));have ae:=af.block _ _ aC.o (fun⟨_,cs,e⟩=>by injection e with e1 e2;exact absurd e2 (by decide));have aH:=Qab ae;have d1:w1.cell? ⟨db,1,none⟩=some (.map (some bn)):=Qaa ac.blk 1;have o0:w1.cell? ⟨w.heap.size,0,none⟩=some (.int .i64 3):=Qaa ae 0;have o1:w1.cell? ⟨w.heap.size,1,none⟩=some (.string (sA x)):=Qaa ae 1;have o2:w1.cell? ⟨w.heap.size,2,none⟩=some (.string ⟨#[]⟩):=Qaa ae 2;have o3:w1.cell? ⟨w.heap.size,3,none⟩=some (.string (sA s)):=Qaa ae 3;obtain⟨lv,ay⟩:=Qe6 (w:=w1.drew) ac.mn hx;rw[aD.o]at ay;have hml:=Qar ae;have hdl1:=Qar ac.blk;clear ac af ae
 all_goals go_wp2_with fail
 all_goals go_region_held3 (fun w'=>w'.cell? ⟨db,1,none⟩=some (.map (some bn))/\w'.cell? ⟨w.heap.size,1,none⟩=some (.string (sA x))) (first|go_keep|exact⟨d1,o1⟩) (fail)
 all_goals go_wp2_with fail
 all_goals clear ay
 all_goals go_region_held3 (fun w'=>w'.cell? ⟨db,1,none⟩=some (.map (some bn))/\w'.cell? ⟨w.heap.size,0,none⟩=some (.int .i64 3)/\w'.cell? ⟨w.heap.size,1,none⟩=some (.string (sA x))/\w'.cell? ⟨w.heap.size,2,none⟩=some (.string ⟨#[]⟩)/\w'.cell? ⟨w.heap.size,3,none⟩=some (.string (sA s))) (first|go_keep|exact⟨q1,q2,q3,q4,q5⟩) (first|(go_at_call 32;refine(Qv2 bn n N x s w1.drew.drew ao.o.mn hx).mono ?_;rintro e w2 ⟨rfl,az,ah⟩;have ar:=ah.undrew.undrew;have au:=ao.o.nowTurn ar (az.mono (Nat.le_succ _));have ad:=Qab au;have ag:=ar.block _ _ aH.o (fun⟨_,es,c,e⟩=>by cases e);have HO2:=Qab ag;have q1:w2.cell? ⟨db,1,none⟩=some (.map (some bn)):=Qaa au.blk 1;have q2:w2.cell? ⟨w.heap.size,0,none⟩=some (.int .i64 3):=Qaa ag 0;have q3:w2.cell? ⟨w.heap.size,1,none⟩=some (.string (sA x)):=Qaa ag 1;have q4:w2.cell? ⟨w.heap.size,2,none⟩=some (.string ⟨#[]⟩):=Qaa ag 2;have q5:w2.cell? ⟨w.heap.size,3,none⟩=some (.string (sA s)):=Qaa ag 3;have aK:=Qab (ax.o.trans (ar.mono (fun k o hk=>hk.toK ap.o.bb.2.2)));clear az ar ah au ag;skip))
 all_goals go_wp2_with fail
 all_goals have s2:w2.cell? ⟨db,2,none⟩=some (.slice la p.length lc):=Qaa ad.o.blk 2
 all_goals have ai:=Qar ad.o.blk
 all_goals have hBd:=ad.o.bb.1
 all_goals have hB2:B<=w2.heap.size:=by omega
 all_goals have ak:=Qab ad.o.rowNe
 all_goals clear q1
 all_goals obtain⟨i0,hi,aL,aI,aE⟩:=info_parts Tryz.infoOp
 all_goals go_region_law (refine step_append_lies _ rfl (.tmp 51) (.tmp 53) 57 rfl B 84 i0 (.agg #[.int .i64 0,.string ⟨#[]⟩,.string ⟨#[]⟩,.string ⟨#[]⟩]) 4 56 underlying57 hi aL aI aE rfl (by decide) (.slice la p.length lc) p.length (Qdb p) (by simp[Act.eval,Act.put]) (ad.o.row.alloc _) ⟨w2.heap.size,0,none⟩ 1 1 (Qlp ⟨3,x,s⟩) (by simp[Act.eval,Act.put]) rfl (QnT _ ⟨3,x,s⟩ _) (Qtz ⟨3,x,s⟩) (by decide) (by unfold maxLen;omega) (by omega) (by simp;omega) _ rfl ?_;intro g' aw w5 ab aa hat hlt5;have aG:=Qab ab;have aF:=Qab aa;have t2:w5.cell? ⟨db,2,none⟩=some (.slice la p.length lc):=aa.cell (a:=⟨db,2,none⟩) ((World.cell?_of_block (a:=⟨db,2,none⟩) (w:=w2) (Below.heap_alloc _ _ _ ai)).trans s2) (fun e=>ak.o e.symm);have hft:∀ j,w5.frozen? ⟨db,j,none⟩=false:=fun j=>(World.frozen?_of_block (a:=⟨db,j,none⟩) (w:=w2) ((aa.block db (by simp;omega) (fun e=>ak.o e.symm)).trans (Below.heap_alloc _ _ _ ai))).trans (Qah ad.o.blk j);clear ab aa;skip)
 all_goals go_wp2
 all_goals go_ret
 all_goals have aj:=ad.o.rowTurn (p':=p++[⟨3,x,s⟩]) ((((Fr.refl _ w2).alloc _).drew).grown aF.o (fun k o e _=>e)) (v':=.slice (some ⟨g',0,none⟩) (p.length+1) aw) (by rw[List.length_append,<-QfD];exact aG.o)
 all_goals exact⟨aK.o.trans aj.2,Or.inl ⟨av.o,rfl,_,aj.1⟩⟩
theorem aWr_cases(a:Lf):(aWr a).1=0\/(aWr a).1=15\/(aWr a).1=16:=by
 unfold aWr;split
 ·exact Or.inr (Or.inr rfl)
 ·split
  ·exact Or.inr (Or.inl rfl)
  ·exact Or.inl rfl
theorem DJ.by{w w':World}{B db bd bn n gb:Nat}{D N:Fs}{p:List Dop}{ql qf:Int}{dn:Bool}{pv:Value}(h:DJ w B db bd bn n D N p ql qf dn pv)(hf:Fr (PBy gb) w w'):DJ w' B db bd bn n D N p ql qf dn pv:=
 h.fr hf (fun k cs ⟨_,cs',fr,e⟩=>by injection e with e1 e2;exact absurd e2 (by decide)) (fun k es c ⟨_,cs',fr,e⟩=>by cases e) (fun k cs ⟨_,cs',fr,e⟩=>by injection e with e1 e2;exact absurd e2 (by decide)) (fun k cs ⟨_,cs',fr,e⟩=>by injection e with e1 e2;exact absurd e2 (by decide))
def QxX (B db bd bn n gb:Nat) (D N:Fs) (p:List Dop) (a:Lf) (x s:L8) (w:World) (e:Ending) (w':World):Prop:=
 Fr (fun k o=>PDk B k o∨PBy gb k o) w w'∧(((aWr a).1=0∧e=.returned .nilIface∧∃ pv',DJ w' B db bd bn (n+1) D (Qfp N x s) (p++[⟨1,x,s⟩]) (aWr a).2.left (aWr a).2.full (aWr a).2.down pv')∨
  ((aWr a).1=15∧e=.returned (Qcx 15)∧∃ pv',DJ w' B db bd bn n D N p (aWr a).2.left (aWr a).2.full (aWr a).2.down pv')∨
  ((aWr a).1=16∧e=.returned (Qcx 16)∧∃ pv',DJ w' B db bd bn n D N (p++[⟨1,x,s⟩]) (aWr a).2.left (aWr a).2.full (aWr a).2.down pv'))
theorem Qq3(B db bd bn n gb c:Nat)(D N:Fs)(p:List Dop)(a:Lf)(pv:Value)(x s:L8)(w:World)(h:DJ w B db bd bn n D N p a.left a.full a.down pv)(hn:n<=1000000)(hp:p.length<=1000000)(hx:x.length<=1000000)(hg:BI w gb s.length)(hc:∀ j (hj:j<s.length),w.cell? ⟨gb,j,none⟩=some (.int .u8 (s[j].toNat:Int)))(hs:s.length<=140737488355328) :
 Calls Tryz.prog 316 #[.pointer (some ⟨db,0,none⟩),.string (sA x),.slice (some ⟨gb,0,none⟩) s.length c] w (QxX B db bd bn n gb D N p a x s w):=by
 have hgl:gb<w.heap.size:=by obtain⟨cs,fr,hb⟩:=hg.blk;exact Qar hb
 have hcv:(convert 244 9 (.slice (some ⟨gb,0,none⟩) s.length c)).run Tryz.prog w=.ok (.string (sA s)) w:=run_convert_bytes_back (P:=Tryz.prog) w 244 9 5 ⟨gb,0,none⟩ c s underlying244 underlying5 underlying9 (fun j hj=>by
  rw [Qbu];exact hc j hj)
 obtain⟨V,hV⟩:∃ V,V=w.alloc (.cells #[.int .i64 1,.string (sA x),.string ⟨#[]⟩,.string (sA s)] 84):=⟨_,rfl⟩;have ap:Hid (Below w.heap.size w V):=by rw[hV];exact(Below.refl _ _).alloc (Nat.le_refl _) _
 have HD:=Qab (h.below ap.o);have HG:=Qab (hg.fr (P:=fun _ _=>False) (Fr.of_below ap.o) (fun _ _ _ h=>h));have aF:=Qab hV;have aI:Hid (V.heap[w.heap.size]?=some (.cells #[.int .i64 1,.string (sA x),.string ⟨#[]⟩,.string (sA s)] 84)):=by rw[hV];exact Qam _ _
 clear h hg hc hV;go_enter func316,ntmps316;go_wp2_with fail;rw[<-aF.o];refine(Qsc B db bd bn n D N p a pv x s V HD.o hn hp hx).mono ?_;rintro e w1 ⟨ac,⟨hk,rfl,aE,aj⟩ | ⟨hk,rfl,aj,aB⟩⟩
 ·have ar:=Qab aj;have HK:=Qab hk;have au:=Qab (HG.o.fr ac (fun k cs fr=>PDk.notBy));have aw:=Qab (((Fr.of_below (P:=PDk B) ap.o).trans ac).mono (Q:=fun k o=>PDk B k o\/PBy gb k o) (fun k o h=>Or.inl h));clear aj ac hcv hk;have ay:∀ W,(binOp .eql 61 .nilIface (.iface 30 (.int .i64 16))).run Tryz.prog W=.ok (.bool false) W:=fun W=>by kernel_rfl
  go_wp2;clear ay
  go_loopw [9,32] (fun _ i wr=>∃ k:Nat,k<=s.length/\i=.int .i64 k/\BI wr gb s.length/\DJ wr B db bd bn (n+1) D (Qfp N x s) (p++[⟨1,x,s⟩]) (aWr a).2.left (aWr a).2.full (aWr a).2.down aE/\Fr (fun k o=>PDk B k o\/PBy gb k o) w wr) (fun _ i _=>s.length - (intOf i).toNat)
  case atStart=>exact⟨0,by omega,rfl,au.o,ar.o,aw.o⟩
  case round=>
   obtain⟨k,hk,rfl,hG,hD,hF⟩:=hrel;have ai:=Qab hG;have ag:=Qab hD;have ah:=Qab hF;by_cases hlt:k<s.length
   ·obtain⟨u,hu⟩:=hG.cel k hlt;have aC:=hG.frz k hlt;clear hG hD hF;go_wp2;have aa:=PBy.set ai.o k (.int .u8 33);exact⟨⟨k+1,by omega,by go_num,ai.o.set k _,ag.o.by aa,ah.o.trans (aa.mono (fun k o h=>Or.inr h))⟩,by simp[intOf];omega⟩
   ·have aq:k=s.length:=by omega
    subst aq;clear hG hD hF;go_wp2;go_ret;exact⟨ah.o,Or.inl ⟨HK.o,rfl,_,ag.o⟩⟩
 rcases aWr_cases a with h0|h15|h16
 ·exact absurd h0 hk
 ·have ar:=Qab aj;have HK:=Qab h15;have au:=Qab (HG.o.fr ac (fun k cs fr=>PDk.notBy));have aw:=Qab (((Fr.of_below (P:=PDk B) ap.o).trans ac).mono (Q:=fun k o=>PDk B k o\/PBy gb k o) (fun k o h=>Or.inl h));rw[h15,show Qcx 15=.iface 30 (.int .i64 15)from rfl];clear aj ac hcv hk h15;have ay:∀ W,(binOp .eql 61 (.iface 30 (.int .i64 15)) (.iface 30 (.int .i64 16))).run Tryz.prog W=.ok (.bool false) W:=fun W=>by kernel_rfl
  go_wp2;clear ay
  go_loopw [9,32] (fun _ i wr=>∃ k:Nat,k<=s.length/\i=.int .i64 k/\BI wr gb s.length/\DJ wr B db bd bn n D N p (aWr a).2.left (aWr a).2.full (aWr a).2.down pv/\Fr (fun k o=>PDk B k o\/PBy gb k o) w wr) (fun _ i _=>s.length - (intOf i).toNat)
  case atStart=>exact⟨0,by omega,rfl,au.o,ar.o,aw.o⟩
  case round=>
   obtain⟨k,hk,rfl,hG,hD,hF⟩:=hrel;have ai:=Qab hG;have ag:=Qab hD;have ah:=Qab hF;by_cases hlt:k<s.length
   ·obtain⟨u,hu⟩:=hG.cel k hlt;have aC:=hG.frz k hlt;clear hG hD hF;go_wp2;have aa:=PBy.set ai.o k (.int .u8 33);exact⟨⟨k+1,by omega,by go_num,ai.o.set k _,ag.o.by aa,ah.o.trans (aa.mono (fun k o h=>Or.inr h))⟩,by simp[intOf];omega⟩
   ·have aq:k=s.length:=by omega
    subst aq;clear hG hD hF;go_wp2;go_ret;exact⟨ah.o,Or.inr (Or.inl ⟨HK.o,rfl,_,ag.o⟩)⟩
 ·have ae:=Qab aj;have HK:=Qab h16;have aH:=Qab (HG.o.fr ac (fun k cs fr=>PDk.notBy));have aJ:=Qab ((Fr.of_below (P:=PDk B) ap.o).trans ac);have ao:=aB.block _ _ aI.o (fun⟨_,cs,e⟩=>by injection e with e1 e2;exact absurd e2 (by decide));have HO2:=Qab ao;rw[h16,show Qcx 16=.iface 30 (.int .i64 16)from rfl];clear aj ac hcv hk h16;have ay:∀ W,(binOp .eql 61 (.iface 30 (.int .i64 16)) (.iface 30 (.int .i64 16))).run Tryz.prog W=.ok (.bool true) W:=fun W=>by kernel_rfl
  obtain⟨la,lc,aM⟩:=Qat ae.o.row;subst aM;have q2:w1.cell? ⟨w.heap.size,0,none⟩=some (.int .i64 1):=Qaa ao 0;have q3:w1.cell? ⟨w.heap.size,1,none⟩=some (.string (sA x)):=Qaa ao 1;have q4:w1.cell? ⟨w.heap.size,2,none⟩=some (.string ⟨#[]⟩):=Qaa ao 2;have q5:w1.cell? ⟨w.heap.size,3,none⟩=some (.string (sA s)):=Qaa ao 3;have s2:w1.cell? ⟨db,2,none⟩=some (.slice la p.length lc):=Qaa ae.o.blk 2;have av:=Qar ae.o.blk;have hBd:=ae.o.bb.1;have hB2:B<=w1.heap.size:=by omega
  have ax:=Qab ae.o.rowNe;obtain⟨i0,hi,aL,aK,aG⟩:=info_parts Tryz.infoOp;clear ao aB;go_wp2_with fail;go_region_law (refine step_append_lies _ rfl (.tmp 24) (.tmp 26) 57 rfl B 84 i0 (.agg #[.int .i64 0,.string ⟨#[]⟩,.string ⟨#[]⟩,.string ⟨#[]⟩]) 4 56 underlying57 hi aL aK aG rfl (by decide) (.slice la p.length lc) p.length (Qdb p) (by simp[Act.eval,Act.put]) (ae.o.row.alloc _) ⟨w1.heap.size,0,none⟩ 1 1 (Qlp ⟨1,x,s⟩) (by simp[Act.eval,Act.put]) rfl (QnT _ ⟨1,x,s⟩ _) (Qtz ⟨1,x,s⟩) (by decide) (by unfold maxLen;omega) (by omega) (by simp;omega) _ rfl ?_;intro g' ak w5 af ab hat hlt5;have aA:=Qab af;have az:=Qab ab;have t2:w5.cell? ⟨db,2,none⟩=some (.slice la p.length lc):=ab.cell (a:=⟨db,2,none⟩) ((World.cell?_of_block (a:=⟨db,2,none⟩) (w:=w1) (Below.heap_alloc _ _ _ av)).trans s2) (fun e=>ax.o e.symm);have aD:∀ j,w5.frozen? ⟨db,j,none⟩=false:=fun j=>(World.frozen?_of_block (a:=⟨db,j,none⟩) (w:=w1) ((ab.block db (by simp;omega) (fun e=>ax.o e.symm)).trans (Below.heap_alloc _ _ _ av))).trans (Qah ae.o.blk j);clear af ab;skip)
  all_goals go_wp2
  all_goals have ad:=ae.o.rowTurn (p':=p++[⟨1,x,s⟩]) ((((Fr.refl _ w1).alloc _).drew).grown az.o (fun k o e _=>e)) (v':=.slice (some ⟨g',0,none⟩) (p.length+1) ak) (by rw[List.length_append,<-QfD];exact aA.o)
  all_goals have ar:=Qab ad.1
  all_goals have au:=Qab (aH.o.fr ad.2 (fun k cs fr=>PDk.notBy))
  all_goals have aw:=Qab ((aJ.o.trans ad.2).mono (Q:=fun k o=>PDk B k o\/PBy gb k o) (fun k o h=>Or.inl h))
  all_goals clear ad t2 aD aA az
  all_goals generalize w5.setCell ⟨db,2,none⟩ (.slice (some ⟨g',0,none⟩) (p.length+1) ak)=w6 at *
  all_goals
   go_loopw [9,32] (fun _ i wr=>∃ k:Nat,k<=s.length/\i=.int .i64 k/\BI wr gb s.length/\DJ wr B db bd bn n D N (p++[⟨1,x,s⟩]) (aWr a).2.left (aWr a).2.full (aWr a).2.down (.slice (some ⟨g',0,none⟩) (p.length+1) ak)/\Fr (fun k o=>PDk B k o\/PBy gb k o) w wr) (fun _ i _=>s.length - (intOf i).toNat)
   case atStart=>exact⟨0,by omega,rfl,au.o,ar.o,aw.o⟩
   case round=>
    obtain⟨k,hk,rfl,hG,hD,hF⟩:=hrel;have ai:=Qab hG;have ag:=Qab hD;have ah:=Qab hF;by_cases hlt:k<s.length
    ·obtain⟨u,hu⟩:=hG.cel k hlt;have aC:=hG.frz k hlt;clear hG hD hF;go_wp2;have aa:=PBy.set ai.o k (.int .u8 33);exact⟨⟨k+1,by omega,by go_num,ai.o.set k _,ag.o.by aa,ah.o.trans (aa.mono (fun k o h=>Or.inr h))⟩,by simp[intOf];omega⟩
    ·have aq:k=s.length:=by omega
     subst aq;clear hG hD hF;go_wp2;go_ret;exact⟨ah.o,Or.inr (Or.inr ⟨HK.o,rfl,_,ag.o⟩)⟩
theorem Qoj(B db bd bn n:Nat)(D N:Fs)(p:List Dop)(a:Lf)(pv:Value)(x:L8)(w:World)(h:DJ w B db bd bn n D N p a.left a.full a.down pv)(hn:n<=1000000)(hp:p.length<=1000000)(hx:x.length<=1000000)(hh:(N x).isSome=true) :
 Calls Tryz.prog 314 #[.pointer (some ⟨db,0,none⟩),.string (sA x)] w fun e w'=>Fr (PDk B) w w'/\(((aWr a).1=0/\e=.returned .nilIface/\∃ pv',DJ w' B db bd bn (n+1) D (Qj2 N x) (p++[⟨3,x,[]⟩]) (aWr a).2.left (aWr a).2.full (aWr a).2.down pv')\/((aWr a).1≠0/\e=.returned (Qcx (aWr a).1)/\∃ pv',DJ w' B db bd bn n D N p (aWr a).2.left (aWr a).2.full (aWr a).2.down pv')):=by
 have HD:=Qab h;have HH:=Qab hh;clear h hh;have ae:(aWr a).1≠0->Qcx (aWr a).1=.iface 30 (.int .i64 (((aWr a).1:Nat):Int)):=fun h=>by unfold Qcx;rw[if_neg h]
 have af:=Qab ae;clear ae;go_enter func314,ntmps314;go_wp2_with fail;refine(Qsz B db bd bn n D N p a pv x [] _ HD.o hn hp hx HH.o).mono ?_;rintro e w1 ⟨ab,⟨hk,rfl,pv1,aa⟩ | ⟨hk,rfl,aa,hFB⟩⟩
 ·have ad:=Qab aa;have ac:=Qab ab;have HK:=Qab hk;clear aa ab hk;go_wp2;go_ret;exact⟨ac.o,Or.inl ⟨HK.o,rfl,_,ad.o⟩⟩
 ·have ad:=Qab aa;have ac:=Qab ab;have HK:=Qab hk;rw[af.o hk];clear aa ab hk;go_wp2;go_ret;exact⟨ac.o,Or.inr ⟨HK.o,by rw[af.o HK.o];rfl,_,ad.o⟩⟩
theorem QsL(B db bd bn n:Nat)(D N:Fs)(p:List Dop)(a:Lf)(pv:Value)(w:World)(h:DJ w B db bd bn n D N p a.left a.full a.down pv)(hn:n<=500000)(hp:p.length<=400000)(ac:Qb7 p) :
 Calls Tryz.prog 315 #[.pointer (some ⟨db,0,none⟩)] w fun e w'=>Fr (PDk B) w w'/\(((aWr a).1=0/\e=.returned .nilIface/\DJ w' B db bd bn (n+p.length) (p.foldl doF D) N [] (aWr a).2.left (aWr a).2.full (aWr a).2.down (.slice none 0 0))\/((aWr a).1≠0/\e=.returned (Qcx (aWr a).1)/\DJ w' B db bd bn n D N p (aWr a).2.left (aWr a).2.full (aWr a).2.down pv)):=by
 obtain⟨la,lc,rfl⟩:=Qat h.row;have HD:=Qab h;have HO:=Qab ac;clear h ac;go_enter func315,ntmps315;go_wp2_with fail;refine(QfU B db bd bn n D N p a _ w HD.o).mono ?_;rintro e w1 ⟨rfl,ad,ah⟩;by_cases hk0:(aWr a).1=0;rotate_left
 ·have au:=Qab (ah.mono (fun k o hk=>hk.toK HD.o.bb.1));have ao:=Qab ad;have ar:=Qab hk0;have he:Qcx (aWr a).1=.iface 30 (.int .i64 (((aWr a).1:Nat):Int)):=by unfold Qcx;rw[if_neg hk0]
  rw[he];have aF:=Qab he;clear ad ah he hk0;go_wp2;go_ret;exact⟨au.o,Or.inr ⟨ar.o,by rw[aF.o];rfl,ao.o⟩⟩
 have ar:=Qab hk0;have he:Qcx (aWr a).1=.nilIface:=by unfold Qcx;rw[if_pos hk0]
 rw[he];clear he hk0;have ao:=Qab ad;have au:=Qab (ah.mono (fun k o hk=>hk.toK HD.o.bb.1));have d2:w1.cell? ⟨db,2,none⟩=some (.slice la p.length lc):=Qaa ad.blk 2;clear ad ah;go_wp2
 go_loopw [16] (fun i wr=>∃ k:Nat,k<=p.length/\i=.int .i64 k/\DJ wr B db bd bn (n+k) ((p.take k).foldl doF D) N p (aWr a).2.left (aWr a).2.full (aWr a).2.down (.slice la p.length lc)/\Fr (PDk B) w wr) (fun i _=>p.length - (intOf i).toNat)
 case atStart=>exact⟨0,by omega,rfl,ao.o,au.o⟩
 case round=>
  obtain⟨k,hk,rfl,hD,hF⟩:=hrel;have ay:=Qab hD;have az:=Qab hF;clear hF d2;by_cases hlt:k<p.length
  ·have hlt':(k:Int)<(p.length:Int):=by omega
   obtain⟨g,c1,aq,_,hgl,hcells⟩:=Qcq hD.row (by omega);injection aq with aq _ hv3
   subst aq;have af:=QnN p k hlt;have e1:wr.cell? ⟨g,k*4,none⟩=some (.int .i64 p[k].kind):=hcells _ _ af.1;have e2:wr.cell? ⟨g,k*4+1,none⟩=some (.string (sA p[k].name)):=hcells _ _ af.2.1;have e3:wr.cell? ⟨g,k*4+2,none⟩=some (.string ⟨#[]⟩):=hcells _ _ af.2.2.1;have e4:wr.cell? ⟨g,k*4+3,none⟩=some (.string (sA p[k].data)):=hcells _ _ af.2.2.2;have aw:=HO.o p[k] (List.getElem_mem hlt)
   have aG:Hid ((p.take (k+1)).foldl doF D=doF ((p.take k).foldl doF D) p[k]):=by
    show _=_
    rw[List.take_succ_eq_append_getElem hlt,List.foldl_append];rfl
   generalize p[k]=o at *;have av:=Qab aw;clear hcells af hv3 hD aw;go_wp2_with fail;obtain⟨V,hV⟩:∃ V,V=wr.alloc (.cells #[.int .i64 o.kind,.string (sA o.name),.string ⟨#[]⟩,.string (sA o.data)] 84):=⟨_,rfl⟩;have ap:Below wr.heap.size wr V:=by rw[hV];exact(Below.refl _ _).alloc (Nat.le_refl _) _
   have ab:V.heap[wr.heap.size]?=some (.cells #[.int .i64 o.kind,.string (sA o.name),.string ⟨#[]⟩,.string (sA o.data)] 84):=by rw[hV];exact Qam _ _
   have ai:=Qab (ay.o.below ap);have aD:=Qab ab;have aB:=Qab (az.o.trans (Fr.of_below ap));rw[<-hV];have v0:V.cell? ⟨db,0,none⟩=some (.map (some bd)):=Qaa ai.o.blk 0;have o0:V.cell? ⟨wr.heap.size,0,none⟩=some (.int .i64 o.kind):=Qaa ab 0;have o1:V.cell? ⟨wr.heap.size,1,none⟩=some (.string (sA o.name)):=Qaa ab 1;have o2:V.cell? ⟨wr.heap.size,2,none⟩=some (.string ⟨#[]⟩):=Qaa ab 2;have o3:V.cell? ⟨wr.heap.size,3,none⟩=some (.string (sA o.data)):=Qaa ab 3;clear hV ap ab;go_region_held3 (fun w'=>w'.cell? ⟨db,0,none⟩=some (.map (some bd))/\w'.cell? ⟨wr.heap.size,0,none⟩=some (.int .i64 o.kind)/\w'.cell? ⟨wr.heap.size,1,none⟩=some (.string (sA o.name))/\w'.cell? ⟨wr.heap.size,2,none⟩=some (.string ⟨#[]⟩)/\w'.cell? ⟨wr.heap.size,3,none⟩=some (.string (sA o.data))) (first|go_keep|exact⟨q1,q2,q3,q4,q5⟩) (first|(go_at_call 32;refine(QkF bd (n+k) ((p.take k).foldl doF D) o V.drew ai.o.md (by omega) av.o.1 av.o.2).mono ?_;rintro e w2 ⟨rfl,ax,ae⟩;have aj:=ae.undrew;have ak:=ai.o.durTurn aj ax;have aE:=Qab ak;have ag:=aj.block _ _ aD.o (fun⟨_,es,c,e⟩=>by cases e);have q1:w2.cell? ⟨db,0,none⟩=some (.map (some bd)):=Qaa ak.blk 0;have q2:w2.cell? ⟨wr.heap.size,0,none⟩=some (.int .i64 o.kind):=Qaa ag 0;have q3:w2.cell? ⟨wr.heap.size,1,none⟩=some (.string (sA o.name)):=Qaa ag 1;have q4:w2.cell? ⟨wr.heap.size,2,none⟩=some (.string ⟨#[]⟩):=Qaa ag 2;have q5:w2.cell? ⟨wr.heap.size,3,none⟩=some (.string (sA o.data)):=Qaa ag 3;have aC:=Qab (aB.o.trans (aj.mono (fun k o hk=>hk.toK ai.o.bb.2.1)));clear ax aj ae ak ag;skip))
   all_goals go_wp2
   all_goals exact⟨⟨k+1,by omega,by go_num,by rw[aG.o];exact aE.o,aC.o⟩,by simp[intOf];omega⟩
  ·have aA:k=p.length:=by omega
   subst aA;have hz:¬(p.length:Int)<(p.length:Int):=by omega
   have f2:∀ j,wr.frozen? ⟨db,j,none⟩=false:=fun j=>Qah hD.blk j
   have d2:wr.cell? ⟨db,2,none⟩=some (.slice la p.length lc):=Qaa hD.blk 2;clear hD;go_wp2;go_ret;have aa:=ay.o.rowTurn (w5:=wr) (p':=[]) (v':=.slice none 0 0) (Fr.refl _ wr) (Qsv _ _);rw[List.take_length]at aa;exact⟨az.o.trans aa.2,Or.inl ⟨ar.o,rfl,aa.1⟩⟩
theorem QvQ{w:World}{b n:Nat}{F:Fs}{x s:L8}(h:Qfu w b n F)(hx:x.length<=1000000)(hs:F x=some s) :
 ∃ k,w.heap[k]?=some (.cells #[.string (sA s)] 9)/\(Instr.lookup 56 (.map (some b)) (.string (sA x)) true).run Tryz.prog w=.ok (.tuple #[.pointer (some ⟨k,0,none⟩),.bool true]) w:=by
 obtain⟨D,⟨es,c,hb,hF,hss,rfl⟩,h2⟩:=h;have hz:(zeroValue 73).run Tryz.prog w=.ok (.pointer none) w:=by kernel_rfl
 obtain⟨j,h3,h4⟩:=h2.2 x s hs;rcases Maps.fit_look true Qoa Qvk hz hb hF (Qyb hx)with⟨aa,_,ab⟩ | ⟨e0,y,_,_,aa,ac,ab,_⟩
 ·have h0:=Maps.has_false_of_atKey ab;rw[Maps.has_true_of_atKey h3]at h0;cases h0
 ·obtain⟨k,af,ae⟩:=Qqr ac;have hy:=(ab .nil).symm.trans (h3 .nil);rw[ae]at hy
  have ad:k=j:=by
   injection hy with hy
   injection hy with _ hy
   exact Int.ofNat_inj.1 hy
  subst ad;refine⟨k,h4,?_⟩;rw[aa,af];rfl
theorem Qsn(B db bd bn n:Nat)(D N:Fs)(p:List Dop)(ql qf:Int)(pv:Value)(x s:L8)(w:World)(h:DJ w B db bd bn n D N p ql qf false pv)(hx:x.length<=1000000)(hs:N x=some s)(hsl:s.length<=1000000000) :
 Calls Tryz.prog 313 #[.pointer (some ⟨db,0,none⟩),.string (sA x)] w fun e w'=>Below w.heap.size w w'/\∃ gb c,e=.returned (.tuple #[.slice (some ⟨gb,0,none⟩) s.length c,.nilIface])/\∀ j (hj:j<s.length),w'.cell? ⟨gb,j,none⟩=some (.int .u8 (s[j].toNat:Int)):=by
 have HD:=Qab h;have d1:w.cell? ⟨db,1,none⟩=some (.map (some bn)):=Qaa h.blk 1;have d5:w.cell? ⟨db,5,none⟩=some (.bool false):=Qaa h.blk 5;obtain⟨k,hk,hlk⟩:=QvQ h.mn hx hs;have k0:w.cell? ⟨k,0,none⟩=some (.string (sA s)):=Qaa hk 0;have ab:=Lib.run_convert_string_bytes (P:=Tryz.prog) w 9 244 5 (sA s) (u:=.string) underlying9 underlying244 underlying5;have ac:=Lib.bytesWorld_below w 5 (sA s)
 have aa:∀ j (hj:j<s.length),(Lib.bytesWorld w 5 (sA s)).cell? ⟨w.heap.size,j,none⟩=some (.int .u8 (s[j].toNat:Int)):=fun j hj=>by
  rw[Lib.bytesWorld_cell w 5 (sA s) j (by rw[Qal];exact hj)];rw[show(sA s).data.toList=s from rfl,List.getD_eq_getElem?_getD,List.getElem?_eq_getElem hj];rfl
 have af:=Qal s;rw[af]at ab;generalize hbw:Lib.bytesWorld w 5 (sA s)=W1 at ac aa ab;have ad:=Qab ac;have ae:=Qab aa;generalize grownCap w s.length 0 5=cap at ab;clear h hk ac aa hbw;go_enter func313,ntmps313;go_wp2;go_ret2;exact⟨ad.o,_,_,rfl,ae.o⟩
structure AD where
 D:Fs
 N:Fs
 p:List Dop
 lf:Lf
def aDo (o:Dop) (A:AD):Nat×AD:=
 if (aWr A.lf).1=0 then
  (if o.kind=1 then (0,⟨A.D,Qfp A.N o.name o.data,A.p++[o],(aWr A.lf).2⟩)
   else if o.kind=3 then (0,⟨A.D,Qj2 A.N o.name,A.p++[o],(aWr A.lf).2⟩)
   else (0,⟨A.p.foldl doF A.D,A.N,[],(aWr A.lf).2⟩))
 else if o.kind=1∧(aWr A.lf).1=16 then (16,⟨A.D,A.N,A.p++[o],(aWr A.lf).2⟩)
 else ((aWr A.lf).1,⟨A.D,A.N,A.p,(aWr A.lf).2⟩)
def Qa1:List Dop→AD→Nat×AD
 | [],A=>(0,A)
 | o :: r,A=>if (aDo o A).1=0 then Qa1 r (aDo o A).2 else aDo o A
theorem Qd4:∀(xs ys:List Dop) (A:AD),Qa1 (xs++ys) A=if(Qa1 xs A).1=0 then Qa1 ys (Qa1 xs A).2 else Qa1 xs A
 | [],ys,A=>by simp[Qa1]
 |o::r,ys,A=>by
  show(if(aDo o A).1=0 then Qa1 (r++ys) (aDo o A).2 else aDo o A)=_
  rw[Qa1];by_cases h:(aDo o A).1=0
  ·rw[if_pos h,if_pos h];exact Qd4 r ys _
  ·rw[if_neg h,if_neg h,if_neg h]
def sOp:Dop:=⟨0,[],[]⟩
def rOp (x:L8):Dop:=⟨3,x,[]⟩
def AbsD (w:World) (B db bd bn n:Nat) (A:AD):Prop:=∃ pv,DJ w B db bd bn n A.D A.N A.p A.lf.left A.lf.full A.lf.down pv
theorem DJ.mono{w:World}{B db bd bn n m:Nat}{D N:Fs}{p:List Dop}{ql qf:Int}{dn:Bool}{pv:Value}(h:DJ w B db bd bn n D N p ql qf dn pv)(hn:n<=m):DJ w B db bd bn m D N p ql qf dn pv:=
 ⟨h.bb,h.ne,h.blk,h.md.mono hn,h.mn.mono hn,h.row⟩
theorem AbsD.mono{w:World}{B db bd bn n m:Nat}{A:AD}(h:AbsD w B db bd bn n A)(hn:n<=m):AbsD w B db bd bn m A:=by
 obtain⟨pv,h⟩:=h;exact⟨pv,h.mono hn⟩
theorem AbsD.below{w w':World}{B db bd bn n:Nat}{A:AD}(h:AbsD w B db bd bn n A)(hb:Below w.heap.size w w'):AbsD w' B db bd bn n A:=by
 obtain⟨pv,h⟩:=h;exact⟨pv,h.below hb⟩
theorem QxS{A:AD}(x s:L8)(h:(aWr A.lf).1=0):aDo ⟨1,x,s⟩ A=(0,⟨A.D,Qfp A.N x s,A.p++[⟨1,x,s⟩],(aWr A.lf).2⟩):=by unfold aDo;rw[if_pos h,if_pos rfl]
theorem QwY{A:AD}(x s:L8)(h:(aWr A.lf).1=15):aDo ⟨1,x,s⟩ A=(15,⟨A.D,A.N,A.p,(aWr A.lf).2⟩):=by unfold aDo;rw[if_neg (by omega),if_neg (by omega),h]
theorem Qxn{A:AD}(x s:L8)(h:(aWr A.lf).1=16):aDo ⟨1,x,s⟩ A=(16,⟨A.D,A.N,A.p++[⟨1,x,s⟩],(aWr A.lf).2⟩):=by unfold aDo;rw[if_neg (by omega),if_pos ⟨rfl,h⟩]
theorem QxO{A:AD}(x:L8)(h:(aWr A.lf).1=0):aDo (rOp x) A=(0,⟨A.D,Qj2 A.N x,A.p++[rOp x],(aWr A.lf).2⟩):=by unfold aDo;rw[if_pos h];rfl
theorem QxP{A:AD}(h:(aWr A.lf).1=0):aDo sOp A=(0,⟨A.p.foldl doF A.D,A.N,[],(aWr A.lf).2⟩):=by unfold aDo;rw[if_pos h];rfl
theorem QvX{A:AD}{o:Dop}(ho:o.kind≠1)(h:(aWr A.lf).1≠0):aDo o A=((aWr A.lf).1,⟨A.D,A.N,A.p,(aWr A.lf).2⟩):=by unfold aDo;rw[if_neg h,if_neg (by intro e;exact ho e.1)]
theorem QwB(o:Dop)(A:AD):(aDo o A).2.p.length<=A.p.length+1:=by
 unfold aDo
 repeat' split
 all_goals simp
theorem Qlr:∀(l:List Dop) (A:AD),(Qa1 l A).2.p.length<=A.p.length+l.length
 | [],A=>by simp[Qa1]
 |o::r,A=>by
  rw[Qa1];have h1:=QwB o A;split
  ·have h2:=Qlr r (aDo o A).2;simp only[List.length_cons];omega
  ·simp only[List.length_cons];omega
theorem QsZ(o:Dop)(A:AD)(h:Qb7 A.p)(ho:o.kind=1\/o.kind=3->Qb7 [o]):Qb7 (aDo o A).2.p:=by
 have aa:Qb7 [o]->Qb7 (A.p++[o]):=fun h2 x hx=>by
  rcases List.mem_append.1 hx with hx|hx
  ·exact h x hx
  ·exact h2 x hx
 unfold aDo
 repeat' split
 ·exact aa (ho (Or.inl ‹_›))
 ·exact aa (ho (Or.inr ‹_›))
 ·intro x hx;cases hx
 ·rename_i hk;exact aa (ho (Or.inl hk.1))
 ·exact h
theorem Qqo:∀(l:List Dop) (A:AD),Qb7 A.p->(∀ o∈l,o.kind=1\/o.kind=3->Qb7 [o])->Qb7 (Qa1 l A).2.p
 | [],A,h,_=>h
 |o::r,A,h,ho=>by
  rw[Qa1];split
  ·exact Qqo r _ (QsZ o A h (ho o (by simp))) (fun x hx=>ho x (by simp[hx]))
  ·exact QsZ o A h (ho o (by simp))
theorem Qxc{o:Dop}{r:List Dop}{A:AD}(h:(aDo o A).1≠0):Qa1 (o::r) A=aDo o A:=by rw[Qa1,if_neg h]
theorem Qh4(l:List Dop)(o:Dop)(A:AD)(h:(Qa1 l A).1=0):Qa1 (l++[o]) A=aDo o (Qa1 l A).2:=by
 rw[Qd4,if_pos h,Qa1];by_cases h2:(aDo o (Qa1 l A).2).1=0
 ·rw[if_pos h2,Qa1,<-h2]
 ·rw[if_neg h2]
theorem QqX(B db bd bn n nb xb:Nat)(A:AD)(x:L8)(w:World)(h:AbsD w B db bd bn n A)(hf:w.heap[nb]?=some (.cells #[.string (sA x)] 9))(hx:w.heap[xb]?=some (.cells #[Qcr db] 75))
 (hn:n<=490000) (hp:A.p.length<=100000) (hs:x.length<=1000) (hh:(A.N x).isSome=true) :
 Calls Tryz.prog 150 #[.pointer (some ⟨xb,0,none⟩),.pointer (some ⟨nb,0,none⟩)] w fun e w'=>e=.returned (Qcx (aDo (rOp x) A).1)/\AbsD w' B db bd bn (n+1) (aDo (rOp x) A).2/\Fr (PDk B) w w':=by
 obtain⟨pv,h⟩:=h;have HD:=Qab h;have HH:=Qab hh;have f0:w.cell? ⟨nb,0,none⟩=some (.string (sA x)):=Qaa hf 0;have x0:w.cell? ⟨xb,0,none⟩=some (Qcr db):=Qaa hx 0;have hmt:=Qrz db;clear h hf hx hh;go_enter func150,ntmps150;go_wp2_with fail;refine(Qoj B db bd bn n A.D A.N A.p A.lf pv x _ HD.o (by omega) (by omega) (by omega) HH.o).mono ?_;rintro e w1 ⟨ab,⟨hk,rfl,ae,aa⟩ | ⟨hk,rfl,ae,aa⟩⟩
 ·have HR:=Qab (QxO x hk);have ad:=Qab aa;have ac:=Qab ab;clear aa ab hk;go_wp2;go_ret;rw[HR.o];exact⟨rfl,⟨_,ad.o⟩,ac.o⟩
 ·have HR:=Qab (QvX (A:=A) (o:=rOp x) (by show(3:Int)≠1;decide) hk);have ad:=Qab (aa.mono (Nat.le_succ _));have ac:=Qab ab;have he:Qcx (aWr A.lf).1=.iface 30 (.int .i64 (((aWr A.lf).1:Nat):Int)):=by unfold Qcx;rw[if_neg hk]
  rw[he];have af:=Qab he;clear aa ab hk he;go_wp2;go_ret;rw[HR.o,af.o];exact⟨rfl,⟨_,ad.o⟩,ac.o⟩
end
section
open Go.RowKit Go.Maps
open Go.WideElems (Fit rd rg rd_key rd_val rg_of)
theorem Qp2{α:Type} [BEq α] [LawfulBEq α]:∀(l m:List α),l.Nodup->(∀ x∈l,x∈m)->l.length<=m.length
 | [],m,_,_=>Nat.zero_le _
 |a::r,m,hn,hs=>by
  obtain⟨h1,h2⟩:=List.nodup_cons.1 hn;have ha:a∈m:=hs a (by simp);have hr:=Qp2 r (m.erase a) h2 (fun x hx=>(List.mem_erase_of_ne (fun e=>h1 (by rw[<-e];exact hx))).2 (hs x (by simp[hx])));have hl:=List.length_erase_of_mem ha;have:0<m.length:=List.length_pos_of_mem ha;simp only[List.length_cons];omega
def nmK (k:Lit):L8:=
 match k with
 | .string x=>x
 | _=>[]
theorem QjK{w:World}{b n:Nat}{F:Fs}(h:Qfu w b n F)(L:List (L8))(hL:∀ x,(F x).isSome=true->x∈L):Qfu w b L.length F:=by
 obtain⟨D,⟨es,c,hb,hF,hss,rfl⟩,h2⟩:=h;have hz:(zeroValue 73).run Tryz.prog w=.ok (.pointer none) w:=by kernel_rfl
 have aa:∀ e∈es.toList,∃ x,(rg Tryz.prog 9 ptrR e).1=Lit.string x/\x∈L:=fun e he=>by
  obtain⟨y,hy⟩:=hF.reads e he;have ab:=rd_key hy;obtain⟨x,hx,ac,hxl⟩:=Maps.keyOf_str QwL ab;refine⟨x,by rw[rg_of hy];exact ac,hL x ?_⟩;have af:keyOf Tryz.prog 9 e.key=some (Lit.string x):=by rw[ab,ac]
  rcases Maps.fit_look true Qoa Qvk hz hb hF af with⟨_,ad,_⟩ | ⟨e0,y0,_,_,_,_,ae,_⟩
  ·exact absurd rfl (ad e he)
  ·have h0:=Maps.has_true_of_atKey ae
   cases hfx:F x with
   |none=>rw[h2.1 x hfx]at h0;cases h0
   |some s=>rfl
 have hnd:(es.toList.map (fun e=>nmK (rg Tryz.prog 9 ptrR e).1)).Nodup:=by
  have h:=fit_apart Qoa hF;rw[List.pairwise_map]at h;refine List.pairwise_map.2 (List.Pairwise.imp_of_mem (fun {a b} ha hb hab e=>hab ?_) h);obtain⟨x,hx,_⟩:=aa a ha;obtain⟨y,hy,_⟩:=aa b hb;rw[hx,hy]at e ⊢;have e':x=y:=e;rw[e']
 have hle:=Qp2 (es.toList.map (fun e=>nmK (rg Tryz.prog 9 ptrR e).1)) L hnd (fun k hk=>by
  obtain⟨e,he,rfl⟩:=List.mem_map.1 hk;obtain⟨x,hx,hxl⟩:=aa e he;rw[hx]
  exact hxl)
 rw[List.length_map]at hle;exact⟨_,⟨es,c,hb,hF,by simpa using hle,rfl⟩,h2⟩
theorem AbsD.tight{w:World}{B db bd bn n:Nat}{A:AD}(h:AbsD w B db bd bn n A)(L:List (L8))(h1:∀ x,(A.D x).isSome=true->x∈L)(h2:∀ x,(A.N x).isSome=true->x∈L):AbsD w B db bd bn L.length A:=by
 obtain⟨pv,h⟩:=h;exact⟨pv,h.bb,h.ne,h.blk,QjK h.md L h1,QjK h.mn L h2,h.row⟩
end
end Go.Proofs.YthkibedbcbgajaaGreatDoor
