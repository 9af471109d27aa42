import Derived.Lib.IndexMore
import Derived.Test.YtgnkjijocdmniaaGreatDoorZSExists
namespace Go.Proofs.YtgnkjijocdmniaaGreatDoor
set_option linter.unusedVariables false
set_option linter.unusedSimpArgs false
set_option maxRecDepth 100000
set_option maxHeartbeats 4000000
open Go.Proofs.Tryz
open Go.RowKit
attribute [local go_sem ↓] Go.wp_at_zero Go.wp_at_succ
theorem Qid(v k:L8):Lib.contains v k=Qyz k v:=by
 unfold Lib.contains
 induction v with
 |nil=>
  cases k with
  |nil=>rfl
  |cons c r=>rfl
 |cons c v ih=>
  rw[Lib.index,Qyz];by_cases h:k.isPrefixOf (c::v)=true
  ·rw[if_pos h,h];rfl
  ·rw[if_neg h,Bool.eq_false_iff.2 h,Bool.false_or,<-ih];split
   ·next h1=>have h2:=eq_of_beq h1;rw[h2]
   ·next h1=>
    have h2:Lib.index v k≠-1:=fun e=>h1 (by rw[e];rfl)
    have h3:=Lib.index_ge v k;rw[Bool.eq_iff_iff];simp;omega
def QmU (oct:Bool):Value:=if oct then .func (.func 263) #[] #[] else .func (.func 181) #[] #[]
theorem Qh4(s:ByteArray)(w:World):Calls Tryz.prog 263 #[.string s] w fun e w'=>e=.returned (.string s)/\w'=w:=by
 go_enter func263,ntmps263;go_wp2;go_ret;exact⟨rfl,rfl⟩
theorem QkW(oct:Bool)(w:World):Calls Tryz.prog 241 #[.bool oct] w fun e w'=>e=.returned (QmU oct)/\w'=w:=by
 cases oct <;>
 (go_enter func241,ntmps241
  go_wp2;go_ret
  exact ⟨rfl,rfl⟩)
theorem QrH(x y:L8)(w:World):Calls Tryz.prog 243 #[.string (Qaf x),.string (Qaf y)] w fun e w'=>e=.returned (.bool (decide (x=y)))/\w'=w:=by
 have e1:((Qaf x).toList==(Qaf y).toList)=decide (x=y):=by
  rw[show(Qaf y).toList=y by rw[ByteArray.toList_eq];rfl];exact Qdl x y
 go_enter func243,ntmps243;go_wp2;go_ret;exact⟨QaZ (by rw[<-e1]),rfl⟩
theorem Qh5(x:L8)(w:World)(h:x.length<=1000000):Calls Tryz.prog 181 #[.string (Qaf x)] w fun e w'=>e=.returned (.string (Qaf (zL x)))/\Below w.heap.size w w':=
 Qfz (Qaf x) w (by rw[Qaj];omega)
def WayV (w:World) (tag:Int) (oct:Bool) (wv:Value):Prop:=
 (tag=3∧∃ p,wv=.func (.func 245) #[] #[.pointer (some ⟨p,0,none⟩)]∧w.cell? ⟨p,0,none⟩=some (QmU oct))∨
 (∃ p q,wv=.func (.func 264) #[] #[.pointer (some ⟨p,0,none⟩),.pointer (some ⟨q,0,none⟩)]∧w.cell? ⟨q,0,none⟩=some (QmU oct)∧
   ((tag=1∧w.cell? ⟨p,0,none⟩=some (.func (.func 243) #[] #[]))∨(tag=2∧w.cell? ⟨p,0,none⟩=some (.func (.func 244) #[] #[]))))
def QfI (tag:Int) (oct:Bool) (v k:L8) (W:World) (e:Ending) (W':World):Prop:=
 Below W.heap.size W W'∧
 ((QtF tag oct v k=false∧e=.returned (.tuple #[.slice none 0 0,.bool false]))∨
  (QtF tag oct v k=true∧wayT tag oct v k=none∧e=.returned (.tuple #[.slice none 0 0,.bool true]))∨
  (QtF tag oct v k=true∧∃ t g c,wayT tag oct v k=some t∧e=.returned (.tuple #[.slice (some ⟨g,0,none⟩) t.length c,.bool true])∧W.heap.size≤g∧Qww W' g t))
theorem Qgf(tag:Int)(oct:Bool)(v k:L8)(h3:tag≠3)(w w':World)(hb:Below w.heap.size w w'):QfI tag oct v k w (.returned (.tuple #[.slice none 0 0,.bool (QtF tag oct v k)])) w':=by
 refine⟨hb,?_⟩;have ht:wayT tag oct v k=none:=by unfold wayT;rw[if_neg h3]
 cases h:QtF tag oct v k
 ·exact Or.inl ⟨rfl,rfl⟩
 ·exact Or.inr (Or.inl ⟨rfl,ht,rfl⟩)
theorem Ql4(oct:Bool)(p q:Nat)(v k:L8)(w:World)(hv:v.length<=1000000)(hk:k.length<=1000000)(hq:w.cell? ⟨q,0,none⟩=some (QmU oct))(hp:w.cell? ⟨p,0,none⟩=some (.func (.func 243) #[] #[])) :
 Calls Tryz.prog 264 #[.string (Qaf v),.string (Qaf k),.pointer (some ⟨p,0,none⟩),.pointer (some ⟨q,0,none⟩)] w (QfI 1 oct v k w):=by
 have ad:q<w.heap.size:=Qau hq;have ac:p<w.heap.size:=Qau hp;have hsv:(zL v).length<=1000000:=by simp[zL];omega
 cases oct
 ·have ab:w.cell? ⟨q,0,none⟩=some (.func (.func 181) #[] #[]):=hq;have HA:=Qab (Qgf 1 false v k (by decide));clear hq;go_enter func264,ntmps264;go_wp2_with fail
  go_region_held3 (fun w'=>w'.cell? ⟨q,0,none⟩=some (.func (.func 181) #[] #[])∧w'.cell? ⟨p,0,none⟩=some (.func (.func 243) #[] #[])) (first | go_keep) (first
   |(go_at_call 181;refine(Qh5 _ _ (by first|exact hv|exact hk)).mono ?_;rintro e wn ⟨rfl,hb⟩;have aa:Hid (Below w.heap.size w wn):=(by first|exact aa.o.trans (hb.mono aa.o.size)|exact Qbk hb);have d1:wn.cell? ⟨q,0,none⟩=some (.func (.func 181) #[] #[]):=(aa.o.cell (p:=⟨q,0,none⟩) ad).trans ab;have d2:wn.cell? ⟨p,0,none⟩=some (.func (.func 243) #[] #[]):=(aa.o.cell (p:=⟨p,0,none⟩) ac).trans hp;clear hb;skip)
   | (go_at_call 243;refine (QrH _ _ _).mono ?_;rintro e w3 ⟨rfl,rfl⟩;skip))
  all_goals go_wp2
  all_goals go_ret2
  all_goals exact HA.o _ _ aa.o
 ·have ab:w.cell? ⟨q,0,none⟩=some (.func (.func 263) #[] #[]):=hq;have HA:=Qab (Qgf 1 true v k (by decide));clear hq;go_enter func264,ntmps264;go_wp2_with fail
  go_region_held3 (fun w'=>w'.cell? ⟨q,0,none⟩=some (.func (.func 263) #[] #[])∧w'.cell? ⟨p,0,none⟩=some (.func (.func 243) #[] #[])) (first | go_keep) (first
   |(go_at_call 263;refine(Qh4 _ _).mono ?_;rintro e w1 ⟨rfl,rfl⟩;skip)
   | (go_at_call 243;refine (QrH _ _ _).mono ?_;rintro e w3 ⟨rfl,rfl⟩;skip))
  all_goals go_wp2
  all_goals go_ret2
  all_goals exact HA.o _ _ (Qar (Below.refl _ _))
theorem QkO(oct:Bool)(p q:Nat)(v k:L8)(w:World)(hv:v.length<=1000000)(hk:k.length<=1000000)(hq:w.cell? ⟨q,0,none⟩=some (QmU oct))(hp:w.cell? ⟨p,0,none⟩=some (.func (.func 244) #[] #[]))(m:Int)(hm:w.cell? ⟨1,0,none⟩=some (.int .i64 m)) :
 Calls Tryz.prog 264 #[.string (Qaf v),.string (Qaf k),.pointer (some ⟨p,0,none⟩),.pointer (some ⟨q,0,none⟩)] w (QfI 2 oct v k w):=by
 have ae:q<w.heap.size:=Qau hq;have ad:p<w.heap.size:=Qau hp;have ac:1<w.heap.size:=Qau hm;have hsv:(zL v).length<=1000000:=by simp[zL];omega
 cases oct
 ·have ab:w.cell? ⟨q,0,none⟩=some (.func (.func 181) #[] #[]):=hq;have HA:=Qab (Qgf 2 false v k (by decide));clear hq;go_enter func264,ntmps264;go_wp2_with fail
  go_region_held3 (fun w'=>w'.cell? ⟨q,0,none⟩=some (.func (.func 181) #[] #[])∧w'.cell? ⟨p,0,none⟩=some (.func (.func 244) #[] #[])∧w'.cell? ⟨1,0,none⟩=some (.int .i64 m)) (first | go_keep) (first
   |(go_at_call 181;refine(Qh5 _ _ (by first|exact hv|exact hk)).mono ?_;rintro e wn ⟨rfl,hb⟩;have aa:Hid (Below w.heap.size w wn):=(by first|exact aa.o.trans (hb.mono aa.o.size)|exact Qbk hb);have d1:wn.cell? ⟨q,0,none⟩=some (.func (.func 181) #[] #[]):=(aa.o.cell (p:=⟨q,0,none⟩) ae).trans ab;have d2:wn.cell? ⟨p,0,none⟩=some (.func (.func 244) #[] #[]):=(aa.o.cell (p:=⟨p,0,none⟩) ad).trans hp;have d3:wn.cell? ⟨1,0,none⟩=some (.int .i64 m):=(aa.o.cell (p:=⟨1,0,none⟩) ac).trans hm;clear hb;skip)
   | (go_at_call 244;refine (Tryz.strings_Contains (Qaf (zL v)) (Qaf (zL k)) m _ (by show (zL v).length < _;omega) d3).mono ?_;rintro e w3 ⟨rfl,rfl⟩;rw [Qid];skip))
  all_goals go_wp2
  all_goals go_ret2
  all_goals exact HA.o _ _ aa.o
 ·have ab:w.cell? ⟨q,0,none⟩=some (.func (.func 263) #[] #[]):=hq;have HA:=Qab (Qgf 2 true v k (by decide));clear hq;go_enter func264,ntmps264;go_wp2_with fail
  go_region_held3 (fun w'=>w'.cell? ⟨q,0,none⟩=some (.func (.func 263) #[] #[])∧w'.cell? ⟨p,0,none⟩=some (.func (.func 244) #[] #[])∧w'.cell? ⟨1,0,none⟩=some (.int .i64 m)) (first | go_keep) (first
   |(go_at_call 263;refine(Qh4 _ _).mono ?_;rintro e w1 ⟨rfl,rfl⟩;skip)
   | (go_at_call 244;refine (Tryz.strings_Contains (Qaf v) (Qaf k) m w.drew (by show v.length < _;omega) hm).mono ?_;rintro e w3 ⟨rfl,rfl⟩;rw [Qid];skip))
  all_goals go_wp2
  all_goals go_ret2
  all_goals exact HA.o _ _ (Qar (Below.refl _ _))
theorem QfM:∀ l:L8,(pcL l).length<=l.length
 | []=>Nat.le_refl _
 | [c]=>Nat.le_refl _
 |c::d::r=>by
  have h1:=QfM (d::r);have h2:=QfM r;rw[pcL];split
  ·simpa using h1
  ·split
   ·simpa using h1
   ·split
    ·simp;omega
    ·simpa using h1
theorem QgW(oct:Bool)(x:L8):(lookL oct x).length=x.length:=by
 unfold lookL;split
 ·rfl
 ·simp[zL]
def QyN (oct:Bool):Nat:=if oct then 263 else 181
theorem Qhy(oct:Bool)(x:L8)(w:World)(h:x.length<=1000000):Calls Tryz.prog (QyN oct) #[.string (Qaf x)] w fun e w'=>e=.returned (.string (Qaf (lookL oct x)))/\Below w.heap.size w w':=by
 cases oct
 ·exact Qh5 x w h
 ·exact(Qh4 (Qaf x) w).mono fun e w' he=>⟨he.1,by rw[he.2];exact Below.refl _ _⟩
theorem Qf7{w w':World}{base:Nat}{e:TypeId}{size:Nat}{v:Value}{n:Nat}{xs:List Value}(h:w.ownsRow base e size v n xs)(hb:Below w.heap.size w w'):w'.ownsRow base e size v n xs:=by
 obtain⟨h1,h2⟩:=h;refine⟨h1,?_⟩;rcases h2 with h2 | ⟨g,aa,ab,hv,hg,hh,r⟩
 ·exact Or.inl h2
 ·exact Or.inr ⟨g,aa,ab,hv,hg,by rw[hb.block g (QaI hh)];exact hh,r⟩
theorem Qnu{w:World}{base:Nat}{e:TypeId}{size:Nat}{v:Value}{n:Nat}{xs:List Value}(h:w.ownsRow base e size v n xs)(hn:n≠0):∃ g c,v=.slice (some ⟨g,0,none⟩) n c/\base<=g/\g<w.heap.size:=by
 rcases h.2 with⟨_,h0⟩ | ⟨g,aa,cur,hv,hg,hh,_⟩
 ·exact absurd h0 hn
 ·exact⟨g,aa,hv,hg,QaI hh⟩
theorem QtQ(q:Nat)(v k:L8)(w:World)(hv:v.length<=1000000)(hk:k.length<=1000000)(hq:w.cell? ⟨q,0,none⟩=some (QmU false)) :
 Calls Tryz.prog 245 #[.string (Qaf v),.string (Qaf k),.pointer (some ⟨q,0,none⟩)] w (QfI 3 false v k w):=by
 have aK:q<w.heap.size:=Qau hq;have aC:w.cell? ⟨q,0,none⟩=some (.func (.func 181) #[] #[]):=hq;have aI:=QgW false k;have aJ:=QgW false v;have aB:=QfM (lookL false k);obtain⟨x,hx⟩:∃ x,lookL false k=x:=⟨_,rfl⟩;obtain⟨y,hy⟩:∃ y,lookL false v=y:=⟨_,rfl⟩;have HX:=Qab hx;have HY:=Qab hy;rw[hx]at aI aB;rw[hy]at aJ
 have az:Hid (∀ k',pcL x=k'->QtF 3 false v k=QaW k' y/\wayT 3 false v k=some (toldTo v k' (plL k' y 0) k'.length)):=by
  intro k' ak;unfold QtF wayT;rw[if_neg (by decide),if_neg (by decide),if_pos rfl,HX.o,HY.o,ak];exact⟨rfl,rfl⟩
 have aw:Hid (∀ k',pcL x=k'->∀ j (hj:j<k'.length),k'[j].1=2->k'[j]=(2,0)):=fun k' ak j hj h=>QdM x _ (by rw[ak];exact List.getElem_mem hj) h
 clear hq hx hy;go_enter func245,ntmps245;go_wp2_with fail;refine(Qhy false k _ hk).mono ?_;rintro e w1 ⟨rfl,ag⟩;rw[HX.o];have c1:w1.cell? ⟨q,0,none⟩=some (.func (.func 181) #[] #[]):=(ag.cell (p:=⟨q,0,none⟩) aK).trans aC;have aq:=Qab ag;clear ag aC;go_wp2_with fail;refine(QjM (Qaf x) w1 (by rw[Qaj];omega)).mono ?_;rintro e w2 ⟨lv,rfl,ac,ah⟩;rw[show(Qaf x).data.toList=x from rfl]at ac;obtain⟨pc,ad⟩:∃ pc,pcL x=pc:=⟨_,rfl⟩;have aa:=Qab (az.o pc ad);have ae:=Qab (aw.o pc ad);rw[ad]at ac aB;have c2:w2.cell? ⟨q,0,none⟩=some (.func (.func 181) #[] #[]):=(ah.cell (p:=⟨q,0,none⟩) (Qau c1)).trans c1;have ar:=Qab (aq.o.trans (ah.mono aq.o.size));have aF:=Qab ac;clear ac ah c1 ad az aw;go_wp2_with fail;refine(Qhy false v _ hv).mono ?_;rintro e w3 ⟨rfl,ai⟩;rw[HY.o];have au:=Qab (ar.o.trans (ai.mono ar.o.size));have av:=Qab (Qf7 aF.o ai);clear ai c2;go_wp2_with fail;refine(QuZ (Qaf y) pc lv w1.heap.size w3 (by rw[Qaj];omega) (by omega) av.o ae.o).mono ?_;rintro e w4 ⟨hf,aj⟩;have ab:=Qab (au.o.trans (aj.mono au.o.size));have aG:=Qab (Qf7 av.o aj);clear aj;rcases hf with⟨hm,g,hg,rfl,aA⟩ | ⟨hm,rfl⟩
 ·have aE:=Qab aA;have HM:=Qab hm;clear aA hm;go_wp2_with fail;refine(QnL (Qaf v) pc lv w1.heap.size g (plL pc y 0) w4 (by rw[Qaj];omega) (by omega) aG.o aE.o (QfW pc y 0) (fun i hi=>?_)).mono ?_
  ·obtain⟨a,b,h1,h2,h3,h4,h5⟩:=QjX pc y 0 HM.o i hi;rw[List.getD_eq_getElem?_getD,List.getD_eq_getElem?_getD,h1,h2,Qaj];exact⟨h4,by show b<=_;omega⟩
  rintro e w5 ⟨tv,rfl,ap,aH⟩;have aD:=Qab (ab.o.trans (aH.mono ab.o.size));obtain⟨r,hr⟩:=Qke v pc (plL pc y 0) pc.length;have hs4:=ab.o.size;obtain⟨g5,c5,aL,hg5,hl5⟩:=Qnu ap (by rw[show(Qaf v).data.toList=v from rfl,hr];simp);subst aL;have ax:=Qab (Qww.of_owns ap);have ay:=aa.o.2;have af:=Qab ay;rw[show(Qaf v).data.toList=v from rfl]at ax ⊢;obtain⟨n5,ao⟩:∃ n,(toldTo v pc (plL pc y 0) pc.length).length=n:=⟨_,rfl⟩;have HN:=Qab ao;rw[ao];clear ao hr ay ap;go_wp2;go_ret2;exact⟨aD.o,Or.inr (Or.inr ⟨aa.o.1.trans HM.o,_,g5,c5,af.o,by rw[HN.o];rfl,by omega,ax.o⟩)⟩
 ·have HM:=Qab hm;clear hm;go_wp2;go_ret2;exact⟨ab.o,Or.inl ⟨aa.o.1.trans HM.o,rfl⟩⟩
theorem Qxt(q:Nat)(v k:L8)(w:World)(hv:v.length<=1000000)(hk:k.length<=1000000)(hq:w.cell? ⟨q,0,none⟩=some (QmU true)) :
 Calls Tryz.prog 245 #[.string (Qaf v),.string (Qaf k),.pointer (some ⟨q,0,none⟩)] w (QfI 3 true v k w):=by
 have aK:q<w.heap.size:=Qau hq;have aC:w.cell? ⟨q,0,none⟩=some (.func (.func 263) #[] #[]):=hq;have aI:=QgW true k;have aJ:=QgW true v;have aB:=QfM (lookL true k);obtain⟨x,hx⟩:∃ x,lookL true k=x:=⟨_,rfl⟩;obtain⟨y,hy⟩:∃ y,lookL true v=y:=⟨_,rfl⟩;have HX:=Qab hx;have HY:=Qab hy;rw[hx]at aI aB;rw[hy]at aJ
 have az:Hid (∀ k',pcL x=k'->QtF 3 true v k=QaW k' y/\wayT 3 true v k=some (toldTo v k' (plL k' y 0) k'.length)):=by
  intro k' ak;unfold QtF wayT;rw[if_neg (by decide),if_neg (by decide),if_pos rfl,HX.o,HY.o,ak];exact⟨rfl,rfl⟩
 have aw:Hid (∀ k',pcL x=k'->∀ j (hj:j<k'.length),k'[j].1=2->k'[j]=(2,0)):=fun k' ak j hj h=>QdM x _ (by rw[ak];exact List.getElem_mem hj) h
 clear hq hx hy;go_enter func245,ntmps245;go_wp2_with fail;refine(Qhy true k _ hk).mono ?_;rintro e w1 ⟨rfl,ag⟩;rw[HX.o];have c1:w1.cell? ⟨q,0,none⟩=some (.func (.func 263) #[] #[]):=(ag.cell (p:=⟨q,0,none⟩) aK).trans aC;have aq:=Qab ag;clear ag aC;go_wp2_with fail;refine(QjM (Qaf x) w1 (by rw[Qaj];omega)).mono ?_;rintro e w2 ⟨lv,rfl,ac,ah⟩;rw[show(Qaf x).data.toList=x from rfl]at ac;obtain⟨pc,ad⟩:∃ pc,pcL x=pc:=⟨_,rfl⟩;have aa:=Qab (az.o pc ad);have ae:=Qab (aw.o pc ad);rw[ad]at ac aB;have c2:w2.cell? ⟨q,0,none⟩=some (.func (.func 263) #[] #[]):=(ah.cell (p:=⟨q,0,none⟩) (Qau c1)).trans c1;have ar:=Qab (aq.o.trans (ah.mono aq.o.size));have aF:=Qab ac;clear ac ah c1 ad az aw;go_wp2_with fail;refine(Qhy true v _ hv).mono ?_;rintro e w3 ⟨rfl,ai⟩;rw[HY.o];have au:=Qab (ar.o.trans (ai.mono ar.o.size));have av:=Qab (Qf7 aF.o ai);clear ai c2;go_wp2_with fail;refine(QuZ (Qaf y) pc lv w1.heap.size w3 (by rw[Qaj];omega) (by omega) av.o ae.o).mono ?_;rintro e w4 ⟨hf,aj⟩;have ab:=Qab (au.o.trans (aj.mono au.o.size));have aG:=Qab (Qf7 av.o aj);clear aj;rcases hf with⟨hm,g,hg,rfl,aA⟩ | ⟨hm,rfl⟩
 ·have aE:=Qab aA;have HM:=Qab hm;clear aA hm;go_wp2_with fail;refine(QnL (Qaf v) pc lv w1.heap.size g (plL pc y 0) w4 (by rw[Qaj];omega) (by omega) aG.o aE.o (QfW pc y 0) (fun i hi=>?_)).mono ?_
  ·obtain⟨a,b,h1,h2,h3,h4,h5⟩:=QjX pc y 0 HM.o i hi;rw[List.getD_eq_getElem?_getD,List.getD_eq_getElem?_getD,h1,h2,Qaj];exact⟨h4,by show b<=_;omega⟩
  rintro e w5 ⟨tv,rfl,ap,aH⟩;have aD:=Qab (ab.o.trans (aH.mono ab.o.size));obtain⟨r,hr⟩:=Qke v pc (plL pc y 0) pc.length;have hs4:=ab.o.size;obtain⟨g5,c5,aL,hg5,hl5⟩:=Qnu ap (by rw[show(Qaf v).data.toList=v from rfl,hr];simp);subst aL;have ax:=Qab (Qww.of_owns ap);have ay:=aa.o.2;have af:=Qab ay;rw[show(Qaf v).data.toList=v from rfl]at ax ⊢;obtain⟨n5,ao⟩:∃ n,(toldTo v pc (plL pc y 0) pc.length).length=n:=⟨_,rfl⟩;have HN:=Qab ao;rw[ao];clear ao hr ay ap;go_wp2;go_ret2;exact⟨aD.o,Or.inr (Or.inr ⟨aa.o.1.trans HM.o,_,g5,c5,af.o,by rw[HN.o];rfl,by omega,ax.o⟩)⟩
 ·have HM:=Qab hm;clear hm;go_wp2;go_ret2;exact⟨ab.o,Or.inl ⟨aa.o.1.trans HM.o,rfl⟩⟩
theorem Qtz(v:L8)(aa:List (Nat×UInt8))(pl:List Nat)(k:Nat):∀ x∈toldTo v aa pl k,x.length<=v.length:=by
 induction k with
 |zero=>intro x hx;rw[toldTo]at hx;simp at hx;rw[hx];exact Nat.le_refl _
 |succ k ih=>
  intro x hx;rw[toldTo,List.mem_append]at hx;rcases hx with hx|hx
  ·exact ih x hx
  ·split at hx
   ·cases hx
   ·simp at hx;rw[hx];simp;omega
theorem QtZ{tag:Int}{oct:Bool}{v k:L8}{t:List (L8)}(h:wayT tag oct v k=some t):(∀ x∈t,x.length<=v.length)/\t.length<=k.length+1:=by
 unfold wayT at h
 split at h
 ·cases h;refine⟨Qtz _ _ _ _,?_⟩;have h1:=Qlt v (pcL (lookL oct k)) (plL (pcL (lookL oct k)) (lookL oct v) 0) (pcL (lookL oct k)).length;have h2:=QfM (lookL oct k);rw[QgW]at h2;omega
 ·cases h
theorem Qw0(oct:Bool)(q:Nat)(v k:L8)(w:World)(hv:v.length<=1000000)(hk:k.length<=1000000)(hq:w.cell? ⟨q,0,none⟩=some (QmU oct)) :
 Calls Tryz.prog 245 #[.string (Qaf v),.string (Qaf k),.pointer (some ⟨q,0,none⟩)] w (QfI 3 oct v k w):=by
 cases oct
 ·exact QtQ q v k w hv hk hq
 ·exact Qxt q v k w hv hk hq
end Go.Proofs.YtgnkjijocdmniaaGreatDoor
