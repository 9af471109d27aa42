import Derived.Laws.EntriesVeiled
import Derived.Test.YtgnkjijocdmniaaGreatDoorZPParse
import Derived.Test.YtgnkjijocdmniaaGreatDoorZSExists
namespace Go.Proofs.YtgnkjijocdmniaaGreatDoor
set_option linter.unusedVariables false
set_option linter.unusedSimpArgs false
set_option maxRecDepth 100000
set_option maxHeartbeats 4000000
open Go.Proofs.Tryz
open Go.RowKit
attribute [local go_sem ↓] Go.wp_at_zero Go.wp_at_succ
variable{α β:Type}{B base c i m n sb size:Nat}{M:Msg}{W w w':World}{a:Array MapEntry}{b t:Qa}{e:TypeId}{f:Int->Option Value}{k:L8}{oct:Bool}{s:SS}{tag:Int}{v:Value}{xs:List Value}
def YH(s:ByteArray)(k j:Nat):UInt8:=if j<k then Ji (s.data.toList.getD j 0)else s.data.toList.getD j 0
theorem D1(c:UInt8)(h:YJ (c.toNat:Int)=true):((Ji c).toNat:Int)=(c.toNat:Int) - 97+65:=by
 have a:=h;unfold YJ at a;simp at a;have e:Ji c=c - 97+65:=by unfold Ji;rw[if_pos h]
 rw[e,UInt8.toNat_add,UInt8.toNat_sub];simp;omega
theorem AM(c:UInt8)(h:YJ (c.toNat:Int)=false):Ji c=c:=by
 unfold Ji;rw[if_neg (by rw[h];decide)]
theorem MF(s:ByteArray)(k j:Nat)(h:YJ ((s.data.toList.getD k 0).toNat:Int)=false):YH s k j=YH s (k+1) j:=by
 unfold YH;by_cases e:j=k
 ·subst e;rw[if_neg (by omega),if_pos (by omega),AM _ h]
 ·by_cases l:j<k
  ·rw[if_pos l,if_pos (by omega)]
  ·rw[if_neg l,if_neg (by omega)]
theorem Lq(s:ByteArray)(k j:Nat)(e:¬ j=k):YH s k j=YH s (k+1) j:=by
 unfold YH;by_cases l:j<k
 ·rw[if_pos l,if_pos (by omega)]
 ·rw[if_neg l,if_neg (by omega)]
theorem Mw(s:ByteArray)(k:Nat):YH s (k+1) k=Ji (s.data.toList.getD k 0):=by
 unfold YH;rw[if_pos (by omega)]
theorem I9(s:ByteArray)(w:World)(L:s.size<=140737488355328) :
 Calls prog 253 #[.string s] w fun e w'=>e=.returned (.string ⟨(capL s.data.toList).toArray⟩)/\Below w.heap.size w w':=by
 have v:=Lib.run_convert_string_bytes (P:=prog) w 9 198 5 s (u:=.string) underlying9 underlying198 underlying5;have d:=Lib.bytesWorld_below w 5 s
 have g:∀ j,j<s.size->(Lib.bytesWorld w 5 s).cell? ⟨w.heap.size,j,none⟩=some (.int .u8 (YH s 0 j).toNat):=fun j hj=>by
  rw[Lib.bytesWorld_cell w 5 s j hj];simp[YH]
 have l:∀ j,j<s.size->(Lib.bytesWorld w 5 s).frozen? ⟨w.heap.size,j,none⟩=false:=fun j hj=>by
  unfold World.frozen?;rw[Lib.bytesWorld_at_new];simp[Lib.bytesCells];omega
 have n:=Lib.bytesWorld_size w 5 s;generalize Lib.bytesWorld w 5 s=W1 at v d g l n
 have x:∀(wr:World),(∀ j,j<s.size->wr.cell? ⟨w.heap.size,j,none⟩=some (.int .u8 (YH s s.size j).toNat))->
  ∀ C,(convert 198 9 (.slice (some ⟨w.heap.size,0,none⟩) s.size C)).run prog wr=.ok (.string ⟨(capL s.data.toList).toArray⟩) wr:=fun wr E C=>by
  have B:(capL s.data.toList).length=s.size:=by simp[capL]
  have:=run_convert_bytes_back (P:=prog) wr 198 9 5 ⟨w.heap.size,0,none⟩ C (capL s.data.toList) underlying198 underlying5 underlying9 (fun j hj=>by
   rw[Ys,E j (by omega)];have hj':j<s.data.toList.length:=by simp[capL]at hj;simpa using hj
   simp only[YH,capL,List.getElem_map]
   rw [if_pos (by omega),List.getD_eq_getElem?_getD,List.getElem?_eq_getElem hj'];rfl)
  rw[B]at this;exact this
 have z:=I x;clear x;go_enter func253,ntmps253;go_wp2_with fail;generalize grownCap w s.size 0 5=C at *
 go_loopw [4,5,10] (fun _ _ i wr=>∃ k:Nat,k<=s.size/\i=.int .i64 k/\Below w.heap.size w wr/\(∀ j,j<s.size->wr.cell? ⟨w.heap.size,j,none⟩=some (.int .u8 (YH s k j).toNat))/\(∀ j,j<s.size->wr.frozen? ⟨w.heap.size,j,none⟩=false)/\wr.heap.size=w.heap.size+1) (fun _ _ i _=>s.size - (intOf i).toNat)
 case atStart=>exact⟨0,by omega,rfl,d,g,l,n⟩
 case round=>
  obtain⟨k,J,rfl,f,a,m,y⟩:=hrel;clear d g l n v;by_cases hlt:k<s.size
  ·have b:=a k hlt;have H:=m k hlt;simp only[YH]at b;rw[if_neg (by omega)]at b;generalize hcd:s.data.toList.getD k 0=c at b;have q:=I hcd;clear hcd;have F:=UInt8.toNat_lt c;have p:=I a;have r:=I m;clear a m;cases hc:YJ (c.toNat:Int)
   ·go_wp2_with (go_at_call 257;refine(N1 _ _).mono ?_;rintro e w' ⟨rfl,rfl⟩);refine⟨⟨k+1,by omega,by go_num,f,fun j hj=>?_,r.o,y⟩,by simp[intOf];omega⟩;rw[p.o j hj,MF s k j (by rw[q.o];exact hc)]
   ·have D:=I (D1 c hc);have t:97<=(c.toNat:Int)/\(c.toNat:Int)<=122:=by unfold YJ at hc;simpa using hc
    obtain⟨t,G⟩:=t;go_wp2_with (go_at_call 257;refine(N1 _ _).mono ?_;rintro e w' ⟨rfl,rfl⟩);refine⟨⟨k+1,by omega,by go_num,?_,fun j hj=>?_,fun j hj=>?_,?_⟩,by simp[intOf];omega⟩
    ·exact f.setCell Ql _
    ·by_cases e:j=k
     ·subst e;rw[World.cell?_setCell_same _ _ _ b,Mw,q.o];rw[D.o]
     ·rw[World.cell?_setCell_other _ _ _ _ (by simp[e]),p.o j hj,Lq s k j e]
    ·rw[World.frozen?_setCell];exact r.o j hj
    ·simpa using y
  ·have A:k=s.size:=by omega
   subst A;have K:=z.o wr a C;go_wp2;go_ret;exact⟨rfl,f⟩
theorem BO(v k:L8):Lib.contains v k=Z7 k v:=by
 unfold Lib.contains
 induction v with
 |nil=>
  cases k with
  |nil=>rfl
  |cons c r=>rfl
 |cons c v ih=>
  rw[Lib.index,Z7];by_cases h:k.isPrefixOf (c::v)=true
  ·rw[if_pos h,h];rfl
  ·rw[if_neg h,Bool.eq_false_iff.2 h,Bool.false_or,<-ih];split
   ·next h1=>have a:=eq_of_beq h1;rw[a]
   ·next h1=>
    have a:Lib.index v k≠-1:=fun e=>h1 (by rw[e];rfl)
    have b:=Lib.index_ge v k;rw[Zo];simp;omega
def US(oct:Bool):Value:=if oct then .func (.func 263) #[] #[]else .func (.func 181) #[] #[]
theorem Ag(s:ByteArray)(w:World):Calls prog 263 #[.string s] w fun e w'=>e=.returned (.string s)/\w'=w:=by
 go_enter func263,ntmps263;go_wp2;go_ret;exact⟨rfl,rfl⟩
theorem FG(oct:Bool)(w:World):Calls prog 241 #[.bool oct] w fun e w'=>e=.returned (US oct)/\w'=w:=by
 cases oct <;>
 (go_enter func241,ntmps241
  go_wp2;go_ret
  exact ⟨rfl,rfl⟩)
theorem D9(x y:L8)(w:World):Calls prog 243 #[.string (sA x),.string (sA y)] w fun e w'=>e=.returned (.bool (decide (x=y)))/\w'=w:=by
 have a:((sA x).toList==(sA y).toList)=decide (x=y):=by
  rw[show(sA y).toList=y by rw[ByteArray.toList_eq];rfl];exact Y6 x y
 go_enter func243,ntmps243;go_wp2;go_ret;exact⟨QS (by rw[<-a]),rfl⟩
theorem N9(x:L8)(w:World)(h:x.length<=1000000):Calls prog 181 #[.string (sA x)] w fun e w'=>e=.returned (.string (sA (zL x)))/\Below w.heap.size w w':=
 VT (sA x) w (by rw[QN];omega)
def WayV(w:World)(tag:Int)(oct:Bool)(wv:Value):Prop:=
 (tag=3/\∃ p,wv=.func (.func 245) #[] #[.pointer (some ⟨p,0,none⟩)]/\w.cell? ⟨p,0,none⟩=some (US oct))\/
 (∃ p q,wv=.func (.func 264) #[] #[.pointer (some ⟨p,0,none⟩),.pointer (some ⟨q,0,none⟩)]∧w.cell? ⟨q,0,none⟩=some (US oct)∧
   ((tag=1∧w.cell? ⟨p,0,none⟩=some (.func (.func 243) #[] #[]))∨(tag=2∧w.cell? ⟨p,0,none⟩=some (.func (.func 244) #[] #[]))))
def Vg(tag:Int)(oct:Bool)(v k:L8)(W:World)(e:Ending)(W':World):Prop:=
 Below W.heap.size W W'/\
 ((wayB tag oct v k=false∧e=.returned (.tuple #[.slice none 0 0,.bool false]))∨
  (wayB tag oct v k=true/\wayT tag oct v k=none/\e=.returned (.tuple #[.slice none 0 0,.bool true]))\/
  (wayB tag oct v k=true∧∃ t g c,wayT tag oct v k=some t∧e=.returned (.tuple #[.slice (some ⟨g,0,none⟩) t.length c,.bool true])∧W.heap.size<=g∧UT W' g t))
theorem GI(tag:Int)(oct:Bool)(v k:L8)(a:tag≠3)(w w':World)(b:Below w.heap.size w w'):Vg tag oct v k w (.returned (.tuple #[.slice none 0 0,.bool (wayB tag oct v k)])) w':=by
 refine⟨b,?_⟩;have c:wayT tag oct v k=none:=by unfold wayT;rw[if_neg a]
 cases h:wayB tag oct v k
 ·exact Qd ⟨rfl,rfl⟩
 ·exact Qc (Qd ⟨rfl,c,rfl⟩)
theorem Hu(oct:Bool)(p q:Nat)(v k:L8)(w:World)(n:v.length<=1000000)(j:k.length<=1000000)(b:w.cell? ⟨q,0,none⟩=some (US oct))(g:w.cell? ⟨p,0,none⟩=some (.func (.func 243) #[] #[])) :
 Calls prog 264 #[.string (sA v),.string (sA k),.pointer (some ⟨p,0,none⟩),.pointer (some ⟨q,0,none⟩)] w (Vg 1 oct v k w):=by
 have m:q<w.heap.size:=Qq b;have l:p<w.heap.size:=Qq g;have t:(zL v).length<=1000000:=by simp[zL];omega
 cases oct
 ·have i:w.cell? ⟨q,0,none⟩=some (.func (.func 181) #[] #[]):=b;have c:=I (GI 1 false v k (by decide));clear b;go_enter func264,ntmps264;go_wp2_with fail
  go_region_held3 (fun w'=>w'.cell? ⟨q,0,none⟩=some (.func (.func 181) #[] #[])∧w'.cell? ⟨p,0,none⟩=some (.func (.func 243) #[] #[])) (first | go_keep) (first
   |(go_at_call 181;refine(N9 _ _ (by first|exact n|exact j)).mono ?_;rintro e f ⟨rfl,d⟩;have a:Hid (Below w.heap.size w f):=(by first|exact a.o.trans (d.mono a.o.size)|exact XQ d);have r:f.cell? ⟨q,0,none⟩=some (.func (.func 181) #[] #[]):=(a.o.cell (p:=⟨q,0,none⟩) m).trans i;have s:f.cell? ⟨p,0,none⟩=some (.func (.func 243) #[] #[]):=(a.o.cell (p:=⟨p,0,none⟩) l).trans g;clear d;skip)
   | (go_at_call 243;refine (D9 _ _ _).mono ?_;rintro e w3 ⟨rfl,rfl⟩;skip))
  all_goals go_wp2
  all_goals go_ret2
  all_goals exact c.o _ _ a.o
 ·have i:w.cell? ⟨q,0,none⟩=some (.func (.func 263) #[] #[]):=b;have c:=I (GI 1 true v k (by decide));clear b;go_enter func264,ntmps264;go_wp2_with fail
  go_region_held3 (fun w'=>w'.cell? ⟨q,0,none⟩=some (.func (.func 263) #[] #[])∧w'.cell? ⟨p,0,none⟩=some (.func (.func 243) #[] #[])) (first | go_keep) (first
   |(go_at_call 263;refine(Ag _ _).mono ?_;rintro e u ⟨rfl,rfl⟩;skip)
   | (go_at_call 243;refine (D9 _ _ _).mono ?_;rintro e w3 ⟨rfl,rfl⟩;skip))
  all_goals go_wp2
  all_goals go_ret2
  all_goals exact c.o _ _ (Zq (Below.refl _ _))
theorem FI(oct:Bool)(p q:Nat)(v k:L8)(w:World)(s:v.length<=1000000)(j:k.length<=1000000)(b:w.cell? ⟨q,0,none⟩=some (US oct))(g:w.cell? ⟨p,0,none⟩=some (.func (.func 244) #[] #[]))(m:Int)(hm:w.cell? ⟨1,0,none⟩=some (.int .i64 m)) :
 Calls prog 264 #[.string (sA v),.string (sA k),.pointer (some ⟨p,0,none⟩),.pointer (some ⟨q,0,none⟩)] w (Vg 2 oct v k w):=by
 have r:q<w.heap.size:=Qq b;have n:p<w.heap.size:=Qq g;have l:1<w.heap.size:=Qq hm;have x:(zL v).length<=1000000:=by simp[zL];omega
 cases oct
 ·have i:w.cell? ⟨q,0,none⟩=some (.func (.func 181) #[] #[]):=b;have d:=I (GI 2 false v k (by decide));clear b;go_enter func264,ntmps264;go_wp2_with fail
  go_region_held3 (fun w'=>w'.cell? ⟨q,0,none⟩=some (.func (.func 181) #[] #[])∧w'.cell? ⟨p,0,none⟩=some (.func (.func 244) #[] #[])∧w'.cell? ⟨1,0,none⟩=some (.int .i64 m)) (first | go_keep) (first
   |(go_at_call 181;refine(N9 _ _ (by first|exact s|exact j)).mono ?_;rintro e c ⟨rfl,f⟩;have a:Hid (Below w.heap.size w c):=(by first|exact a.o.trans (f.mono a.o.size)|exact XQ f);have t:c.cell? ⟨q,0,none⟩=some (.func (.func 181) #[] #[]):=(a.o.cell (p:=⟨q,0,none⟩) r).trans i;have u:c.cell? ⟨p,0,none⟩=some (.func (.func 244) #[] #[]):=(a.o.cell (p:=⟨p,0,none⟩) n).trans g;have d3:c.cell? ⟨1,0,none⟩=some (.int .i64 m):=(a.o.cell (p:=⟨1,0,none⟩) l).trans hm;clear f;skip)
   | (go_at_call 244;refine (Tryz.strings_Contains (sA (zL v)) (sA (zL k)) m _ (by show (zL v).length < _;omega) d3).mono ?_;rintro e w3 ⟨rfl,rfl⟩;rw [BO];skip))
  all_goals go_wp2
  all_goals go_ret2
  all_goals exact d.o _ _ a.o
 ·have i:w.cell? ⟨q,0,none⟩=some (.func (.func 263) #[] #[]):=b;have d:=I (GI 2 true v k (by decide));clear b;go_enter func264,ntmps264;go_wp2_with fail
  go_region_held3 (fun w'=>w'.cell? ⟨q,0,none⟩=some (.func (.func 263) #[] #[])∧w'.cell? ⟨p,0,none⟩=some (.func (.func 244) #[] #[])∧w'.cell? ⟨1,0,none⟩=some (.int .i64 m)) (first | go_keep) (first
   |(go_at_call 263;refine(Ag _ _).mono ?_;rintro e y ⟨rfl,rfl⟩;skip)
   | (go_at_call 244;refine (Tryz.strings_Contains (sA v) (sA k) m w.drew (by show v.length < _;omega) hm).mono ?_;rintro e w3 ⟨rfl,rfl⟩;rw [BO];skip))
  all_goals go_wp2
  all_goals go_ret2
  all_goals exact d.o _ _ (Zq (Below.refl _ _))
theorem GP:∀ l:L8,(pcL l).length<=l.length
 | []=>Nat.le_refl _
 | [c]=>Nat.le_refl _
 |c::d::r=>by
  have a:=GP (d::r);have b:=GP r;rw[pcL];split
  ·simpa using a
  ·split
   ·simpa using a
   ·split
    ·simp;omega
    ·simpa using a
theorem AI(oct:Bool)(x:L8):(lookL oct x).length=x.length:=by
 unfold lookL;split
 ·rfl
 ·simp[zL]
def Wg(oct:Bool):Nat:=if oct then 263 else 181
theorem PM(oct:Bool)(x:L8)(w:World)(h:x.length<=1000000):Calls prog (Wg oct) #[.string (sA x)] w fun e w'=>e=.returned (.string (sA (lookL oct x)))/\Below w.heap.size w w':=by
 cases oct
 ·exact N9 x w h
 ·exact(Ag (sA x) w).mono fun e w' he=>⟨he.1,by rw[he.2];exact Below.refl _ _⟩
theorem Cx(h:w.ownsRow base e size v n xs)(i:Below w.heap.size w w'):w'.ownsRow base e size v n xs:=by
 obtain⟨f,a⟩:=h;refine⟨f,?_⟩;rcases a with a | ⟨g,c,d,k,j,b,r⟩
 ·exact Qd a
 ·exact Qc ⟨g,c,d,k,j,by rw[i.block g (Qg b)];exact b,r⟩
theorem O8(h:w.ownsRow base e size v n xs)(i:n≠0):∃ g c,v=.slice (some ⟨g,0,none⟩) n c/\base<=g/\g<w.heap.size:=by
 rcases h.2 with⟨_,b⟩ | ⟨g,a,k,j,d,f,_⟩
 ·exact absurd b i
 ·exact⟨g,a,j,d,Qg f⟩
theorem Tl(oct:Bool)(q:Nat)(v k:L8)(w:World)(hv:v.length<=1000000)(F:k.length<=1000000)(u:w.cell? ⟨q,0,none⟩=some (US oct)) :
 Calls prog 245 #[.string (sA v),.string (sA k),.pointer (some ⟨q,0,none⟩)] w (Vg 3 oct v k w):=by
 have ao:q<w.heap.size:=Qq u;have aj:=AI oct k;have ak:=AI oct v;have ab:=GP (lookL oct k);obtain⟨x,L⟩:=Qe (lookL oct k);obtain⟨y,M⟩:=Qe (lookL oct v);have Y:=I L;have Z:=I M;rw[L]at aj ab;rw[M]at ak
 have X:Hid (∀ d,pcL x=d->wayB 3 oct v k=QH d y/\wayT 3 oct v k=some (toldTo v d (plL d y 0) d.length)):=by
  intro d G;unfold wayB wayT;rw[if_neg (by decide),if_neg (by decide),if_pos rfl,Y.o,Z.o,G];exact⟨rfl,rfl⟩
 have T:Hid (∀ d,pcL x=d->∀ j (hj:j<d.length),d[j].1=2->d[j]=(2,0)):=fun d G j hj h=>VN x _ (by rw[G];exact List.getElem_mem hj) h
 clear L M;have LC:=I (fun k W F=>PM oct k W F);cases oct
 all_goals
  first|(have K:w.cell? ⟨q,0,none⟩=some (.func (.func 181) #[] #[]):=u)|(have K:w.cell? ⟨q,0,none⟩=some (.func (.func 263) #[] #[]):=u)
  clear u;go_enter func245,ntmps245;go_wp2_with fail;refine(LC.o k _ F).mono ?_;rintro e N ⟨rfl,B⟩;rw[Y.o];have A:=(B.cell (p:=⟨q,0,none⟩) ao).trans K;have P:=I B;clear B K;go_wp2_with fail;refine(IB (sA x) N (by rw[QN];omega)).mono ?_;rintro e w2 ⟨lv,rfl,s,C⟩;rw[show(sA x).data.toList=x from rfl]at s;obtain⟨c,t⟩:=Qe (pcL x);have z:=I (X.o c t);have ag:=I (T.o c t);rw[t]at s ab;have c2:=(C.cell (p:=⟨q,0,none⟩) (Qq A)).trans A;have Q:=I (P.o.trans (C.mono P.o.size));have ae:=I s;clear s C A t X T;go_wp2_with fail;refine(LC.o v _ hv).mono ?_;rintro e w3 ⟨rfl,D⟩;rw[Z.o];have R:=I (Q.o.trans (D.mono Q.o.size));have S:=I (Cx ae.o D);clear D c2;go_wp2_with fail;refine(Tt (sA y) c lv N.heap.size w3 (by rw[QN];omega) (by omega) S.o ag.o).mono ?_;rintro e w4 ⟨hf,E⟩;have l:=I (R.o.trans (E.mono R.o.size));have af:=I (Cx S.o E);clear E;rcases hf with⟨f,g,hg,rfl,aa⟩ | ⟨f,rfl⟩
  ·have ad:=I aa;have m:=I f;clear aa f;go_wp2_with fail;refine(M9 (sA v) c lv N.heap.size g (plL c y 0) w4 (by rw[QN];omega) (by omega) af.o ad.o (N8 c y 0) (fun i hi=>?_)).mono ?_
   ·obtain⟨a,b,h1,h2,h3,h4,h5⟩:=DP c y 0 m.o i hi;rw[List.getD_eq_getElem?_getD,List.getD_eq_getElem?_getD,h1,h2,QN];exact⟨h4,by show b<=_;omega⟩
   rintro e w5 ⟨tv,rfl,J,ai⟩;have ac:=I (l.o.trans (ai.mono l.o.size));obtain⟨r,hr⟩:=LF v c (plL c y 0) c.length;have au:=l.o.size;obtain⟨g5,c5,ap,aq,ar⟩:=O8 J (by rw[show(sA v).data.toList=v from rfl,hr];simp);subst ap;have U:=I (UT.of_owns J);have V:=z.o.2;have ah:=I V;rw[show(sA v).data.toList=v from rfl]at U ⊢;obtain⟨n5,H⟩:=Qe ((toldTo v c (plL c y 0) c.length).length);have HN:=I H;rw[H];clear H hr V J;go_wp2;go_ret2;exact⟨ac.o,Qc (Qc ⟨z.o.1.trans m.o,_,g5,c5,ah.o,by rw[HN.o];rfl,by omega,U.o⟩)⟩
  ·have m:=I f;clear f;go_wp2;go_ret2;exact⟨l.o,Qd ⟨z.o.1.trans m.o,rfl⟩⟩
theorem Oa(v:L8)(a:List (Nat×UInt8))(b:List Nat)(k:Nat):∀ x∈toldTo v a b k,x.length<=v.length:=by
 induction k with
 |zero=>intro x hx;rw[toldTo]at hx;simp at hx;rw[hx];exact Nat.le_refl _
 |succ k ih=>
  intro x hx;rw[toldTo,List.mem_append]at hx;rcases hx with hx|hx
  ·exact ih x hx
  ·split at hx
   ·cases hx
   ·simp at hx;rw[hx];simp;omega
theorem EM{v:L8}(h:wayT tag oct v k=some t):(∀ x∈t,x.length<=v.length)/\t.length<=k.length+1:=by
 unfold wayT at h
 split at h
 ·cases h;refine⟨Oa _ _ _ _,?_⟩;have b:=CL v (pcL (lookL oct k)) (plL (pcL (lookL oct k)) (lookL oct v) 0) (pcL (lookL oct k)).length;have a:=GP (lookL oct k);rw[AI]at a;omega
 ·cases h
def Ve(r:Bool×SS)(B sb:Nat)(M:Msg)(w:World)(e:Ending)(w':World):Prop:=
 e=.returned (.bool r.1)/\SAt w' B sb M r.2/\Fr (PSt B) w w'
theorem SBd.told'(b:SBd M s)(t:Qa)(h1:∀ x∈t,x.length<=100000)(h2:t.length<=1000000):SBd M (KK s t):=⟨b.fr,b.tu,b.hl,b.hd,h1,h2,b.vals,b.met⟩
theorem SI.setTold{A:Value}{C:Nat}{P D:Value}(h:SI w B sb M s A C P D)(t:Qa)(v:Value)(L:SlT w v t)(p:∀ x∈t,x.length<=100000)(d:t.length<=1000000):SI (w.setCell ⟨sb,6,none⟩ v) B sb M (KK s t) A C v D:=by
 have j:Fr (fun k _=>k=sb) w (w.setCell ⟨sb,6,none⟩ v):=(Fr.refl _ w).set h.blk rfl 6 v
 have l:∀(k:Nat) (o:Obj),w.heap[k]?=some o->(∀ b,o≠.cells b 274)->k≠sb:=fun k o y K e=>by
  subst e;rw[h.blk]at y;cases y;exact K _ rfl
 obtain⟨G,c,z,N⟩:=h.mp;obtain⟨m,H⟩:=h.m1;refine⟨h.bs,h.bm,h.b1,⟨m,?_⟩,?_,?_,⟨G,c,j.block _ _ z (l _ _ z (fun b e=>by cases e)),N⟩,?_,?_,h.mn,h.bd.told' t p d⟩
 ·have:(1:Nat)≠sb:=by have:=h.b1;have:=h.bs;omega
  rw[ZA (a:=⟨1,0,none⟩) (QK this)];exact H
 ·exact Qt _ _ _ _ _ _ h.blk
 ·rcases h.hd with n | ⟨g,c,b,i,f,q⟩
  ·exact Qd n
  ·exact Qc ⟨g,c,b,i,j.block _ _ f (l _ _ f (fun b e=>by injection e with e1 e2;exact absurd e2 (by decide))),q⟩
 ·rcases L with n | ⟨g,c,i,b,f,q⟩
  ·exact Qd n
  ·exact Qc ⟨g,c,i,b,j.block _ _ f (l _ _ f (fun b e=>by injection e with e1 e2;exact absurd e2 (by decide))),q⟩
 ·obtain⟨p,d⟩:=h.met;refine⟨p,?_⟩;rcases d with d | ⟨g,E,F,i,J,u,r⟩
  ·exact Qd d
  ·exact Qc ⟨g,E,F,i,J,j.block _ _ u (l _ _ u (fun b e=>by injection e with e1 e2;exact absurd e2 (by decide))),r⟩
theorem C0{v:L8}(a:Qa)(j:Nat)(b:j<a.length):XX tag oct v (a.drop j)=if wayB tag oct v a[j]then some a[j]else XX tag oct v (a.drop (j+1)):=by
 rw[List.drop_eq_getElem_cons b];rfl
theorem Dd(a:Qa)(i:Nat)(hi:i<a.length):Xs tag oct b (a.drop i)=match XX tag oct a[i] b with|some k=>some (a[i],k)|none=>Xs tag oct b (a.drop (i+1)):=by
 rw[List.drop_eq_getElem_cons hi];rfl
theorem Do{a:Qa}{hi:i<a.length}(h:XX tag oct a[i] b=none):Xs tag oct b (a.drop i)=Xs tag oct b (a.drop (i+1)):=by
 rw[Dd a i hi,h]
theorem G2{a:Qa}{hi:i<a.length}(h:XX tag oct a[i] b=some k):Xs tag oct b (a.drop i)=some (a[i],k):=by
 rw[Dd a i hi,h]
theorem DQ{vals keys:Qa}(h:Xs tag oct (keys.map (expL s)) vals=none):askL s tag oct vals keys=(false,s):=by unfold askL;rw[h]
theorem EH{vals keys:Qa}{v:L8}(h:Xs tag oct (keys.map (expL s)) vals=some (v,k))(a:wayT tag oct v k=none):askL s tag oct vals keys=(true,s):=by unfold askL;rw[h];dsimp only;rw[a]
theorem Dy{vals keys:Qa}{v:L8}(h:Xs tag oct (keys.map (expL s)) vals=some (v,k))(a:wayT tag oct v k=some t):askL s tag oct vals keys=(true,KK s t):=by unfold askL;rw[h];dsimp only;rw[a]
theorem L1(tag:Int)(oct:Bool)(p:Nat)(B sb:Nat)(M:Msg)(s:SS)(vals keys:Qa)(vv kv:Value)(w:World)
 (hw:∀ W v k,Below w.heap.size w W->v.length<=100000->k.length<=100000->Calls prog 245 #[.string (sA v),.string (sA k),.pointer (some ⟨p,0,none⟩)] W (Vg tag oct v k W))
 (h:SAt w B sb M s) (X:SlT w vv vals) (aj:SlT w kv keys) (ao:∀ z∈vals,z.length<=100000) (R:∀ z∈keys,z.length<=100000) (aO:vals.length<=1000000000000) (ai:keys.length<=1000000) :
 Calls prog 207 #[.pointer (some ⟨sb,0,none⟩),.func (.func 245) #[] #[.pointer (some ⟨p,0,none⟩)],vv,kv] w (Ve (askL s tag oct vals keys) B sb M w):=by
 obtain⟨va,vc,aJ⟩:=X.len;subst aJ;have ay:=I X;have J:=I h;have HW:=I hw;have ax:=I ao;go_enter func207,ntmps207;go_wp2_with fail;refine(VV B sb M s keys _ w h aj (fun z hz=>Qs (R z hz) (by decide)) ai).mono ?_;rintro e F ⟨v1,rfl,T,ad⟩;have L:=I (SlT.of_owns T (by simp));have aq:=I ad;obtain⟨ta,tc,aH⟩:=QQ T;subst aH;have ap:∀ y∈keys.map (expL s),y.length<=100000:=V1 s keys _ R (by decide);have E:keys.length=(keys.map (expL s)).length:=by simp
 obtain⟨b,S⟩:=Qe (keys.map (expL s));have H:=I S;have Y:=I ap;rw[S]at L Y E;rw[E]at ai L;rw[E];clear T ap E ad aj R h X ao hw S;go_wp2_with fail
 go_loopw [10,12,13,14,20] (fun _ _ _ _ i wr=>∃(a:Nat),a<=vals.length/\i=.int .i64 (a:Int)/\Below w.heap.size w wr/\Below F.heap.size F wr/\Xs tag oct b vals=Xs tag oct b (vals.drop a)) (fun _ _ _ _ i _=>vals.length - (intOf i).toNat)
 case atStart=>exact⟨0,QE,rfl,aq.o,Below.refl _ _,rfl⟩
 case round=>
  obtain⟨a,ha,rfl,hB,ab,ag⟩:=hrel;have r:=I hB;have ar:=I ab;have q:=I ag;clear hB ab ag;by_cases hlt:a<vals.length;rotate_left
  ·have aD:¬(a:Int)<(vals.length:Int):=by omega
   have G:=I (UC vals a hlt);go_wp2;go_ret;have n:=DQ (s:=s) (tag:=tag) (oct:=oct) (vals:=vals) (keys:=keys) (by rw[H.o,q.o,G.o];rfl);rw[n];exact⟨rfl,J.o.below r.o,Fr.of_below r.o⟩
  have aD:(a:Int)<(vals.length:Int):=by omega
  obtain⟨g,aF,aA,ae⟩:=ay.o.get' a hlt;subst aF;have c1:wr.cell? ⟨g,a,none⟩=some (.string (sA vals[a])):=by rw[r.o.cell (p:=⟨g,a,none⟩) aA];exact ae
  have V:=ax.o _ (List.getElem_mem hlt);obtain⟨v,U⟩:=Qe (vals[a]);have m:=I U;rw[U]at c1 V;clear U ae;go_wp2_with fail
  go_loopw [12,13,14,26] (fun _ _ _ i wr=>∃(j:Nat),j<=b.length/\i=.int .i64 (j:Int)/\Below w.heap.size w wr/\Below F.heap.size F wr/\XX tag oct v b=XX tag oct v (b.drop j)) (fun _ _ _ i _=>b.length - (intOf i).toNat)
  case atStart=>exact⟨0,QE,rfl,r.o,ar.o,rfl⟩
  case round=>
   obtain⟨j,hj,rfl,aa,ac,ah⟩:=hrel;have u:=I aa;have A:=I ac;have C:=I ah;clear aa ac ah;by_cases hjl:j<b.length;rotate_left
   ·have aC:¬(j:Int)<(b.length:Int):=by omega
    have G:=I (UC b j hjl);go_wp2;refine⟨⟨a+1,by omega,by go_num,u.o,A.o,?_⟩,by simp[intOf];omega⟩;rw[q.o];exact Do (hi:=hlt) (by rw[m.o,C.o,G.o];rfl)
   have aC:(j:Int)<(b.length:Int):=by omega
   obtain⟨Z,aG,aB,af⟩:=L.o.get' j hjl;subst aG;have c2:wr.cell? ⟨Z,j,none⟩=some (.string (sA b[j])):=by rw[A.o.cell (p:=⟨Z,j,none⟩) aB];exact af
   have aE:=Y.o _ (List.getElem_mem hjl);have d:=I (C0 (tag:=tag) (oct:=oct) (v:=v) b j hjl);generalize b[j]=k at *;clear af;go_wp2_with fail;refine(HW.o _ v k u.o V aE).mono ?_;rintro e w3 ⟨P,az⟩;have l:=I (u.o.trans (P.mono u.o.size));have au:=I (A.o.trans (P.mono A.o.size));clear P;rcases az with⟨c,rfl⟩ | ⟨c,f,rfl⟩ | ⟨c,t,g3,c3,f,rfl,aM,ak⟩
   ·rw[c]at d;clear c;go_wp2;refine⟨⟨j+1,by omega,by go_num,l.o,au.o,?_⟩,by simp[intOf];omega⟩;rw[C.o,d.o];rfl
   ·rw[c]at d;have N:=I f;clear c f;go_wp2;go_ret;have n:=EH (s:=s) (tag:=tag) (oct:=oct) (vals:=vals) (keys:=keys) (v:=v) (k:=k) (by rw[H.o,q.o,G2 (hi:=hlt) (k:=k) (by rw[m.o,C.o,d.o];rfl),m.o]) N.o;rw[n];exact⟨rfl,J.o.below l.o,Fr.of_below l.o⟩
   ·rw[c]at d;have N:=I f;have Q:=EM f;obtain⟨aI,mb,tv,mv,D⟩:=J.o.below l.o;have K:=I D;have aK:w3.cell? ⟨sb,6,none⟩=some tv:=D.cell 6;have aL:=D.frozen 6;have aw:=I ak;have aN:=Q.2;have av:=I Q.1;clear c f D ak Q;go_wp2;go_ret;have n:=Dy (s:=s) (tag:=tag) (oct:=oct) (vals:=vals) (keys:=keys) (v:=v) (k:=k) (t:=t) (by rw[H.o,q.o,G2 (hi:=hlt) (k:=k) (by rw[m.o,C.o,d.o];rfl),m.o]) N.o;rw[n];refine⟨rfl,⟨aI,mb,_,mv,K.o.setTold t _ (Qc ⟨g3,c3,rfl,aw.o⟩) (fun x hx=>Qs (av.o x hx) V) (by omega)⟩,?_⟩;exact(Fr.of_below l.o).set K.o.blk K.o.ps _ _
theorem OT(tag:Int)(oct:Bool)(p q:Nat)(B sb:Nat)(M:Msg)(s:SS)(vals keys:Qa)(vv kv:Value)(w:World)
 (hw:∀ W v k,Below w.heap.size w W->v.length<=100000->k.length<=100000->Calls prog 264 #[.string (sA v),.string (sA k),.pointer (some ⟨p,0,none⟩),.pointer (some ⟨q,0,none⟩)] W (Vg tag oct v k W))
 (h:SAt w B sb M s) (Y:SlT w vv vals) (aj:SlT w kv keys) (ao:∀ z∈vals,z.length<=100000) (S:∀ z∈keys,z.length<=100000) (aO:vals.length<=1000000000000) (ai:keys.length<=1000000) :
 Calls prog 207 #[.pointer (some ⟨sb,0,none⟩),.func (.func 264) #[] #[.pointer (some ⟨p,0,none⟩),.pointer (some ⟨q,0,none⟩)],vv,kv] w (Ve (askL s tag oct vals keys) B sb M w):=by
 obtain⟨va,vc,aJ⟩:=Y.len;subst aJ;have ay:=I Y;have K:=I h;have HW:=I hw;have ax:=I ao;go_enter func207,ntmps207;go_wp2_with fail;refine(VV B sb M s keys _ w h aj (fun z hz=>Qs (S z hz) (by decide)) ai).mono ?_;rintro e G ⟨v1,rfl,U,ad⟩;have N:=I (SlT.of_owns U (by simp));have aq:=I ad;obtain⟨ta,tc,aH⟩:=QQ U;subst aH;have ap:∀ y∈keys.map (expL s),y.length<=100000:=V1 s keys _ S (by decide);have F:keys.length=(keys.map (expL s)).length:=by simp
 obtain⟨b,T⟩:=Qe (keys.map (expL s));have J:=I T;have Z:=I ap;rw[T]at N Z F;rw[F]at ai N;rw[F];clear U ap F ad aj S h Y ao hw T;go_wp2_with fail
 go_loopw [10,12,13,14,20] (fun _ _ _ _ i wr=>∃(a:Nat),a<=vals.length/\i=.int .i64 (a:Int)/\Below w.heap.size w wr/\Below G.heap.size G wr/\Xs tag oct b vals=Xs tag oct b (vals.drop a)) (fun _ _ _ _ i _=>vals.length - (intOf i).toNat)
 case atStart=>exact⟨0,QE,rfl,aq.o,Below.refl _ _,rfl⟩
 case round=>
  obtain⟨a,ha,rfl,hB,ab,ag⟩:=hrel;have u:=I hB;have ar:=I ab;have r:=I ag;clear hB ab ag;by_cases hlt:a<vals.length;rotate_left
  ·have aD:¬(a:Int)<(vals.length:Int):=by omega
   have H:=I (UC vals a hlt);go_wp2;go_ret;have n:=DQ (s:=s) (tag:=tag) (oct:=oct) (vals:=vals) (keys:=keys) (by rw[J.o,r.o,H.o];rfl);rw[n];exact⟨rfl,K.o.below u.o,Fr.of_below u.o⟩
  have aD:(a:Int)<(vals.length:Int):=by omega
  obtain⟨g,aF,aA,ae⟩:=ay.o.get' a hlt;subst aF;have c1:wr.cell? ⟨g,a,none⟩=some (.string (sA vals[a])):=by rw[u.o.cell (p:=⟨g,a,none⟩) aA];exact ae
  have X:=ax.o _ (List.getElem_mem hlt);obtain⟨v,V⟩:=Qe (vals[a]);have m:=I V;rw[V]at c1 X;clear V ae;go_wp2_with fail
  go_loopw [12,13,14,26] (fun _ _ _ i wr=>∃(j:Nat),j<=b.length/\i=.int .i64 (j:Int)/\Below w.heap.size w wr/\Below G.heap.size G wr/\XX tag oct v b=XX tag oct v (b.drop j)) (fun _ _ _ i _=>b.length - (intOf i).toNat)
  case atStart=>exact⟨0,QE,rfl,u.o,ar.o,rfl⟩
  case round=>
   obtain⟨j,hj,rfl,aa,ac,ah⟩:=hrel;have A:=I aa;have C:=I ac;have D:=I ah;clear aa ac ah;by_cases hjl:j<b.length;rotate_left
   ·have aC:¬(j:Int)<(b.length:Int):=by omega
    have H:=I (UC b j hjl);go_wp2;refine⟨⟨a+1,by omega,by go_num,A.o,C.o,?_⟩,by simp[intOf];omega⟩;rw[r.o];exact Do (hi:=hlt) (by rw[m.o,D.o,H.o];rfl)
   have aC:(j:Int)<(b.length:Int):=by omega
   obtain⟨g2,aG,aB,af⟩:=N.o.get' j hjl;subst aG;have c2:wr.cell? ⟨g2,j,none⟩=some (.string (sA b[j])):=by rw[C.o.cell (p:=⟨g2,j,none⟩) aB];exact af
   have aE:=Z.o _ (List.getElem_mem hjl);have d:=I (C0 (tag:=tag) (oct:=oct) (v:=v) b j hjl);generalize b[j]=k at *;clear af;go_wp2_with fail;refine(HW.o _ v k A.o X aE).mono ?_;rintro e w3 ⟨Q,az⟩;have l:=I (A.o.trans (Q.mono A.o.size));have au:=I (C.o.trans (Q.mono C.o.size));clear Q;rcases az with⟨c,rfl⟩ | ⟨c,f,rfl⟩ | ⟨c,t,g3,c3,f,rfl,aM,ak⟩
   ·rw[c]at d;clear c;go_wp2;refine⟨⟨j+1,by omega,by go_num,l.o,au.o,?_⟩,by simp[intOf];omega⟩;rw[D.o,d.o];rfl
   ·rw[c]at d;have P:=I f;clear c f;go_wp2;go_ret;have n:=EH (s:=s) (tag:=tag) (oct:=oct) (vals:=vals) (keys:=keys) (v:=v) (k:=k) (by rw[J.o,r.o,G2 (hi:=hlt) (k:=k) (by rw[m.o,D.o,d.o];rfl),m.o]) P.o;rw[n];exact⟨rfl,K.o.below l.o,Fr.of_below l.o⟩
   ·rw[c]at d;have P:=I f;have R:=EM f;obtain⟨aI,mb,tv,mv,E⟩:=K.o.below l.o;have L:=I E;have aK:w3.cell? ⟨sb,6,none⟩=some tv:=E.cell 6;have aL:=E.frozen 6;have aw:=I ak;have aN:=R.2;have av:=I R.1;clear c f E ak R;go_wp2;go_ret;have n:=Dy (s:=s) (tag:=tag) (oct:=oct) (vals:=vals) (keys:=keys) (v:=v) (k:=k) (t:=t) (by rw[J.o,r.o,G2 (hi:=hlt) (k:=k) (by rw[m.o,D.o,d.o];rfl),m.o]) P.o;rw[n];refine⟨rfl,⟨aI,mb,_,mv,L.o.setTold t _ (Qc ⟨g3,c3,rfl,aw.o⟩) (fun x hx=>Qs (av.o x hx) X) (by omega)⟩,?_⟩;exact(Fr.of_below l.o).set L.o.blk L.o.ps _ _
theorem NU(tag:Int)(oct:Bool)(B sb:Nat)(M:Msg)(s:SS)(vals keys:Qa)(t d c:Value)(w:World)(C:WayV w tag oct t)
 (h:SAt w B sb M s) (r:SlT w d vals) (g:SlT w c keys) (n:∀ z∈vals,z.length<=100000) (e:∀ z∈keys,z.length<=100000) (o:vals.length<=1000000000000) (f:keys.length<=1000000) :
 Calls prog 207 #[.pointer (some ⟨sb,0,none⟩),t,d,c] w (Ve (askL s tag oct vals keys) B sb M w):=by
 rcases C with⟨rfl,p,rfl,a⟩ | ⟨p,q,rfl,j,A⟩
 ·refine L1 3 oct p B sb M s vals keys d c w (fun W v k b u x=>?_) h r g n e o f;exact Tl oct p v k W (by omega) (by omega) ((b.cell (p:=⟨p,0,none⟩) (Qq a)).trans a)
 ·refine OT tag oct p q B sb M s vals keys d c w (fun W v k b u x=>?_) h r g n e o f;have l:=(b.cell (p:=⟨q,0,none⟩) (Qq j)).trans j;rcases A with⟨rfl,a⟩ | ⟨rfl,a⟩
  ·exact Hu oct p q v k W (by omega) (by omega) l ((b.cell (p:=⟨p,0,none⟩) (Qq a)).trans a)
  ·obtain⟨D,E,G,F,y⟩:=h;obtain⟨m,i⟩:=y.m1;exact FI oct p q v k W (by omega) (by omega) l ((b.cell (p:=⟨p,0,none⟩) (Qq a)).trans a) m ((b.cell (p:=⟨1,0,none⟩) (Qq i)).trans i)
theorem WayV.below{f:Value}(h:WayV w tag oct f)(g:Below w.heap.size w w'):WayV w' tag oct f:=by
 have k:∀(p:Nat) (v:Value),w.cell? ⟨p,0,none⟩=some v->w'.cell? ⟨p,0,none⟩=some v:=fun p v e=>(g.cell (p:=⟨p,0,none⟩) (Qq e)).trans e
 rcases h with⟨b,p,c,a⟩ | ⟨p,q,b,c,⟨a,d⟩ | ⟨a,d⟩⟩
 ·exact Qd ⟨b,p,c,k _ _ a⟩
 ·exact Qc ⟨p,q,b,k _ _ c,Qd ⟨a,k _ _ d⟩⟩
 ·exact Qc ⟨p,q,b,k _ _ c,Qc ⟨a,k _ _ d⟩⟩
theorem WayV.fn{c:Value}(h:WayV w tag oct c):∃ F b,c=.func (.func F) #[] b:=by
 rcases h with⟨a,p,d,e⟩ | ⟨p,q,a,_⟩
 ·exact⟨_,_,d⟩
 ·exact⟨_,_,a⟩
theorem Lo(tag:Int)(oct:Bool)(B sb:Nat)(M:Msg)(s:SS)(xs keys:Qa)(c m b:Value)(w:World)(k:WayV w tag oct c)
 (h:SAt w B sb M s) (A:SlT w m xs) (g:SlT w b keys) (l:∀ z∈xs,z.length<=100000) (v:∀ z∈keys,z.length<=100000) (y:xs.length<=1000000) (x:keys.length<=1000000) :
 Calls prog 160 #[.pointer (some ⟨sb,0,none⟩),c,m,b] w (Ve (askL s tag oct (xs.map (expL s)) keys) B sb M w):=by
 have r:=I h;have u:=I k;have q:=I g;clear k g;go_enter func160,ntmps160;go_wp2_with fail;refine(VV B sb M s xs _ w h A (fun z C=>Qs (l z C) (by decide)) y).mono ?_;rintro e E ⟨D,rfl,i,d⟩;have t:=I (SlT.of_owns i (by simp));have a:=I d;clear i d h;go_wp2_with fail;refine(NU tag oct B sb M s (xs.map (expL s)) keys c D b E (u.o.below a.o) (r.o.below a.o) t.o (q.o.below a.o) (V1 s xs _ l (by decide)) v (by simp;omega) x).mono ?_;rintro e F ⟨rfl,j,f⟩;have n:=I j;have p:=I f;clear j f;go_wp2;go_ret;exact⟨rfl,n.o,(Fr.of_below a.o).trans p.o⟩
theorem BR(f:α->List β)(l:List α)(k:Nat)(h:k<l.length):(l.take (k+1)).flatMap f=(l.take k).flatMap f++f l[k]:=by
 rw[List.take_succ_eq_append_getElem h,List.flatMap_append];simp
theorem BZ(f:α->List β)(l:List α)(n:Nat)(h:∀ a∈l,(f a).length<=n):(l.flatMap f).length<=l.length*n:=by
 induction l with
 |nil=>simp
 |cons a r ih=>
  rw[List.flatMap_cons,Ze,ZN,Nat.succ_mul];have d:=h a (by simp);have e:=ih (fun b c=>h b (by simp[c]));omega
theorem Rn(M:Msg)(b:Qa):(envL M b).length<=b.length:=by
 have:=BZ (fun p=>if zL p=[102,114,111,109]then [M.fr]else if zL p=[116,111]then [M.to]else []) b 1 (fun a _=>by split<;>(try split)<;>simp);unfold envL;omega
theorem Ry(b:SBd M s)(d:Qa):∀ z∈envL M d,z.length<=100000:=by
 intro z c;unfold envL at c;obtain⟨p,_,a⟩:=List.mem_flatMap.1 c
 split at a
 ·simp at a;rw[a];exact b.fr
 ·split at a
  ·simp at a;rw[a];exact b.tu
  ·cases a
theorem IS(tag:Int)(oct:Bool)(B sb:Nat)(M:Msg)(s:SS)(a keys:Qa)(K xv J:Value)(w:World)(W:WayV w tag oct K)
 (h:SAt w B sb M s) (H:SlT w xv a) (T:SlT w J keys) (aq:∀ z∈a,z.length<=100000) (ai:∀ z∈keys,z.length<=100000) (av:a.length<=1000000) (aj:keys.length<=1000000) :
 Calls prog 159 #[.pointer (some ⟨sb,0,none⟩),K,xv,J] w (Ve (askL s tag oct (envL M a) keys) B sb M w):=by
 obtain⟨va,vc,ao⟩:=H.len;subst ao;have ad:=I H;have HS:=I h;have HW:=I W;have ac:=I T;obtain⟨hv,mb,tv,mv,m⟩:=h;have V:=m.lt;have c0:w.cell? ⟨sb,0,none⟩=some (.string (sA M.fr)):=m.cell 0;have c1:w.cell? ⟨sb,1,none⟩=some (.string (sA M.to)):=m.cell 1;have aa:=I m.bd;obtain⟨i0,S,X,Y,Z⟩:=info_parts Tryz.infoStr;clear W T H m;go_enter func159,ntmps159;go_wp2_with fail
 go_loopw [9,11,14] (fun v _ i wr=>∃(k:Nat),k<=a.length/\i=.int .i64 (k:Int)/\wr.ownsRow w.heap.size 9 1 v (envL M (a.take k)).length (Qv (envL M (a.take k)))/\Below w.heap.size w wr) (fun _ _ i _=>a.length - (intOf i).toNat)
 case atStart=>exact⟨0,QE,rfl,Zj,Below.refl _ _⟩
 case round=>
  obtain⟨k,u,rfl,F,E⟩:=hrel;have G:w.heap.size<=wr.heap.size:=E.size;have ae:=Rn M (a.take k);have ar:(envL M (a.take k)).length<=1000000:=by have:(a.take k).length<=k:=List.length_take_le _ _;omega
  obtain⟨aw,ax,ap⟩:=QQ F;subst ap;have c:=I E;have t:=I F;clear E F ae;have d0:wr.cell? ⟨sb,0,none⟩=some (.string (sA M.fr)):=(c.o.cell (p:=⟨sb,0,none⟩) V).trans c0;have d1:wr.cell? ⟨sb,1,none⟩=some (.string (sA M.to)):=(c.o.cell (p:=⟨sb,1,none⟩) V).trans c1;by_cases hlt:k<a.length;rotate_left
  ·have ah:k=a.length:=by omega
   subst ah;have ag:¬(a.length:Int)<(a.length:Int):=by omega
   have L:Hid (envL M (a.take a.length)=envL M a):=by show _=_;rw[List.take_of_length_le Ql]
   go_wp2_with fail;refine(NU tag oct B sb M s (envL M a) keys K _ J wr (HW.o.below c.o) (HS.o.below c.o) (SlT.of_owns (by have:=t.o;rw[L.o]at this;exact this) rfl) (ac.o.below c.o) (Ry aa.o a) ai (by rw[<-L.o];omega) aj).mono ?_;rintro e w2 ⟨rfl,U,R⟩;have H2:=I U;have ab:=I R;clear U R;go_wp2;go_ret;exact⟨rfl,H2.o,(Fr.of_below c.o).trans ab.o⟩
  have ag:(k:Int)<(a.length:Int):=by omega
  obtain⟨g,ak,af,Q⟩:=ad.o.get' k hlt;subst ak;have e1:wr.cell? ⟨g,k,none⟩=some (.string (sA a[k])):=by rw[c.o.cell (p:=⟨g,k,none⟩) af];exact Q
  have au:=aq _ (List.getElem_mem hlt);have A:Hid (envL M (a.take (k+1))=envL M (a.take k)++(if zL a[k]=[102,114,111,109]then [M.fr]else if zL a[k]=[116,111]then [M.to]else [])):=BR _ a k hlt;have N:=Y6 (zL a[k]) [102,114,111,109];have D:=Y6 (zL a[k]) [116,111];have y:=I (VK a[k] wr (by omega));generalize a[k]=p at *;generalize zL p=q at *;have sw:sb<wr.heap.size:=by omega
  clear Q;by_cases hf:q=[102,114,111,109]
  ·rw[Qw hf]at N;have l:Hid (envL M (a.take (k+1))=envL M (a.take k)++[M.fr]):=by show _=_;rw[A.o,if_pos hf]
   clear hf D;go_wp2_with (first|(go_at_call 181;refine y.o.mono ?_;rintro e j ⟨rfl,b⟩;have d:=I (c.o.trans (b.mono G));have f:=I (Xe (P:=fun _ _=>False) t.o (Fr.of_below b) (fun _ _ h=>h));have f0:j.cell? ⟨sb,0,none⟩=some (.string (sA M.fr)):=(b.cell (p:=⟨sb,0,none⟩) sw).trans d0;clear b)|(at_builtin;refine wpList_append_own _ rfl _ _ 61 rfl w.heap.size 9 i0 _ 1 16 underlying61 S X Y Z rfl (by decide) _ _ _ rfl (f.o.alloc _) ⟨j.heap.size,0,none⟩ 1 1 [.string (sA M.fr)] rfl rfl (cell_one_new _ _ _) (Ga _) (by unfold maxLen;omega) (by omega) (by have:=d.o.size;simp;omega) ?_;intro v5 w5 r n _;have x:=I (Jm d.o d.o.size n (fun k u=>(f.o.lt k u).1));have C:=I r;clear r n));go_roundw
   case rel=>
    refine⟨k+1,by omega,by go_num,?_,x.o⟩;rw[l.o,<-X0,Ze];exact C.o
   case measure=>simp[intOf];omega
  rw[Qh hf]at N;by_cases ht:q=[116,111]
  ·rw[Qw ht]at D;have l:Hid (envL M (a.take (k+1))=envL M (a.take k)++[M.to]):=by show _=_;rw[A.o,if_neg hf,if_pos ht]
   clear hf ht;go_wp2_with (first|(go_at_call 181;refine y.o.mono ?_;rintro e j ⟨rfl,b⟩;have d:=I (c.o.trans (b.mono G));have f:=I (Xe (P:=fun _ _=>False) t.o (Fr.of_below b) (fun _ _ h=>h));have f1:j.cell? ⟨sb,1,none⟩=some (.string (sA M.to)):=(b.cell (p:=⟨sb,1,none⟩) sw).trans d1;clear b)|(at_builtin;refine wpList_append_own _ rfl _ _ 61 rfl w.heap.size 9 i0 _ 1 16 underlying61 S X Y Z rfl (by decide) _ _ _ rfl (f.o.alloc _) ⟨j.heap.size,0,none⟩ 1 1 [.string (sA M.to)] rfl rfl (cell_one_new _ _ _) (Ga _) (by unfold maxLen;omega) (by omega) (by have:=d.o.size;simp;omega) ?_;intro v5 w5 r n _;have x:=I (Jm d.o d.o.size n (fun k u=>(f.o.lt k u).1));have C:=I r;clear r n));go_roundw
   case rel=>
    refine⟨k+1,by omega,by go_num,?_,x.o⟩;rw[l.o,<-X0,Ze];exact C.o
   case measure=>simp[intOf];omega
  ·rw[Qh ht]at D;have l:Hid (envL M (a.take (k+1))=envL M (a.take k)):=by show _=_;rw[A.o,if_neg hf,if_neg ht,List.append_nil]
   clear hf ht;go_wp2_with (first|(go_at_call 181;refine y.o.mono ?_;rintro e j ⟨rfl,b⟩;have d:=I (c.o.trans (b.mono G));have f:=I (Xe (P:=fun _ _=>False) t.o (Fr.of_below b) (fun _ _ h=>h));clear b));go_roundw
   case rel=>
    refine⟨k+1,by omega,by go_num,?_,d.o⟩;rw[l.o];exact f.o
   case measure=>simp[intOf];omega
theorem L0(p:L8×L8->Bool)(a:List (L8×L8))(b:Nat)(h:b<a.length):((a.take (b+1)).filter p).map (·.2)=((a.take b).filter p).map (·.2)++(if p a[b]then [a[b].2]else []):=by
 rw[List.take_succ_eq_append_getElem h,List.filter_append,List.map_append];by_cases hp:p a[b]=true<;>simp[hp]
theorem Iy(M:Msg)(b:Qa):(fieldsL M b).length<=b.length*M.hdrs.length:=by
 unfold fieldsL;exact BZ _ b _ (fun a _=>by rw[List.length_map];exact List.length_filter_le _ _)
theorem I3(b:SBd M s)(e:Qa):∀ z∈fieldsL M e,z.length<=100000:=by
 intro z a;unfold fieldsL at a;obtain⟨n,_,d⟩:=List.mem_flatMap.1 a;obtain⟨h,c,rfl⟩:=List.mem_map.1 d;exact(b.hd h (List.mem_filter.1 c).1).2
theorem Ak(w:World)(a b:Value)(t:TypeId):(w.alloc (.cells #[a,b] t)).cell? ⟨w.heap.size,0,none⟩=some a/\(w.alloc (.cells #[a,b] t)).cell? ⟨w.heap.size,1,none⟩=some b:=by
 constructor<;>rw[Qi (QC w _)]<;>rfl
theorem Mm(tag:Int)(oct:Bool)(B sb:Nat)(M:Msg)(s:SS)(xs keys:Qa)(wv xv kv:Value)(w:World)(hw:WayV w tag oct wv)
 (h:SAt w B sb M s) (aD:SlT w xv xs) (ax:SlT w kv keys) (ag:∀ z∈xs,z.length<=100000) (aV:∀ z∈keys,z.length<=100000) (aC:xs.length<=1000000) (aW:keys.length<=1000000) :
 Calls prog 158 #[.pointer (some ⟨sb,0,none⟩),wv,xv,kv] w (Ve (askL s tag oct (fieldsL M (xs.map (expL s))) keys) B sb M w):=by
 have HS:=I h;have HW:=I hw;have aJ:=I ax;obtain⟨hv,mb,tv,mv,m⟩:=h;have aA:=m.lt;obtain⟨Z,hc,aS⟩:=m.hd.len;subst aS;have aI:=I m.hd;have c3:w.cell? ⟨sb,3,none⟩=some (.slice Z M.hdrs.length hc):=m.cell 3;have aj:=I m.bd;have aR:=m.bd.hl;obtain⟨i0,hi,a4,a5,a6⟩:=info_parts Tryz.infoStr;clear hw ax m;go_enter func158,ntmps158;go_wp2_with fail;refine(VV B sb M s xs _ w HS.o aD (fun z hz=>Qs (ag z hz) (by decide)) aC).mono ?_;rintro e f ⟨v1,rfl,ad,E⟩;have S:=I (SlT.of_owns ad (by simp));have ah:=I E;obtain⟨ta,tc,a1⟩:=QQ ad;subst a1;have aE:∀ y∈xs.map (expL s),y.length<=100000:=V1 s xs _ ag (by decide);have J:xs.length=(xs.map (expL s)).length:=by simp
 obtain⟨c,ac⟩:=Qe (xs.map (expL s));have aK:=I ac;have ak:=I aE;rw[ac]at S ak J;rw[J]at aC S;rw[J];have aM:f.cell? ⟨sb,3,none⟩=some (.slice Z M.hdrs.length hc):=(E.cell (p:=⟨sb,3,none⟩) aA).trans c3;have a0:sb<f.heap.size:=Zs aA E.size;clear ad aE J E aD ag ac c3;go_wp2_with fail
 go_loopw [9,11,13,18] (fun v _ _ i wr=>∃(a:Nat),a<=c.length/\i=.int .i64 (a:Int)/\wr.ownsRow f.heap.size 9 1 v (fieldsL M (c.take a)).length (Qv (fieldsL M (c.take a)))/\Below w.heap.size w wr/\Below f.heap.size f wr) (fun _ _ _ i _=>c.length - (intOf i).toNat)
 case atStart=>exact⟨0,QE,rfl,Zj,ah.o,Below.refl _ _⟩
 case round=>
  obtain⟨a,a7,rfl,ae,U,W⟩:=hrel;have a8:w.heap.size<=wr.heap.size:=U.size;have av:=Iy M (c.take a)
  have aN:(fieldsL M (c.take a)).length<=a*100000:=by
   have h1:(c.take a).length<=a:=List.length_take_le _ _;exact Qs av (Nat.mul_le_mul h1 aR)
  obtain⟨a9,bb,a2⟩:=QQ ae;subst a2;have q:=I U;have ai:=I W;have N:=I ae;have d3:wr.cell? ⟨sb,3,none⟩=some (.slice Z M.hdrs.length hc):=(W.cell (p:=⟨sb,3,none⟩) a0).trans aM;clear U W ae av;by_cases hlt:a<c.length;rotate_left
  ·have ab:a=c.length:=by omega
   subst ab;have aU:¬(c.length:Int)<(c.length:Int):=by omega
   have HE:Hid (fieldsL M (c.take c.length)=fieldsL M c):=by show _=_;rw[List.take_of_length_le Ql]
   have aO:(fieldsL M (c.take c.length)).length<=1000000000000:=by omega
   go_wp2_with fail;refine(NU tag oct B sb M s (fieldsL M c) keys wv _ kv wr (HW.o.below q.o) (HS.o.below q.o) (SlT.of_owns (by have:=N.o;rw[HE.o]at this;exact this) rfl) (aJ.o.below q.o) (I3 aj.o c) aV (by rw[<-HE.o];exact aO) aW).mono ?_;rintro e w2 ⟨rfl,az,au⟩;have H2:=I az;have aH:=I au;clear az au;go_wp2;go_ret;rw[aK.o];exact⟨rfl,H2.o,(Fr.of_below q.o).trans aH.o⟩
  have aU:(a:Int)<(c.length:Int):=by omega
  obtain⟨g,aX,aP,ap⟩:=S.o.get' a hlt;subst aX;have e1:wr.cell? ⟨g,a,none⟩=some (.string (sA c[a])):=by rw[ai.o.cell (p:=⟨g,a,none⟩) aP];exact ap
  have aZ:=ak.o _ (List.getElem_mem hlt);have K:Hid (fieldsL M (c.take (a+1))=fieldsL M (c.take a)++(M.hdrs.filter (Z1 · c[a])).map (·.2)):=BR _ c a hlt;obtain⟨n,hn⟩:=Qe (c[a]);rw[hn]at e1 aZ K;obtain⟨T,Y⟩:=Qe (fieldsL M (c.take a));rw[Y]at K N aN;clear ap hn;rw[Y];clear Y;go_wp2_with fail
  go_loopw [9,13,28] (fun v _ i wr=>∃(b:Nat),b<=M.hdrs.length/\i=.int .i64 (b:Int)/\wr.ownsRow f.heap.size 9 1 v (T++((M.hdrs.take b).filter (Z1 · n)).map (·.2)).length (Qv (T++((M.hdrs.take b).filter (Z1 · n)).map (·.2)))/\Below w.heap.size w wr/\Below f.heap.size f wr) (fun _ _ i _=>M.hdrs.length - (intOf i).toNat)
  case atStart=>exact⟨0,QE,rfl,by simpa using N.o,q.o,ai.o⟩
  case round=>
   obtain⟨b,hb,rfl,H,V,ao⟩:=hrel;have aB:w.heap.size<=wr.heap.size:=V.size
   have af:(T++((M.hdrs.take b).filter (Z1 · n)).map (·.2)).length<=a*100000+100000:=by
    rw[Ze,List.length_map];have h1:=List.length_filter_le (Z1 · n) (M.hdrs.take b);have h2:(M.hdrs.take b).length<=b:=List.length_take_le _ _;omega
   obtain⟨Q,X⟩:=Qe (T++((M.hdrs.take b).filter (Z1 · n)).map (·.2));have R:=I X;rw[X]at H af;clear X;obtain⟨ba,bc,a3⟩:=QQ H;subst a3;have r:=I V;have j:=I ao;have L:=I H;clear V ao H;by_cases hbl:b<M.hdrs.length;rotate_left
   ·have ab:b=M.hdrs.length:=by omega
    subst ab;have aT:¬(M.hdrs.length:Int)<(M.hdrs.length:Int):=by omega
    go_wp2;refine⟨⟨a+1,by omega,by go_num,?_,r.o,j.o⟩,by simp[intOf];omega⟩;have:=R.o;rw[List.take_of_length_le Ql]at this;rw[K.o,this];exact L.o
   have aT:(b:Int)<(M.hdrs.length:Int):=by omega
   obtain⟨D,aY,aw,aq,ar⟩:=aI.o.get' b hbl;subst aY;have f1:wr.cell? ⟨D,b*2,none⟩=some (.string (sA M.hdrs[b].1)):=by rw[r.o.cell (p:=⟨D,b*2,none⟩) aw];exact aq
   have f2:wr.cell? ⟨D,b*2+1,none⟩=some (.string (sA M.hdrs[b].2)):=by rw[r.o.cell (p:=⟨D,b*2+1,none⟩) aw];exact ar
   have aQ:=(aj.o.hd _ (List.getElem_mem hbl)).1;have u:=I (L0 (Z1 · n) M.hdrs b hbl);generalize M.hdrs[b]=hd at *;obtain⟨F,G⟩:=hd;dsimp only at f1 f2 aQ u;have C:=I (Dw (F,G) n);clear aq ar;cases hnm:Z1 (F,G) n
   ·rw[hnm]at u C;go_wp2_with (first|(go_at_call 206;refine(C.o _ (by show F.length<=_;omega) (by omega)).mono ?_;rintro e w3 ⟨rfl,d⟩;have A:=I ((r.o.alloc aB _).trans (d.mono (by simp;omega)));have t:=I ((j.o.alloc j.o.size _).trans (d.mono (by have:=j.o.size;simp;omega)));have x:=I (Xe (P:=fun _ _=>False) (L.o.alloc _) (Fr.of_below d) (fun _ _ h=>h));clear d));refine⟨⟨b+1,by omega,by go_num,?_,A.o,t.o⟩,by simp[intOf];omega⟩;rw[u.o,if_neg (by decide),List.append_nil,R.o];exact x.o
   ·rw[hnm]at u C;have HQ:Hid (∀ l:Qa,l.length<=a*100000+100000->l.length+1<=maxLen/\(l.length+1)*16<=140737488355328):=fun l hl=>by unfold maxLen;omega
    go_wp2_with (first|(go_at_call 206;refine(C.o _ (by show F.length<=_;omega) (by omega)).mono ?_;rintro e w3 ⟨rfl,d⟩;have A:=I ((r.o.alloc aB _).trans (d.mono (by simp;omega)));have t:=I ((j.o.alloc j.o.size _).trans (d.mono (by have:=j.o.size;simp;omega)));have x:=I (Xe (P:=fun _ _=>False) (L.o.alloc _) (Fr.of_below d) (fun _ _ h=>h));have q1:w3.cell? ⟨wr.heap.size,1,none⟩=some (.string (sA G)):=(d.cell (p:=⟨wr.heap.size,1,none⟩) (by simp)).trans (Ak _ _ _ _).2;clear d)|(at_builtin;refine wpList_append_own _ rfl _ _ 61 rfl f.heap.size 9 i0 _ 1 16 underlying61 hi a4 a5 a6 rfl (by decide) _ _ _ rfl (x.o.alloc _) ⟨w3.heap.size,0,none⟩ 1 1 [.string (sA G)] rfl rfl (cell_one_new _ _ _) (Ga _) (HQ.o _ af).1 (HQ.o _ af).2 (by have:=t.o.size;simp;omega) ?_;intro v5 w5 ay aa _;have aF:=I (Jm A.o A.o.size aa (fun k hk=>Qs ah.o.size (x.o.lt k hk).1));have aG:=I (Jm t.o t.o.size aa (fun k hk=>(x.o.lt k hk).1));have aL:=I ay;clear ay aa));refine⟨⟨b+1,by omega,by go_num,?_,aF.o,aG.o⟩,by simp[intOf];omega⟩;rw[u.o,if_pos trivial,<-List.append_assoc,R.o,<-X0,Ze];exact aL.o
theorem Ty(s:ByteArray)(h:0<s.size):s.data.toList.getLast?=some (s[s.size - 1]'(by omega)):=by
 rw[List.getLast?_eq_getElem?];have:s.data.toList.length=s.size:=by simp
 rw[this,List.getElem?_eq_getElem (by omega)];rfl
theorem BC(s:ByteArray)(w:World)(x:s.size<=1000000) :
 Calls prog 269 #[.string s] w fun e w'=>e=.returned (.bool (isAddrL s.data.toList))/\w'=w:=by
 have f:s.data.toList.length=s.size:=by simp
 by_cases h3:s.size<3
 ·have a:isAddrL s.data.toList=false:=by unfold isAddrL;rw[Qh (by omega)];rfl
  have HR:=I a;have j:(s.size:Int)<3:=by omega
  clear a f;go_enter func269,ntmps269;go_wp2;go_ret;exact⟨QS HR.o.symm,rfl⟩
 have j:¬(s.size:Int)<3:=by omega
 by_cases h32:32<s.size
 ·have a:isAddrL s.data.toList=false:=by unfold isAddrL;rw[Qw (by omega),Qh (by omega)];rfl
  have HR:=I a;have l:(32:Int)<(s.size:Int):=by omega
  clear a f;go_enter func269,ntmps269;go_wp2;go_ret;exact⟨QS HR.o.symm,rfl⟩
 have l:¬(32:Int)<(s.size:Int):=by omega
 have d:Hid (∀ W,Calls prog 285 #[.string s,.string ⟨#[64]⟩] W fun e w'=>e=.returned (.int .i64 (Lib.countByte s.data.toList 64))/\w'=W):=fun W=>Tryz.strings_Count_one s 64 W
 obtain⟨n,b⟩:=Qe (s.data.toList.count 64);rw[show Lib.countByte s.data.toList 64=n from b]at d;by_cases h1:n=1;rotate_left
 ·have a:isAddrL s.data.toList=false:=by unfold isAddrL;rw[Qw (by omega),Qw (by omega),b,Qh h1];rfl
  have HR:=I a;have q:((n:Int) != 1)=true:=by simp;omega
  clear a f b;go_enter func269,ntmps269;go_wp2_with (go_at_call 285;refine(d.o _).mono ?_;rintro e w' ⟨rfl,rfl⟩);go_ret;exact⟨QS HR.o.symm,rfl⟩
 subst h1;have g:0<s.size:=by omega
 have a:isAddrL s.data.toList=((s.data.toList.drop 0).all (fun c=>!Zn c.toNat)&&(!(s[0]==64) && !(s[s.size - 1]==64))):=by
  unfold isAddrL;rw[Qw (by omega),Qw (by omega),b,Nj s g,Ty s g];rfl
 have HR:=I a;clear a b;go_enter func269,ntmps269;go_wp2_with (go_at_call 285;refine(d.o _).mono ?_;rintro e w' ⟨rfl,rfl⟩)
 go_loop [19] (fun i=>∃ k:Nat,k<=s.size/\i=.int .i64 k/\(s.data.toList.drop 0).all (fun c=>!Zn c.toNat)=(s.data.toList.drop k).all (fun c=>!Zn c.toNat)) (fun i=>s.size - (intOf i).toNat)
 case atStart=>exact⟨0,by omega,rfl,rfl⟩
 case round=>
  obtain⟨k,r,rfl,b⟩:=hrel;have HN:=I b;clear b;by_cases hlt:k<s.size;rotate_left
  ·have HS:=I (AZ s (fun c=>!Zn c.toNat) k (by omega));have m:((s[0].toNat:Int) != 64)=!(s[0]==64):=by rw[bne,show((s[0].toNat:Int)==64)=decide (s[0]=64)from Km s[0] 64];by_cases h:s[0]=64<;>simp[h]
   have p:((s[s.size - 1].toNat:Int) != 64)=!(s[s.size - 1]==64):=by rw[bne,show((s[s.size - 1].toNat:Int)==64)=decide (s[s.size - 1]=64)from Km _ 64];by_cases h:s[s.size - 1]=64<;>simp[h]
   have t:¬(k:Int)<(s.size:Int):=by omega
   generalize (s[0]==64)=b0 at *;generalize (s[s.size - 1]==64)=b1 at *;have u:(s.size:Int) - 1=((s.size - 1:Nat):Int):=by omega
   have v:((s.size - 1:Nat):Int)<(s.size:Int):=by omega
   cases b0<;>cases b1 <;>
   (go_wp2
    go_ret
    exact ⟨QS (by rw [HR.o,HN.o,HS.o];rfl),rfl⟩)
  have HS:=I (Be s (fun c=>!Zn c.toNat) k hlt);cases hc:Zn (s[k].toNat:Int)
  ·go_wp2_with (go_at_call 231;refine(Uw _ _).mono ?_;rintro e w' ⟨rfl,rfl⟩);go_round
   case rel=>exact⟨k+1,by omega,by go_num,by rw[HN.o,HS.o,hc];rfl⟩
   case measure=>simp[intOf];omega
  ·go_wp2_with (go_at_call 231;refine(Uw _ _).mono ?_;rintro e w' ⟨rfl,rfl⟩);go_ret;exact⟨QS (by rw[HR.o,HN.o,HS.o,hc];rfl),rfl⟩
theorem Tryz.infoAction:(prog.info? 52).map (fun i=>(i.zero,i.size,i.bytes))=some (some (.agg #[.int .i64 0,.string ⟨#[]⟩]),2,24):=by kernel_rfl
theorem E5(a b:Int×L8)(W:World):(binOp .eql 52 (.agg #[.int .i64 a.1,.string (sA a.2)]) (.agg #[.int .i64 b.1,.string (sA b.2)])).run prog W=.ok (.bool (decide (a=b))) W:=by
 have c:((sA a.2).toList==(sA b.2).toList)=decide (a.2=b.2):=Eo a.2 b.2;have d:prog.underlying 52=some (.struct (prog.fieldsOf 52)):=by kernel_rfl
 have f:prog.stoodInHeld 52=false:=by kernel_rfl
 have e:(prog.fieldsOf 52).toList=[⟨ "Kind",3,0,false, "", "",0⟩,⟨ "Arg",9,1,false, "", "",8⟩]:=by kernel_rfl
 rw[run_eql_struct,run_equalIn_struct W _ _ _ _ d f,e];simp[Op.eqFields,go_sem,Result.andThen,c];obtain⟨x,y⟩:=a;obtain⟨z,u⟩:=b;by_cases h1:x=z<;>by_cases h2:y=u<;>simp[h1,h2]
def Ki(a:Int×L8)(l:List (Int×L8)):Bool:=l.any fun x=>decide (a=x)
theorem Ef(a:Int×L8)(l:List (Int×L8)):Ki a l=true↔a∈l:=by
 unfold Ki;simp
theorem F5(a:Int×L8)(l:List (Int×L8))(k:Nat)(h:k<l.length):Ki a (l.drop k)=(decide (a=l[k]) || Ki a (l.drop (k+1))):=by
 rw[List.drop_eq_getElem_cons h];rfl
def geB(i:Int):Bool:=decide (0<=i)
theorem IF(base:Nat)(met:List (Int×L8))(s:Value)(a:Int×L8)(w:World)(m:w.ownsRow base 52 2 s met.length (QZ met))(F:met.length<=1000000) :
 Calls prog 286 #[s,.agg #[.int .i64 a.1,.string (sA a.2)]] w fun e w'=>∃ i:Int,e=.returned (.int .i64 i)/\geB i=Ki a met/\Below w.heap.size w w':=by
 obtain⟨la,H,x⟩:=QQ m;subst x;have t:=I m;have A:=I E5;clear m;go_enter func286,ntmps286;go_wp2
 go_loopw [5,8] (fun _ i wr=>∃(k:Nat),k<=met.length/\i=.int .i64 (k:Int)/\Below w.heap.size w wr/\wr.cell? ⟨w.heap.size,0,none⟩=some (.int .i64 a.1)/\wr.cell? ⟨w.heap.size,1,none⟩=some (.string (sA a.2))/\Ki a met=Ki a (met.drop k)) (fun _ i _=>met.length - (intOf i).toNat)
 case atStart=>exact⟨0,QE,rfl,Qp _,(Ak _ _ _ _).1,(Ak _ _ _ _).2,rfl⟩
 case round=>
  obtain⟨k,E,rfl,j,y,z,n⟩:=hrel;have d:=I j;have f:=I n;have G:=j.size;clear j n;by_cases hlt:k<met.length;rotate_left
  ·have u:¬(k:Int)<(met.length:Int):=by omega
   have b:=I (UC met k hlt);go_wp2;go_ret;exact⟨-1,rfl,by rw[f.o,b.o];rfl,d.o⟩
  have u:(k:Int)<(met.length:Int):=by omega
  obtain⟨g,c,v,D,r,hcells⟩:=Xo t.o (by omega);injection v with hla1 hla2 hla3
  subst hla1;have l:=K0 met k hlt;have B:wr.cell? ⟨g,k*2,none⟩=some (.int .i64 met[k].1):=by rw[d.o.cell (p:=⟨g,k*2,none⟩) r];exact hcells _ _ l.1
  have C:wr.cell? ⟨g,k*2+1,none⟩=some (.string (sA met[k].2)):=by rw[d.o.cell (p:=⟨g,k*2+1,none⟩) r];exact hcells _ _ l.2
  have b:=I (F5 a met k hlt);have q:∀ W,(binOp .eql 52 (.agg #[.int .i64 a.1,.string (sA a.2)]) (.agg #[.int .i64 met[k].1,.string (sA met[k].2)])).run prog W=.ok (.bool (decide (a=met[k]))) W:=E5 a met[k];clear hcells l hla3;cases hb:decide (a=met[k])
  ·rw[hb]at b;simp only[hb]at q;go_wp2_with fail;go_quiet (fail)
   all_goals go_wp2
   go_roundw
   case rel=>exact⟨k+1,by omega,by go_num,KV d.o,y,z,by rw[f.o,b.o];rfl⟩
   case measure=>simp[intOf];omega
  ·rw[hb]at b;simp only[hb]at q;go_wp2_with fail;go_quiet (fail)
   all_goals go_wp2
   go_ret;exact⟨k,rfl,by rw[f.o,b.o];exact(Qw (by omega):geB (k:Int)=true),KV d.o⟩
theorem Bq(base:Nat)(met:List (Int×L8))(f:Value)(a:Int×L8)(w:World)(d:w.ownsRow base 52 2 f met.length (QZ met))(k:met.length<=1000000) :
 Calls prog 270 #[f,.agg #[.int .i64 a.1,.string (sA a.2)]] w fun e w'=>e=.returned (.bool (Ki a met))/\Below w.heap.size w w':=by
 obtain⟨la,m,l⟩:=QQ d;subst l;go_enter func270,ntmps270;go_wp2_with fail;refine(IF base met _ a _ (d.alloc _) k).mono ?_;rintro e n ⟨i,rfl,c,b⟩;have j:=I c;have g:=I (((Below.refl w.heap.size w).alloc Ql _).trans (b.mono (by simp)));clear c b;go_wp2
 all_goals go_ret
 all_goals exact⟨QS (by rw[<-j.o];rfl),g.o⟩
theorem Mp(s:ByteArray)(w:World)(h:s.size<=1000000):Calls prog 272 #[.string s] w fun e w'=>e=.returned (.string s)/\Below w.heap.size w w':=by
 go_enter func272,ntmps272;go_wp2_with fail;refine(Tryz.stringslite_Clone s w (by omega)).mono ?_;rintro e c ⟨rfl,a⟩;have b:=I a;clear a;go_wp2;go_ret;exact⟨rfl,b.o⟩
def Vw(met:List (Int×L8))(kind:Int):Bool:=!met.isEmpty&&(decide (kind=4) || decide ((met.headD (0,[])).1=4))
theorem Ya(a b:Int):(a==b)=decide (a=b):=rfl
theorem He(base sb:Nat)(met:List (Int×L8))(i:Value)(a:Int×L8)(w:World)(d:w.cell? ⟨sb,7,none⟩=some i)(b:w.ownsRow base 52 2 i met.length (QZ met))(j:met.length<=1000000) :
 Calls prog 271 #[.pointer (some ⟨sb,7,none⟩),.agg #[.int .i64 a.1,.string (sA a.2)]] w fun e w'=>e=.returned (.bool (Vw met a.1))/\Below w.heap.size w w':=by
 obtain⟨la,A,l⟩:=QQ b;subst l;have q:=Qq d;have z:sb<w.heap.size:=q;by_cases h0:met.length=0
 ·have m:met=[]:=Xz h0;subst m;go_enter func271,ntmps271;go_wp2;go_ret;exact⟨rfl,Qp _⟩
 obtain⟨x,r,rfl⟩:∃ x r,met=x::r:=by cases met with|nil=>exact absurd rfl h0|cons x r=>exact⟨x,r,rfl⟩
 have p:(0:Int)<((x::r).length:Int):=by simp
 obtain⟨g,c,k,v,y,hcells⟩:=Xo b (by simp);injection k with hla1 hla2 hla3
 subst hla1;have s:w.cell? ⟨g,0,none⟩=some (.int .i64 x.1):=hcells 0 _ rfl;have HR:Hid (Vw (x::r) a.1=(decide (a.1=4) || decide (x.1=4))):=rfl;have t:=Ya a.1 4;have u:=Ya x.1 4;obtain⟨n,f⟩:=Qe ((x::r).length);rw[f]at d p j;generalize decide (a.1=4)=b1 at *;generalize decide (x.1=4)=b2 at *;clear hcells b hla3 f h0
 cases b1<;>cases b2 <;>
 (go_enter func271,ntmps271
  go_wp2;go_ret
  exact ⟨QS (by rw [HR.o];rfl),Qp _⟩)
theorem SBd.met'(b:SBd M s)(l:List (Int×L8))(h:l.length<=6):SBd M (XE s l):=⟨b.fr,b.tu,b.hl,b.hd,b.told,b.tl,b.vals,h⟩
theorem SI.regrow{w5:World}{x:Nat}{z y:Value}(h:SI w B sb M s v x z y)(hf:Fr (fun k _=>y.ownBlock=some k) w w5)(v':Value)(met':List (Int×L8))(d:w5.ownsRow B 52 2 v' met'.length (QZ met'))(J:met'.length<=6)(L:met'≠[]):SI (w5.setCell ⟨sb,7,none⟩ v') B sb M (XE s met') v x z v'/\Fr (PSt B) w (w5.setCell ⟨sb,7,none⟩ v'):=by
 have l:∀(k:Nat) (o:Obj),w.heap[k]?=some o->(∀ b,o≠.cells b 52)->w5.heap[k]?=some o:=fun k o hk d=>by
  refine hf.block k o hk (fun e=>?_);obtain⟨_,b,t⟩:=Y7 h.met k o e hk;exact d b t
 have i:=l sb _ h.blk (fun b e=>by injection e with e1 e2;exact absurd e2 (by decide));have F:Fr (fun k _=>k=sb) w5 (w5.setCell ⟨sb,7,none⟩ v'):=(Fr.refl _ w5).set i rfl 7 v';have j:∀(k:Nat) (o:Obj),w5.heap[k]?=some o->(∀ b,o≠.cells b 274)->(w5.setCell ⟨sb,7,none⟩ v').heap[k]?=some o:=fun k o hk d=>F.block k o hk (fun e=>by subst e;rw[i]at hk;cases hk;exact d _ rfl)
 obtain⟨D,c,K,N⟩:=h.mp;obtain⟨m,u⟩:=h.m1;have hl1:∃ o,w.heap[1]?=some o:=⟨_,Array.getElem?_eq_getElem (Qq u)⟩;obtain⟨o1,hl1⟩:=hl1;refine⟨⟨h.bs,h.bm,h.b1,⟨m,?_⟩,?_,?_,⟨D,c,j _ _ (l _ _ K (fun b e=>by cases e)) (fun b e=>by cases e),N⟩,?_,?_,fun e=>absurd e L,h.bd.met' met' J⟩,?_⟩
 ·have P:(1:Nat)≠sb:=by have:=h.b1;have:=h.bs;omega
  have n2:w5.heap[1]?=some o1:=hf.block 1 o1 hl1 (fun e=>by
   obtain⟨hb,_⟩:=Y7 h.met 1 o1 e hl1
   have:=h.b1;omega)
  rw[ZA (a:=⟨1,0,none⟩) (w:=w) ((QK P).trans (n2.trans hl1.symm))];exact u
 ·exact Qt _ _ _ _ _ _ i
 ·rcases h.hd with n | ⟨g,c,b,f,hb,q⟩
  ·exact Qd n
  ·exact Qc ⟨g,c,b,f,j _ _ (l _ _ hb (fun b e=>by injection e with e1 e2;exact absurd e2 (by decide))) (fun b e=>by injection e with e1 e2;exact absurd e2 (by decide)),q⟩
 ·rcases h.told with n | ⟨g,c,f,b,hb,q⟩
  ·exact Qd n
  ·exact Qc ⟨g,c,f,b,j _ _ (l _ _ hb (fun b e=>by injection e with e1 e2;exact absurd e2 (by decide))) (fun b e=>by injection e with e1 e2;exact absurd e2 (by decide)),q⟩
 ·obtain⟨E,p⟩:=d;refine⟨E,?_⟩;rcases p with p | ⟨g,A,C,f,G,H,r⟩
  ·exact Qd p
  ·exact Qc ⟨g,A,C,f,G,j _ _ H (fun b e=>by injection e with e1 e2;exact absurd e2 (by decide)),r⟩
 ·refine(Fr.mono ⟨hf.os,hf.tape,hf.output,hf.size,fun k o hk hn=>?_⟩ (fun k o h=>h)).set i ⟨h.bs,rfl⟩ 7 v'
  exact hf.block k o hk (fun e=>hn (by
   obtain⟨hb,b,t⟩:=Y7 h.met k o e hk;subst t
   exact ⟨hb,rfl⟩))
theorem Ur(h:w.ownsRow base e size v n xs){b:Nat}(m:v.ownBlock≠some b)(j:Nat)(x:Value):(w.setCell ⟨b,j,none⟩ x).ownsRow base e size v n xs:=by
 obtain⟨i,a⟩:=h;refine⟨i,?_⟩;rcases a with a | ⟨g,d,f,c,k,l,r⟩
 ·exact Qd a
 ·refine Qc ⟨g,d,f,c,k,?_,r⟩;rw[QK (show g≠b from fun e=>m (by rw[c,e];rfl))];exact l
def K7(s:SS)(kind:Int)(arg:L8)(B sb:Nat)(M:Msg)(w:World)(e:Ending)(w':World):Prop:=
 e=.returned (.int .i64 (addL s.met kind arg).1)/\SAt w' B sb M (XE s (addL s.met kind arg).2)/\Fr (PSt B) w w'
theorem O5{met:List (Int×L8)}{kind:Int}{arg:L8}(b:¬(kind=2/\isBoxL arg=false))(c:¬(kind=3/\isAddrL arg=false)):addL met kind arg =
 (if Ki (kind,cutArg kind arg) met=true then(0,met)else if Vw met kind=true then(10,met)else if met.length=6 then(11,met)else(0,met++[(kind,cutArg kind arg)])):=by
 unfold addL;rw[if_neg b,if_neg c];by_cases hm:(kind,cutArg kind arg)∈met
 ·rw[if_pos hm,if_pos ((Ef _ _).2 hm)]
 rw[if_neg hm,if_neg (fun h=>hm ((Ef _ _).1 h))]
 have a:Vw met kind=true↔(met≠[]/\(kind=4\/(met.headD (0,[])).1=4)):=by
  unfold Vw;cases met<;>simp
 by_cases hcc:met≠[]/\(kind=4\/(met.headD (0,[])).1=4)
 ·rw[if_pos hcc,if_pos (a.2 hcc)]
 ·rw[if_neg hcc,if_neg (fun h=>hcc (a.1 h))]
theorem Tw(w:World)(x:Int×L8)(t:TypeId):∀ j u,[Value.int .i64 x.1,.string (sA x.2)][j]?=some u->(w.alloc (.cells #[.int .i64 x.1,.string (sA x.2)] t)).cell? ((⟨w.heap.size,0,none⟩:Addr).add j)=some u:=by
 intro j u a
 match j,a with
 |0,a=>simp at a;subst a;simp[Addr.add]
 |1,a=>simp at a;subst a;simp[Addr.add]
theorem Tf(x:Int×L8):∀ u∈[Value.int .i64 x.1,Value.string (sA x.2)],u.oneCell'=true:=by
 intro u a;simp at a;rcases a with rfl|rfl<;>rfl
theorem S0(B sb:Nat)(M:Msg)(s:SS)(kind:Int)(arg:L8)(w:World)(h:SAt w B sb M s)(hl:arg.length<=1000000) :
 Calls prog 252 #[.pointer (some ⟨sb,7,none⟩),.agg #[.int .i64 kind,.string (sA arg)]] w (K7 s kind arg B sb M w):=by
 have v:=I h;obtain⟨hv,mb,tv,mv,r⟩:=h;have Z:=I r;have aK:=r.lt;have c7:w.cell? ⟨sb,7,none⟩=some mv:=r.cell 7;obtain⟨la,d,aI⟩:=QQ r.met;subst aI;have aV:=r.bd.met;have hz:=QN arg;have H:=Ya kind 2;have J:=Ya kind 3;have K:=Ya kind 4;obtain⟨i0,hi,aL,aM,aN⟩:=info_parts Tryz.infoAction;clear r;by_cases h2:kind=2/\isBoxL arg=false
 ·obtain⟨rfl,c⟩:=h2;have E:addL s.met 2 arg=(8,s.met):=by unfold addL;rw[if_pos ⟨rfl,c⟩]
  have Y:=I E;clear E;go_enter func252,ntmps252;go_wp2_with (go_at_call 268;refine(DR _ _ (by rw[QN];omega)).mono ?_;rintro e f ⟨rfl,rfl⟩;rw[show isBoxL (sA arg).data.toList=false from c]);go_ret;unfold K7;rw[Y.o];exact⟨rfl,v.o.below (Qp _),(Fr.refl _ _).alloc _⟩
 by_cases h3:kind=3/\isAddrL arg=false
 ·obtain⟨rfl,c⟩:=h3;have E:addL s.met 3 arg=(9,s.met):=by unfold addL;rw[if_neg h2,if_pos ⟨rfl,c⟩]
  have Y:=I E;clear E;go_enter func252,ntmps252;go_wp2_with (go_at_call 269;refine(BC _ _ (by rw[QN];omega)).mono ?_;rintro e f ⟨rfl,rfl⟩;rw[show isAddrL (sA arg).data.toList=false from c]);go_ret;unfold K7;rw[Y.o];exact⟨rfl,v.o.below (Qp _),(Fr.refl _ _).alloc _⟩
 have ab:=O5 (met:=s.met) (kind:=kind) (arg:=arg) h2 h3;obtain⟨z,S⟩:=Qe (cutArg kind arg);rw[S]at ab;have G:=I S
 have aY:z.length<=1000000:=by
  rw[<-S];unfold cutArg;split
  ·rw[List.length_take];omega
  ·exact hl
 have g:=I ab;clear ab;have ao:kind=2->isBoxL arg=true:=fun e=>by cases c:isBoxL arg with|true=>rfl|false=>exact absurd ⟨e,c⟩ h2
 have ak:kind=3->isAddrL arg=true:=fun e=>by cases c:isAddrL arg with|true=>rfl|false=>exact absurd ⟨e,c⟩ h3
 have az:=I ao;have ay:=I ak;clear h2 h3 ao ak S;rcases(by omega:kind=2\/kind=3\/kind=4\/(kind≠2/\kind≠3/\kind≠4))with k2|k3|k4|k0
 case' neg.inl=>
  have c:isBoxL arg=true:=az.o k2;have F:z=arg:=by have:=G.o;unfold cutArg at this;rw[if_neg (by omega)]at this;exact this.symm
  subst F;rw[Qw k2]at H;rw[Qh (by omega)]at J K;clear k2;go_enter func252,ntmps252;go_wp2_with (go_at_call 268;refine(DR _ _ (by rw[QN];omega)).mono ?_;rintro e f ⟨rfl,ac⟩;rw[ac];rw[show isBoxL (sA z).data.toList=true from c])
 case' neg.inr.inl=>
  have c:isAddrL arg=true:=ay.o k3;have F:z=arg:=by have:=G.o;unfold cutArg at this;rw[if_neg (by omega)]at this;exact this.symm
  subst F;rw[Qw k3]at J;rw[Qh (by omega)]at H K;clear k3;go_enter func252,ntmps252;go_wp2_with (go_at_call 269;refine(BC _ _ (by rw[QN];omega)).mono ?_;rintro e f ⟨rfl,ac⟩;rw[ac];rw[show isAddrL (sA z).data.toList=true from c])
 case' neg.inr.inr.inl=>
  obtain⟨q,ar⟩:∃ q:Nat,q=min arg.length 48:=⟨_,rfl⟩;have hq:min (arg.length:Int) 48=(q:Int):=by omega
  have aX:(q:Int)<=(arg.length:Int):=by omega
  have aS:(sA arg).extract 0 q=sA z:=by
   rw[U1,<-G.o,ar];unfold cutArg;rw[if_pos k4];rcases Nat.le_total arg.length 48 with hh|hh
   ·rw[Nat.min_eq_left hh,List.take_of_length_le Ql,List.take_of_length_le hh]
   ·rw[Nat.min_eq_right hh]
  rw[Qw k4]at K;rw[Qh (by omega)]at H J;clear ar k4;go_enter func252,ntmps252;go_wp2_with fail
 case' neg.inr.inr.inr=>
  have F:z=arg:=by have:=G.o;unfold cutArg at this;rw[if_neg k0.2.2]at this;exact this.symm
  subst F;rw[Qh k0.1]at H;rw[Qh k0.2.1]at J;rw[Qh k0.2.2]at K;clear k0;go_enter func252,ntmps252;go_wp2_with fail
 all_goals
  obtain⟨W,N⟩:=QF (w.alloc (.cells #[.int .i64 kind,.string (sA z)] 52));have n:Hid (Below w.heap.size w W):=by rw[N];exact Qp _
  have y:W.heap[w.heap.size]?=some (.cells #[.int .i64 kind,.string (sA z)] 52):=by rw[N];exact QC _ _
  have aE:=I y;rw[<-N];clear N;have d7:W.cell? ⟨sb,7,none⟩=some (.slice la s.met.length d):=(n.o.cell (p:=⟨sb,7,none⟩) aK).trans c7;have b0:=Qk y;have b1:=Qr y;have Q:=Qg y;have aw:sb<W.heap.size:=by omega
  have aa:Hid (W.ownsRow B 52 2 (.slice la s.met.length d) s.met.length (QZ s.met)):=Xe (P:=fun _ _=>False) Z.o.met (Fr.of_below n.o) (fun _ _ h=>h);clear y;cases hmem:Ki (kind,z) s.met;rotate_left
  ·rw[hmem]at g;go_region_held3 (fun f=>f.cell? ⟨sb,7,none⟩=some (.slice la s.met.length d)/\f.cell? ⟨w.heap.size,0,none⟩=some (.int .i64 kind)/\f.cell? ⟨w.heap.size,1,none⟩=some (.string (sA z))) (first|go_keep|exact⟨l,T,U⟩) (first|(go_at_call 270;refine(Bq B s.met _ (kind,z) W.drew aa.o (by omega)).mono ?_;rintro e i ⟨rfl,C⟩;rw[hmem];have b:=XQ C;have l:i.cell? ⟨sb,7,none⟩=some (.slice la s.met.length d):=(b.cell (p:=⟨sb,7,none⟩) aw).trans d7;have T:i.cell? ⟨w.heap.size,0,none⟩=some (.int .i64 kind):=(b.cell (p:=⟨w.heap.size,0,none⟩) Q).trans b0;have U:i.cell? ⟨w.heap.size,1,none⟩=some (.string (sA z)):=(b.cell (p:=⟨w.heap.size,1,none⟩) Q).trans b1;have u:=I (n.o.trans (b.mono n.o.size));clear C b;skip))
   all_goals go_wp2
   all_goals go_ret
   all_goals unfold K7
   all_goals rw[g.o]
   all_goals exact⟨rfl,v.o.below u.o,Fr.of_below u.o⟩
  rw[hmem]at g;go_region_held3 (fun f=>f.cell? ⟨sb,7,none⟩=some (.slice la s.met.length d)/\f.cell? ⟨w.heap.size,0,none⟩=some (.int .i64 kind)/\f.cell? ⟨w.heap.size,1,none⟩=some (.string (sA z))) (first|go_keep|exact⟨l,T,U⟩) (first|(go_at_call 270;refine(Bq B s.met _ (kind,z) W.drew aa.o (by omega)).mono ?_;rintro e i ⟨rfl,C⟩;rw[hmem];have b:=XQ C;have l:i.cell? ⟨sb,7,none⟩=some (.slice la s.met.length d):=(b.cell (p:=⟨sb,7,none⟩) aw).trans d7;have T:i.cell? ⟨w.heap.size,0,none⟩=some (.int .i64 kind):=(b.cell (p:=⟨w.heap.size,0,none⟩) Q).trans b0;have U:i.cell? ⟨w.heap.size,1,none⟩=some (.string (sA z)):=(b.cell (p:=⟨w.heap.size,1,none⟩) Q).trans b1;have u:=I (n.o.trans (b.mono n.o.size));have ah:=I (Xe (P:=fun _ _=>False) aa.o (Fr.of_below b) (fun _ _ h=>h));have ax:=I (QP aE.o b);clear C b;skip))
  all_goals go_wp2_with fail
  all_goals refine(He B sb s.met _ (kind,z) i l ah.o (by omega)).mono ?_
  all_goals rintro e w2 ⟨rfl,b⟩
  all_goals have m:=I (u.o.trans (b.mono u.o.size))
  all_goals have aB:=I (Xe (P:=fun _ _=>False) ah.o (Fr.of_below b) (fun _ _ h=>h))
  all_goals have ad:=I (QP ax.o b)
  all_goals have r7:w2.cell? ⟨sb,7,none⟩=some (.slice la s.met.length d):=(b.cell (p:=⟨sb,7,none⟩) (Qq l)).trans l
  all_goals have r1:=Qr ad.o
  all_goals clear b l T U
  all_goals dsimp only
  all_goals cases hcon:Vw s.met kind
  rotate_left
  ·rw[hcon]at g;go_wp2;go_ret;unfold K7;rw[g.o];exact⟨rfl,v.o.below m.o,Fr.of_below m.o⟩
  rw[hcon]at g;by_cases h6:s.met.length=6
  ·rw[if_pos h6]at g;have aG:((s.met.length:Int)==6)=true:=by rw[h6];rfl
   go_wp2;go_ret;unfold K7;rw[g.o];exact⟨rfl,v.o.below m.o,Fr.of_below m.o⟩
  rw[if_neg h6]at g;have aG:((s.met.length:Int)==6)=false:=by simp;omega
  go_wp2_with fail;refine(Mp (sA z) w2 (by rw[QN];omega)).mono ?_;rintro e X ⟨rfl,D⟩;have af:=I (m.o.trans (D.mono m.o.size));have ai:=I (Xe (P:=fun _ _=>False) aB.o (Fr.of_below D) (fun _ _ h=>h));have A:=QP ad.o D;have s0:=Qk A;have s1:=Qr A;have sf:=Qu A;have s7:X.cell? ⟨sb,7,none⟩=some (.slice la s.met.length d):=(D.cell (p:=⟨sb,7,none⟩) (Qq r7)).trans r7;have ae:=I A;have aJ:¬ sb=w.heap.size:=by omega
  have aW:¬ w.heap.size=sb:=by omega
  clear D A r7 r1;go_wp2_with fail;obtain⟨V,t⟩:=QF (X.setCell ⟨w.heap.size,1,none⟩ (.string (sA z)));have ag:Hid (Below w.heap.size w V):=by rw[t];exact af.o.setCell Ql _
  have L:V.heap[w.heap.size]?=some (.cells #[.int .i64 kind,.string (sA z)] 52):=by rw[t];exact Qt _ _ _ _ _ _ ae.o
  have aD:Hid (V.ownsRow B 52 2 (.slice la s.met.length d) s.met.length (QZ s.met)):=by
   rw[t];exact Ur ai.o (fun e=>by have:=(Z.o.met.lt _ e).2;omega) _ _
  have v7:V.cell? ⟨sb,7,none⟩=some (.slice la s.met.length d):=by rw[t,ZA (a:=⟨sb,7,none⟩) (QK aJ)];exact s7
  have v0:=Qk L;have v1:=Qr L;have x:=I (Z.o.below ag.o);have aQ:=Qg L;have av:sb<V.heap.size:=by omega
  rw[<-t];have aO:=x.o.bs
  have au:¬(Value.slice la s.met.length d).ownBlock=some sb:=fun e=>by
   obtain⟨_,cs,aH⟩:=Y7 x.o.met sb _ e x.o.blk;injection aH with e1 e2
   exact absurd e2 (by decide)
  have aj:=I au;clear t L s7 s0 s1 sf au af ai ae;have aP:B<=V.heap.size:=by omega
  go_region_law (refine step_append_lies _ rfl (.tmp 52) (.tmp 54) 32 rfl B 52 i0 (.agg #[.int .i64 0,.string ⟨#[]⟩]) 2 24 underlying32 hi aL aM aN rfl (by decide) (.slice la s.met.length d) s.met.length (QZ s.met) (by simp[Act.eval,Act.put]) (aD.o.alloc _) ⟨V.heap.size,0,none⟩ 1 1 [.int .i64 kind,.string (sA z)] (by simp[Act.eval,Act.put]) rfl (Tw _ (kind,z) _) (Tf (kind,z)) (by decide) (by unfold maxLen;omega) (by omega) (by simp;omega) _ rfl ?_;intro g' aF w5 aq R aR aU;have aC:=I aq;have aA:=I R;have t7:w5.cell? ⟨sb,7,none⟩=some (.slice la s.met.length d):=R.cell (a:=⟨sb,7,none⟩) ((ZA (a:=⟨sb,7,none⟩) (w:=V) (Below.heap_alloc _ _ _ av)).trans v7) (fun e=>aj.o e.symm);have aT:∀ j,w5.frozen? ⟨sb,j,none⟩=false:=fun j=>(World.frozen?_of_block (a:=⟨sb,j,none⟩) (w:=V) ((R.block sb (by simp;omega) (fun e=>aj.o e.symm)).trans (Below.heap_alloc _ _ _ av))).trans (x.o.frozen j);clear aq R;skip)
  all_goals go_wp2
  all_goals go_ret
  all_goals unfold K7
  all_goals rw[g.o]
  all_goals have ap:=x.o.regrow ((((Fr.refl _ V).alloc _).drew).grown aA.o (fun k o e _=>e)) (.slice (some ⟨g',0,none⟩) (s.met.length+1) aF) (s.met++[(kind,z)]) (by rw[Ze,<-B0];exact aC.o) (by rw[Ze];simp;omega) (by simp)
  all_goals exact⟨rfl,⟨_,_,_,_,ap.1⟩,(Fr.of_below ag.o).trans ap.2⟩
def YU(f:FZ)(w:World)(e:Ending)(w':World):Prop:=
 ∃ b,w.heap.size<=b/\e=.panicked [{ v:=.iface 125 (.pointer (some ⟨b,0,none⟩)),recovered:=false }]/\
  w'.heap[b]?=some (.cells #[.int .i64 f.1,.int .i64 f.2] 130)
def Ge(r:Except FZ SS)(B sb:Nat)(M:Msg)(w:World)(e:Ending)(w':World):Prop:=
 Fr (PSt B) w w'/\
 match r with
 | .ok s=>e=.returned (.tuple #[])/\SAt w' B sb M s
 | .error f=>YU f w e w'
def VA(s:SS)(kind:Int)(arg:L8)(at_:Int):Except FZ SS:=
 if(addL s.met kind (expL s arg)).1=0 then .ok (XE s (addL s.met kind (expL s arg)).2)else .error ((addL s.met kind (expL s arg)).1,at_)
theorem E2(B sb:Nat)(M:Msg)(s:SS)(kind k:Int)(arg:L8)(w:World)(h:SAt w B sb M s)(m:arg.length<=1000000) :
 Calls prog 210 #[.pointer (some ⟨sb,0,none⟩),.int .i64 kind,.string (sA arg),.int .i64 k] w (Ge (VA s kind arg k) B sb M w):=by
 have j:=I h;have u:=AQ s arg 1000000 m (by decide);have a:Hid (VA s kind arg k=if(addL s.met kind (expL s arg)).1=0 then .ok (XE s (addL s.met kind (expL s arg)).2)else .error ((addL s.met kind (expL s arg)).1,k)):=rfl;have t:=I (AJ B sb M s arg);have b:=I (S0 B sb M s kind (expL s arg));unfold K7 at b;generalize expL s arg=x at *;obtain⟨q,v⟩:=Qe (addL s.met kind x);rw[v]at b a;obtain⟨n,l⟩:=q;clear v h;dsimp only at b a;by_cases hn:n=0
 ·subst hn;rw[if_pos rfl]at a;go_enter func210,ntmps210;go_wp2_with fail;go_region_with (first|(go_at_call 249;refine(t.o w.drew (j.o.below (Zq (Below.refl _ _))) m).mono ?_;rintro e p ⟨rfl,d⟩;have c:=I (XQ d);clear d;skip)|(go_at_call 252;refine(b.o p (j.o.below c.o) u).mono ?_;rintro e y ⟨rfl,g,f⟩;have r:=I g;have i:=I ((Fr.of_below c.o).trans f);clear g f;skip))
  all_goals go_wp2
  all_goals go_end0
  all_goals rw[a.o]
  all_goals exact⟨i.o,rfl,r.o⟩
 ·rw[if_neg hn]at a;have z:(n != 0)=true:=by simp[hn]
  go_enter func210,ntmps210;go_wp2_with fail;go_region_with (first|(go_at_call 249;refine(t.o w.drew (j.o.below (Zq (Below.refl _ _))) m).mono ?_;rintro e p ⟨rfl,d⟩;have c:=I (XQ d);clear d;skip)|(go_at_call 252;refine(b.o p (j.o.below c.o) u).mono ?_;rintro e y ⟨rfl,g,f⟩;have r:=I g;have i:=I ((Fr.of_below c.o).trans f);clear g f;skip))
  all_goals go_wp2_with (go_at_call 103;refine(Xn _ _ _).mono ?_;rintro e A ⟨rfl,rfl⟩)
  all_goals refine⟨rfl,?_⟩
  all_goals rw[a.o]
  all_goals exact⟨i.o.alloc _,y.heap.size,i.o.size,rfl,QC _ _⟩
theorem OL(B sb:Nat)(M:Msg)(s:SS)(w:World)(h:SAt w B sb M s) :
 Calls prog 166 #[.pointer (some ⟨sb,0,none⟩)] w (Ge (.ok (KJ s)) B sb M w):=by
 obtain⟨A,C,E,D,d⟩:=h;have F:w.cell? ⟨sb,8,none⟩=some (.bool s.disc):=d.cell 8;have G:=d.frozen 8;have HSI:=I d;clear d;go_enter func166,ntmps166;go_wp2;go_end0;have hf:Fr (fun k _=>k=sb) w (w.setCell ⟨sb,8,none⟩ (.bool true)):=(Fr.refl _ w).set HSI.o.blk rfl 8 _
 have hne:∀ (k:Nat) (o:Obj),w.heap[k]?=some o->(∀ cs,o≠.cells cs 274)->(w.setCell ⟨sb,8,none⟩ (.bool true)).heap[k]?=some o:=fun k o hk ho=>hf.block k o hk (fun e=>by
  subst e;rw [HSI.o.blk] at hk;cases hk;exact ho _ rfl)
 have h:=HSI.o;obtain⟨q,c,y,z⟩:=h.mp;obtain⟨m,u⟩:=h.m1;refine⟨(Fr.refl _ w).set h.blk h.ps 8 _,rfl,A,C,E,D,h.bs,h.bm,h.b1,⟨m,?_⟩,?_,?_,⟨q,c,hne _ _ y (fun cs e=>by cases e),z⟩,?_,?_,h.mn,⟨h.bd.fr,h.bd.tu,h.bd.hl,h.bd.hd,h.bd.told,h.bd.tl,h.bd.vals,h.bd.met⟩⟩
 ·have:(1:Nat)≠sb:=by have:=h.b1;have:=h.bs;omega
  rw[ZA (a:=⟨1,0,none⟩) (QK this)];exact u
 ·exact Qt _ _ _ _ _ _ h.blk
 ·rcases h.hd with f | ⟨g,c,cs,b,j,l⟩
  ·exact Qd f
  ·exact Qc ⟨g,c,cs,b,hne _ _ j (fun cs e=>by injection e with e1 e2;exact absurd e2 (by decide)),l⟩
 ·rcases h.told with f | ⟨g,c,b,cs,j,l⟩
  ·exact Qd f
  ·exact Qc ⟨g,c,b,cs,hne _ _ j (fun cs e=>by injection e with e1 e2;exact absurd e2 (by decide)),l⟩
 ·obtain⟨t,i⟩:=h.met;refine⟨t,?_⟩;rcases i with i | ⟨g,n,p,b,v,x,r⟩
  ·exact Qd i
  ·exact Qc ⟨g,n,p,b,v,hne _ _ x (fun cs e=>by injection e with e1 e2;exact absurd e2 (by decide)),r⟩
theorem TW(B sb:Nat)(M:Msg)(s:SS)(tag n:Int)(w:World)(h:SAt w B sb M s) :
 Calls prog 209 #[.pointer (some ⟨sb,0,none⟩),.int .i64 tag,.int .i64 n] w fun e w'=>e=.returned (.bool (sizeB M tag n))/\w'=w:=by
 obtain⟨f,g,j,i,c⟩:=h;have d:w.cell? ⟨sb,2,none⟩=some (.int .i64 M.size):=c.cell 2;have b:=Ya tag 2;have a:Hid (sizeB M tag n=if tag=2 then decide (M.size<n)else decide (n<M.size)):=rfl;clear c;by_cases h2:tag=2
 ·rw[Qw h2]at b;rw[if_pos h2]at a;clear h2;go_enter func209,ntmps209;go_wp2
  all_goals go_ret
  all_goals exact⟨QS (by rw[a.o]),rfl⟩
 ·rw[Qh h2]at b;rw[if_neg h2]at a;clear h2;go_enter func209,ntmps209;go_wp2
  all_goals go_ret
  all_goals exact⟨QS (by rw[a.o]),rfl⟩
def X9(es:Array MapEntry)(f:Int->Option Value):Prop:=
 (∀ e∈es.toList,∃ x,e.key=.int .i64 x/\f x=some e.val)/\∀ x v,f x=some v->∃ e∈es.toList,e.key=.int .i64 x
theorem X9.keys(h:X9 a f):∀ e∈a.toList,MapKept.IsKey (.int .i64) e.key:=fun e he=>by
 obtain⟨x,b,_⟩:=h.1 e he;rw[b];rfl
theorem X9.empty:X9 #[] (fun _=>none):=⟨fun e he=>by simp at he,fun x v h=>by cases h⟩
theorem X9.push{b:Array MapEntry}{f g:Int->Option Value}(h:X9 b f){x:Int}{v:Value}{c:Nat}(l:f x=none)(m:g x=some v)(d:∀ z,z≠x->g z=f z):X9 (b.push ⟨.int .i64 x,v,c⟩) g:=by
 refine⟨fun e he=>?_,fun z u i=>?_⟩
 ·simp only[Array.toList_push,List.mem_append,List.mem_singleton]at he;rcases he with he|he
  ·obtain⟨z,j,a⟩:=h.1 e he;have:z≠x:=fun e=>by rw[e,l]at a;cases a
   exact⟨z,j,by rw[d z this];exact a⟩
  ·subst he;exact⟨x,rfl,m⟩
 ·by_cases e:z=x
  ·exact⟨⟨.int .i64 x,v,c⟩,by simp,by rw[e]⟩
  ·rw[d z e]at i;obtain⟨y,n,k⟩:=h.2 z u i;exact⟨y,by simp[n],k⟩
theorem X9.congr{g:Int->Option Value}(h:X9 a f)(e:∀ x,f x=g x):X9 a g:=by
 have:f=g:=funext e;rw[<-this];exact h
theorem NZ{T K E:TypeId}(q:prog.underlying T=some (.map K E))(d:prog.underlying K=some (.int .i64)){x:Int}(k:w.heap[m]?=some (.map a c))(g:X9 a f)(r:f x=none)(v:Value) :
 (Instr.mapUpdate T (.map (some m)) (.int .i64 x) v).run prog w=.ok () (Xp w m (.map (a.push ⟨.int .i64 x,v,c⟩) (c+1))):=by
 have i:MapKept.IsKey (.int .i64) (.int .i64 x):=rfl;rcases MapKept.findNow_spec i a.toList 0 g.keys with⟨b,_⟩ | ⟨j,e,b,o,p⟩
 ·simp[Instr.mapUpdate,run_underlying q,MapKept.run_getObj_map k,MapKept.run_checkKey d i,MapKept.run_findKey d b,MapKept.run_setObj_map _ k,Result.andThen,Xp]
 ·obtain⟨z,l,n⟩:=g.1 e (List.mem_of_getElem? o);rw[p]at l;have:x=z:=by simpa using l
  subst this;rw[r]at n;cases n
theorem Px{T K E:TypeId}(l:prog.underlying T=some (.map K E))(a:prog.underlying K=some (.int .i64))(q:∀ W,(zeroValue E).run prog W=.ok .nilFunc W){b:Array MapEntry}(n:w.heap[m]?=some (.map b c))(i:X9 b f)(x:Int) :
 (Instr.lookup T (.map (some m)) (.int .i64 x) false).run prog w=.ok ((f x).getD .nilFunc) w:=by
 have k:MapKept.IsKey (.int .i64) (.int .i64 x):=rfl;rcases MapKept.findNow_spec k b.toList 0 i.keys with⟨d,g⟩ | ⟨j,e,d,g,p⟩
 ·have s:f x=none:=by
   cases hfx:f x with
   |none=>rfl
   |some v=>
    obtain⟨e,he,r⟩:=i.2 x v hfx;exact absurd r (g e he)
  rw[s];simp[Instr.lookup,run_underlying l,MapKept.run_getObj_map n,MapKept.run_checkKey a k,MapKept.run_findKey a d,q,Result.andThen]
 ·obtain⟨z,o,t⟩:=i.1 e (List.mem_of_getElem? g);rw[p]at o;have:x=z:=by simpa using o
  subst this;rw[t];simp[Instr.lookup,run_underlying l,MapKept.run_getObj_map n,MapKept.run_checkKey a k,MapKept.run_findKey a d,Result.andThen]
def Gm(w:World)(B:Nat)(lk:Value)(hf:Nat)(v:Value):Prop:=
 ∃ p q,v=.func (.func 264) #[] #[.pointer (some ⟨p,0,none⟩),.pointer (some ⟨q,0,none⟩)]/\B<=p/\B<=q/\w.heap[q]?=some (.cells #[lk] 148)/\w.heap[p]?=some (.cells #[.func (.func hf) #[] #[]] 335)
theorem Gm.keep{a:Nat}{e:Value}(h:Gm w B e a v)(b:∀ k cs ty,B<=k->w.heap[k]?=some (.cells cs ty)->w'.heap[k]?=some (.cells cs ty)):Gm w' B e a v:=by
 obtain⟨p,q,i,c,d,f,g⟩:=h;exact⟨p,q,i,c,d,b q _ _ d f,b p _ _ c g⟩
def YY(b:Nat):Value:=.func (.func 245) #[] #[.pointer (some ⟨b,0,none⟩)]
def fB(b:Nat)(L:Nat->Bool)(u11 u13:Value)(k:Int):Option Value:=
 if k=1 then(if L 3 then some u11 else none)else if k=2 then(if L 6 then some u13 else none)else if k=3 then(if L 8 then some (YY b)else none)else none
structure JB (lk:Value) (b:Nat) (W:World) (L:Nat->Bool) (u6 u9 u11 u13 u15:Value) (w:World):Prop where
 bl:Below W.heap.size W w
 c3:L 3=true->L 2=true
 c6:L 6=true->L 5=true
 c30:L 3=true->L 0=true
 c60:L 6=true->L 0=true
 c80:L 8=true->L 0=true
 a2:L 2=true->Gm w W.heap.size lk 243 u11
 a5:L 5=true->Gm w W.heap.size lk 244 u13
 mp:L 0=true->∃ m es c,u9=.map (some m)∧W.heap.size<=m∧w.heap[m]?=some (.map es c)∧X9 es (fB b L u11 u13)
 m9:L 9=true->u15=u9∧L 0=true∧L 3=true∧L 6=true∧L 8=true∧L 2=true∧L 5=true
 m10:L 10=true->u6=u15∧L 9=true
theorem NQ{o:Obj}(h:Below B W w)(a:B<=m):Below B W (Xp w m o):=
 ⟨h.os,h.tape,h.output,by rw[B3];exact h.size,fun k hk=>by rw[Kj (by omega)];exact h.block k hk⟩
theorem V7{a b:Bool}(h:a=true->b=true)(c:b=false):a=false:=by
 cases a with
 |false=>rfl
 |true=>rw[h rfl]at c;cases c
section
variable {lk:Value} {b:Nat} {W:World} {L:Nat->Bool} {u6 u9 u11 u13 u15:Value} {w:World}
theorem Gf(i:Nat)(h:i≠3/\i≠6/\i≠8)(k:Int):fB b (up L i) u11 u13 k=fB b L u11 u13 k:=by
 unfold fB;rw[Qm L (Ne.symm h.1),Qm L (Ne.symm h.2.1),Qm L (Ne.symm h.2.2)]
theorem JB.s0(J:JB lk b W L u6 u9 u11 u13 u15 w)(h0:L 0=false):JB lk b W (up L 0) u6 (.map (some w.heap.size)) u11 u13 u15 (w.alloc (Obj.map #[] 0)):=by
 have d:∀ k a c,W.heap.size<=k->w.heap[k]?=some (.cells a c)->(w.alloc (Obj.map #[] 0)).heap[k]?=some (.cells a c):=fun k a c _ h=>Qn h
 have e:=V7 J.c30 h0;have f:=V7 J.c60 h0;have g:=V7 J.c80 h0;have hz:=J.bl.size
 exact ⟨J.bl.alloc hz _,
  fun h=>Qj _ (J.c3 (by rwa [Qm L (by decide)]at h)),
  fun h=>Qj _ (J.c6 (by rwa [Qm L (by decide)]at h)),
  fun h=>absurd (by rwa [Qm L (by decide)]at h:L 3=true) (by rw[e];decide),
  fun h=>absurd (by rwa [Qm L (by decide)]at h:L 6=true) (by rw[f];decide),
  fun h=>absurd (by rwa [Qm L (by decide)]at h:L 8=true) (by rw[g];decide),
  fun h=>(J.a2 (by rwa [Qm L (by decide)]at h)).keep d,
  fun h=>(J.a5 (by rwa [Qm L (by decide)]at h)).keep d,
  fun _=>⟨w.heap.size,#[],0,rfl,hz,QC _ _,X9.empty.congr (fun k=>by rw[Gf 0 (by decide)];unfold fB;simp only[e,f,g];simp)⟩,
  fun h=>absurd (J.m9 (by rwa [Qm L (by decide)]at h)).2.1 (by rw[h0];decide),
  fun h=>absurd (J.m9 (J.m10 (by rwa [Qm L (by decide)] at h)).2).2.1 (by rw [h0];decide)⟩
theorem JB.s2(J:JB lk b W L u6 u9 u11 u13 u15 w)(o:L 2=false):JB lk b W (up L 2) u6 u9 (.func (.func 264) #[] #[.pointer (some ⟨w.heap.size+1,0,none⟩),.pointer (some ⟨w.heap.size,0,none⟩)]) u13 u15 ((w.alloc (.cells #[lk] 148)).alloc (.cells #[.func (.func 243) #[] #[]] 335)):=by
 have q:∀ k d g,W.heap.size<=k->w.heap[k]?=some (.cells d g)->((w.alloc (.cells #[lk] 148)).alloc (.cells #[.func (.func 243) #[] #[]] 335)).heap[k]?=some (.cells d g):=fun k d g _ h=>Qn (Qn h)
 have r:∀(m:Nat) (a:Array MapEntry) (c:Nat),w.heap[m]?=some (Obj.map a c)->((w.alloc (.cells #[lk] 148)).alloc (.cells #[.func (.func 243) #[] #[]] 335)).heap[m]?=some (Obj.map a c):=fun m a c h=>Qn (Qn h)
 have i:=V7 J.c3 o;have hz:=J.bl.size
 have p:∀ v k,fB b (up L 2) v u13 k=fB b L u11 u13 k:=fun v k=>by
  rw[Gf 2 (by decide)];unfold fB;simp only[i,Bool.false_eq_true,if_false]
 exact ⟨(J.bl.alloc hz _).alloc (by simp;omega) _,
  fun h=>absurd (by rwa [Qm L (by decide)]at h:L 3=true) (by rw[i];decide),
  fun h=>Qj _ (J.c6 (by rwa [Qm L (by decide)]at h)),
  fun h=>Qj _ (J.c30 (by rwa [Qm L (by decide)]at h)),
  fun h=>Qj _ (J.c60 (by rwa [Qm L (by decide)]at h)),
  fun h=>Qj _ (J.c80 (by rwa [Qm L (by decide)]at h)),
  fun _=>⟨w.heap.size+1,w.heap.size,rfl,by omega,hz,Qn (QC _ _),Q5 (by simp)⟩,
  fun h=>(J.a5 (by rwa [Qm L (by decide)]at h)).keep q,
  fun h=>by obtain⟨m,a,c,e1,e2,e,f⟩:=J.mp (by rwa [Qm L (by decide)]at h);exact⟨m,a,c,e1,e2,r m a c e,f.congr (fun k=>(p _ k).symm)⟩,
  fun h=>by obtain⟨e1,e2,e,f,j,l,n⟩:=J.m9 (by rwa [Qm L (by decide)]at h);exact⟨e1,Qj _ e2,Qj _ e,Qj _ f,Qj _ j,Qj _ l,Qj _ n⟩,
  fun h=>by obtain ⟨e1,e2⟩:=J.m10 (by rwa [Qm L (by decide)] at h);exact ⟨e1,Qj _ e2⟩⟩
theorem JB.s5(J:JB lk b W L u6 u9 u11 u13 u15 w)(o:L 5=false):JB lk b W (up L 5) u6 u9 u11 (.func (.func 264) #[] #[.pointer (some ⟨w.heap.size+1,0,none⟩),.pointer (some ⟨w.heap.size,0,none⟩)]) u15 ((w.alloc (.cells #[lk] 148)).alloc (.cells #[.func (.func 244) #[] #[]] 335)):=by
 have q:∀ k d g,W.heap.size<=k->w.heap[k]?=some (.cells d g)->((w.alloc (.cells #[lk] 148)).alloc (.cells #[.func (.func 244) #[] #[]] 335)).heap[k]?=some (.cells d g):=fun k d g _ h=>Qn (Qn h)
 have r:∀(m:Nat) (a:Array MapEntry) (c:Nat),w.heap[m]?=some (Obj.map a c)->((w.alloc (.cells #[lk] 148)).alloc (.cells #[.func (.func 244) #[] #[]] 335)).heap[m]?=some (Obj.map a c):=fun m a c h=>Qn (Qn h)
 have i:=V7 J.c6 o;have hz:=J.bl.size
 have p:∀ v k,fB b (up L 5) u11 v k=fB b L u11 u13 k:=fun v k=>by
  rw[Gf 5 (by decide)];unfold fB;simp only[i,Bool.false_eq_true,if_false]
 exact ⟨(J.bl.alloc hz _).alloc (by simp;omega) _,
  fun h=>Qj _ (J.c3 (by rwa [Qm L (by decide)]at h)),
  fun h=>absurd (by rwa [Qm L (by decide)]at h:L 6=true) (by rw[i];decide),
  fun h=>Qj _ (J.c30 (by rwa [Qm L (by decide)]at h)),
  fun h=>Qj _ (J.c60 (by rwa [Qm L (by decide)]at h)),
  fun h=>Qj _ (J.c80 (by rwa [Qm L (by decide)]at h)),
  fun h=>(J.a2 (by rwa [Qm L (by decide)]at h)).keep q,
  fun _=>⟨w.heap.size+1,w.heap.size,rfl,by omega,hz,Qn (QC _ _),Q5 (by simp)⟩,
  fun h=>by obtain⟨m,a,c,e1,e2,e,f⟩:=J.mp (by rwa [Qm L (by decide)]at h);exact⟨m,a,c,e1,e2,r m a c e,f.congr (fun k=>(p _ k).symm)⟩,
  fun h=>by obtain⟨e1,e2,e,f,j,l,n⟩:=J.m9 (by rwa [Qm L (by decide)]at h);exact⟨e1,Qj _ e2,Qj _ e,Qj _ f,Qj _ j,Qj _ l,Qj _ n⟩,
  fun h=>by obtain ⟨e1,e2⟩:=J.m10 (by rwa [Qm L (by decide)] at h);exact ⟨e1,Qj _ e2⟩⟩
theorem JB.s3(J:JB lk b W L u6 u9 u11 u13 u15 w)(t:L 3=false)(g:L 0=true)(u:L 2=true):∃ m es c,u9=.map (some m)/\w.heap[m]?=some (.map es c)/\X9 es (fB b L u11 u13)/\fB b L u11 u13 1=none/\JB lk b W (up L 3) u6 u9 u11 u13 u15 (Xp w m (.map (es.push ⟨.int .i64 1,u11,c⟩) (c+1))):=by
 obtain⟨m,es,c,i,h4,d,j⟩:=J.mp g;have n:fB b L u11 u13 1=none:=by unfold fB;simp[t]
 have x:fB b (up L 3) u11 u13 1=some u11:=by unfold fB;simp[Xg]
 have v:∀ z,z≠1->fB b (up L 3) u11 u13 z=fB b L u11 u13 z:=fun z y=>by
  unfold fB;simp only[if_neg y,Qm L (show(3:Nat)≠99 by decide),Qm L (show(6:Nat)≠3 by decide),Qm L (show(8:Nat)≠3 by decide)]
 have l:∀ k a f,W.heap.size<=k->w.heap[k]?=some (.cells a f)->(Xp w m (.map (es.push ⟨.int .i64 1,u11,c⟩) (c+1))).heap[k]?=some (.cells a f):=fun k a f _ h=>by
  rw[Kj (fun e=>by rw[e,d]at h;cases h)];exact h
 refine⟨m,es,c,i,d,j,n,?_⟩
 exact ⟨NQ J.bl h4,
  fun _=>Qj _ u,
  fun h=>Qj _ (J.c6 (by rwa [Qm L (by decide)]at h)),
  fun _=>Qj _ g,
  fun h=>Qj _ (J.c60 (by rwa [Qm L (by decide)]at h)),
  fun h=>Qj _ (J.c80 (by rwa [Qm L (by decide)]at h)),
  fun h=>(J.a2 (by rwa [Qm L (by decide)]at h)).keep l,
  fun h=>(J.a5 (by rwa [Qm L (by decide)]at h)).keep l,
  fun _=>⟨m,_,_,i,h4,VP d,j.push n x v⟩,
  fun h=>by obtain⟨e1,e2,o,p,q,r,s⟩:=J.m9 (by rwa [Qm L (by decide)]at h);exact⟨e1,Qj _ e2,Qj _ o,Qj _ p,Qj _ q,Qj _ r,Qj _ s⟩,
  fun h=>by obtain ⟨e1,e2⟩:=J.m10 (by rwa [Qm L (by decide)] at h);exact ⟨e1,Qj _ e2⟩⟩
theorem JB.s6(J:JB lk b W L u6 u9 u11 u13 u15 w)(t:L 6=false)(g:L 0=true)(u:L 5=true):∃ m es c,u9=.map (some m)/\w.heap[m]?=some (.map es c)/\X9 es (fB b L u11 u13)/\fB b L u11 u13 2=none/\JB lk b W (up L 6) u6 u9 u11 u13 u15 (Xp w m (.map (es.push ⟨.int .i64 2,u13,c⟩) (c+1))):=by
 obtain⟨m,es,c,i,h4,d,j⟩:=J.mp g;have n:fB b L u11 u13 2=none:=by unfold fB;simp[t]
 have x:fB b (up L 6) u11 u13 2=some u13:=by unfold fB;simp[Xg]
 have v:∀ z,z≠2->fB b (up L 6) u11 u13 z=fB b L u11 u13 z:=fun z y=>by
  unfold fB;simp only[if_neg y,Qm L (show(3:Nat)≠6 by decide),Qm L (show(6:Nat)≠99 by decide),Qm L (show(8:Nat)≠6 by decide)]
 have l:∀ k a f,W.heap.size<=k->w.heap[k]?=some (.cells a f)->(Xp w m (.map (es.push ⟨.int .i64 2,u13,c⟩) (c+1))).heap[k]?=some (.cells a f):=fun k a f _ h=>by
  rw[Kj (fun e=>by rw[e,d]at h;cases h)];exact h
 refine⟨m,es,c,i,d,j,n,?_⟩
 exact ⟨NQ J.bl h4,
  fun h=>Qj _ (J.c3 (by rwa [Qm L (by decide)]at h)),
  fun _=>Qj _ u,
  fun h=>Qj _ (J.c30 (by rwa [Qm L (by decide)]at h)),
  fun _=>Qj _ g,
  fun h=>Qj _ (J.c80 (by rwa [Qm L (by decide)]at h)),
  fun h=>(J.a2 (by rwa [Qm L (by decide)]at h)).keep l,
  fun h=>(J.a5 (by rwa [Qm L (by decide)]at h)).keep l,
  fun _=>⟨m,_,_,i,h4,VP d,j.push n x v⟩,
  fun h=>by obtain⟨e1,e2,o,p,q,r,s⟩:=J.m9 (by rwa [Qm L (by decide)]at h);exact⟨e1,Qj _ e2,Qj _ o,Qj _ p,Qj _ q,Qj _ r,Qj _ s⟩,
  fun h=>by obtain ⟨e1,e2⟩:=J.m10 (by rwa [Qm L (by decide)] at h);exact ⟨e1,Qj _ e2⟩⟩
theorem JB.s8(J:JB lk b W L u6 u9 u11 u13 u15 w)(t:L 8=false)(g:L 0=true) :∃ m es c,u9=.map (some m)/\w.heap[m]?=some (.map es c)/\X9 es (fB b L u11 u13)/\fB b L u11 u13 3=none/\JB lk b W (up L 8) u6 u9 u11 u13 u15 (Xp w m (.map (es.push ⟨.int .i64 3,(YY b),c⟩) (c+1))):=by
 obtain⟨m,es,c,i,h4,d,j⟩:=J.mp g;have n:fB b L u11 u13 3=none:=by unfold fB;simp[t]
 have v:fB b (up L 8) u11 u13 3=some (YY b):=by unfold fB;simp[Xg]
 have u:∀ z,z≠3->fB b (up L 8) u11 u13 z=fB b L u11 u13 z:=fun z x=>by
  unfold fB;simp only[if_neg x,Qm L (show(3:Nat)≠8 by decide),Qm L (show(6:Nat)≠8 by decide),Qm L (show(8:Nat)≠99 by decide)]
 have l:∀ k a f,W.heap.size<=k->w.heap[k]?=some (.cells a f)->(Xp w m (.map (es.push ⟨.int .i64 3,(YY b),c⟩) (c+1))).heap[k]?=some (.cells a f):=fun k a f _ h=>by
  rw[Kj (fun e=>by rw[e,d]at h;cases h)];exact h
 refine⟨m,es,c,i,d,j,n,?_⟩
 exact ⟨NQ J.bl h4,
  fun h=>Qj _ (J.c3 (by rwa [Qm L (by decide)]at h)),
  fun h=>Qj _ (J.c6 (by rwa [Qm L (by decide)]at h)),
  fun h=>Qj _ (J.c30 (by rwa [Qm L (by decide)]at h)),
  fun h=>Qj _ (J.c60 (by rwa [Qm L (by decide)]at h)),
  fun _=>Qj _ g,
  fun h=>(J.a2 (by rwa [Qm L (by decide)]at h)).keep l,
  fun h=>(J.a5 (by rwa [Qm L (by decide)]at h)).keep l,
  fun _=>⟨m,_,_,i,h4,VP d,j.push n v u⟩,
  fun h=>by obtain⟨e1,e2,o,p,q,r,s⟩:=J.m9 (by rwa [Qm L (by decide)]at h);exact⟨e1,Qj _ e2,Qj _ o,Qj _ p,Qj _ q,Qj _ r,Qj _ s⟩,
  fun h=>by obtain ⟨e1,e2⟩:=J.m10 (by rwa [Qm L (by decide)] at h);exact ⟨e1,Qj _ e2⟩⟩
theorem JB.s9(J:JB lk b W L u6 u9 u11 u13 u15 w)(h0:L 9=false)(o:L 0=true)(q:L 3=true)(s:L 6=true)(t:L 8=true)(p:L 2=true)(r:L 5=true):JB lk b W (up L 9) u6 u9 u11 u13 u9 w:=by
 have f:∀ k d e,W.heap.size<=k->w.heap[k]?=some (.cells d e)->w.heap[k]?=some (.cells d e):=fun k d e _ h=>h
 have n:∀(m:Nat) (a:Array MapEntry) (c:Nat),w.heap[m]?=some (Obj.map a c)->w.heap[m]?=some (Obj.map a c):=fun m a c h=>h
 exact ⟨J.bl,
  fun h=>Qj _ (J.c3 (by rwa [Qm L (by decide)]at h)),
  fun h=>Qj _ (J.c6 (by rwa [Qm L (by decide)]at h)),
  fun h=>Qj _ (J.c30 (by rwa [Qm L (by decide)]at h)),
  fun h=>Qj _ (J.c60 (by rwa [Qm L (by decide)]at h)),
  fun h=>Qj _ (J.c80 (by rwa [Qm L (by decide)]at h)),
  fun h=>(J.a2 (by rwa [Qm L (by decide)]at h)).keep f,
  fun h=>(J.a5 (by rwa [Qm L (by decide)]at h)).keep f,
  fun h=>by obtain⟨m,a,c,g,i,j,l⟩:=J.mp (by rwa [Qm L (by decide)]at h);exact⟨m,a,c,g,i,n m a c j,l.congr (fun k=>(Gf 9 (by decide) k).symm)⟩,
  fun _=>⟨rfl,Qj _ o,Qj _ q,Qj _ s,Qj _ t,Qj _ p,Qj _ r⟩,
  fun h=>absurd (J.m10 (by rwa [Qm L (by decide)] at h)).2 (by rw [h0];decide)⟩
theorem JB.s10(J:JB lk b W L u6 u9 u11 u13 u15 w)(r:L 10=false)(i9:L 9=true):JB lk b W (up L 10) u15 u9 u11 u13 u15 w:=by
 have l:∀ k d j,W.heap.size<=k->w.heap[k]?=some (.cells d j)->w.heap[k]?=some (.cells d j):=fun k d j _ h=>h
 have q:∀(m:Nat) (a:Array MapEntry) (c:Nat),w.heap[m]?=some (Obj.map a c)->w.heap[m]?=some (Obj.map a c):=fun m a c h=>h
 exact ⟨J.bl,
  fun h=>Qj _ (J.c3 (by rwa [Qm L (by decide)]at h)),
  fun h=>Qj _ (J.c6 (by rwa [Qm L (by decide)]at h)),
  fun h=>Qj _ (J.c30 (by rwa [Qm L (by decide)]at h)),
  fun h=>Qj _ (J.c60 (by rwa [Qm L (by decide)]at h)),
  fun h=>Qj _ (J.c80 (by rwa [Qm L (by decide)]at h)),
  fun h=>(J.a2 (by rwa [Qm L (by decide)]at h)).keep l,
  fun h=>(J.a5 (by rwa [Qm L (by decide)]at h)).keep l,
  fun h=>by obtain⟨m,a,c,e,f,g,i⟩:=J.mp (by rwa [Qm L (by decide)]at h);exact⟨m,a,c,e,f,q m a c g,i.congr (fun k=>(Gf 10 (by decide) k).symm)⟩,
  fun h=>by obtain⟨e,f,g,i,n,o,p⟩:=J.m9 (by rwa [Qm L (by decide)]at h);exact⟨e,Qj _ f,Qj _ g,Qj _ i,Qj _ n,Qj _ o,Qj _ p⟩,
  fun _=>⟨rfl,Qj _ i9⟩⟩
end
theorem Tryz.zeroWay:∀ W,(zeroValue 321).run prog W=.ok .nilFunc W:=fun W=>by kernel_rfl
theorem EB(a:FuncId)(b:Nat)(w:World) :
 Calls prog 242 #[(.func (.func a) #[] #[]),.func (.func b) #[] #[]] w fun e w'=>e=.returned (.func (.func 264) #[] #[.pointer (some ⟨w.heap.size+1,0,none⟩),.pointer (some ⟨w.heap.size,0,none⟩)])/\w'=(w.alloc (.cells #[(.func (.func a) #[] #[])] 148)).alloc (.cells #[.func (.func b) #[] #[]] 335):=by
 have c:∀(fn:Fn) (first cap:Array Value) (w:World),(Instr.makeFunc fn first cap).run prog w=.ok (.func fn first cap) w:=fun _ _ _ _=>rfl
 go_enter func242,ntmps242;go_wp2;go_ret;exact⟨rfl,rfl⟩
def JF(u:Bool)(fl:FuncId)(tag:Int)(b:Nat)(u6 u9 u11 u13 u15:Value):Act:=
 { tmps:=#[.int .i64 tag,.bool u,undef,undef,.nilFunc,.pointer (some ⟨b,0,none⟩),u6,.bool u,(.func (.func fl) #[] #[]),u9,(.func (.func fl) #[] #[]),u11,(.func (.func fl) #[] #[]),u13,YY b,u15,undef,undef,undef],defers:=[] }
def Jw(u:Bool)(fl:FuncId)(tag:Int)(b:Nat)(W:World)(l:Array Bool)(a:Act)(w:World):Prop:=
 l.size=11/\(∀ i∈[1,4,7],l.getD i false=true)/\∃ u6 u9 u11 u13 u15,a=JF u fl tag b u6 u9 u11 u13 u15/\JB (.func (.func fl) #[] #[]) b W (fun j=>l.getD j false) u6 u9 u11 u13 u15 w
theorem Jw.next{u:Bool}{fl:FuncId}{b:Nat}{l:Array Bool}{u6 u9 u11 u13 u15:Value}(hl:l.size=11)(ht:∀ i∈[1,4,7],l.getD i false=true)(hi:i<11)(J:JB (.func (.func fl) #[] #[]) b W (up (fun j=>l.getD j false) i) u6 u9 u11 u13 u15 w):Jw u fl tag b W (l.setIfInBounds i true) (JF u fl tag b u6 u9 u11 u13 u15) w:=
 ⟨by simp[hl],fun k hk=>getD_set_true (ht k hk),u6,u9,u11,u13,u15,rfl,by rw[A7 (by omega)];exact J⟩
theorem ET(u:Bool)(r:FuncId)(N:US u=.func (.func r) #[] #[])(tag:Int)(w:World) :
 Calls prog 204 #[.int .i64 tag,.bool u] w fun e w'=>(∃ wv,e=.returned wv/\((1<=tag/\tag<=3/\WayV w' tag u wv)\/(¬(1<=tag/\tag<=3)/\wv=.nilFunc)))/\Below w.heap.size w w':=by
 have aj:∀(fn:Fn) (first cap:Array Value) (w:World),(Instr.makeFunc fn first cap).run prog w=.ok (.func fn first cap) w:=fun _ _ _ _=>rfl
 have ak:∀(w:World),(Instr.makeMap 349 none).run prog w=.ok (.map (some w.heap.size)) (w.alloc (Obj.map #[] 0)):=fun _=>rfl
 go_enter func204,ntmps204;go_wp2_with (go_at_call 241;refine(FG u _).mono ?_;rw[N];rintro e w' ⟨rfl,ao⟩;subst w');obtain⟨W,L⟩:=QF (w.alloc (.cells #[(.func (.func r) #[] #[])] 148));have M:W.heap[w.heap.size]?=some (.cells #[(.func (.func r) #[] #[])] 148):=by rw[L];exact QC _ _
 have X:Below w.heap.size w W:=by rw[L];exact Qp _
 have ag:=Qg M;rw[<-L];clear L;refine wp_region_held (S:=fun w'=>w'.cell? ⟨w.heap.size,0,none⟩=some (.func (.func r) #[] #[])) (by kernel_rfl) ?_;have K:({ W with drawn:=W.drawn+1 }:World).cell? ⟨w.heap.size,0,none⟩=some (.func (.func r) #[] #[]):=Qi (w:={ W with drawn:=W.drawn+1 }) M 0;refine Qx 1 10 ((.func (.func r) #[] #[])) rfl K (fun w' E=>by(try dsimp only at E);(try unfold YY);go_simp) ?_;simp only[pt,sz,sc];refine Qx 4 12 ((.func (.func r) #[] #[])) rfl K (fun w' E=>by(try dsimp only at E);(try unfold YY);go_simp) ?_;simp only[pt,sz,sc];refine Qx 7 14 ((YY w.heap.size)) rfl K (fun w' E=>by(try dsimp only at E);(try unfold YY);go_simp) ?_;simp only[pt,sz,sc];refine GM (Jw u r tag w.heap.size W) (fun l a w' h=>by rw[h.1];rfl) (fun l a w' h=>?hSS) (fun l a w' i h s=>?hstep) (fun l a w' h hr=>?hdone) _ _ _ _ (by decide) ?hinit
 case hSS=>
  obtain⟨_,_,_,_,_,_,_,_,J⟩:=h;exact Qi (QP M J.bl) 0
 case hinit=>
  refine⟨rfl,by decide,undef,undef,undef,undef,undef,rfl,?_⟩;exact⟨Zq (Below.refl _ _),Q4,Q4,Q4,Q4,Q4,Q4,Q4,Q4,Q4,Q4⟩
 case hdone=>
  obtain⟨k,g,u6,u9,u11,u13,u15,rfl,J⟩:=h;have Q:=NC k (by kernel_rfl) hr;obtain⟨ae,_⟩:=J.m10 (Q 10 (by decide));obtain⟨e9,y,R,U,V,z,T⟩:=J.m9 (Q 9 (by decide));obtain⟨m,P,c,e1,ai,Z,v⟩:=J.mp y;subst ae e9 e1;have n:=Px underlying349 underlying3 Tryz.zeroWay Z v tag;have H:=I (X.trans (J.bl.mono X.size));have ab:=I (J.a2 z);have ac:=I (J.a5 T);have ad:Hid (w'.cell? ⟨w.heap.size,0,none⟩=some (.func (.func r) #[] #[])):=Qi (QP M J.bl) 0
  have Y:fB w.heap.size (fun j=>l.getD j false) u11 u13 tag=if tag=1 then some u11 else if tag=2 then some u13 else if tag=3 then some (YY w.heap.size)else none:=by
   unfold fB;rw[if_pos R,if_pos U,if_pos V]
  rw[Y]at n;clear J Q hr g k K Z v y R U V z T Y;unfold JF;by_cases t1:tag=1
  ·subst t1;rw[if_pos rfl]at n;obtain⟨p,q,rfl,hp,hq,B,C⟩:=ab.o;have x:Hid (WayV w' 1 u (.func (.func 264) #[] #[.pointer (some ⟨p,0,none⟩),.pointer (some ⟨q,0,none⟩)])):=Qc ⟨p,q,rfl,by rw[N];exact Qi B 0,Qd ⟨rfl,Qi C 0⟩⟩;clear B C;simp only[Option.getD_some]at n;go_wp2;go_ret;exact⟨⟨_,rfl,Qd ⟨by decide,by decide,x.o⟩⟩,H.o⟩
  by_cases t2:tag=2
  ·subst t2;rw[if_neg t1,if_pos rfl]at n;obtain⟨p,q,rfl,hp,hq,B,C⟩:=ac.o;have x:Hid (WayV w' 2 u (.func (.func 264) #[] #[.pointer (some ⟨p,0,none⟩),.pointer (some ⟨q,0,none⟩)])):=Qc ⟨p,q,rfl,by rw[N];exact Qi B 0,Qc ⟨rfl,Qi C 0⟩⟩;clear B C;simp only[Option.getD_some]at n;go_wp2;go_ret;exact⟨⟨_,rfl,Qd ⟨by decide,by decide,x.o⟩⟩,H.o⟩
  by_cases t3:tag=3
  ·subst t3;rw[if_neg t1,if_neg t2,if_pos rfl]at n;have x:Hid (WayV w' 3 u (YY w.heap.size)):=Qd ⟨rfl,w.heap.size,rfl,by rw[N];exact ad.o⟩;simp only[Option.getD_some]at n;unfold YY at n x ⊢;go_wp2;go_ret;exact⟨⟨_,rfl,Qd ⟨by decide,by decide,x.o⟩⟩,H.o⟩
  ·rw[if_neg t1,if_neg t2,if_neg t3]at n;simp only[Option.getD_none]at n;have af:¬(1<=tag/\tag<=3):=by omega
   clear t1 t2 t3;go_wp2;go_ret;exact⟨⟨_,rfl,Qc ⟨af,rfl⟩⟩,H.o⟩
 case hstep=>
  obtain⟨k,g,u6,u9,u11,u13,u15,rfl,J⟩:=h;obtain⟨y,o,f,b⟩:=mem_ready.1 s;have ah:i<11:=(Array.getElem?_eq_some_iff.1 f).1
  have d:l.getD i false=false:=by
   have:i<l.size:=by omega
   simp[this]at y ⊢;exact y
  clear y;rcases(by omega:i=0\/i=1\/i=2\/i=3\/i=4\/i=5\/i=6\/i=7\/i=8\/i=9\/i=10)with hh|hh|hh|hh|hh|hh|hh|hh|hh|hh|hh<;>subst hh
  ·clear f b s;refine QW rfl (by rfl) ?_;unfold JF;go_simp;exact Jw.next k g (by decide) (J.s0 d)
  ·rw[g 1 (by decide)]at d;cases d
  ·clear f b s;refine QW rfl (by rfl) ?_;unfold JF;go_simp;refine(EB _ _ _).mono ?_;rintro e w2 ⟨rfl,rfl⟩;exact Jw.next k g (by decide) (J.s2 d)
  ·have t:=Option.some.inj (show some _=some o from f);subst t;have D:=b { on:=0,ground:=.data } (by simp) rfl;have z:=b { on:=2,ground:=.data } (by simp) rfl;clear f b s;obtain⟨m,P,c,rfl,F,v,G,A⟩:=J.s3 d D z;have aa:(Instr.mapUpdate 349 (.map (some m)) (.int .i64 1) u11).run prog w'=.ok () _:=NZ underlying349 underlying3 F v G _;refine QW rfl (by rfl) ?_;unfold JF;go_simp;exact Jw.next k g (by decide) A
  ·rw[g 4 (by decide)]at d;cases d
  ·clear f b s;refine QW rfl (by rfl) ?_;unfold JF;go_simp;refine(EB _ _ _).mono ?_;rintro e w2 ⟨rfl,rfl⟩;exact Jw.next k g (by decide) (J.s5 d)
  ·have t:=Option.some.inj (show some _=some o from f);subst t;have D:=b { on:=0,ground:=.data } (by simp) rfl;have z:=b { on:=5,ground:=.data } (by simp) rfl;clear f b s;obtain⟨m,P,c,rfl,F,v,G,A⟩:=J.s6 d D z;have aa:(Instr.mapUpdate 349 (.map (some m)) (.int .i64 2) u13).run prog w'=.ok () _:=NZ underlying349 underlying3 F v G _;refine QW rfl (by rfl) ?_;unfold JF;go_simp;exact Jw.next k g (by decide) A
  ·rw[g 7 (by decide)]at d;cases d
  ·have t:=Option.some.inj (show some _=some o from f);subst t;have D:=b { on:=0,ground:=.data } (by simp) rfl;clear f b s;obtain⟨m,P,c,rfl,F,v,G,A⟩:=J.s8 d D;have aa:(Instr.mapUpdate 349 (.map (some m)) (.int .i64 3) (YY w.heap.size)).run prog w'=.ok () _:=NZ underlying349 underlying3 F v G _;refine QW rfl (by rfl) ?_;unfold JF;go_simp;exact Jw.next k g (by decide) A
  ·have t:=Option.some.inj (show some _=some o from f);subst t;have i0:=b { on:=0,ground:=.data } (by simp) rfl;have i2:=b { on:=2,ground:=.data } (by simp) rfl;have i3:=b { on:=3,ground:=.data } (by simp) rfl;have i5:=b { on:=5,ground:=.data } (by simp) rfl;have i6:=b { on:=6,ground:=.data } (by simp) rfl;have i8:=b { on:=8,ground:=.data } (by simp) rfl;clear f b s;refine QW rfl (by rfl) ?_;unfold JF;go_simp;exact Jw.next k g (by decide) (J.s9 d i0 i3 i6 i8 i2 i5)
  ·have t:=Option.some.inj (show some _=some o from f);subst t;have i9:=b { on:=9,ground:=.data } (by simp) rfl;clear f b s;refine QW rfl (by rfl) ?_;unfold JF;go_simp;exact Jw.next k g (by decide) (J.s10 d i9)
end Go.Proofs.YtgnkjijocdmniaaGreatDoor
