import Derived.Test.YtgnkjijocdmniaaGreatDoorQNext
namespace Go.Proofs.YtgnkjijocdmniaaGreatDoor
set_option linter.unusedVariables false
set_option linter.unusedSimpArgs false
set_option maxRecDepth 100000
set_option maxHeartbeats 4000000
open Go.Proofs.Tryz
open Go.RowKit
attribute [local go_sem ↓] Go.wp_at_zero Go.wp_at_succ
def Xi(s:SS)(r:L8):L8×Nat:=
 if r.idxOf 125=r.length then([],0)
 else if r.idxOf 125=1/\QI (r.headD 0).toNat=true then(s.told.getD ((r.headD 0).toNat - 48) [],2)
 else if Z3 (r.take (r.idxOf 125))=true then((s.vals (zL (r.take (r.idxOf 125)))).getD [],r.idxOf 125+1)
 else([],0)
variable{α:Type}{P:(Nat->Prop)->α->World->Value->Prop}{R:Qb ((Nat×Bool)×PS)}{X:Nat->Prop}{base k n pos tag tb what:Nat}{chk:L8->Nat}{e:TypeId}{l x:L8}{nv u v:Value}{oct:Bool}{r:Qb (α×PS)}{s:PS}{w w':World}{xs:List α}{zs:Qa}
theorem DS:∀(r:L8),r.idxOf 125≠r.length->∃ w rest,r=w++125::rest/\(125:UInt8) ∉ w/\w.length=r.idxOf 125
 | [],h=>absurd rfl h
 |c::r,h=>by
  by_cases hc:c=125
  ·subst hc;exact⟨[],r,rfl,by simp,by simp⟩
  ·have f:(c==125)=false:=by simpa using hc
   have e:(c::r).idxOf 125=r.idxOf 125+1:=by rw[List.idxOf_cons,f];simp
   obtain⟨w,rest,a,b,d⟩:=DS r (by rw[e]at h;simp at h;exact h);refine⟨c::w,rest,by rw[a];rfl,?_,by rw[e,<-d];rfl⟩;intro g;rcases List.mem_cons.1 g with h|h
   ·exact hc h.symm
   ·exact b h
theorem ST{r:L8}(h:r.idxOf 125=r.length):(125:UInt8) ∉ r:=fun hm=>by
 have:=List.idxOf_lt_length_of_mem hm;omega
theorem Dp(a:L8):∀ w:L8,Za (w++125::a)=Za w
 | []=>by rw[List.nil_append,VJ];rfl
 |c::w=>by
  rw[List.cons_append,VJ,VJ,Dp a w]
theorem Tx(a:L8)(w:L8):nmLen (w++125::a)=nmLen w:=by
 match w with
 | []=>rfl
 |c::w=>
  show(if QI c.toNat then 1 else nameLen (c::(w++125::a)))=(if QI c.toNat then 1 else nameLen (c::w))
  by_cases hd:QI c.toNat=true
  ·rw[if_pos hd,if_pos hd]
  ·rw[if_neg hd,if_neg hd];show(if QL c.toNat then 1+Za (w++125::a)else 0)=(if QL c.toNat then 1+Za w else 0)
   rw[Dp]
theorem Wh(w:L8):nmLen w<=w.length:=by
 match w with
 | []=>exact Nat.le_refl _
 |c::w=>
  show(if QI c.toNat then 1 else nameLen (c::w))<=_
  split
  ·simp
  ·exact Uu (c::w)
theorem Wm{r:L8}(h:r.take 1=[125]):(125:UInt8)∈r:=by
 match r,h with
 |c::r,h=>
  have:c=125:=by simpa using h
  subst this;simp
theorem TA{r:L8}(h:(125:UInt8) ∉ r):Z5 (36::123::r)=0:=by
 unfold Z5;rw[if_neg];rintro⟨_,a⟩;exact h (List.mem_of_mem_drop (Wm a))
theorem Wy{w a:L8}(h:(125:UInt8) ∉ w):Z5 (36::123::(w++125::a))=if nmLen w=w.length then w.length else 0:=by
 have f:(36::123::(w++125::a)).drop 2=w++125::a:=rfl;have g:(36::123::(w++125::a)).take 2=[36,123]:=rfl;unfold Z5;simp only[f,g,Tx,true_and];by_cases he:nmLen w=w.length
 ·rw[if_pos he,he,if_pos (by simp)]
 ·rw[if_neg he,if_neg];intro b;have j:nmLen w<w.length:=by have:=Wh w;omega
  rw[List.drop_append_of_le_length (by omega)]at b
  obtain⟨c,d,e⟩:∃ c d,w.drop (nmLen w)=c::d:=by
   match hx:w.drop (nmLen w)with
   | []=>have:=congrArg List.length hx;simp at this;omega
   |c::d=>exact⟨c,d,rfl⟩
  rw[e]at b;have i:c=125:=by simpa using b
  apply h;have:c∈w.drop (nmLen w):=by rw[e];simp
  rw[<-i];exact List.mem_of_mem_drop this
theorem A0{w:L8}:(Z3 w=true)↔(w≠[]/\nameLen w=w.length):=by
 unfold Z3;cases w<;>simp
theorem Rd{c:Int}(h:QI c=true):QL c=false:=by
 unfold QI at h;unfold QL XT;simp at h ⊢;omega
theorem held_or(s:SS)(r:L8):(Xi s r=([],0)/\Z5 (36::123::r)=0)\/∃ k,0<k/\Z5 (36::123::r)=k/\Xi s r=(UK s (r.take k),k+1):=by
 by_cases hn:r.idxOf 125=r.length
 ·left;exact⟨by unfold Xi;rw[if_pos hn],TA (ST hn)⟩
 ·obtain⟨w,p,f,i,g⟩:=DS r hn;have d:r.take w.length=w:=by rw[f];simp
  have a:Z5 (36::123::r)=if nmLen w=w.length then w.length else 0:=by rw[f];exact Wy i
  have b:Xi s r=if w.length=1/\QI (r.headD 0).toNat=true then(s.told.getD ((r.headD 0).toNat - 48) [],2)else if Z3 w=true then((s.vals (zL w)).getD [],w.length+1)else([],0):=by
   unfold Xi;rw[if_neg hn,<-g,d]
  match w,f,i,g,d,a,b with
  | [],f,i,g,d,a,b=>
   left;exact⟨by rw[b,if_neg (by simp),if_neg (by decide)],by rw[a];rfl⟩
  |c::v,f,i,g,d,a,b=>
   have o:r.headD 0=c:=by rw[f];rfl
   rw[o]at b;by_cases hd:QI c.toNat=true
   ·have j:nmLen (c::v)=1:=by show(if QI c.toNat then 1 else _)=1;rw[if_pos hd]
    rw[j]at a;by_cases h1:(c::v).length=1
    ·right;refine⟨1,by omega,by rw[a,h1,if_pos rfl],?_⟩;rw[b,if_pos ⟨h1,hd⟩];rw[h1]at d;rw[d];exact Prod.ext (if_pos hd).symm rfl
    ·left;refine⟨?_,by rw[a,if_neg (fun e=>h1 e.symm)]⟩;rw[b,if_neg (fun e=>h1 e.1),if_neg];intro l;have m:=(A0.1 l).2;have n:nameLen (c::v)=0:=by show(if QL c.toNat then _ else 0)=0;rw[if_neg (by rw[Rd hd];decide)]
     rw[n]at m;simp at m
   ·have j:nmLen (c::v)=nameLen (c::v):=by show(if QI c.toNat then 1 else _)=_;rw[if_neg hd]
    rw[j]at a;by_cases he:nameLen (c::v)=(c::v).length
    ·right;refine⟨(c::v).length,by simp,by rw[a,if_pos he],?_⟩;rw[b,if_neg (fun e=>hd e.2),if_pos (A0.2 ⟨by simp,he⟩),d];exact Prod.ext (if_neg hd).symm rfl
    ·left;exact⟨by rw[b,if_neg (fun e=>hd e.2),if_neg (fun l=>he (A0.1 l).2)],by rw[a,if_neg he]⟩
theorem M3(s:SS)(r:L8):standL s (36::123::r)=if(Xi s r).2=0 then([36],1)else((Xi s r).1,2+(Xi s r).2):=by
 unfold standL;rcases held_or s r with⟨a,b⟩ | ⟨k,c,a,b⟩
 ·rw[a,b,if_pos rfl,if_pos rfl];rfl
 ·rw[a,b,if_neg (by omega),if_neg (by simp)];refine Prod.ext rfl ?_;show 3+k=2+(k+1)
  omega
theorem PV(tb:Nat)(l:L8)(f:Flt)(w:World)(h:Yr w tb l f) :
 Calls prog 108 #[.pointer (some ⟨tb,0,none⟩)] w fun e w'=>e=.returned (.tuple #[])/\∃ n,w'=w.drewN n:=by
 have a:=Qk h.1;have b:=Qr h.1;have c:=QN l;clear h;go_enter func108,ntmps108;go_wp2;refine wp_loop_rounds 1 ?_;rw[rounds_succ];go_wp2_with fail;go_quiet (fail);go_wp2;go_end0;exact⟨rfl,_,rfl⟩
theorem Pt(tb:Nat)(l:L8)(f:Flt)(w:World)(h:Yr w tb l f) :
 Calls prog 66 #[.pointer (some ⟨tb,0,none⟩)] w (Xf (.error f) tb l w):=by
 have H:=I h;have b:((f.err:Int) != 0)=true:=by have:=h.2;simp;omega
 clear h;go_enter func66,ntmps66;go_wp2_with fail;refine(PV tb l f w H.o).mono ?_;rintro e c ⟨rfl,n,rfl⟩;have a:(w.drewN n).cell? ⟨tb,2,none⟩=some (.int .i64 f.err):=Qi (w:=w.drewN n) H.o.1 2;go_wp2;go_end0;exact⟨rfl,(Mod.refl _ _).drewN,H.o⟩
def nextS(l:L8)(st:Qb PS):Qb PS:=
 match st with
 | .ok s=>nL l s.2
 | .error f=>.error f
theorem Z2(tb:Nat)(l:L8)(st:Qb PS)(w:World)(h:TSt w tb l st)(a:l.length<=600) :
 Calls prog 66 #[.pointer (some ⟨tb,0,none⟩)] w (Xf (nextS l st) tb l w):=by
 cases st with
 |ok s=>exact Dl tb l s.2 _ _ _ _ w h.qt a h.le
 |error f=>exact Pt tb l f w h
def failS(st:Qb PS)(f:Flt):Qb PS:=
 match st with
 | .ok _=>.error f
 | .error g=>.error g
theorem Yu(tb:Nat)(l:L8)(st:Qb PS)(f:Flt)(w:World)(h:TSt w tb l st)(c:l.length<=600)(b:f.err≠0) :
 Calls prog 70 #[.pointer (some ⟨tb,0,none⟩),.int .i64 f.err,.int .i64 f.pos] w (Xf (failS st f) tb l w):=by
 cases st with
 |ok s=>
  refine(KZ tb l s.2 0 _ _ _ _ f w h.qt c b).mono ?_;rintro e i ⟨rfl,d,a⟩;exact⟨rfl,d,a⟩
 |error g=>
  refine(Po tb l g _ _ w h).mono ?_;rintro e i ⟨rfl,rfl⟩;exact⟨rfl,Mod.refl _ _,h⟩
def O(l:L8)(st:Qb PS):Nat×L8×Nat×Nat:=
 match st with
 | .ok s=>(kQ s.1,sQ s.1,s.1.num,s.1.pos)
 | .error _=>(0,[],0,l.length)
def errS(st:Qb PS):Nat:=
 match st with
 | .ok _=>0
 | .error f=>f.err
theorem TSt.cells{st:Qb PS}(h:TSt w tb l st):w.cell? ⟨tb,2,none⟩=some (.int .i64 (errS st))/\w.cell? ⟨tb,4,none⟩=some (.int .u8 (O l st).1)/\w.cell? ⟨tb,5,none⟩=some (.string (sA (O l st).2.1))/\w.cell? ⟨tb,6,none⟩=some (.int .i64 (O l st).2.2.1)/\w.cell? ⟨tb,7,none⟩=some (.int .i64 (O l st).2.2.2):=by
 cases st with
 |ok s=>exact⟨Qi h.qt 2,Qi h.qt 4,Qi h.qt 5,Qi h.qt 6,Qi h.qt 7⟩
 |error f=>exact⟨Qi h.1 2,Qi h.1 4,Qi h.1 5,Qi h.1 6,Qi h.1 7⟩
theorem TSt.lt{w:World}{tb:Nat}{l:L8}{st:Qb PS}(h:TSt w tb l st):tb<w.heap.size:=by
 cases st with
 |ok s=>exact h.qt.lt
 |error f=>exact h.1.lt
theorem TSt.block{st:Qb PS}(h:TSt w tb l st)(a:w'.heap[tb]?=w.heap[tb]?):TSt w' tb l st:=by
 cases st with
 |ok s=>exact⟨by unfold QT;rw[a];exact h.qt,h.le,h.wd,h.sz,h.sp⟩
 |error f=>exact⟨by unfold QT;rw[a];exact h.1,h.2⟩
theorem TSt.below{st:Qb PS}(h:TSt w tb l st)(hb:Below w.heap.size w w'):TSt w' tb l st:=h.block (hb.block tb h.lt)
theorem TSt.err0{st:Qb PS}(h:TSt w tb l st):errS st=0↔∃ s,st=.ok s:=by
 cases st with
 |ok s=>exact⟨fun _=>⟨s,rfl⟩,fun _=>rfl⟩
 |error f=>exact⟨fun e=>absurd e h.2,fun⟨s,e⟩=>by cases e⟩
def RdQ(w:World)(rb tb:Nat)(nv:Value):Prop:=w.heap[rb]?=some (.cells #[.pointer (some ⟨tb,0,none⟩),nv] 140)
theorem RdQ.mod{rb:Nat}(h:RdQ w rb tb nv)(a:Mod tb w w')(b:rb≠tb):RdQ w' rb tb nv:=by
 unfold RdQ;rw[a.block rb (Qg h) b];exact h
def signS(l:L8)(c:Nat)(st:Qb PS):Qb PS:=if(O l st).1=c then nextS l st else failS st ⟨4,(O l st).2.2.2⟩
theorem YQ(rb tb:Nat)(nv:Value)(l:L8)(c:Nat)(st:Qb PS)(w:World)(i:RdQ w rb tb nv)(h:TSt w tb l st)(f:l.length<=600) :
 Calls prog 68 #[.pointer (some ⟨rb,0,none⟩),.int .u8 c] w (Xf (signS l c st) tb l w):=by
 have u:=Qk i;obtain⟨_,s,_,_,t⟩:=h.cells;have m:=I (Z2 tb l st w h f);have k:=I (Yu tb l st ⟨4,(O l st).2.2.2⟩ w.drew (h.block rfl) f (Nat.succ_ne_zero 3));clear h i;by_cases he:(O l st).1=c
 ·have b:Hid (signS l c st=nextS l st):=if_pos he;have q:(((O l st).1:Int) != (c:Int))=false:=by simp;omega
  rw[b.o];clear he;go_enter func68,ntmps68;go_wp2_with fail;refine m.o.mono ?_;rintro e r d;obtain⟨rfl,p⟩:=d;go_wp2;go_end0;exact⟨rfl,p⟩
 ·have b:Hid (signS l c st=failS st ⟨4,(O l st).2.2.2⟩):=if_neg he;have q:(((O l st).1:Int) != (c:Int))=true:=by simp;omega
  rw[b.o];clear he;go_enter func68,ntmps68;go_wp2_with fail;go_region_with (first|(go_at_call 70;refine k.o.mono ?_;rintro e r d;obtain⟨rfl,g,j⟩:=d;have a:=I g;have n:=I j;clear g j;skip))
  all_goals go_wp2
  all_goals go_end0
  all_goals exact⟨rfl,⟨a.o.os,a.o.tape,a.o.output,a.o.size,a.o.block⟩,n.o⟩
def UG(x:L8)(k:Nat):Prop:=k=0\/nameLen x=k+Za (x.drop k)
theorem L5(h:0<(sA x).size)(b:QL ((sA x)[0].toNat:Int)=true):UG x 1:=by
 right;have e:=ZC (a:=0) h;rw[List.drop_zero]at e;rw[e,nameLen,if_pos b];rfl
theorem CD(b:0<k)(h:k<(sA x).size)(hn:UG x k)(a:Q0 (sA x)[k]=true):UG x (k+1):=by
 rcases hn with hn|hn
 ·omega
 ·right;have:=BE h a;omega
theorem DG(h:0<(sA x).size)(c:QL ((sA x)[0].toNat:Int)=false):Z3 x=false:=by
 have e:=ZC (a:=0) h;rw[List.drop_zero]at e;have b:nameLen x=0:=by rw[e,nameLen,if_neg (by rw[c];decide)]
 have d:0<x.length:=h;unfold Z3;rw[b];have:((0:Nat)==x.length)=false:=by simp;omega
 rw[this,Bool.and_false]
theorem Rh(d:0<k)(h:k<(sA x).size)(hn:UG x k)(a:Q0 (sA x)[k]=false):Z3 x=false:=by
 rcases hn with hn|hn
 ·omega
 ·have b:=BJ h a;have c:k<x.length:=h;unfold Z3;have:(nameLen x==x.length)=false:=by simp;omega
  rw[this,Bool.and_false]
theorem O0(a:0<x.length)(hn:UG x x.length):Z3 x=true:=by
 rcases hn with hn|hn
 ·omega
 ·rw[BY Ql]at hn;unfold Z3;rw[hn]
  cases x with
  |nil=>simp at a
  |cons c r=>simp
theorem CH(x:L8)(w:World)(n:x.length<=140737488355328) :
 Calls prog 175 #[.string (sA x)] w fun e w'=>e=.returned (.bool (Z3 x))/\w'=w:=by
 have p:=QN x;go_enter func175,ntmps175;go_wp2
 go_loop [3] (fun i=>∃ k:Nat,k<=x.length/\i=.int .i64 k/\UG x k) (fun i=>x.length - (intOf i).toNat)
 case atStart=>exact⟨0,QE,rfl,Qd rfl⟩
 case round=>
  obtain⟨k,l,rfl,d⟩:=hrel;have b:=I d;clear d;by_cases hlt:k<(sA x).size
  ·have f:(k:Int)<(x.length:Int):=by omega
   cases hL:QL ((sA x)[k].toNat:Int)
   ·cases hD:QI ((sA x)[k].toNat:Int)
    ·have a:Hid (Z3 x=false):=by
      rcases Nat.eq_zero_or_pos k with rfl|h
      ·exact DG hlt hL
      ·exact Rh h hlt b.o (by unfold Q0;rw[hL,hD];rfl)
     go_wp2_with (first|(go_at_call 109;refine(X6 _ _).mono ?_;rintro e w' ⟨rfl,rfl⟩)|(go_at_call 110;refine(XR _ _).mono ?_;rintro e w' ⟨rfl,rfl⟩));go_ret;exact⟨QS a.o.symm,rfl⟩
    ·rcases Nat.eq_zero_or_pos k with rfl|h
     ·have a:=I (DG hlt hL);go_wp2_with (first|(go_at_call 109;refine(X6 _ _).mono ?_;rintro e w' ⟨rfl,rfl⟩)|(go_at_call 110;refine(XR _ _).mono ?_;rintro e w' ⟨rfl,rfl⟩));go_ret;exact⟨QS a.o.symm,rfl⟩
     ·have c:=I (CD h hlt b.o (by unfold Q0;rw[hL,hD];rfl));have m:((k:Int)==0)=false:=by simp;omega
      go_wp2_with (first|(go_at_call 109;refine(X6 _ _).mono ?_;rintro e w' ⟨rfl,rfl⟩)|(go_at_call 110;refine(XR _ _).mono ?_;rintro e w' ⟨rfl,rfl⟩));go_round
      case rel=>exact⟨k+1,by omega,by go_num,c.o⟩
      case measure=>simp[intOf];omega
   ·have c:Hid (UG x (k+1)):=by
     rcases Nat.eq_zero_or_pos k with rfl|h
     ·exact L5 hlt hL
     ·exact CD h hlt b.o (by unfold Q0;rw[hL];rfl)
    go_wp2_with (first|(go_at_call 109;refine(X6 _ _).mono ?_;rintro e w' ⟨rfl,rfl⟩)|(go_at_call 110;refine(XR _ _).mono ?_;rintro e w' ⟨rfl,rfl⟩));go_round
    case rel=>exact⟨k+1,by omega,by go_num,c.o⟩
    case measure=>simp[intOf];omega
  ·obtain rfl:k=x.length:=by omega
   have f:¬(x.length:Int)<(x.length:Int):=by omega
   by_cases h0:0<x.length
   ·have a:=I (O0 h0 b.o);have j:(0:Int)<(x.length:Int):=by omega
    go_wp2;go_ret;exact⟨QS (by rw[a.o]),rfl⟩
   ·have g:x=[]:=Xz (by omega);subst g;go_wp2;go_ret;exact⟨rfl,rfl⟩
theorem JL(a b:L8):((sA a).toList==(sA b).toList)=decide (a=b):=by
 rw[ByteArray.toList_eq,ByteArray.toList_eq];show(a==b)=decide (a=b)
 rw[Zo];simp
def TxL(w:World)(v:Value)(zs:Qa):Prop:=(zs=[]/\v=.slice none 0 0)\/∃ g c,v=.slice (some ⟨g,0,none⟩) zs.length c/\Zx w g zs
theorem TxL.form(h:TxL w v zs):∃ a c,v=.slice a zs.length c/\∀ j (b:j<zs.length),∃ g,a=some ⟨g,0,none⟩/\w.cell? ⟨g,j,none⟩=some (.string (sA zs[j])):=by
 rcases h with⟨rfl,rfl⟩ | ⟨g,c,rfl,d⟩
 ·exact⟨none,0,rfl,fun j b=>absurd b (Nat.not_lt_zero _)⟩
 ·refine⟨_,c,rfl,fun j b=>⟨g,rfl,?_⟩⟩;have:=d j b;rw[List.getD_eq_getElem?_getD,List.getElem?_eq_getElem b]at this;exact this
theorem X1(x:L8):∀ zs:Qa,0<wL zs x↔x∈zs
 | []=>by simp[wL]
 |z::r=>by
  have a:=X1 x r;unfold wL;by_cases h:z=x
  ·rw[if_pos h];simp[h]
  ·rw[if_neg h];by_cases h0:wL r x=0
   ·rw[if_pos h0];have:x ∉ r:=fun b=>by have:=a.2 b;omega
    simp[this];exact fun e=>h e.symm
   ·rw[if_neg h0];have:x∈r:=a.1 (by omega);simp[this]
theorem Aa(v:Value)(zs:Qa)(x:L8)(w:World)(h:TxL w v zs)(r:zs.length<=140737488355328) :
 Calls prog 55 #[v,.string (sA x)] w fun e w'=>e=.returned (.bool (decide (0<wL zs x)))/\w'=w:=by
 obtain⟨a,c,rfl,f⟩:=h.form;have l:=I f;clear f h;go_enter func55,ntmps55;go_wp2
 go_loop [5] (fun i=>∃ k:Nat,k<=zs.length/\i=.int .i64 k/\x ∉ zs.take k) (fun i=>zs.length - (intOf i).toNat)
 case atStart=>exact⟨0,QE,rfl,by simp⟩
 case round=>
  obtain⟨k,q,rfl,j⟩:=hrel;have d:=I j;clear j;by_cases hlt:k<zs.length
  ·have s:(k:Int)<(zs.length:Int):=by omega
   obtain⟨g,rfl,p⟩:=l.o k hlt;by_cases he:zs[k]=x
   ·have b:Hid (decide (0<wL zs x)=true):=Qw ((X1 x zs).2 (he ▸ List.getElem_mem hlt));rw[he]at p;have n:((sA x).toList==(sA x).toList)=true:=by rw[JL];simp
    clear he;go_wp2;go_ret;exact⟨QS b.o.symm,rfl⟩
   ·have n:((sA zs[k]).toList==(sA x).toList)=false:=by rw[JL];simp[he]
    have m:Hid (x ∉ zs.take (k+1)):=by
     show _ ∉ _
     rw[List.take_succ_eq_append_getElem hlt];intro hm;rcases List.mem_append.1 hm with hm|hm
     ·exact d.o hm
     ·exact he (XH hm).symm
    clear he;go_wp2;go_round
    case rel=>exact⟨k+1,by omega,by go_num,m.o⟩
    case measure=>simp[intOf];omega
  ·obtain rfl:k=zs.length:=by omega
   have b:Hid (decide (0<wL zs x)=false):=Qh (fun h=>d.o (by rw[List.take_length];exact(X1 x zs).1 h));go_wp2;go_ret;exact⟨QS b.o.symm,rfl⟩
def Qz(what:Nat)(x:L8):Nat:=
 if what=1 then(if 0<wL [QX,ZB,ZD,Xc] x then 0 else 6)
 else if what=2 then(if 0<wL [Xd,YP] x then 0 else 7)
 else if what=3 then(if 0<wL [YV,kTo] (zL x)then 0 else 7)
 else if what=4 then(if Z3 x then 0 else 7)
 else 0
def Vy:Qa:=[QX,ZB,ZD,Xc]
theorem Ep(w:World):Calls prog 213 #[] w fun e w'=>e=.returned (.slice (some ⟨w.heap.size,0,none⟩) 4 4)/\w'=w.alloc (.cells (Qv Vy).toArray 9):=by
 go_enter func213,ntmps213;go_wp2;go_ret;exact⟨rfl,rfl⟩
theorem PC(what:Nat)(x:L8)(w:World)(l:what<=4)(j:x.length<=140737488355328) :
 Calls prog 170 #[.string (sA x),.int .i64 what] w fun e w'=>e=.returned (.int .i64 (Qz what x))/\Below w.heap.size w w':=by
 have k:what=0\/what=1\/what=2\/what=3\/what=4:=by omega
 rcases k with rfl|rfl|rfl|rfl|rfl
 ·go_enter func170,ntmps170;go_wp2;go_ret;exact⟨rfl,Below.refl _ _⟩
 ·have g:=I (Aa (.slice (some ⟨w.heap.size,0,none⟩) 4 4) Vy x (w.alloc (.cells (Qv Vy).toArray 9)) (Qc ⟨_,4,rfl,X8 w Vy _ _ rfl⟩) (by decide));have a:Hid (Qz 1 x=if 0<wL Vy x then 0 else 6):=rfl;by_cases hn:0<wL Vy x
  ·rw[if_pos hn]at a;rw[Qw hn]at g;clear hn;go_enter func170,ntmps170;go_wp2_with (first|(go_at_call 213;refine(Ep _).mono ?_;rintro e w' ⟨rfl,rfl⟩)|(go_at_call 55;refine g.o.mono ?_;rintro e w' ⟨rfl,rfl⟩));go_ret;exact⟨by rw[a.o];rfl,Qp _⟩
  ·rw[if_neg hn]at a;rw[Qh hn]at g;clear hn;go_enter func170,ntmps170;go_wp2_with (first|(go_at_call 213;refine(Ep _).mono ?_;rintro e w' ⟨rfl,rfl⟩)|(go_at_call 55;refine g.o.mono ?_;rintro e w' ⟨rfl,rfl⟩));go_ret;exact⟨by rw[a.o];rfl,Qp _⟩
 ·have a:Hid (Qz 2 x=if 0<wL [Xd,YP] x then 0 else 7):=rfl;have d:((sA x).toList==[105,59,111,99,116,101,116])=decide (x=Xd):=by rw[ByteArray.toList_eq];show(x==Xd)=_;rw[Zo];simp
  have c:((sA x).toList==[105,59,97,115,99,105,105,45,99,97,115,101,109,97,112])=decide (x=YP):=by rw[ByteArray.toList_eq];show(x==YP)=_;rw[Zo];simp
  have b:=I (X1 x [Xd,YP]);by_cases e1:x=Xd
  ·rw[if_pos (b.o.2 (by rw[e1];simp))]at a;rw[Qw e1]at d;clear e1 c;go_enter func170,ntmps170;go_wp2;go_ret;exact⟨by rw[a.o];rfl,Below.refl _ _⟩
  rw[Qh e1]at d;by_cases e2:x=YP
  ·rw[if_pos (b.o.2 (by rw[e2];simp))]at a;rw[Qw e2]at c;clear e1 e2;go_enter func170,ntmps170;go_wp2;go_ret;exact⟨by rw[a.o];rfl,Below.refl _ _⟩
  rw[Qh e2]at c;rw[if_neg (fun h=>by have:=b.o.1 h;simp[e1,e2]at this)]at a;clear e1 e2;go_enter func170,ntmps170;go_wp2;go_ret;exact⟨by rw[a.o];rfl,Below.refl _ _⟩
 ·have a:Hid (Qz 3 x=if 0<wL [YV,kTo] (zL x)then 0 else 7):=rfl;have i:=I (fun W=>Yv x W j);generalize zL x=y at *;have d:((sA y).toList==[102,114,111,109])=decide (y=YV):=by rw[ByteArray.toList_eq];show(y==YV)=_;rw[Zo];simp
  have c:((sA y).toList==[116,111])=decide (y=kTo):=by rw[ByteArray.toList_eq];show(y==kTo)=_;rw[Zo];simp
  have b:=I (X1 y [YV,kTo]);by_cases e1:y=YV
  ·rw[if_pos (b.o.2 (by rw[e1];simp))]at a;rw[Qw e1]at d;clear e1 c;go_enter func170,ntmps170;go_wp2_with (go_at_call 80;refine(i.o _).mono ?_;rintro e w' ⟨rfl,f⟩);go_ret;exact⟨by rw[a.o];rfl,f⟩
  rw[Qh e1]at d;by_cases e2:y=kTo
  ·rw[if_pos (b.o.2 (by rw[e2];simp))]at a;rw[Qw e2]at c;clear e1 e2;go_enter func170,ntmps170;go_wp2_with (go_at_call 80;refine(i.o _).mono ?_;rintro e w' ⟨rfl,f⟩);go_ret;exact⟨by rw[a.o];rfl,f⟩
  rw[Qh e2]at c;rw[if_neg (fun h=>by have:=b.o.1 h;simp[e1,e2]at this)]at a;clear e1 e2;go_enter func170,ntmps170;go_wp2_with (go_at_call 80;refine(i.o _).mono ?_;rintro e w' ⟨rfl,f⟩);go_ret;exact⟨by rw[a.o];rfl,f⟩
 ·cases hn:Z3 x
  all_goals
   have a:Hid (Qz 4 x=if Z3 x then 0 else 7):=rfl;rw[hn]at a;go_enter func170,ntmps170;go_wp2_with (go_at_call 175;refine(CH x _ j).mono ?_;rintro e w' ⟨rfl,rfl⟩);go_ret;exact⟨by rw[a.o];rfl,Below.refl _ _⟩
def lookQ:Qa->Qa->L8->Option (L8)
 |n::ns,v::vl,x=>if n=x then some v else lookQ ns vl x
 |_,_,_=>none
structure Uj (w:World) (sb:Nat) (s:SS) (nv vv cv:Value) (ns vl:Qa):Prop where
 c4:w.cell? ⟨sb,4,none⟩=some (.bool s.vs)
 c5:w.cell? ⟨sb,5,none⟩=some nv
 c6:w.cell? ⟨sb,6,none⟩=some vv
 c7:w.cell? ⟨sb,7,none⟩=some cv
 n:TxL w nv ns
 v:TxL w vv vl
 c:TxL w cv (s.told.take 10)
 l:ns.length=vl.length
 nl:ns.length<=140737488355328
 vals:∀ x,s.vals x=lookQ ns vl x
theorem TxL.belowV(h:TxL w v zs)(e:Below w.heap.size w w'):TxL w' v zs:=by
 rcases h with h | ⟨g,c,d,a⟩
 ·exact Qd h
 ·exact Qc ⟨g,c,d,fun j b=>by rw[e.cell (p:=⟨g,j,none⟩) (Qq (a j b))];exact a j b⟩
theorem Uj.below{sb:Nat}{s:SS}{g d:Value}{e f:Qa}(h:Uj w sb s nv g d e f)(a:Below w.heap.size w w'):Uj w' sb s nv g d e f:=by
 have i:=Qq h.c4;have b:∀ j,w'.cell? ⟨sb,j,none⟩=w.cell? ⟨sb,j,none⟩:=fun j=>a.cell (p:=⟨sb,j,none⟩) i
 exact⟨by rw[b];exact h.c4,by rw[b];exact h.c5,by rw[b];exact h.c6,by rw[b];exact h.c7,h.n.belowV a,h.v.belowV a,h.c.belowV a,h.l,h.nl,h.vals⟩
theorem EP(r:L8)(k:Nat)(hk:k<(sA r).size)(hk':k<r.length):(sA r)[k]'hk=r[k]'hk':=by simp[sA,ByteArray.getElem_eq_getElem_data]
theorem OJ{r:L8}(h:k<r.idxOf 125)(hk:k<(sA r).size):¬(sA r)[k]'hk=125:=by
 have a:k<r.length:=hk;rw[EP r k hk a];intro e;have:=List.not_of_lt_findIdx (p:=(· == (125:UInt8))) (xs:=r) (i:=k) h;simp[e]at this
theorem Sb{r:L8}(h:r.idxOf 125<r.length)(hk:r.idxOf 125<(sA r).size):(sA r)[r.idxOf 125]'hk=125:=(EP r _ hk h).trans (List.getElem_idxOf h)
theorem Pm(sb:Nat)(s:SS)(nv vv cv:Value)(b f:Qa)(r:L8)(w:World)(h:Uj w sb s nv vv cv b f)(hr:r.length<=140737488355328) :
 Calls prog 117 #[.pointer (some ⟨sb,0,none⟩),.string (sA r)] w fun e w'=>e=.returned (.tuple #[.string (sA (Xi s r).1),.int .i64 (Xi s r).2])/\Below w.heap.size w w':=by
 have hz:=QN r;have H:=I h;have aG:r.idxOf 125<=r.length:=List.idxOf_le_length;obtain⟨n,u⟩:=Qe (r.idxOf 125)
 have i:Hid (∀ k,k<n->∀ hk:k<(sA r).size,(((sA r)[k]'hk).toNat:Int) != 125):=by
  intro k hk aH;have:=OJ (r:=r) (by rw[u];exact hk) aH;rw[bne,show(((sA r)[k].toNat:Int)==125)=decide ((sA r)[k]=125)from Km _ 125];rw[Qh this];rfl
 have HC:Hid (∀ hk:n<(sA r).size,((sA r)[n]'hk)=125):=by
  intro hk;have:=Sb (r:=r) (by rw[u];exact hk) (by rw[u];exact hk);simp only[u]at this;exact this
 rw[u]at aG;have HN:=I u;clear h u;go_enter func117,ntmps117;go_upto_block 0 with fail
 go_cut [6] (fun nv wx=>nv=.int .i64 n/\wx=w)
 case first=>
  go_wp2_with fail
  go_loopg [6] n (fun m nv wr=>∃ k:Nat,m=n - k/\k<=n/\nv=.int .i64 k/\wr=w)
  case atStart=>exact⟨0,by omega,by omega,rfl,rfl⟩
  case round=>
   obtain⟨k,rfl,hk,rfl,rfl⟩:=hrel;by_cases hlt:k<n
   ·have hb:=i.o k hlt;have C:(k:Int)<(r.length:Int):=by omega
    go_wp2;go_roundg (n - (k+1))
    case measure=>omega
    case rel=>exact⟨k+1,rfl,by omega,by go_num,rfl⟩
   ·have aa:k=n:=by omega
    subst aa;by_cases hl:k<(sA r).size
    ·have A:=HC.o hl;have C:(k:Int)<(r.length:Int):=by omega
     go_wp2;go_meet;exact⟨rfl,rfl⟩
    ·have C:¬(k:Int)<(r.length:Int):=by omega
     go_wp2;go_meet;exact⟨rfl,rfl⟩
 case rest=>
  obtain⟨rfl,rfl⟩:=hcut
  have d:Hid (Xi s r=if n=r.length then([],0)else if n=1/\QI (r.headD 0).toNat=true then(s.told.getD ((r.headD 0).toNat - 48) [],2)else if Z3 (r.take n)=true then((s.vals (zL (r.take n))).getD [],n+1)else([],0)):=by
   show _=_
   unfold Xi;rw[HN.o]
  by_cases he:n=r.length
  ·have q:Hid (Xi s r=([],0)):=by show _=_;rw[d.o,if_pos he]
   have aE:((n:Int)==(r.length:Int))=true:=by simp;omega
   clear d he;go_wp2;refine bodyPost_ret (v:=.tuple #[.string ⟨#[]⟩,.int .i64 0]) (by simp[results,results117,go_sem]) rfl ?_;exact⟨by rw[q.o];rfl,Below.refl _ _⟩
  ·have aE:((n:Int)==(r.length:Int))=false:=by simp;omega
   have aJ:n<r.length:=by omega
   have aF:(sA r).extract 0 n=sA (r.take n):=by rw[Jn];simp
   have ab:(r.take n).length=n:=by rw[List.length_take];omega
   have av:=QN (r.take n);rw[if_neg he]at d;obtain⟨y,G⟩:=Qe (r.take n);rw[G]at aF ab av d
   have J:Hid (n=1->∃ c,y=[c]/\r.headD 0=c):=by
    intro j;subst j
    match r,aJ,G with
    |c::r',_,G=>exact⟨c,by rw[<-G];simp,rfl⟩
   have E:=I (fun W=>CH y W (by omega));have Q:=I (fun W=>Yv y W (by omega));have ac:=I H.o.vals;clear he G HN i HC;have aR:(0:Int)<=(n:Int):=by omega
   by_cases hd:n=1/\QI (r.headD 0).toNat=true
   ·obtain⟨c,rfl,A⟩:=J.o hd.1;rw[if_pos hd,A]at d;have B:QI (c.toNat:Int)=true:=by rw[<-A];exact hd.2
    obtain⟨rfl,_⟩:=hd;have ae:∀ h:0<(sA [c]).size,(sA [c])[0]'h=c:=fun _=>rfl
    have aD:48<=(c.toNat:Int)/\(c.toNat:Int)<=57:=by unfold QI at B;simp at B;omega
    obtain⟨aO,aP⟩:=aD;have aL:(s.told.take 10).length<=10:=by rw[List.length_take];omega
    have U:=H.o.c;have ai:∀ m,m<10->s.told.getD m []=(s.told.take 10).getD m []:=fun m hm=>by rw[List.getD_eq_getElem?_getD,List.getD_eq_getElem?_getD,List.getElem?_take_of_lt hm]
    obtain⟨T,S⟩:=Qe (s.told.take 10);rw[S]at U aL;obtain⟨a,cc,aC,aB⟩:=U.form;have c7:=H.o.c7;rw[aC]at c7;have z:=I (XR (c.toNat:Int));rw[B]at z;obtain⟨m,hm⟩:∃ m:Nat,(c.toNat:Int) - 48=m:=⟨c.toNat - 48,by omega⟩;have aI:c.toNat - 48=m:=by omega
    rw[aI,ai m (by omega),S]at d;clear J E Q ac A B ai S U;by_cases hmt:m<T.length
    ·obtain⟨g,rfl,hg⟩:=aB m hmt;have Z:T.getD m []=T[m]:=by rw[List.getD_eq_getElem?_getD,List.getElem?_eq_getElem hmt];rfl
     rw[Z]at d;have C:(m:Int)<(T.length:Int):=by omega
     generalize T[m]=t at *;go_wp2_with (go_at_call 110;refine(z.o _).mono ?_;rintro e w' ⟨rfl,rfl⟩);refine bodyPost_ret (v:=.tuple #[.string (sA t),.int .i64 2]) (by simp[results,results117,go_sem]) rfl ?_;exact⟨by rw[d.o];rfl,Below.refl _ _⟩
    ·have Z:T.getD m []=[]:=by rw[List.getD_eq_getElem?_getD,List.getElem?_eq_none (by omega)];rfl
     rw[Z]at d;have C:¬(m:Int)<(T.length:Int):=by omega
     go_wp2_with (go_at_call 110;refine(z.o _).mono ?_;rintro e w' ⟨rfl,rfl⟩);refine bodyPost_ret (v:=.tuple #[.string ⟨#[]⟩,.int .i64 2]) (by simp[results,results117,go_sem]) rfl ?_;exact⟨by rw[d.o];rfl,Below.refl _ _⟩
   ·rw[if_neg hd]at d
    have ag:(((n:Int)==1)=false)\/(((n:Int)==1)=true/\∃ c:UInt8,(∀ h:0<(sA y).size,(sA y)[0]'h=c)/\QI (c.toNat:Int)=false/\0<(sA y).size):=by
     by_cases j:n=1
     ·right;obtain⟨c,aM,A⟩:=J.o j;refine⟨by simp;omega,c,by subst aM;exact fun _=>rfl,?_,by rw[av,ab];omega⟩
      cases M:QI (c.toNat:Int)with
      |false=>rfl
      |true=>exact absurd ⟨j,by rw[A];exact M⟩ hd
     ·left;simp;omega
    have z:=I (fun c W=>XR c W);have aS:=H.o.nl;have aj:=H.o.l;have az:=I aj;clear J hd aj;have HI:=H;obtain⟨a1,e1,ap,af⟩:=H.o.n.form;obtain⟨a2,e2,au,ah⟩:=H.o.v.form;have R:=H.o.c5;have c6:=H.o.c6;rw[ap]at R;rw[au]at c6;have aq:=Qq R;have ax:=I af;have ay:=I ah;clear af ah ap au
    cases hnm:Z3 y with
    |false=>
     rw[hnm]at E;have q:Hid (Xi s r=([],0)):=by show _=_;rw[d.o,if_neg (by rw[hnm];decide)]
     clear hnm d;rcases ag with j | ⟨j,c,ae,B,aN⟩
     all_goals go_wp2_with (first|(go_at_call 110;refine(z.o _ _).mono ?_;rintro e w' ⟨rfl,rfl⟩)|(go_at_call 175;refine(E.o _).mono ?_;rintro e w' ⟨rfl,rfl⟩))
     all_goals refine bodyPost_ret (v:=.tuple #[.string ⟨#[]⟩,.int .i64 0]) (by simp[results,results117,go_sem]) rfl ?_
     all_goals exact⟨by rw[q.o];rfl,Below.refl _ _⟩
    |true=>
     rw[hnm]at E;have q:Hid (Xi s r=((lookQ b f (zL y)).getD [],n+1)):=by show _=_;rw[d.o,if_pos hnm,ac.o]
     have aK:(zL y).length=n:=by rw[<-ab];simp[zL]
     clear hnm d;obtain⟨x,M⟩:=Qe (zL y);rw[M]at Q q aK;have aT:=QN x;clear M;have aA:∃ V,V=wc:=⟨_,rfl⟩;obtain⟨V,hV⟩:=aA;have HV:=I hV;clear hV;rcases ag with j | ⟨j,c,ae,B,aN⟩
     all_goals go_wp2_with (first|(go_at_call 110;refine(z.o _ _).mono ?_;rintro e w' ⟨rfl,F⟩;rw[F];clear F)|(go_at_call 175;refine(E.o _).mono ?_;rintro e w' ⟨rfl,F⟩;rw[F];clear F)|(go_at_call 80;refine(Q.o _).mono ?_;rintro e w1 ⟨rfl,ad⟩;have aw:=I ad;clear ad))
     all_goals
      go_loopw [10] (fun iv wr=>∃ k:Nat,k<=b.length/\iv=.int .i64 k/\Below wc.heap.size wc wr/\lookQ b f x=lookQ (b.drop k) (f.drop k) x) (fun iv _=>b.length - (intOf iv).toNat)
      case atStart=>exact⟨0,by omega,rfl,aw.o,rfl⟩
      case round=>
       obtain⟨k,hk,rfl,L,hL⟩:=hrel;have i:=I L;have P:=I hL;have d5:wr.cell? ⟨sb,5,none⟩=some (.slice a1 b.length e1):=by rw[L.cell (p:=⟨sb,5,none⟩) aq];exact R
       have d6:wr.cell? ⟨sb,6,none⟩=some (.slice a2 f.length e2):=by rw[L.cell (p:=⟨sb,6,none⟩) aq];exact c6
       clear L hL;by_cases hlt:k<b.length
       ·have ak:k<f.length:=by have:=az.o;omega
        obtain⟨g1,rfl,X⟩:=ax.o k hlt;obtain⟨g2,rfl,Y⟩:=ay.o k ak;have b1:wr.cell? ⟨g1,k,none⟩=some (.string (sA b[k])):=by rw[i.o.cell (p:=⟨g1,k,none⟩) (Qq X)];exact X
        have b2:wr.cell? ⟨g2,k,none⟩=some (.string (sA f[k])):=by rw[i.o.cell (p:=⟨g2,k,none⟩) (Qq Y)];exact Y
        have K:Hid (lookQ (b.drop k) (f.drop k) x=if b[k]=x then some f[k]else lookQ (b.drop (k+1)) (f.drop (k+1)) x):=by
         show _=_
         rw[List.drop_eq_getElem_cons hlt,List.drop_eq_getElem_cons ak];rfl
        have C:(k:Int)<(b.length:Int):=by omega
        have aQ:(k:Int)<(f.length:Int):=by omega
        have hq:((sA b[k]).toList==(sA x).toList)=decide (b[k]=x):=JL _ _;obtain⟨nk,ao⟩:=Qe (b[k]);obtain⟨N,ar⟩:=Qe (f[k]);rw[ao]at b1 K hq;rw[ar]at b2 K;clear X Y ao ar;by_cases he:nk=x
        ·rw[Qw he]at hq;have D:Hid (Xi s r=(N,n+1)):=by show _=_;rw[q.o,P.o,K.o,if_pos he];rfl
         clear he;go_wp2;refine bodyPost_ret (v:=.tuple #[.string (sA N),.int .i64 (n+1:Nat)]) (by simp[results,results117,go_sem]) rfl ?_;exact⟨by rw[D.o],i.o⟩
        ·rw[Qh he]at hq;have D:Hid (lookQ b f x=lookQ (b.drop (k+1)) (f.drop (k+1)) x):=by show _=_;rw[P.o,K.o,if_neg he]
         clear he;go_wp2;exact⟨⟨k+1,by omega,by go_num,i.o,D.o⟩,by simp[intOf];omega⟩
       ·have aa:k=b.length:=by omega
        subst aa;have C:¬(b.length:Int)<(b.length:Int):=by omega
        have D:Hid (Xi s r=([],n+1)):=by show _=_;rw[q.o,P.o,Zb Ql];rfl
        go_wp2;refine bodyPost_ret (v:=.tuple #[.string ⟨#[]⟩,.int .i64 (n+1:Nat)]) (by simp[results,results117,go_sem]) rfl ?_;exact⟨by rw[D.o];rfl,i.o⟩
def fullF(s:SS):Nat->L8->L8
 |0,_=>[]
 |n+1,l=>if l=[]then []else(standL s l).1++fullF s n (l.drop (standL s l).2)
theorem An(s:SS)(l:L8):1<=(standL s l).2:=by
 unfold standL;split
 ·exact Nat.le_refl _
 ·show 1<=3+Z5 l;omega
theorem DH(s:SS):∀(n m:Nat) (l:L8),l.length<n->l.length<m->fullF s n l=fullF s m l
 |0,_,l,h,_=>absurd h (Nat.not_lt_zero _)
 |_,0,l,_,h=>absurd h (Nat.not_lt_zero _)
 |n+1,m+1,l,h1,h2=>by
  rw[fullF,fullF];by_cases hl:l=[]
  ·rw[if_pos hl,if_pos hl]
  ·rw[if_neg hl,if_neg hl];have c:=An s l;have b:=List.length_pos_iff.2 hl;have a:(l.drop (standL s l).2).length<l.length:=by rw[List.length_drop];omega
   rw[DH s n m _ (by omega) (by omega)]
def fullL(s:SS)(l:L8):L8:=fullF s (l.length+1) l
theorem St(s:SS):fullL s []=[]:=rfl
theorem P4(s:SS)(a:l≠[]):fullL s l=(standL s l).1++fullL s (l.drop (standL s l).2):=by
 unfold fullL;rw[fullF,if_neg a];have d:=An s l;have c:=List.length_pos_iff.2 a;have b:(l.drop (standL s l).2).length<l.length:=by rw[List.length_drop];omega
 rw[DH s l.length _ _ b (Nat.lt_succ_self _)]
theorem Ec(s:SS):∀(n:Nat) (l acc:L8),l.length<n->acc.length<=1024->Yq s n l acc=(acc++fullF s n l).take 1024
 |0,l,acc,h,_=>absurd h (Nat.not_lt_zero _)
 |n+1,l,acc,h,ha=>by
  rw[Yq,fullF];by_cases hl:l=[]
  ·rw[if_neg (fun e=>e.1 hl),if_pos hl,List.append_nil,List.take_of_length_le ha]
  ·rw[if_neg hl];by_cases hc:acc.length<1024
   ·rw[if_pos ⟨hl,hc⟩];have g:=An s l;have f:=List.length_pos_iff.2 hl;have c:(l.drop (standL s l).2).length<n:=by rw[List.length_drop];omega
    rw[Ec s n _ _ c (by rw[Ze,List.length_take];omega)];generalize fullF s n (l.drop (standL s l).2)=F;generalize (standL s l).1=t;by_cases ht:t.length<=1024 - acc.length
    ·rw[List.take_of_length_le ht,List.append_assoc]
    ·have d:(acc++t.take (1024 - acc.length)).length=1024:=by rw[Ze,List.length_take];omega
     have a:(acc++t.take (1024 - acc.length)++F).take 1024=acc++t.take (1024 - acc.length):=by
      rw[List.take_append_of_le_length (by omega),List.take_of_length_le (by omega)]
     have b:(acc++(t++F)).take 1024=acc++t.take (1024 - acc.length):=by rw[List.take_append,List.take_of_length_le (show acc.length<=1024 from ha),List.take_append_of_le_length (by omega)]
     rw[a];exact b.symm
   ·rw[if_neg (fun e=>hc e.2),List.take_append_of_le_length (by omega),List.take_of_length_le ha]
theorem EY(s:SS)(l:L8)(h:s.vs=true):expL s l=(fullL s l).take 1024:=by
 unfold expL;rw[if_pos h,Ec s _ l [] (Nat.lt_succ_self _) (by simp)];rfl
theorem Rc(s:SS)(h:¬ l.take 2=[36,123]):standL s l=(l.take 1,1):=by
 have a:Z5 l=0:=if_neg (fun e=>h e.1);unfold standL;rw[if_pos a]
def bindS{α:Type}(st:Qb PS)(k:PS->Qb α):Qb α:=
 match st with
 | .ok s=>k s
 | .error f=>.error f
def QY{α:Type}(r:Qb (α×PS))(tb:Nat)(l:L8)(w:World)(val:α->World->Value->Prop)(any:World->Value->Prop)(e:Ending)(w':World):Prop:=
 Mod tb w w'/\∃ v,e=.returned v/\any w' v/\
 match r with
 | .ok y=>val y.1 w' v/\Xr w' tb l y.2
 | .error f=>Yr w' tb l f
def stOf{α:Type}(r:Qb (α×PS)):Qb PS:=
 match r with
 | .ok y=>.ok y.2
 | .error f=>.error f
theorem QY.st{g:α->World->Value->Prop}{b:World->Value->Prop}{e:Ending}(h:QY r tb l w g b e w'):Mod tb w w'/\TSt w' tb l (stOf r)/\∃ v,e=.returned v/\b w' v/\∀ y,r=.ok y->g y.1 w' v:=by
 obtain⟨d,v,he,c,h⟩:=h
 cases r with
 |ok y=>exact⟨d,h.2,v,he,c,fun z a=>by cases a;exact h.1⟩
 |error f=>exact⟨d,h,v,he,c,fun z a=>by cases a⟩
theorem QY.mk{c:α->World->Value->Prop}{a:World->Value->Prop}(e:Mod tb w w')(b:TSt w' tb l (stOf r))(d:a w' v)(g:∀ y,r=.ok y->c y.1 w' v):QY r tb l w c a (.returned v) w':=by
 refine⟨e,v,rfl,d,?_⟩
 cases r with
 |ok y=>exact⟨g y rfl,b⟩
 |error f=>exact b
def Fd(x:L8)(_:World)(v:Value):Prop:=v=.string (sA x)
def TC(_:World)(v:Value):Prop:=∃ x:L8,v=.string (sA x)/\x.length<=600
theorem Wv(b:s.1.kind=5)(a:Qz what s.1.said=0):stOf (sL l (Qz what) s)=nL l s.2/\∀ y,sL l (Qz what) s=.ok y->y.1=s.1.said:=by
 unfold sL;rw[if_pos b,if_pos a]
 cases hn:nL l s.2 with
 |error f=>exact⟨rfl,fun y e=>by cases e⟩
 |ok s'=>exact⟨rfl,fun y e=>by cases e;rfl⟩
theorem Tg(b:s.1.kind=5)(a:¬ Qz what s.1.said=0):sL l (Qz what) s=.error ⟨Qz what s.1.said,s.1.pos⟩:=by
 unfold sL;rw[if_pos b,if_neg a]
theorem TQ(a:¬ s.1.kind=5):sL l (Qz what) s=.error ⟨4,s.1.pos⟩:=by
 unfold sL;rw[if_neg a]
theorem TO{st:Qb PS}(h:TSt w tb l st)(b:(O l st).1=34):∃ s,st=.ok s/\s.1.kind=5/\sQ s.1=s.1.said/\Xr w tb l s:=by
 cases st with
 |error f=>exact absurd b (by show ¬(0:Nat)=34;decide)
 |ok s=>
  have a:s.1.kind=5:=(EW h.wd).1 b;exact⟨s,rfl,a,by unfold sQ;rw[a];rfl,h⟩
theorem PE{st:Qb PS}(h:TSt w tb l st)(b:¬(O l st).1=34):stOf (bindS st (sL l (Qz what)))=failS st ⟨4,(O l st).2.2.2⟩/\∀ y,¬ bindS st (sL l (Qz what))=.ok y:=by
 cases st with
 |error f=>exact⟨rfl,fun y e=>by cases e⟩
 |ok s=>
  have a:¬ s.1.kind=5:=fun e=>b ((EW h.wd).2 e)
  have e:bindS (.ok s) (sL l (Qz what))=.error ⟨4,s.1.pos⟩:=TQ a;rw[e];exact⟨rfl,fun y e=>by cases e⟩
theorem Ob{st:Qb PS}(h:TSt w tb l st)(a:l.length<=600):(O l st).2.1.length<=600:=by
 cases st with
 |error f=>exact QE
 |ok s=>
  show(sQ s.1).length<=600
  exact Qs (Ws h.sp h.sz.1) a
theorem AY{b:Nat}{u v:World}(h:Below u.heap.size u v)(hm:Mod b v w):Mod b u w:=(Mod.of_below h).trans hm
theorem UA(rb tb:Nat)(nv:Value)(l:L8)(what:Nat)(st:Qb PS)(w:World)(B:RdQ w rb tb nv)(hn:rb≠tb)(h:TSt w tb l st)(A:l.length<=600)(Z:what<=4) :
 Calls prog 114 #[.pointer (some ⟨rb,0,none⟩),.int .i64 what] w (QY (bindS st (sL l (Qz what))) tb l w Fd TC):=by
 have r0:=Qk B;obtain⟨_,c4,c5,c6,c7⟩:=h.cells;have H:=I h;have E:=I B;have ab:=Qg B;have ac:=h.lt;have F:=I (Ob h A);obtain⟨f,z⟩:=QF (w.alloc (.cells #[.int .u8 (O l st).1,.string (sA (O l st).2.1),.int .i64 (O l st).2.2.1,.int .i64 (O l st).2.2.2] 136));have G:=I z;have i:Hid (Below w.heap.size w f):=by show Below _ _ _;rw[z];exact Qp _
 have t:Hid (f.heap[w.heap.size]?=some (.cells #[.int .u8 (O l st).1,.string (sA (O l st).2.1),.int .i64 (O l st).2.2.1,.int .i64 (O l st).2.2.2] 136)):=by show _=_;rw[z];exact QC _ _
 have Q:=i.o.size;clear h B z;by_cases hk:(O l st).1=34
 ·obtain⟨s,b,x,K,R⟩:=TO H.o hk;have p:(O l st).2.1=s.1.said:=by rw[b];exact K
  have J:(O l st).2.2.2=s.1.pos:=by rw[b];rfl
  have M:=I (fun W=>PC what (O l st).2.1 W Z (by have:=F.o;omega));have Y:(((O l st).1:Int)==34)=true:=by simp;omega
  have HK:=I hk;by_cases hf:Qz what s.1.said=0
  ·have D:Hid (Qz what (O l st).2.1=0):=by show _=_;rw[p];exact hf
   have P:Hid (stOf (bindS st (sL l (Qz what)))=signS l 34 st/\∀ y,bindS st (sL l (Qz what))=.ok y->y.1=(O l st).2.1):=by
    obtain⟨o1,o2⟩:=Wv (l:=l) x hf;have e:signS l 34 st=nL l s.2:=by unfold signS;rw[if_pos hk,b];rfl
    rw[e,p];rw[b];exact⟨o1,o2⟩
   clear hf R K b x p J hk;go_enter func114,ntmps114;go_wp2_with fail;rw[<-G.o];refine(M.o f).mono ?_;rintro e r ⟨rfl,g⟩;rw[D.o];have d:=I (i.o.trans (g.mono Q));have u:=I (QP t.o g);have n:=I (YQ rb tb nv l 34 st r (QP E.o d.o) (H.o.below d.o) A);have X:=Qg u.o;clear g;go_wp2_with fail;refine n.o.mono ?_;rintro e C q;obtain⟨rfl,a,c⟩:=q;have m:=I (AY d.o a);have j:=I c;have V:=Qr (w:=C) (QA u.o a (by omega));clear a c;go_wp2;go_ret;exact QY.mk m.o (by rw[P.o.1];exact j.o) ⟨_,rfl,F.o⟩ (fun y k=>by rw[<-P.o.2 y k];rfl)
  ·have D:Hid (Qz what (O l st).2.1=Qz what s.1.said):=by show _=_;rw[p]
   have aa:(((Qz what s.1.said:Nat):Int) != 0)=true:=by simp;omega
   have L:Hid (bindS st (sL l (Qz what))=.error ⟨Qz what s.1.said,(O l st).2.2.2⟩):=by
    show _=_
    rw[J,b];exact Tg x hf
   have S:Hid (failS st ⟨Qz what s.1.said,(O l st).2.2.2⟩=.error ⟨Qz what s.1.said,(O l st).2.2.2⟩):=by show _=_;rw[b];rfl
   have T:=I hf;clear hf R K b x p J hk;go_enter func114,ntmps114;go_wp2_with fail;rw[<-G.o];refine(M.o f).mono ?_;rintro e r ⟨rfl,g⟩;rw[D.o];have d:=I (i.o.trans (g.mono Q));have u:=I (QP t.o g);have n:=I (Yu tb l st ⟨Qz what s.1.said,(O l st).2.2.2⟩ r.drew ((H.o.below d.o).block rfl) A T.o);have q0:=Qk (w:=r) (QP E.o d.o);have q7:=QR u.o;clear g;go_wp2_with fail;go_region_with (first|(go_at_call 70;refine n.o.mono ?_;rintro e C q;obtain⟨rfl,a,c⟩:=q;have m:=I (AY d.o (Zm a));have j:=I c;clear a c;skip))
   all_goals go_wp2
   all_goals go_ret
   all_goals exact QY.mk (v:=.string (sA [])) m.o (by rw[L.o];rw[S.o]at j;exact j.o) ⟨_,rfl,QE⟩ (fun y k=>by rw[L.o]at k;cases k)
 ·have N:=I (PE (what:=what) H.o hk);have Y:(((O l st).1:Int)==34)=false:=by simp;omega
  have U:Hid (signS l 34 st=failS st ⟨4,(O l st).2.2.2⟩):=if_neg hk;have n:=I (YQ rb tb nv l 34 st f (QP E.o i.o) (H.o.below i.o) A);have X:=Qg t.o;clear hk;go_enter func114,ntmps114;go_wp2_with fail;rw[<-G.o];refine n.o.mono ?_;rintro e C q;obtain⟨rfl,a,c⟩:=q;have m:=I (AY i.o a);have j:=I c;have V:=Qr (w:=C) (QA t.o a (by omega));clear a c;go_wp2;go_ret;exact QY.mk m.o (by rw[N.o.1,<-U.o];exact j.o) ⟨_,rfl,F.o⟩ (fun y k=>absurd k (N.o.2 y))
def muS(l:L8)(st:Qb PS):Nat:=
 match st with
 | .ok s=>mu l.length s+1
 | .error _=>0
def VC:Value->Prop
 | .slice _ n c=>n<=c
 |_=>True
theorem VC.of_owns{size:Nat}{xs:List Value}(h:w.ownsRow base e size v n xs):VC v:=by
 rcases h.2 with⟨a,_⟩ | ⟨g,c,d,a,_,_,b,_⟩
 ·rw[a];exact Nat.le_refl _
 ·rw[a];exact b
structure SlN (B:Nat) (xs:Qa) (w:World) (v:Value):Prop where
 s:slB B xs w v
 n:xs.length<=1301
 c:VC v
theorem SlN.form{B:Nat}{xs:Qa}{w:World}{v:Value}(h:SlN B xs w v):∃ g n c,v=.slice (some ⟨g,0,none⟩) n c:=h.s.form
def T6(B:Nat)(w:World)(v:Value):Prop:=∃ xs,SlN B xs w v
structure Nz (R:Qb (Qa×PS)) (l:L8) (chk:L8->Nat) (st:Qb PS) (acc:Qa):Prop where
 r:∃ f,(∀ s,st=.ok s->mu l.length s < f)∧R=bindS st (UP l chk f acc)
 n:acc.length+muS l st<=1300
theorem UB(h:Xr w tb l s)(a:l.length<=600):mu l.length s<=2*l.length+1:=by
 have:=h.le;unfold mu;split<;>omega
theorem DV{st:Qb PS}:stOf (bindS st (fun s=>Qo (sL l chk s) fun x s1=>.ok ([x],s1)))=stOf (bindS st (sL l chk))/\∀ y,bindS st (fun s=>Qo (sL l chk s) fun x s1=>.ok ([x],s1))=.ok y->∃ z,bindS st (sL l chk)=.ok z/\y=([z.1],z.2):=by
 cases st with
 |error f=>exact⟨rfl,fun y e=>by cases e⟩
 |ok s=>
  simp only[bindS]
  cases sL l chk s with
  |error f=>exact⟨rfl,fun y e=>by cases e⟩
  |ok z=>exact⟨rfl,fun y e=>⟨z,rfl,by cases e;rfl⟩⟩
theorem K3{z:L8}(h:Fd z w (.string (sA x))):x=z:=U9 (Value.string.inj h)
theorem Gb{st:Qb PS}(h:TSt w tb l st)(a:l.length<=600):muS l st<=1202:=by
 cases st with
 |ok s=>show mu l.length s+1<=1202;have:=UB h a;omega
 |error f=>exact QE
theorem VW(h:Xr w tb l s)(a:¬ s.1.kind=0):muS l (nL l s.2)<muS l (.ok s):=by
 cases hn:nL l s.2 with
 |error f=>exact Nat.succ_pos _
 |ok y=>show mu l.length y+1<mu l.length s+1;have:=Yt h.le a hn;omega
theorem Rx{w1:World}{R:Qb (Qa×PS)}{st:Qb PS}{acc:Qa}(h:Nz R l (Qz what) st acc)(r:TSt w tb l st)(c:TSt w1 tb l (stOf (bindS st (sL l (Qz what))))) :
 ((O l (stOf (bindS st (sL l (Qz what))))).1=44->errS (stOf (bindS st (sL l (Qz what))))=0/\muS l (nextS l (stOf (bindS st (sL l (Qz what)))))<muS l st/\∃ z,bindS st (sL l (Qz what))=.ok z/\Nz R l (Qz what) (nextS l (stOf (bindS st (sL l (Qz what))))) (acc++[z.1]))/\
 (¬(O l (stOf (bindS st (sL l (Qz what))))).1=44->stOf R=signS l 93 (stOf (bindS st (sL l (Qz what))))/\∀ y,R=.ok y->∃ z,bindS st (sL l (Qz what))=.ok z/\y.1=acc++[z.1]):=by
 obtain⟨⟨f,p,d⟩,A⟩:=h
 cases st with
 |error g=>
  have a:R=.error g:=d;subst a;refine⟨fun h=>absurd h (by show ¬(0:Nat)=44;decide),fun _=>⟨rfl,fun y e=>by cases e⟩⟩
 |ok s=>
  have t:=p s rfl;obtain⟨f,rfl⟩:∃ g,f=g+1:=⟨f - 1,by omega⟩;simp only[bindS]at c d ⊢
  cases hs:sL l (Qz what) s with
  |error g=>
   have a:R=.error g:=by rw[d];unfold UP;rw[hs];rfl
   subst a;refine⟨fun h=>absurd h (by show ¬(0:Nat)=44;decide),fun _=>⟨rfl,fun y e=>by cases e⟩⟩
  |ok z=>
   rw[hs]at c;have b:Xr w1 tb l z.2:=c;have a:R=moreL l (Qz what) (f+1) (acc++[z.1]) z.2:=by rw[d];unfold UP;rw[hs];rfl
   have x:=(Ut r.le hs).1;refine⟨fun i=>?_,fun i=>?_⟩
   ·have j:kQ z.2.1=44:=i
    have k:¬ z.2.1.kind=0:=fun n=>by
     have:kQ z.2.1=0:=(Vi b.wd).2 n;omega
    have q:=VW b k;have u:muS l (nL l z.2.2)<mu l.length z.2+1:=q;have v:muS l (.ok s)=mu l.length s+1:=rfl;refine⟨rfl,?_,z,rfl,⟨f,fun m c=>?_,?_⟩,?_⟩
    ·show muS l (nL l z.2.2)<_
     omega
    ·have o:nL l z.2.2=.ok m:=c;have:=Yt b.le k o;omega
    ·rw[a,Ot b.wd j];show _=bindS (nL l z.2.2) _
     cases nL l z.2.2<;>rfl
    ·show(acc++[z.1]).length+muS l (nL l z.2.2)<=1300
     rw[Ze,List.length_singleton];omega
   ·have j:¬ kQ z.2.1=44:=i;by_cases h93:kQ z.2.1=93
    ·have e:signS l 93 (stOf (.ok z))=nL l z.2.2:=if_pos h93;rw[e,a,OD b.wd h93]
     cases nL l z.2.2 with
     |error g=>exact⟨rfl,fun y e=>by cases e⟩
     |ok m=>exact⟨rfl,fun y e=>⟨z,rfl,by cases e;rfl⟩⟩
    ·have e:signS l 93 (stOf (.ok z))=.error ⟨4,z.2.1.pos⟩:=if_neg h93;rw[e,a,RS b.wd j h93];exact⟨rfl,fun y e=>by cases e⟩
theorem VG(rb tb:Nat)(nv:Value)(l:L8)(what F:Nat)(st:Qb PS)(w:World)(Y:RdQ w rb tb nv)(K:rb≠tb)(h:TSt w tb l st)(t:l.length<=600)(hw:what<=4)(hF:2*l.length+2<=F) :
 Calls prog 67 #[.pointer (some ⟨rb,0,none⟩),.int .i64 what] w (QY (bindS st (sLs l (Qz what) F)) tb l w (slB w.heap.size) (T6 w.heap.size)):=by
 have r0:=Qk Y;obtain⟨_,c4,_,_,_⟩:=h.cells;have H:=I h;have S:=I Y;have aS:=Qg Y;have ak:=h.lt;clear h Y;by_cases c:(O l st).1=91;rotate_left
 ·have af:(((O l st).1:Int) != 91)=true:=by simp;omega
  have Q:=I (UA rb tb nv l what st w S.o K H.o t hw)
  have d:Hid (bindS st (sLs l (Qz what) F)=bindS st (fun s=>Qo (sL l (Qz what) s) fun x Z=>.ok ([x],Z))):=by
   show _=_
   cases st with
   |error f=>rfl
   |ok s=>exact B6 H.o.wd c
  clear c;go_enter func67,ntmps67;go_wp2_with fail;refine Q.o.mono ?_;rintro e N g;obtain⟨p,M,v,rfl,⟨x,rfl,aJ⟩,ay⟩:=g.st;have P:=I p;have T:=I M;have aE:=I ay;have ad:=p.size;clear g p M ay;go_wp2;go_ret;refine QY.mk (P.o.alloc _) ?_ ⟨[x],⟨N.heap.size,1,rfl,ad,X8 N [x] _ _ rfl,by simp⟩,by simp,Nat.le_refl _⟩ (fun y i=>?_)
  ·rw[d.o,DV.1];exact T.o.below (Qp _)
  ·rw[d.o]at i;obtain⟨z,C,rfl⟩:=DV.2 y i;have:=K3 (aE.o z C);subst this;exact⟨N.heap.size,1,rfl,ad,X8 N [z.1] _ _ rfl,by simp⟩
 ·have af:(((O l st).1:Int) != 91)=false:=by simp;omega
  have aq:=I (Z2 tb l st w H.o t)
  have d:Hid (Nz (bindS st (sLs l (Qz what) F)) l (Qz what) (nextS l st) []):=by
   cases st with
   |error f=>exact absurd c (by show ¬(0:Nat)=91;decide)
   |ok s=>
    have e:=IY (l:=l) (chk:=Qz what) (F:=F) H.o.wd c;refine⟨⟨F,fun Z g=>?_,?_⟩,?_⟩
    ·have J:nL l s.2=.ok Z:=g;have:=Uy l s.2 H.o.le Z J;unfold mu;split<;>omega
    ·show sLs l (Qz what) F s=bindS (nL l s.2) _
     rw[e];cases nL l s.2<;>rfl
    ·have h0:¬ s.1.kind=0:=fun e0=>by
      have:kQ s.1=0:=(Vi H.o.wd).2 e0;have aO:kQ s.1=91:=c;omega
     have:=VW H.o h0;have J:muS l (.ok s)<=1202:=Gb (w:=w) (tb:=tb) H.o t;show 0+muS l (nL l s.2)<=1300
     omega
  clear c;obtain⟨R,r⟩:=Qe (bindS st (sLs l (Qz what) F));rw[r]at d ⊢;clear r;obtain⟨i0,hi,aK,aL,aM⟩:=info_parts Tryz.infoStr;go_enter func67,ntmps67;go_upto_block 0 with(go_at_call 66;refine aq.o.mono ?_;rintro e N ⟨rfl,p,M⟩;have P:=I p;have T:=I M;have ad:=p.size;clear p M)
  go_cut [6] (fun lv wx=>∃(a:Qb PS) (b:Qa),wx.ownsRow w.heap.size 9 1 lv b.length (Qv b)/\b≠[]/\b.length<=1301/\TSt wx tb l a/\Mod tb w wx/\stOf R=signS l 93 a/\∀ y,R=.ok y->y.1=b)
  case first=>
   go_wp2_with fail
   go_loopg [6,7] (muS l (nextS l st)) (fun k lv _ wr=>∃(D:Qb PS) (b:Qa),k=muS l D/\wr.ownsRow w.heap.size 9 1 lv b.length (Qv b)/\TSt wr tb l D/\Mod tb w wr/\Nz R l (Qz what) D b)
   case atStart=>exact⟨nextS l st,[],rfl,Zj,T.o,P.o,d.o⟩
   case round=>
    obtain⟨D,b,rfl,L,ao,X,B⟩:=hrel;have av:=I ao;have ap:=I X;have aw:=I B;have ab:=I (S.o.mod X K);have G:=I L;have aU:=X.size;have aP:=B.n;have aI:=Qk ab.o;have Q:=I (UA rb tb nv l what D wr ab.o K ao t hw);clear ao X B L d P T aq H c4 r0;go_wp2_with fail;refine Q.o.mono ?_;rintro e w2 J;obtain⟨q,A,v,rfl,⟨x,rfl,aJ⟩,az⟩:=J.st;have m:=I (Rx aw.o av.o A);have E:=I (ap.o.trans q);have U:=I A;have ac:=I az;have ah:=ZP G.o q ak;have aT:w.heap.size<=w2.heap.size:=E.o.size;clear J q A az;go_wp2_with (at_builtin;refine wpList_append_own _ rfl _ _ 61 rfl w.heap.size 9 i0 (.string ⟨#[]⟩) 1 16 underlying61 hi aK aL aM rfl (by decide) _ _ _ rfl (ah.alloc _) ⟨w2.heap.size,0,none⟩ 1 1 [.string (sA x)] rfl rfl ?c1 ?c2 ?c3 ?c4 ?c5 ?_)
    case c1=>
     intro j u W
     match j,W with
     |0,W=>simp at W;subst W;simp[Addr.add]
    case c2=>intro u hu;simp at hu;subst hu;rfl
    case c3=>unfold maxLen;omega
    case c4=>omega
    case c5=>simp;omega
    ·intro v' w5 ai ae _;have aj:∀ k,(u6).ownBlock=some k->w.heap.size<=k:=fun k c=>(ah.lt k c).1
     have aa:=I ((E.o.alloc (Obj.cells #[.string (sA x)] 9)).grown ae aj);have V:=I ((U.o.below (Qp (Obj.cells #[.string (sA x)] 9))).block (ae.block tb (by simp;omega) (fun e=>by have:=aj tb e.symm;omega)));rw[X0]at ai;have au:=I ai;have aC:=I (S.o.mod aa.o K);clear ai ae ah aj E U G Q ab aI aw av ap;obtain⟨a,g⟩:=Qe (stOf (bindS D (sL l (Qz what))));rw[g]at m V;obtain⟨c2,c4,_,_,_⟩:=V.o.cells;have aR:=Qk aC.o;by_cases c:(O l a).1=44
     ·obtain⟨he,aG,z,C,B⟩:=m.o.1 c;have af:(((O l a).1:Int) != 44)=false:=by simp;omega
      have aQ:((errS a:Int) != 0)=false:=by simp;omega
      have aN:=K3 (ac.o z C);subst aN;have d:=I B;clear B m C ac g;go_wp2_with fail;refine(Z2 tb l a _ (V.o.block rfl) t).mono ?_;rintro e w6 ⟨rfl,ag,ax⟩;have aA:=I (aa.o.trans ag);have aD:=I ax;have aB:=I (ZP au.o ag ak);clear ag ax;go_wp2;go_roundg (muS l (nextS l a))
      case measure=>exact aG
      case rel=>exact⟨nextS l a,b++[z.1],rfl,by simpa using aB.o,aD.o,aA.o,d.o⟩
     ·obtain⟨r,i⟩:=m.o.2 c;have af:(((O l a).1:Int) != 44)=true:=by simp;omega
      have HY:=I i;clear i m g;go_wp2;go_meet;refine⟨a,b++[x],by simpa using au.o,by simp,by simp;omega,V.o.block rfl,aa.o,r,fun y e=>?_⟩;obtain⟨z,C,h⟩:=HY.o y e;rw[h,K3 (ac.o z C)]
  case rest=>
   obtain⟨a,b,L,aH,aF,ht,hm,r,i⟩:=hcut;have m:=I (YQ rb tb nv l 93 a wc (S.o.mod hm K) ht t);have G:=I L;have HM:=I hm;have HY:=I i;clear ht hm L i;go_wp2_with fail;refine m.o.mono ?_;rintro e w2 ⟨rfl,q,A⟩;have E:=I (HM.o.trans q);have U:=I A;have ar:=I (slB.of_owns (ZP G.o q ak) rfl aH);clear q A;go_wp2;go_ret;refine QY.mk E.o (by rw[r];exact U.o) ⟨b,ar.o,aF,VC.of_owns G.o⟩ (fun y e=>?_);rw[HY.o y e];exact ar.o
def KA:L8:=[108,111,119,101,114]
def Ky:L8:=[117,112,112,101,114]
def Kq:L8:=[108,101,110,103,116,104]
theorem PQ(x:L8)(w:World) :
 Calls prog 172 #[.string (sA x)] w fun e w'=>e=.returned (.int .i64 (wL [KA,Ky,Kq] x))/\w'=w:=by
 have d:((sA x).toList==[108,111,119,101,114])=decide (KA=x):=by rw[ByteArray.toList_eq];show(x==KA)=_;rw[Zo];simp;exact eq_comm
 have c:((sA x).toList==[117,112,112,101,114])=decide (Ky=x):=by rw[ByteArray.toList_eq];show(x==Ky)=_;rw[Zo];simp;exact eq_comm
 have b:((sA x).toList==[108,101,110,103,116,104])=decide (Kq=x):=by rw[ByteArray.toList_eq];show(x==Kq)=_;rw[Zo];simp;exact eq_comm
 obtain⟨R,a⟩:=Qe (wL [KA,Ky,Kq] x);rw[a];unfold wL wL wL wL at a;by_cases e1:KA=x
 ·rw[if_pos e1]at a;rw[Qw e1]at d;subst a;clear e1 c b;go_enter func172,ntmps172;go_wp2;go_ret;exact⟨rfl,rfl⟩
 rw[if_neg e1]at a;rw[Qh e1]at d;by_cases e2:Ky=x
 ·rw[if_pos e2]at a;rw[Qw e2]at c;subst a;clear e1 e2 b;go_enter func172,ntmps172;go_wp2;go_ret;exact⟨rfl,rfl⟩
 rw[if_neg e2]at a;rw[Qh e2]at c;by_cases e3:Kq=x
 ·rw[if_pos e3]at a;rw[Qw e3]at b;subst a;clear e1 e2 e3;go_enter func172,ntmps172;go_wp2;go_ret;exact⟨rfl,rfl⟩
 rw[if_neg e3]at a;rw[Qh e3]at b;subst a;clear e1 e2 e3;go_enter func172,ntmps172;go_wp2;go_ret;exact⟨rfl,rfl⟩
def Xx(l:L8)(rq:Qa)(x:L8)(st:Qb PS):Qb PS:=if 0<wL rq x then st else failS st ⟨6,(O l st).2.2.2⟩
theorem GQ(rb tb:Nat)(nv:Value)(rq:Qa)(l x:L8)(st:Qb PS)(w:World)(d:RdQ w rb tb nv)(g:TxL w nv rq)(q:rq.length<=140737488355328)(h:TSt w tb l st)(p:l.length<=600) :
 Calls prog 171 #[.pointer (some ⟨rb,0,none⟩),.string (sA x)] w (Xf (Xx l rq x st) tb l w):=by
 have t:=Qk d;have u:=Qr d;obtain⟨_,r,_,_,s⟩:=h.cells;have H:=I h;have b:=I (Aa nv rq x w g q);have k:=I (Yu tb l st ⟨6,(O l st).2.2.2⟩ w.drew (h.block rfl) p (Nat.succ_ne_zero 5));clear h d g;by_cases he:0<wL rq x
 ·have c:Hid (Xx l rq x st=st):=if_pos he;rw[Qw he]at b;rw[c.o];clear he;go_enter func171,ntmps171;go_wp2_with fail;refine b.o.mono ?_;rintro e j ⟨rfl,rfl⟩;go_wp2;go_end0;exact⟨rfl,Mod.refl _ _,H.o⟩
 ·have c:Hid (Xx l rq x st=failS st ⟨6,(O l st).2.2.2⟩):=if_neg he;rw[Qh he]at b;rw[c.o];clear he;go_enter func171,ntmps171;go_wp2_with fail;refine b.o.mono ?_;rintro e j ⟨rfl,rfl⟩;go_wp2_with fail;go_region_with (first|(go_at_call 70;refine k.o.mono ?_;rintro e j n;obtain⟨rfl,f,i⟩:=n;have a:=I f;have m:=I i;clear f i;skip))
  all_goals go_wp2
  all_goals go_end0
  all_goals exact⟨rfl,⟨a.o.os,a.o.tape,a.o.output,a.o.size,a.o.block⟩,m.o⟩
structure TreeQ {α:Type} (P:(Nat->Prop)->α->World->Value->Prop):Prop where
 keep:∀ X a w w' v,P X a w v->AbvX X w w'->P X a w' v
 weak:∀ X Y a w v,P X a w v->(∀ k,X k->k < w.heap.size->Y k)->P Y a w v
def trY{α:Type}(P:(Nat->Prop)->α->World->Value->Prop)(X:Nat->Prop)(xs:List α)(w:World)(v:Value):Prop:=
 (xs=[]/\v=.slice none 0 0)\/(xs≠[]/\trX X P xs w v)
def slY(X:Nat->Prop)(xs:Qa)(w:World)(v:Value):Prop:=
 (xs=[]/\v=.slice none 0 0)\/slX X xs w v
theorem slY.keep{X:Nat->Prop}{xs:Qa}{w w':World}{v:Value}(h:slY X xs w v)(a:AbvX X w w'):slY X xs w' v:=by
 rcases h with h|h
 ·exact Qd h
 ·exact Qc (h.keep a)
theorem slY.weak{X Y:Nat->Prop}{xs:Qa}{w:World}{v:Value}(h:slY X xs w v)(a:∀ k,X k->k<w.heap.size->Y k):slY Y xs w v:=by
 rcases h with h|h
 ·exact Qd h
 ·exact Qc (h.weak a)
theorem trX.keepQ(f:TreeQ P)(h:trX X P xs w v)(d:AbvX X w w'):trX X P xs w' v:=by
 obtain⟨g,c,l,b,m⟩:=h;refine⟨g,c,l,b,fun j i=>?_⟩;obtain⟨u,e,k⟩:=m j i;refine⟨u,?_,f.keep _ _ _ _ _ k d⟩;rw[ZA (w:=w) (a:=⟨g,j,none⟩) (d g b (Qq e))];exact e
theorem trX.weakQ{Y:Nat->Prop}(e:TreeQ P)(l:xs≠[])(h:trX X P xs w v)(b:∀ k,X k->k<w.heap.size->Y k):trX Y P xs w v:=by
 obtain⟨g,c,n,f,d⟩:=h;refine⟨g,c,n,?_,fun j i=>?_⟩
 ·obtain⟨u,a,_⟩:=d 0 (List.length_pos_iff.2 l);exact b g f (Qq a)
 ·obtain⟨u,a,m⟩:=d j i;exact⟨u,a,e.weak _ _ _ _ _ m b⟩
theorem ZL(c:TreeQ P):TreeQ (trY P):=by
 refine⟨fun X a w f v h e=>?_,fun X Y a w v h d=>?_⟩
 ·rcases h with h | ⟨b,h⟩
  ·exact Qd h
  ·exact Qc ⟨b,h.keepQ c e⟩
 ·rcases h with h | ⟨b,h⟩
  ·exact Qd h
  ·exact Qc ⟨b,trX.weakQ c b h d⟩
theorem GathQ.mod(j:TreeQ P){b:Nat}{a:α}(h:Q8 P base w v a u)(f:Mod b w w')(l:b<base):Q8 P base w' v a u:=by
 obtain⟨X,g,c,i⟩:=h;exact⟨X,j.keep _ _ _ _ _ g (f.abvX (fun e=>by have:=(c b e).1;omega)),fun k d=>⟨(c k d).1,Zs (c k d).2 f.size⟩,i⟩
theorem GathQ.grown(n:TreeQ P){v':Value}{a:α}{o:Obj}(h:Q8 P base w v a u)(j:(w.alloc o).grownBy w' v.ownBlock)(hv:v'.ownBlock=v.ownBlock\/v'.ownBlock=some (w.heap.size+1)):Q8 P base w' v' a u:=by
 obtain⟨X,l,c,f⟩:=h
 have m:AbvX X w w':=fun k b p=>by
  rw[j.block k (by simp;omega) (fun e=>f k e.symm b)];exact Below.heap_alloc _ _ _ p
 refine⟨X,n.keep _ _ _ _ _ l m,fun k b=>⟨(c k b).1,?_⟩,fun g d i=>?_⟩
 ·have:=(c k b).2;have:=j.size;simp at this;omega
 ·rcases hv with hv|hv
  ·exact f g (hv ▸ d) i
  ·rw[hv]at d;have:=(c g i).2;simp at d;omega
theorem GathQ.set{α:Type}{P:(Nat->Prop)->α->World->Value->Prop}(i:TreeQ P){base g:Nat}{w:World}{v:Value}{a:α}{u:Value}(h:Q8 P base w v a u)(j:g<base)(o:Nat)(x:Value):Q8 P base (w.setCell ⟨g,o,none⟩ x) v a u:=by
 obtain⟨X,d,b,f⟩:=h;exact⟨X,i.keep _ _ _ _ _ d (AbvX.set (fun e=>by have:=(b g e).1;omega) o x),fun k c=>⟨(b k c).1,by rw[World.size_setCell];exact(b k c).2⟩,f⟩
theorem GathQ.new(c:TreeQ P){B:Nat}{a:α}(h:P (fromB B) a w u)(b:base<=B)(d:∀ g,v.ownBlock=some g->g<B):Q8 P base w v a u:=
 ⟨fun k=>B<=k/\k<w.heap.size,c.weak _ _ _ _ _ h (fun k hk hz=>⟨hk,hz⟩),fun k hk=>⟨Qs b hk.1,hk.2⟩,fun g hg hX=>by have:=d g hg;omega⟩
theorem trX.of_ownsQ(m:TreeQ P){d:List Value}(h:w.ownsRow base e 1 v n d)(t:n=xs.length)(A:xs≠[])(y:Q3 (fun a u=>Q8 P base w v a u) xs d):trX (fromB base) P xs w v:=by
 subst t;have p:=fun g (b:v.ownBlock=some g)=>h.cells b
 obtain⟨C,i⟩:=h;rcases i with⟨_,l⟩ | ⟨g,f,B,c,b,r⟩
 ·exact absurd (Xz l) A
 ·refine⟨g,f,c,b,fun j q=>?_⟩;obtain⟨u,z,X,x,o,_⟩:=y.at j q;have:=p g (by rw[c];rfl) j u z;rw[Ys]at this;exact⟨u,this,m.weak _ _ _ _ _ x (fun k s _=>(o k s).1)⟩
def rtn{α:Type}(P:(Nat->Prop)->α->World->Value->Prop)(X:Nat->Prop)(x:ZV×List α)(w:World)(v:Value):Prop:=
 ∃ g tv fv kv,v=.pointer (some ⟨g,0,none⟩)/\X g/\w.heap[g]?=some (.cells #[.string (sA (tNs.getD x.1.kind [])),tv,fv,kv,.int .i64 x.1.tag,.bool x.1.octet,.int .i64 x.1.num] 200)/\trY P X x.2 w tv/\slY X x.1.fr w fv/\slY X x.1.keys w kv/\(x.1.kind=8->VC fv)
theorem Sp(p:TreeQ P):TreeQ (rtn P):=by
 refine⟨fun X a w q v h e=>?_,fun X Y a w v h c=>?_⟩
 ·obtain⟨g,o,f,n,m,d,b,i,j,k,l⟩:=h;exact⟨g,o,f,n,m,d,by rw[e g d (Qg b)];exact b,(ZL p).keep _ _ _ _ _ i e,j.keep e,k.keep e,l⟩
 ·obtain⟨g,o,f,n,m,d,b,i,j,k,l⟩:=h;exact⟨g,o,f,n,m,c g d (Qg b),b,(ZL p).weak _ _ _ _ _ i c,j.weak c,k.weak c,l⟩
def ZG:(n:Nat)->(Nat->Prop)->Yn n->World->Value->Prop
 |0,_,_,_,_=>False
 |n+1,X,x,w,v=>rtn (ZG n) X x w v
theorem Z0:∀ n,TreeQ (ZG n)
 |0=>⟨fun _ _ _ _ _ h=>h.elim,fun _ _ _ _ _ h=>h.elim⟩
 |n+1=>Sp (Z0 n)
def Ff(x:Xj):Qa:=if x.kind=6 then [x.var,x.arg]else if x.kind=3\/x.kind=4\/x.kind=5 then [x.arg]else []
def A3{α β:Type}(x:Xj×List (β×List α)×List α):List (List α):=x.2.1.map Prod.snd++(if x.1.els then [x.2.2]else [])
def rcn{α β:Type}(P1:(Nat->Prop)->β->World->Value->Prop)(P2:(Nat->Prop)->α->World->Value->Prop)(X:Nat->Prop)(x:Xj×List (β×List α)×List α)(w:World)(v:Value):Prop:=
 ∃ g av tv bv,v=.pointer (some ⟨g,0,none⟩)/\X g/\w.heap[g]?=some (.cells #[.string (sA (cNs.getD x.1.kind [])),av,.int .i64 x.1.tag,tv,bv,.int .i64 x.1.pos] 155)/\slY X (Ff x.1) w av/\trY P1 X (x.2.1.map Prod.fst) w tv/\trY (trY P2) X (A3 x) w bv
theorem Sq{β:Type}{o:(Nat->Prop)->β->World->Value->Prop}{p:(Nat->Prop)->α->World->Value->Prop}(q:TreeQ o)(r:TreeQ p):TreeQ (rcn o p):=by
 refine⟨fun X a w s v h e=>?_,fun X Y a w v h c=>?_⟩
 ·obtain⟨g,f,n,i,m,d,b,j,l,k⟩:=h;exact⟨g,f,n,i,m,d,by rw[e g d (Qg b)];exact b,j.keep e,(ZL q).keep _ _ _ _ _ l e,(ZL (ZL r)).keep _ _ _ _ _ k e⟩
 ·obtain⟨g,f,n,i,m,d,b,j,l,k⟩:=h;exact⟨g,f,n,i,m,c g d (Qg b),b,j.weak c,(ZL q).weak _ _ _ _ _ l c,(ZL (ZL r)).weak _ _ _ _ _ k c⟩
def ZU:(n:Nat)->(Nat->Prop)->Zt n->World->Value->Prop
 |0,_,_,_,_=>False
 |n+1,X,x,w,v=>rcn (ZG n) (ZU n) X x w v
theorem ZZ:∀ n,TreeQ (ZU n)
 |0=>⟨fun _ _ _ _ _ h=>h.elim,fun _ _ _ _ _ h=>h.elim⟩
 |n+1=>Sq (Z0 n) (ZZ n)
theorem VQ:∀(zs:Qa) (y:L8),wL (zs.map (List.cons 58)) (58::y)=wL zs y
 | [],_=>rfl
 |z::r,y=>by
  have a:=VQ r y;simp only[List.map_cons,wL,a,List.cons.injEq,true_and]
theorem GK{x:Wd}(h:WdQ x)(a:¬ x.kind=2)(zs:Qa)(d:∀ z∈zs,z≠[]):wL (zs.map (List.cons 58)) x.spelt=0:=by
 apply Nat.eq_zero_of_not_pos;intro c;have b:=(X1 _ _).1 c;obtain⟨z,e,he⟩:=List.mem_map.1 b;exact a ((OZ h (d z e)).1 he.symm).1
theorem Ax{x:Wd}(h:WdQ x)(a:x.kind=2):x.spelt=58::sQ x:=by
 rcases h with h|h|h|h|h|h
 ·omega
 ·omega
 ·obtain⟨_,⟨c,r,e,_⟩,_⟩:=h;unfold sQ;rw[a,e];rfl
 ·omega
 ·omega
 ·omega
def qIs:L8:=[105,115]
def XA:L8:=[99,111,110,116,97,105,110,115]
def XC:L8:=[109,97,116,99,104,101,115]
def KU:L8:=[99,111,109,112,97,114,97,116,111,114]
def Kc:L8:=[111,118,101,114]
def J4:L8:=[117,110,100,101,114]
theorem E6:[tIs,Zw,Zu]=[qIs,XA,XC].map (List.cons 58):=rfl
theorem Fh:[XI]=[KU].map (List.cons 58):=rfl
theorem Fi:[J5,J7,JS]=[KA,Ky,Kq].map (List.cons 58):=rfl
theorem E7:[UO,UL]=[Kc,J4].map (List.cons 58):=rfl
theorem ne3:∀ z∈[qIs,XA,XC],z≠[]:=by decide
theorem ne1:∀ z∈[KU],z≠[]:=by decide
theorem neT:∀ z∈[KA,Ky,Kq],z≠[]:=by decide
theorem neS:∀ z∈[Kc,J4],z≠[]:=by decide
theorem Wf:Qz 2=fun x=>if 0<wL [Xd,YP] x then 0 else 7:=rfl
structure Jy (R:Qb ((Nat×Bool)×PS)) (l:L8) (st:Qb PS) (tag:Nat) (oct cmp:Bool):Prop where
 r:∃ f,(∀ s,st=.ok s->mu l.length s < f)∧R=bindS st (Zi l f tag oct cmp)
 t:tag<=3
theorem Te{st:Qb PS}{c:Bool}(h:Jy R l st tag oct c)(a:TSt w tb l st)(j:¬(O l st).1=58):R=bindS st fun s=>.ok ((max tag 1,oct),s):=by
 obtain⟨⟨f,i,d⟩,_⟩:=h;rw[d]
 cases st with
 |error g=>rfl
 |ok s=>
  have k:=i s rfl;obtain⟨f,rfl⟩:∃ g,f=g+1:=⟨f - 1,by omega⟩;have b:¬ s.1.kind=2:=fun e=>j ((Ua a.wd).2 e)
  simp only[bindS];rw[Zi,E6,GK a.wd b _ ne3,if_pos rfl,Fh,GK a.wd b _ ne1,if_pos rfl]
theorem Nh{st:Qb PS}{a:Bool}(h:Jy R l st tag oct a)(d:TSt w tb l st)(c:(O l st).1=58) :
 ∃ s f,st=.ok s/\errS st=0/\mu l.length s<f+1/\s.1.kind=2/\(O l st).2.1=sQ s.1/\(O l st).2.2.2=s.1.pos/\
  R=if wL [qIs,XA,XC] (sQ s.1)=0 then
   if wL [KU] (sQ s.1)=0 then .ok ((max tag 1,oct),s)
   else if a then .error ⟨7,s.1.pos⟩
   else nextThen l s fun s1=>Qo (sL l (Qz 2) s1) fun x s2=>Zi l f tag (decide (x=Xd)) true s2
  else if tag=0 then nextThen l s fun s1=>Zi l f (wL [qIs,XA,XC] (sQ s.1)) oct a s1
  else .error ⟨7,s.1.pos⟩:=by
 obtain⟨⟨f,i,e⟩,_⟩:=h
 cases st with
 |error g=>exact absurd c (by show ¬(0:Nat)=58;decide)
 |ok s=>
  have j:=i s rfl;obtain⟨f,rfl⟩:∃ g,f=g+1:=⟨f - 1,by omega⟩;have b:s.1.kind=2:=(Ua d.wd).1 c;refine⟨s,f,rfl,rfl,j,b,rfl,rfl,?_⟩;rw[e];simp only[bindS];rw[Zi,Ax d.wd b,E6,VQ,Fh,VQ,Wf]
theorem TD{w w1:World}{st:Qb PS}{d:Bool}(h:Jy R l st tag oct d)(c:TSt w tb l st)(k:(O l st).1=58)(e:¬ wL [qIs,XA,XC] (O l st).2.1=0) :
 (¬ tag=0->R=.error ⟨7,(O l st).2.2.2⟩)/\(tag=0->muS l (nextS l st)<muS l st/\Jy R l (nextS l st) (wL [qIs,XA,XC] (O l st).2.1) oct d):=by
 obtain⟨s,f,rfl,_,q,p,g,i,b⟩:=Nh h c k;rw[g]at e ⊢;rw[i];rw[if_neg e]at b;have a:¬ s.1.kind=0:=by omega
 refine⟨fun a=>by rw[b,if_neg a],fun n=>⟨VW c a,⟨f,fun o m=>?_,?_⟩,?_⟩⟩
 ·have j:nL l s.2=.ok o:=m;have:=Yt (show Xr w tb l s from c).le a j;omega
 ·rw[b,if_pos n];show nextThen l s _=bindS (nL l s.2) _
  unfold nextThen;cases nL l s.2<;>rfl
 ·exact JP [qIs,XA,XC] _
theorem T4{st:Qb PS}{d:Bool}(h:Jy R l st tag oct d)(m:TSt w tb l st)(u:(O l st).1=58)(n:wL [qIs,XA,XC] (O l st).2.1=0)(j:(O l st).2.1=KU) :
 (d=true->R=.error ⟨7,(O l st).2.2.2⟩)/\(d=false->muS l (stOf (bindS (nextS l st) (sL l (Qz 2))))<muS l st/\∀ x,(∀ z,bindS (nextS l st) (sL l (Qz 2))=.ok z->z.1=x)->Jy R l (stOf (bindS (nextS l st) (sL l (Qz 2)))) tag (decide (x=Xd)) true):=by
 have i:=h.t;obtain⟨s,f,rfl,_,B,A,p,q,a⟩:=Nh h m u;have k:Xr w tb l s:=m;rw[p]at n j;rw[q];rw[if_pos n,if_neg (by rw[j];decide)]at a;have r:¬ s.1.kind=0:=by omega
 refine⟨fun b=>by rw[a,if_pos b],fun b=>?_⟩;rw[b]at a;rw[if_neg (by decide)]at a;unfold nextThen at a;show muS l (stOf (bindS (nL l s.2) _))<_/\∀ x,(∀ z,bindS (nL l s.2) _=.ok z->_)->Jy R l (stOf (bindS (nL l s.2) _)) _ _ _
 cases hn:nL l s.2 with
 |error g=>
  rw[hn]at a;exact⟨Nat.succ_pos _,fun x _=>⟨⟨0,(fun c e=>by cases e),a⟩,i⟩⟩
 |ok c=>
  rw[hn]at a;have C:=Yt k.le r hn;have v:=Uy l s.2 k.le c hn;simp only[bindS]at a ⊢
  cases hs:sL l (Qz 2) c with
  |error g=>
   rw[hs]at a;exact⟨Nat.succ_pos _,fun x _=>⟨⟨0,(fun c e=>by cases e),a⟩,i⟩⟩
  |ok z=>
   rw[hs]at a;have D:=(Ut v.2.1 hs).1;refine⟨by show mu l.length z.2+1<mu l.length s+1;omega,fun x b=>⟨⟨f,fun y e=>?_,?_⟩,i⟩⟩
   ·have o:z.2=y:=Except.ok.inj e;rw[<-o];omega
   ·rw[a,<-b z rfl];rfl
def matchM(l:L8)(F:Nat)(chk:L8->Nat)(k pos:Nat)(R:Qb ((Nat×Bool)×PS)):Qb (ZV×PS):=
 Qo R fun o s1=>Qo (sLs l chk F s1) fun fr s2=>Qo (sLs l (fun _=>0) F s2) fun ks s3=>.ok (⟨k,pos,o.1,o.2,fr,ks,0⟩,s3)
theorem AG(l:L8)(F:Nat)(chk:L8->Nat)(k pos:Nat)(st:Qb PS):bindS st (Yw l F chk k pos)=matchM l F chk k pos (bindS st (Zi l F 0 false false)):=by
 cases st<;>rfl
theorem Bm:Qz 0=fun _=>0:=rfl
theorem Pr{F:Nat}{st:Qb PS}{i:Bool}(h:Jy R l st tag oct i)(d:TSt w tb l st)(c:(O l st).1=58)(g:wL [qIs,XA,XC] (O l st).2.1=0)(b:¬(O l st).2.1=KU) :
 matchM l F chk k pos R=.error ⟨4,(O l st).2.2.2⟩:=by
 obtain⟨s,f,rfl,_,p,o,j,m,a⟩:=Nh h d c;have n:Xr w tb l s:=d;rw[j]at g b;rw[m];rw[if_pos g,if_pos (by rw[JZ,if_neg (fun e=>b e.symm)])]at a;subst a;unfold matchM;simp only[Qo];have q:kQ s.1=58:=c;rw[B6 n.wd (by omega)];unfold sL;rw[if_neg (by omega)];rfl
theorem Pc{F:Nat}{st:Qb PS}{t:Nat}{o:Bool}(c:R=bindS st fun s=>.ok ((t,o),s)) :
 stOf (matchM l F (Qz what) k pos R)=stOf (bindS (stOf (bindS st (sLs l (Qz what) F))) (sLs l (Qz 0) F))/\∀ y,matchM l F (Qz what) k pos R=.ok y->∃ a b,bindS st (sLs l (Qz what) F)=.ok a/\bindS (stOf (bindS st (sLs l (Qz what) F))) (sLs l (Qz 0) F)=.ok b/\y.1=⟨k,pos,t,o,a.1,b.1,0⟩:=by
 subst c;unfold matchM;rw[Bm]
 cases st with
 |error g=>exact⟨rfl,fun y e=>by cases e⟩
 |ok s=>
  simp only[bindS,Qo]
  cases h1:sLs l (Qz what) F s with
  |error g=>exact⟨rfl,fun y e=>by cases e⟩
  |ok a=>
   simp only[stOf]
   cases h2:sLs l (fun _=>0) F a.2 with
   |error g=>exact⟨rfl,fun y e=>by cases e⟩
   |ok b=>exact⟨rfl,fun y e=>⟨a,b,rfl,rfl,by cases e;rfl⟩⟩
end Go.Proofs.YtgnkjijocdmniaaGreatDoor
