import Derived.Test.YthkibedbcbgajaaGreatDoorZAAdd
namespace Go.Proofs.YthkibedbcbgajaaGreatDoor
set_option linter.unusedVariables false
set_option linter.unusedSimpArgs false
set_option maxRecDepth 100000
set_option maxHeartbeats 4000000
open Go.Proofs.Tryz
section
open Go.RowKit
def Qgt (s:ByteArray) (k j:Nat):UInt8:=if j < k then Qwk (s.data.toList.getD j 0) else s.data.toList.getD j 0
theorem QuT(c:UInt8)(h:Qia (c.toNat:Int)=true):((Qwk c).toNat:Int)=(c.toNat:Int) - 97+65:=by
 have hc:=h;unfold Qia at hc;simp at hc;have e:Qwk c=c - 97+65:=by unfold Qwk;rw[if_pos h]
 rw[e,UInt8.toNat_add,UInt8.toNat_sub];simp;omega
theorem QvK(c:UInt8)(h:Qia (c.toNat:Int)=false):Qwk c=c:=by
 unfold Qwk;rw[if_neg (by rw[h];decide)]
theorem QqO(s:ByteArray)(k j:Nat)(h:Qia ((s.data.toList.getD k 0).toNat:Int)=false):Qgt s k j=Qgt s (k+1) j:=by
 unfold Qgt;by_cases e:j=k
 ·subst e;rw[if_neg (by omega),if_pos (by omega),QvK _ h]
 ·by_cases l:j<k
  ·rw[if_pos l,if_pos (by omega)]
  ·rw[if_neg l,if_neg (by omega)]
theorem Qok(s:ByteArray)(k j:Nat)(e:¬ j=k):Qgt s k j=Qgt s (k+1) j:=by
 unfold Qgt;by_cases l:j<k
 ·rw[if_pos l,if_pos (by omega)]
 ·rw[if_neg l,if_neg (by omega)]
theorem Qrh(s:ByteArray)(k:Nat):Qgt s (k+1) k=Qwk (s.data.toList.getD k 0):=by
 unfold Qgt;rw[if_pos (by omega)]
theorem Qoc(s:ByteArray)(w:World)(hs:s.size<=140737488355328) :
 Calls Tryz.prog 230 #[.string s] w fun e w'=>e=.returned (.string ⟨(capL s.data.toList).toArray⟩)/\Below w.heap.size w w':=by
 have ao:=Lib.run_convert_string_bytes (P:=Tryz.prog) w 9 244 5 s (u:=.string) underlying9 underlying244 underlying5;have hB:=Lib.bytesWorld_below w 5 s
 have ab:∀ j,j<s.size->(Lib.bytesWorld w 5 s).cell? ⟨w.heap.size,j,none⟩=some (.int .u8 (Qgt s 0 j).toNat):=fun j hj=>by
  rw[Lib.bytesWorld_cell w 5 s j hj];simp[Qgt]
 have ag:∀ j,j<s.size->(Lib.bytesWorld w 5 s).frozen? ⟨w.heap.size,j,none⟩=false:=fun j hj=>by
  unfold World.frozen?;rw[Lib.bytesWorld_at_new];simp[Lib.bytesCells];omega
 have ah:=Lib.bytesWorld_size w 5 s;generalize Lib.bytesWorld w 5 s=W1 at ao hB ab ag ah
 have ac:∀(wr:World),(∀ j,j<s.size->wr.cell? ⟨w.heap.size,j,none⟩=some (.int .u8 (Qgt s s.size j).toNat))->
  ∀ C,(convert 244 9 (.slice (some ⟨w.heap.size,0,none⟩) s.size C)).run Tryz.prog wr=.ok (.string ⟨(capL s.data.toList).toArray⟩) wr:=fun wr hw C=>by
  have hl:(capL s.data.toList).length=s.size:=by simp[capL]
  have:=run_convert_bytes_back (P:=Tryz.prog) wr 244 9 5 ⟨w.heap.size,0,none⟩ C (capL s.data.toList) underlying244 underlying5 underlying9 (fun j hj=>by
   rw[Qbu,hw j (by omega)];have hj':j<s.data.toList.length:=by simp[capL]at hj;simpa using hj
   simp only[Qgt,capL,List.getElem_map]
   rw [if_pos (by omega),List.getD_eq_getElem?_getD,List.getElem?_eq_getElem hj'];rfl)
  rw[hl]at this;exact this
 have HL:=Qab ac;clear ac;go_enter func230,ntmps230;go_wp2_with fail;generalize grownCap w s.size 0 5=C at *
 go_loopw [4,5,10] (fun _ _ i wr=>∃ k:Nat,k<=s.size/\i=.int .i64 k/\Below w.heap.size w wr/\(∀ j,j<s.size->wr.cell? ⟨w.heap.size,j,none⟩=some (.int .u8 (Qgt s k j).toNat))/\(∀ j,j<s.size->wr.frozen? ⟨w.heap.size,j,none⟩=false)/\wr.heap.size=w.heap.size+1) (fun _ _ i _=>s.size - (intOf i).toNat)
 case atStart=>exact⟨0,by omega,rfl,hB,ab,ag,ah⟩
 case round=>
  obtain⟨k,hk,rfl,ai,aa,ad,ae⟩:=hrel;clear hB ab ag ah ao;by_cases hlt:k<s.size
  ·have af:=aa k hlt;have hfk:=ad k hlt;simp only[Qgt]at af;rw[if_neg (by omega)]at af;generalize hcd:s.data.toList.getD k 0=c at af;have ak:=Qab hcd;clear hcd;have hb:=UInt8.toNat_lt c;have HC:=Qab aa;have HF:=Qab ad;clear aa ad;cases hc:Qia (c.toNat:Int)
   ·go_wp2_with (go_at_call 193;refine(QfC _ _).mono ?_;rintro e w' ⟨rfl,rfl⟩);refine⟨⟨k+1,by omega,by go_num,ai,fun j hj=>?_,HF.o,ae⟩,by simp[intOf];omega⟩;rw[HC.o j hj,QqO s k j (by rw[ak.o];exact hc)]
   ·have hv:=Qab (QuT c hc);have aj:97<=(c.toNat:Int)/\(c.toNat:Int)<=122:=by unfold Qia at hc;simpa using hc
    obtain⟨aj,hc2⟩:=aj;go_wp2_with (go_at_call 193;refine(QfC _ _).mono ?_;rintro e w' ⟨rfl,rfl⟩);refine⟨⟨k+1,by omega,by go_num,?_,fun j hj=>?_,fun j hj=>?_,?_⟩,by simp[intOf];omega⟩
    ·exact ai.setCell (Nat.le_refl _) _
    ·by_cases e:j=k
     ·subst e;rw[World.cell?_setCell_same _ _ _ af,Qrh,ak.o];rw[hv.o]
     ·rw[World.cell?_setCell_other _ _ _ _ (by simp[e]),HC.o j hj,Qok s k j e]
    ·rw[World.frozen?_setCell];exact HF.o j hj
    ·simpa using ae
  ·have ap:k=s.size:=by omega
   subst ap;have hr:=HL.o wr aa C;go_wp2;go_ret;exact⟨rfl,ai⟩
end
section
open Go.RowKit
attribute [local go_sem ↓] Go.wp_at_zero Go.wp_at_succ
def QdO (f:FZ) (w:World) (e:Ending) (w':World):Prop:=
 ∃ b,w.heap.size≤b∧e=.panicked [{ v:=.iface 76 (.pointer (some ⟨b,0,none⟩)),recovered:=false }]∧
  w'.heap[b]?=some (.cells #[.int .i64 f.1,.int .i64 f.2] 81)
def Qms (r:Except FZ SS) (B sb:Nat) (M:Msg) (w:World) (e:Ending) (w':World):Prop:=
 Fr (PSt B) w w'∧
 match r with
 | .ok s=>e=.returned (.tuple #[])∧SAt w' B sb M s
 | .error f=>QdO f w e w'
def Qxy (s:SS) (kind:Int) (arg:L8) (at_:Int):Except FZ SS:=
 if (addL s.met kind (expL s arg)).1=0 then .ok (Qxt s (addL s.met kind (expL s arg)).2) else .error ((addL s.met kind (expL s arg)).1,at_)
theorem Qwc(B sb:Nat)(M:Msg)(s:SS)(kind ae:Int)(arg:L8)(w:World)(h:SAt w B sb M s)(hl:arg.length<=1000000) :
 Calls Tryz.prog 189 #[.pointer (some ⟨sb,0,none⟩),.int .i64 kind,.string (sA arg),.int .i64 ae] w (Qms (Qxy s kind arg ae) B sb M w):=by
 have HS:=Qab h;have ag:=Qlb s arg 1000000 hl (by decide);have HR:Hid (Qxy s kind arg ae=if(addL s.met kind (expL s arg)).1=0 then .ok (Qxt s (addL s.met kind (expL s arg)).2)else .error ((addL s.met kind (expL s arg)).1,ae)):=rfl;have HT:=Qab (Qlo B sb M s arg);have HA:=Qab (Qwr B sb M s kind (expL s arg));unfold Qe4 at HA;generalize expL s arg=x at *;obtain⟨q,hq⟩:∃ q,addL s.met kind x=q:=⟨_,rfl⟩;rw[hq]at HA HR;obtain⟨n,l⟩:=q;clear hq h;dsimp only at HA HR;by_cases hn:n=0
 ·subst hn;rw[if_pos rfl]at HR;go_enter func189,ntmps189;go_wp2_with fail;go_region_with (first|(go_at_call 226;refine(HT.o w.drew (HS.o.below (Qas (Below.refl _ _))) hl).mono ?_;rintro e w1 ⟨rfl,ad⟩;have ab:=Qab (QaT ad);clear ad;skip)|(go_at_call 229;refine(HA.o w1 (HS.o.below ab.o) ag).mono ?_;rintro e w2 ⟨rfl,ac,aa⟩;have H2:=Qab ac;have af:=Qab ((Fr.of_below ab.o).trans aa);clear ac aa;skip))
  all_goals go_wp2
  all_goals go_end0
  all_goals rw[HR.o]
  all_goals exact⟨af.o,rfl,H2.o⟩
 ·rw[if_neg hn]at HR;have hn':(n != 0)=true:=by simp[hn]
  go_enter func189,ntmps189;go_wp2_with fail;go_region_with (first|(go_at_call 226;refine(HT.o w.drew (HS.o.below (Qas (Below.refl _ _))) hl).mono ?_;rintro e w1 ⟨rfl,ad⟩;have ab:=Qab (QaT ad);clear ad;skip)|(go_at_call 229;refine(HA.o w1 (HS.o.below ab.o) ag).mono ?_;rintro e w2 ⟨rfl,ac,aa⟩;have H2:=Qab ac;have af:=Qab ((Fr.of_below ab.o).trans aa);clear ac aa;skip))
  all_goals go_wp2_with (go_at_call 64;refine(Qa4 _ _ _).mono ?_;rintro e w3 ⟨rfl,rfl⟩)
  all_goals refine⟨rfl,?_⟩
  all_goals rw[HR.o]
  all_goals exact⟨af.o.alloc _,w2.heap.size,af.o.size,rfl,Qam _ _⟩
theorem QrQ(B sb:Nat)(M:Msg)(s:SS)(w:World)(h:SAt w B sb M s) :
 Calls Tryz.prog 137 #[.pointer (some ⟨sb,0,none⟩)] w (Qms (.ok (QvF s)) B sb M w):=by
 obtain⟨hv,mb,tv,mv,ab⟩:=h;have c8:w.cell? ⟨sb,8,none⟩=some (.bool s.disc):=ab.cell 8;have f8:=ab.frozen 8;have HSI:=Qab ab;clear ab;go_enter func137,ntmps137;go_wp2;go_end0;have hf:Fr (fun k _=>k=sb) w (w.setCell ⟨sb,8,none⟩ (.bool true)):=(Fr.refl _ w).set HSI.o.blk rfl 8 _
 have hne:∀ (k:Nat) (o:Obj),w.heap[k]?=some o→(∀ cs,o≠.cells cs 227)→(w.setCell ⟨sb,8,none⟩ (.bool true)).heap[k]?=some o:=fun k o hk ho=>hf.block k o hk (fun e=>by
  subst e;rw [HSI.o.blk] at hk;cases hk;exact ho _ rfl)
 have h:=HSI.o;obtain⟨es,c,hm,hu⟩:=h.mp;obtain⟨m,h7⟩:=h.m1;refine⟨(Fr.refl _ w).set h.blk h.ps 8 _,rfl,hv,mb,tv,mv,h.bs,h.bm,h.b1,⟨m,?_⟩,?_,?_,⟨es,c,hne _ _ hm (fun cs e=>by cases e),hu⟩,?_,?_,h.mn,⟨h.bd.fr,h.bd.tu,h.bd.hl,h.bd.hd,h.bd.told,h.bd.tl,h.bd.vals,h.bd.met⟩⟩
 ·have:(1:Nat)≠sb:=by have:=h.b1;have:=h.bs;omega
  rw[World.cell?_of_block (a:=⟨1,0,none⟩) (Below.heap_setCell _ _ _ _ this)];exact h7
 ·exact Qag _ _ _ _ _ _ h.blk
 ·rcases h.hd with h' | ⟨g,c,cs,aa,hb,hc⟩
  ·exact Or.inl h'
  ·exact Or.inr ⟨g,c,cs,aa,hne _ _ hb (fun cs e=>by injection e with e1 e2;exact absurd e2 (by decide)),hc⟩
 ·rcases h.told with h' | ⟨g,c,aa,cs,hb,hc⟩
  ·exact Or.inl h'
  ·exact Or.inr ⟨g,c,aa,cs,hne _ _ hb (fun cs e=>by injection e with e1 e2;exact absurd e2 (by decide)),hc⟩
 ·obtain⟨h1,h2⟩:=h.met;refine⟨h1,?_⟩;rcases h2 with h2 | ⟨g,ac,ad,aa,hg,hh,r⟩
  ·exact Or.inl h2
  ·exact Or.inr ⟨g,ac,ad,aa,hg,hne _ _ hh (fun cs e=>by injection e with e1 e2;exact absurd e2 (by decide)),r⟩
theorem Qwx(B sb:Nat)(M:Msg)(s:SS)(tag n:Int)(w:World)(h:SAt w B sb M s) :
 Calls Tryz.prog 188 #[.pointer (some ⟨sb,0,none⟩),.int .i64 tag,.int .i64 n] w fun e w'=>e=.returned (.bool (sizeB M tag n))/\w'=w:=by
 obtain⟨hv,mb,tv,mv,aa⟩:=h;have c2:w.cell? ⟨sb,2,none⟩=some (.int .i64 M.size):=aa.cell 2;have et:=QeT tag 2;have HR:Hid (sizeB M tag n=if tag=2 then decide (M.size<n)else decide (n<M.size)):=rfl;clear aa;by_cases h2:tag=2
 ·rw[decide_eq_true h2]at et;rw[if_pos h2]at HR;clear h2;go_enter func188,ntmps188;go_wp2
  all_goals go_ret
  all_goals exact⟨QaF (by rw[HR.o]),rfl⟩
 ·rw[decide_eq_false h2]at et;rw[if_neg h2]at HR;clear h2;go_enter func188,ntmps188;go_wp2
  all_goals go_ret
  all_goals exact⟨QaF (by rw[HR.o]),rfl⟩
theorem Qbh{w:World}{m k:Nat}{o:Obj}(h:k≠m):({ w with heap:=w.heap.setIfInBounds m o }:World).heap[k]?=w.heap[k]?:=by
 show(w.heap.setIfInBounds m o)[k]?=_
 rw[Array.getElem?_setIfInBounds_ne (Ne.symm h)]
theorem QhE{w:World}{m:Nat}{o o':Obj}(h:w.heap[m]?=some o'):({ w with heap:=w.heap.setIfInBounds m o }:World).heap[m]?=some o:=by
 show(w.heap.setIfInBounds m o)[m]?=_
 exact(MapKept.heap_set h).1
theorem SI.setMap{w:World}{B sb:Nat}{M:Msg}{s:SS}{hv:Value}{mb:Nat}{tv mv:Value}(h:SI w B sb M s hv mb tv mv)(aa:L8->Option (L8))(ac:Array MapEntry)(c':Nat)(hu:Qug ac (QnR ⟨s.vs,aa,s.told,s.met,s.disc⟩))(hb:∀ x t,aa x=some t->t.length<=48) :
 SI { w with heap:=w.heap.setIfInBounds mb (.map ac c') } B sb M ⟨s.vs,aa,s.told,s.met,s.disc⟩ hv mb tv mv/\Fr (PSt B) w { w with heap:=w.heap.setIfInBounds mb (.map ac c') }:=by
 obtain⟨es,c,hm,hu0⟩:=h.mp
 have ad:∀(k:Nat) (o:Obj),w.heap[k]?=some o->(∀ cs t f,o=.cells cs t f->({ w with heap:=w.heap.setIfInBounds mb (.map ac c') }:World).heap[k]?=some o):=fun k o hk cs t f ho=>by
  rw[Qbh (fun e=>by subst e;rw[hm]at hk;cases hk;cases ho)];exact hk
 obtain⟨m,h7⟩:=h.m1;refine⟨⟨h.bs,h.bm,h.b1,⟨m,?_⟩,ad _ _ h.blk _ _ _ rfl,?_,⟨ac,c',QhE hm,hu⟩,?_,?_,h.mn,⟨h.bd.fr,h.bd.tu,h.bd.hl,h.bd.hd,h.bd.told,h.bd.tl,hb,h.bd.met⟩⟩,⟨rfl,rfl,rfl,by simp,fun k o hk hn=>?_⟩⟩
 ·have:(1:Nat)≠mb:=by have:=h.b1;have:=h.bm;omega
  rw[World.cell?_of_block (a:=⟨1,0,none⟩) (w:=w) (Qbh this)];exact h7
 ·rcases h.hd with h' | ⟨g,c,cs,ab,hb,hc⟩
  ·exact Or.inl h'
  ·exact Or.inr ⟨g,c,cs,ab,ad _ _ hb _ _ _ rfl,hc⟩
 ·rcases h.told with h' | ⟨g,c,ab,cs,hb,hc⟩
  ·exact Or.inl h'
  ·exact Or.inr ⟨g,c,ab,cs,ad _ _ hb _ _ _ rfl,hc⟩
 ·obtain⟨h1,h2⟩:=h.met;refine⟨h1,?_⟩;rcases h2 with h2 | ⟨g,ae,af,ab,hg,hh,r⟩
  ·exact Or.inl h2
  ·exact Or.inr ⟨g,ae,af,ab,hg,ad _ _ hh _ _ _ rfl,r⟩
 ·rw [Qbh (fun e=>by
   subst e;rw[hm]at hk;cases hk
   exact hn ⟨h.bm,rfl⟩)]
  exact hk
theorem Qu8(x:L8)(w:World)(h:x.length<=1000000):Calls Tryz.prog 230 #[.string (sA x)] w fun e w'=>e=.returned (.string (sA (capL x)))/\Below w.heap.size w w':=
 Qoc (sA x) w (by rw[Qal];omega)
theorem Qw4(s:SS)(name:L8)(tag:Int)(said:L8):Qyg s name tag said=⟨s.vs,fun x=>if x=name then some ((QoH tag (expL s said)).take 48)else s.vals x,s.told,s.met,s.disc⟩:=rfl
theorem QwX:∀ n:Nat,n<=1000000->(Lib.decDigits n).length<=1000000:=fun n hn=>by
 rw[Lib.decDigits_length];have:=Lib.nDigits_le20 n (by omega);omega
theorem Qx4(B sb:Nat)(M:Msg)(s:SS)(ab:L8)(tag:Int)(ad:L8)(w:World)(h:SAt w B sb M s)(ht:Tab w)(hl:ad.length<=1000000) :
 Calls Tryz.prog 190 #[.pointer (some ⟨sb,0,none⟩),.string (sA ab),.int .i64 tag,.string (sA ad)] w (Qms (.ok (Qyg s ab tag ad)) B sb M w):=by
 have HS:=Qab h;have av:=Qab ht;have ae:=Qab (Qw4 s ab tag ad);have e1:=QeT tag 1;have e2:=QeT tag 2;have e3:=QeT tag 3;have aq:=Qlb s ad 1000000 hl (by decide);go_enter func190,ntmps190;go_wp2_with fail;refine(Qlo B sb M s ad w h hl).mono ?_;rintro e w1 ⟨rfl,ay⟩;obtain⟨x,hx⟩:∃ x,expL s ad=x:=⟨_,rfl⟩;rw[hx]at ae aq;rw[hx];have ai:=Qab ay;clear hx ay h ht;by_cases t1:tag=1
 ·rw[decide_eq_true t1]at e1;subst t1;go_wp2_with fail;refine(QdN x w1 aq).mono ?_;rintro e w2 ⟨rfl,aj⟩;have ag:=Qab (ai.o.trans (aj.mono ai.o.size));obtain⟨y,hy⟩:∃ y,zL x=y:=⟨_,rfl⟩;have au:y.length<=1000000:=by rw[<-hy];simp[zL];omega
  rw[show QoH 1 x=y from hy]at ae;rw[hy];clear hy aj;go_wp2_with fail;obtain⟨z,hz⟩:∃ z,y.take 48=z:=⟨_,rfl⟩;have ac:z.length<=48:=by rw[<-hz,List.length_take];omega
  obtain⟨q,ah⟩:∃ q:Nat,q=min y.length 48:=⟨_,rfl⟩;have hq:min (y.length:Int) 48=(q:Int):=by omega
  have aw:(q:Int)<=(y.length:Int):=by omega
  have ax:(sA y).extract 0 q=sA z:=by
   rw[QbA,<-hz,ah];rcases Nat.le_total y.length 48 with hh|hh
   ·rw[Nat.min_eq_left hh,List.take_of_length_le (Nat.le_refl _),List.take_of_length_le hh]
   ·rw[Nat.min_eq_right hh]
  have ar:=Qal y;obtain⟨hv,mb,tv,mv,aa⟩:=HS.o.below (Qas ag.o);have HSI:=Qab aa;obtain⟨es,mc,hm,hu⟩:=aa.mp;have k5:w2.cell? ⟨sb,5,none⟩=some (.map (some mb)):=aa.cell 5;rw[hz]at ae;obtain⟨es',c',ap,af⟩:=QhR (T:=223) (g:=QnR ⟨s.vs,fun x=>if x=ab then some z else s.vals x,s.told,s.met,s.disc⟩) underlying223 underlying9 hm hu ab (.agg #[.string (sA z)]) (by unfold QnR;simp) (fun x hx=>by unfold QnR;simp[hx]);have HU:=Qab af;have HBD:=Qab aa.bd;have ak:sb≠mb:=fun e=>by have h1:=aa.blk;rw[e,hm]at h1;cases h1
  have ao:Hid (({ w2.drew with heap:=w2.drew.heap.setIfInBounds mb (.map es' c') }:World).cell? ⟨sb,5,none⟩=some (.map (some mb))):=(World.cell?_of_block (a:=⟨sb,5,none⟩) (w:=w2) (Qbh (w:=w2.drew) ak)).trans k5;clear aa hm hu af hz ah;go_region_held3 (fun w'=>w'.cell? ⟨sb,5,none⟩=some (.map (some mb))) (first|go_keep|exact ao.o) (fail)
  all_goals go_wp2
  all_goals go_end0
  all_goals have hfin:=HSI.o.setMap _ es' c' HU.o (fun a t hat=>by
   split at hat
   ·cases hat;exact ac
   ·exact HBD.o.vals a t hat)
  all_goals refine⟨(Fr.of_below (Qas ag.o)).trans hfin.2,?_⟩
  all_goals rw[ae.o]
  all_goals exact⟨rfl,hv,mb,tv,mv,hfin.1⟩
 rw[decide_eq_false t1]at e1;by_cases t2:tag=2
 ·rw[decide_eq_true t2]at e2;subst t2;go_wp2_with fail;refine(Qu8 x w1 aq).mono ?_;rintro e w2 ⟨rfl,aj⟩;have ag:=Qab (ai.o.trans (aj.mono ai.o.size));obtain⟨y,hy⟩:∃ y,capL x=y:=⟨_,rfl⟩;have au:y.length<=1000000:=by rw[<-hy];simp[capL];omega
  rw[show QoH 2 x=y from hy]at ae;rw[hy];clear hy aj;go_wp2_with fail;obtain⟨z,hz⟩:∃ z,y.take 48=z:=⟨_,rfl⟩;have ac:z.length<=48:=by rw[<-hz,List.length_take];omega
  obtain⟨q,ah⟩:∃ q:Nat,q=min y.length 48:=⟨_,rfl⟩;have hq:min (y.length:Int) 48=(q:Int):=by omega
  have aw:(q:Int)<=(y.length:Int):=by omega
  have ax:(sA y).extract 0 q=sA z:=by
   rw[QbA,<-hz,ah];rcases Nat.le_total y.length 48 with hh|hh
   ·rw[Nat.min_eq_left hh,List.take_of_length_le (Nat.le_refl _),List.take_of_length_le hh]
   ·rw[Nat.min_eq_right hh]
  have ar:=Qal y;obtain⟨hv,mb,tv,mv,aa⟩:=HS.o.below (Qas ag.o);have HSI:=Qab aa;obtain⟨es,mc,hm,hu⟩:=aa.mp;have k5:w2.cell? ⟨sb,5,none⟩=some (.map (some mb)):=aa.cell 5;rw[hz]at ae;obtain⟨es',c',ap,af⟩:=QhR (T:=223) (g:=QnR ⟨s.vs,fun x=>if x=ab then some z else s.vals x,s.told,s.met,s.disc⟩) underlying223 underlying9 hm hu ab (.agg #[.string (sA z)]) (by unfold QnR;simp) (fun x hx=>by unfold QnR;simp[hx]);have HU:=Qab af;have HBD:=Qab aa.bd;have ak:sb≠mb:=fun e=>by have h1:=aa.blk;rw[e,hm]at h1;cases h1
  have ao:Hid (({ w2.drew with heap:=w2.drew.heap.setIfInBounds mb (.map es' c') }:World).cell? ⟨sb,5,none⟩=some (.map (some mb))):=(World.cell?_of_block (a:=⟨sb,5,none⟩) (w:=w2) (Qbh (w:=w2.drew) ak)).trans k5;clear aa hm hu af hz ah;go_region_held3 (fun w'=>w'.cell? ⟨sb,5,none⟩=some (.map (some mb))) (first|go_keep|exact ao.o) (fail)
  all_goals go_wp2
  all_goals go_end0
  all_goals have hfin:=HSI.o.setMap _ es' c' HU.o (fun a t hat=>by
   split at hat
   ·cases hat;exact ac
   ·exact HBD.o.vals a t hat)
  all_goals refine⟨(Fr.of_below (Qas ag.o)).trans hfin.2,?_⟩
  all_goals rw[ae.o]
  all_goals exact⟨rfl,hv,mb,tv,mv,hfin.1⟩
 rw[decide_eq_false t2]at e2;by_cases t3:tag=3
 ·rw[decide_eq_true t3]at e3;subst t3;have hxz:=Qal x;go_wp2_with fail;refine(QgD x.length (by omega) w1 (av.o.below ai.o)).mono ?_;rintro e w2 ⟨rfl,aj⟩;have ag:=Qab (ai.o.trans (aj.mono ai.o.size));obtain⟨y,hy⟩:∃ y,iL x.length=y:=⟨_,rfl⟩;have au:y.length<=1000000:=by rw[<-hy];exact QwX _ aq
  rw[show QoH 3 x=y from hy]at ae;rw[hy];clear hy aj;go_wp2_with fail;obtain⟨z,hz⟩:∃ z,y.take 48=z:=⟨_,rfl⟩;have ac:z.length<=48:=by rw[<-hz,List.length_take];omega
  obtain⟨q,ah⟩:∃ q:Nat,q=min y.length 48:=⟨_,rfl⟩;have hq:min (y.length:Int) 48=(q:Int):=by omega
  have aw:(q:Int)<=(y.length:Int):=by omega
  have ax:(sA y).extract 0 q=sA z:=by
   rw[QbA,<-hz,ah];rcases Nat.le_total y.length 48 with hh|hh
   ·rw[Nat.min_eq_left hh,List.take_of_length_le (Nat.le_refl _),List.take_of_length_le hh]
   ·rw[Nat.min_eq_right hh]
  have ar:=Qal y;obtain⟨hv,mb,tv,mv,aa⟩:=HS.o.below (Qas ag.o);have HSI:=Qab aa;obtain⟨es,mc,hm,hu⟩:=aa.mp;have k5:w2.cell? ⟨sb,5,none⟩=some (.map (some mb)):=aa.cell 5;rw[hz]at ae;obtain⟨es',c',ap,af⟩:=QhR (T:=223) (g:=QnR ⟨s.vs,fun x=>if x=ab then some z else s.vals x,s.told,s.met,s.disc⟩) underlying223 underlying9 hm hu ab (.agg #[.string (sA z)]) (by unfold QnR;simp) (fun x hx=>by unfold QnR;simp[hx]);have HU:=Qab af;have HBD:=Qab aa.bd;have ak:sb≠mb:=fun e=>by have h1:=aa.blk;rw[e,hm]at h1;cases h1
  have ao:Hid (({ w2.drew with heap:=w2.drew.heap.setIfInBounds mb (.map es' c') }:World).cell? ⟨sb,5,none⟩=some (.map (some mb))):=(World.cell?_of_block (a:=⟨sb,5,none⟩) (w:=w2) (Qbh (w:=w2.drew) ak)).trans k5;clear aa hm hu af hz ah;go_region_held3 (fun w'=>w'.cell? ⟨sb,5,none⟩=some (.map (some mb))) (first|go_keep|exact ao.o) (fail)
  all_goals go_wp2
  all_goals go_end0
  all_goals have hfin:=HSI.o.setMap _ es' c' HU.o (fun a t hat=>by
   split at hat
   ·cases hat;exact ac
   ·exact HBD.o.vals a t hat)
  all_goals refine⟨(Fr.of_below (Qas ag.o)).trans hfin.2,?_⟩
  all_goals rw[ae.o]
  all_goals exact⟨rfl,hv,mb,tv,mv,hfin.1⟩
 rw[decide_eq_false t3]at e3;rw[show QoH tag x=x by unfold QoH;rw[if_neg t1,if_neg t2,if_neg t3]]at ae;obtain⟨y,hy⟩:∃ y,x=y:=⟨_,rfl⟩;subst hy;obtain⟨w2,az⟩:∃ w2,w1=w2:=⟨_,rfl⟩;subst az;have ag:=ai;have au:=aq;clear t1 t2 t3;go_wp2_with fail;obtain⟨z,hz⟩:∃ z,x.take 48=z:=⟨_,rfl⟩;have ac:z.length<=48:=by rw[<-hz,List.length_take];omega
 obtain⟨q,ah⟩:∃ q:Nat,q=min x.length 48:=⟨_,rfl⟩;have hq:min (x.length:Int) 48=(q:Int):=by omega
 have aw:(q:Int)<=(x.length:Int):=by omega
 have ax:(sA x).extract 0 q=sA z:=by
  rw[QbA,<-hz,ah];rcases Nat.le_total x.length 48 with hh|hh
  ·rw[Nat.min_eq_left hh,List.take_of_length_le (Nat.le_refl _),List.take_of_length_le hh]
  ·rw[Nat.min_eq_right hh]
 have ar:=Qal x;obtain⟨hv,mb,tv,mv,aa⟩:=HS.o.below (Qas ag.o);have HSI:=Qab aa;obtain⟨es,mc,hm,hu⟩:=aa.mp;have k5:w1.cell? ⟨sb,5,none⟩=some (.map (some mb)):=aa.cell 5;rw[hz]at ae;obtain⟨es',c',ap,af⟩:=QhR (T:=223) (g:=QnR ⟨s.vs,fun x=>if x=ab then some z else s.vals x,s.told,s.met,s.disc⟩) underlying223 underlying9 hm hu ab (.agg #[.string (sA z)]) (by unfold QnR;simp) (fun x hx=>by unfold QnR;simp[hx]);have HU:=Qab af;have HBD:=Qab aa.bd;have ak:sb≠mb:=fun e=>by have h1:=aa.blk;rw[e,hm]at h1;cases h1
 have ao:Hid (({ w1.drew with heap:=w1.drew.heap.setIfInBounds mb (.map es' c') }:World).cell? ⟨sb,5,none⟩=some (.map (some mb))):=(World.cell?_of_block (a:=⟨sb,5,none⟩) (w:=w1) (Qbh (w:=w1.drew) ak)).trans k5;clear aa hm hu af hz ah;go_region_held3 (fun w'=>w'.cell? ⟨sb,5,none⟩=some (.map (some mb))) (first|go_keep|exact ao.o) (fail)
 all_goals go_wp2
 all_goals go_end0
 all_goals have hfin:=HSI.o.setMap _ es' c' HU.o (fun a t hat=>by
  split at hat
  ·cases hat;exact ac
  ·exact HBD.o.vals a t hat)
 all_goals refine⟨(Fr.of_below (Qas ag.o)).trans hfin.2,?_⟩
 all_goals rw[ae.o]
 all_goals exact⟨rfl,hv,mb,tv,mv,hfin.1⟩
theorem Tryz.infoBool:(Tryz.prog.info? 4).map (fun i=>(i.zero,i.size,i.bytes))=some (some (.bool false),1,1):=by kernel_rfl
def Qeq (l:List Bool):List Value:=l.map Value.bool
theorem Qo3(l:List Bool)(b:Bool):Qeq l++[.bool b]=Qeq (l++[b]):=by simp[Qeq]
def Qem (sb:Nat) (kv:Value) (now next count:Nat):Array Value:=#[.pointer (some ⟨sb,0,none⟩),kv,.int .i64 (now:Int),.int .i64 (next:Int),.int .i64 (count:Int)]
def kO (late:Bool):Obj→Bool
 | .cells _ t _=>t == 142 || (t == 4 && late)
 | _=>false
def PK (B xb k:Nat) (o:Obj):Prop:=B≤k∧kO (decide (xb+7≤k)) o=true
def PMc (B xb k:Nat) (o:Obj):Prop:=B≤k∧(kO (decide (xb+7≤k)) o || stO o)=true
theorem PMc.st{B xb k:Nat}{o:Obj}(h:PSt B k o):PMc B xb k o:=⟨h.1,by rw[h.2,Bool.or_true]⟩
theorem PMc.k{B xb k:Nat}{o:Obj}(h:PK B xb k o):PMc B xb k o:=⟨h.1,by rw[h.2,Bool.true_or]⟩
theorem PK.not{B xb k:Nat}{cs:Array Value}{t:TypeId}{f:Nat×Nat}(h1:t≠142)(h2:t≠4):¬ PK B xb k (.cells cs t f):=fun h=>by
 have:=h.2;unfold kO at this;simp at this;rcases this with h|h
 ·exact h1 h
 ·exact h2 h.1
theorem PMc.not{B xb k:Nat}{cs:Array Value}{t:TypeId}{f:Nat×Nat}(h1:t≠142)(h2:t≠4)(h3:t≠227)(h4:t≠34):¬ PMc B xb k (.cells cs t f):=fun h=>by
 have:=h.2;unfold kO stO at this;simp at this;rcases this with(h|h)|(h|h)
 ·exact h1 h
 ·exact h2 h.1
 ·exact h3 h
 ·exact h4 h
theorem SlT.pm{B xb:Nat}{w w':World}{v:Value}{zs:List (L8)}(h:SlT w v zs)(hf:Fr (PMc B xb) w w'):SlT w' v zs:=h.fr hf (fun _ _=>PMc.not (by decide) (by decide) (by decide) (by decide))
structure MI (w:World) (B xb sb:Nat) (M:Msg) (m:MS) (count:Nat) (kv:Value):Prop where
 bx:B≤xb
 blk:w.heap[xb]?=some (.cells (Qem sb kv m.now m.next count) 142)
 st:SAt w B sb M m.st
 stack:w.ownsRow (xb+7) 4 1 kv m.stack.length (Qeq m.stack)
 sl:m.stack.length≤8
 nw:m.now≤400
 nx:m.next≤count
 cl:count≤400
 kz:xb+7≤w.heap.size
def MAt (w:World) (B xb sb:Nat) (M:Msg) (m:MS) (count:Nat):Prop:=∃ kv,MI w B xb sb M m count kv
theorem MI.below{w w':World}{B xb sb:Nat}{M:Msg}{m:MS}{count:Nat}{kv:Value}(h:MI w B xb sb M m count kv)(hb:Below w.heap.size w w'):MI w' B xb sb M m count kv:=
 ⟨h.bx,Qai h.blk hb,h.st.below hb,QaR (P:=fun _ _=>False) h.stack (Fr.of_below hb) (fun _ _ h=>h),h.sl,h.nw,h.nx,h.cl,Nat.le_trans h.kz hb.size⟩
theorem MAt.below{w w':World}{B xb sb:Nat}{M:Msg}{m:MS}{aa:Nat}(h:MAt w B xb sb M m aa)(hb:Below w.heap.size w w'):MAt w' B xb sb M m aa:=by
 obtain⟨kv,h⟩:=h;exact⟨kv,h.below hb⟩
theorem MI.st'{w w':World}{B xb sb:Nat}{M:Msg}{m:MS}{count:Nat}{kv:Value}(h:MI w B xb sb M m count kv){s:SS}(hs:SAt w' B sb M s)(hf:Fr (PSt B) w w'):MI w' B xb sb M (stL m s) count kv:=
 ⟨h.bx,hf.block _ _ h.blk (PSt.not (by decide) (by decide)),hs,QaR h.stack hf (fun _ _=>PSt.not (by decide) (by decide)),h.sl,h.nw,h.nx,h.cl,Nat.le_trans h.kz hf.size⟩
theorem SAt.pk{w w':World}{B xb sb:Nat}{M:Msg}{s:SS}(h:SAt w B sb M s)(hf:Fr (PK B xb) w w'):SAt w' B sb M s:=by
 obtain⟨hv,mb,tv,mv,h⟩:=h;exact⟨hv,mb,tv,mv,h.fr hf (fun _ _=>PK.not (by decide) (by decide)) (fun _ _=>PK.not (by decide) (by decide)) (fun _ _=>PK.not (by decide) (by decide)) (fun _ _=>PK.not (by decide) (by decide)) (fun _ _ _ h=>Bool.false_ne_true h.2) (fun _ h'=>by have:=h'.1;have:=h.b1;omega)⟩
theorem MI.set{w:World}{B xb sb:Nat}{M:Msg}{m:MS}{aa:Nat}{kv:Value}(h:MI w B xb sb M m aa kv)(o:Nat)(v:Value)(m':MS)(ab:Value)(hc:(Qem sb kv m.now m.next aa).setIfInBounds o v=Qem sb ab m'.now m'.next aa)(hs:m'.st=m.st)(hk:(w.setCell ⟨xb,o,none⟩ v).ownsRow (xb+7) 4 1 ab m'.stack.length (Qeq m'.stack))(hl:m'.stack.length<=8)(hn:m'.now<=400)(hx:m'.next<=aa):MI (w.setCell ⟨xb,o,none⟩ v) B xb sb M m' aa ab/\Fr (PK B xb) w (w.setCell ⟨xb,o,none⟩ v):=by
 have hf:Fr (PK B xb) w (w.setCell ⟨xb,o,none⟩ v):=(Fr.refl _ w).set h.blk ⟨h.bx,rfl⟩ o v;refine⟨⟨h.bx,?_,?_,hk,hl,hn,hx,h.cl,Nat.le_trans h.kz hf.size⟩,hf⟩
 ·rw[<-hc];exact Qag _ _ _ _ _ _ h.blk
 ·rw[hs];exact h.st.pk hf
theorem MI.row{w:World}{B xb sb:Nat}{M:Msg}{m:MS}{aa:Nat}{kv:Value}(h:MI w B xb sb M m aa kv):kv.ownBlock≠some xb:=fun e=>by
 obtain⟨_,cs,ab⟩:=Qbb h.stack xb _ e h.blk;injection ab with e1 e2
 exact absurd e2 (by decide)
theorem QqV{w:World}{base:Nat}{e:TypeId}{g n c:Nat}{xs:List Value}(h:w.ownsRow base e 1 (.slice (some ⟨g,0,none⟩) (n+1) c) (n+1) xs):w.ownsRow base e 1 (.slice (some ⟨g,0,none⟩) n c) n xs.dropLast:=by
 obtain⟨h1,h2⟩:=h;rcases h2 with⟨h2,_⟩ | ⟨g',aa,ab,hv,hg,hh,hc,hm,hs,ht⟩
 ·injection h2 with h2;cases h2
 ·injection hv with hv1 hv2 hv3
  refine⟨by rw[List.length_dropLast];omega,Or.inr ⟨g',aa,ab,?_,hg,hh,by omega,hm,hs,?_⟩⟩
  ·rw[hv1,hv3]
  ·rw[<-ht,List.dropLast_eq_take,List.length_take,List.take_take];congr 1;have:ab.toList.length=aa*1:=by simpa using hs
   omega
theorem Qpf(l:List Bool):(Qeq l).dropLast=Qeq l.dropLast:=by simp[Qeq,List.map_dropLast]
def QaC (r:Except FZ MS) (B xb sb:Nat) (M:Msg) (count:Nat) (w:World) (e:Ending) (w':World):Prop:=
 Fr (PMc B xb) w w'∧
 match r with
 | .ok m=>e=.returned (.tuple #[])∧MAt w' B xb sb M m count
 | .error f=>QdO f w e w'
theorem QaC.ok{r:Except FZ MS}{B xb sb:Nat}{M:Msg}{aa:Nat}{m:MS}{w w':World}(h:r=.ok m)(hf:Fr (PMc B xb) w w')(hm:MAt w' B xb sb M m aa):QaC r B xb sb M aa w (.returned (.tuple #[])) w':=by
 subst h;exact⟨hf,rfl,hm⟩
theorem QaC.err{r:Except FZ MS}{B xb sb:Nat}{M:Msg}{aa:Nat}{f:FZ}{e:Ending}{w w':World}(h:r=.error f)(hf:Fr (PMc B xb) w w')(hm:QdO f w e w'):QaC r B xb sb M aa w e w':=by
 subst h;exact⟨hf,hm⟩
theorem QaC.cases{r:Except FZ MS}{B xb sb:Nat}{M:Msg}{aa:Nat}{w w':World}{e:Ending}(h:QaC r B xb sb M aa w e w'):Fr (PMc B xb) w w'/\((∃ m,r=.ok m/\e=.returned (.tuple #[])/\MAt w' B xb sb M m aa)\/∃ f,r=.error f/\QdO f w e w'):=by
 obtain⟨hf,h⟩:=h
 cases r with
 |ok m=>exact⟨hf,Or.inl ⟨m,rfl,h⟩⟩
 |error f=>exact⟨hf,Or.inr ⟨f,rfl,h⟩⟩
theorem QdO.from{f:FZ}{w u:World}{e:Ending}{w':World}(h:QdO f w e w')(hz:u.heap.size<=w.heap.size):QdO f u e w':=by
 obtain⟨b,h1,h2,h3⟩:=h;exact⟨b,by omega,h2,h3⟩
theorem QaC.from{r:Except FZ MS}{B xb sb:Nat}{M:Msg}{aa:Nat}{u w w':World}{e:Ending}(h:QaC r B xb sb M aa w e w')(hf:Fr (PMc B xb) u w):QaC r B xb sb M aa u e w':=by
 obtain⟨h1,h⟩:=h;refine⟨hf.trans h1,?_⟩
 cases r with
 |ok m=>exact h
 |error f=>exact h.from hf.size
theorem QgS(er at_:Int)(w:World):QdO (er,at_) w (.panicked [{ v:=.iface 76 (.pointer (some ⟨w.heap.size,0,none⟩)),recovered:=false }]) (w.alloc (.cells #[.int .i64 er,.int .i64 at_] 81)):=
 ⟨w.heap.size,Nat.le_refl _,rfl,Qam _ _⟩
theorem Qbv(xb:Nat)(w:World):Calls Tryz.prog 139 #[.pointer (some ⟨xb,0,none⟩),.bool true] w fun e w'=>e=.returned (.tuple #[])/\w'=w:=by
 go_enter func139,ntmps139;go_wp2;go_end0;exact⟨rfl,rfl⟩
theorem Qg8(xb:Nat)(aa:Int)(w:World)(hc:w.cell? ⟨xb,2,none⟩=some (.int .i64 aa)):Calls Tryz.prog 139 #[.pointer (some ⟨xb,0,none⟩),.bool false] w fun e w'=>e=.panicked [{ v:=.iface 76 (.pointer (some ⟨w.heap.size,0,none⟩)),recovered:=false }]/\w'=w.alloc (.cells #[.int .i64 12,.int .i64 aa] 81):=by
 go_enter func139,ntmps139;go_wp2_with (go_at_call 64;refine(Qa4 _ _ _).mono ?_;rintro e w3 ⟨rfl,rfl⟩);exact⟨rfl,rfl,rfl⟩
theorem Qci(xb:Nat)(aa:Int)(w:World)(hc:w.cell? ⟨xb,2,none⟩=some (.int .i64 aa)):Calls Tryz.prog 139 #[.pointer (some ⟨xb,0,none⟩),.bool false] w fun e w'=>QdO (12,aa) w e w'/\Below w.heap.size w w':=
 (Qg8 xb aa w hc).mono fun e w' h=>by
   obtain⟨rfl,rfl⟩:=h;exact⟨QgS _ _ _,(Below.refl _ _).alloc (Nat.le_refl _) _⟩
theorem Qxj(x:Bool):∀ u∈[Value.bool x],u.oneCell'=true:=by
 intro u hu;simp at hu;subst hu;rfl
theorem QfT(v:Bool)(B xb sb:Nat)(M:Msg)(m:MS)(aa:Nat)(w:World)(h:MAt w B xb sb M m aa) :
 Calls Tryz.prog 178 #[.pointer (some ⟨xb,0,none⟩),.bool v] w (QaC (Qjz v m) B xb sb M aa w):=by
 obtain⟨kv,ab⟩:=h;have ac:=Qab ab;obtain⟨ka,kc,ay⟩:=Qat ab.stack;subst ay;have c1:w.cell? ⟨xb,1,none⟩=some (.slice ka m.stack.length kc):=Qaa ab.blk 1;have c2:w.cell? ⟨xb,2,none⟩=some (.int .i64 (m.now:Int)):=Qaa ab.blk 2;have ar:=Qar ab.blk;have hsl:=ab.sl;have ah:=ab.bx;have aw:=ab.kz;obtain⟨i0,hi,aA,az,ax⟩:=info_parts Tryz.infoBool;clear ab;by_cases hlt:m.stack.length<8
 ·have ap:(m.stack.length:Int)<8:=by omega
  have HR:Hid (Qjz v m=.ok ⟨m.st,m.stack++[v],m.now,m.next⟩):=by show _=_;unfold Qjz;rw[if_pos hlt]
  have ae:=ac.o.row;have ad:=Qab ae;clear ae;go_enter func178,ntmps178;go_wp2_with (first|(go_at_call 139;refine(Qbv _ _).mono ?_;rintro e w' ⟨rfl,av⟩;rw[av];clear av)|(at_builtin;refine wpList_append_own _ rfl _ _ 140 rfl (xb+7) 4 i0 _ 1 1 underlying140 hi aA az ax rfl (by decide) _ _ _ rfl (ac.o.stack.alloc _) ⟨w.heap.size,0,none⟩ 1 1 [.bool v] rfl rfl (cell_one_new _ _ _) (Qxj _) (by unfold maxLen;omega) (by omega) (by simp;omega) ?_;intro v5 w5 ai ag _;obtain⟨a5,k5,ak⟩:=Qat ai;subst ak;have au:=Qab ai;have HG5:=Qab ag;have d1:w5.cell? ⟨xb,1,none⟩=some (.slice ka m.stack.length kc):=ag.cell (a:=⟨xb,1,none⟩) ((World.cell?_of_block (a:=⟨xb,1,none⟩) (w:=w) (Below.heap_alloc _ _ _ ar)).trans c1) (fun e=>ad.o e.symm);have hft:∀ j,w5.frozen? ⟨xb,j,none⟩=false:=fun j=>(World.frozen?_of_block (a:=⟨xb,j,none⟩) (w:=w) ((ag.block xb (by simp;omega) (fun e=>ad.o e.symm)).trans (Below.heap_alloc _ _ _ ar))).trans (Qah ac.o.blk j);clear ai ag));go_end0
  have hf5:Fr (PK B xb) w w5:=((Fr.refl _ w).alloc _).grown HG5.o (fun k o e ho=>by
   obtain⟨hb,cs,ao⟩:=Qbb (ac.o.stack.alloc _) k o e ho;subst ao
   exact ⟨by omega,by unfold kO;simp;omega⟩)
  have af:w5.heap[xb]?=some (.cells (Qem sb (.slice ka m.stack.length kc) m.now m.next aa) 142):=by
   rw[HG5.o.block xb (by simp;omega) (fun e=>ad.o e.symm)];exact Qac ac.o.blk
  obtain⟨v5,aj⟩:∃ v5,v5=Value.slice a5 (m.stack.length+1) k5:=⟨_,rfl⟩;rw[<-aj]at au ⊢;have aq:w5.ownsRow (xb+7) 4 1 v5 (m.stack++[v]).length (Qeq (m.stack++[v])):=by rw[List.length_append,<-Qo3];exact au.o
  have ak:v5.ownBlock≠some xb:=fun e=>by
   obtain⟨_,cs,ao⟩:=Qbb aq xb _ e af;injection ao with e1 e2
   exact absurd e2 (by decide)
  refine QaC.ok HR.o ((hf5.mono (fun _ _=>PMc.k)).set af (PMc.k ⟨ah,rfl⟩) 1 _) ⟨v5,ah,?_,?_,QbU aq ak _ _,by simp;omega,ac.o.nw,ac.o.nx,ac.o.cl,Nat.le_trans aw ((hf5.set af ⟨ah,rfl⟩ 1 v5).size)⟩
  ·exact Qag _ _ _ _ _ _ af
  ·exact ac.o.st.pk (hf5.set af ⟨ah,rfl⟩ 1 _)
 ·have ap:¬(m.stack.length:Int)<8:=by omega
  have HR:Hid (Qjz v m=.error (12,(m.now:Int))):=by show _=_;unfold Qjz;rw[if_neg hlt]
  go_enter func178,ntmps178;go_wp2_with (first|(go_at_call 139;refine(Qg8 _ _ _ c2).mono ?_;rintro e w' ⟨rfl,rfl⟩));exact⟨rfl,QaC.err HR.o ((Fr.refl _ _).alloc _) (QgS _ _ _)⟩
theorem Qma(B xb sb:Nat)(M:Msg)(m:MS)(aa:Nat)(w:World)(h:MAt w B xb sb M m aa)(h0:m.stack=[]) :
 Calls Tryz.prog 179 #[.pointer (some ⟨xb,0,none⟩)] w fun e w'=>QdO (12,(m.now:Int)) w e w'/\Below w.heap.size w w':=by
 obtain⟨kv,ab⟩:=h;obtain⟨ka,kc,ac⟩:=Qat ab.stack;subst ac;have c1:w.cell? ⟨xb,1,none⟩=some (.slice ka m.stack.length kc):=Qaa ab.blk 1;have c2:w.cell? ⟨xb,2,none⟩=some (.int .i64 (m.now:Int)):=Qaa ab.blk 2;rw[h0]at c1;clear ab;go_enter func179,ntmps179;go_wp2_with (first|(go_at_call 139;refine(Qg8 _ _ _ c2).mono ?_;rintro e w' ⟨rfl,rfl⟩));exact⟨rfl,QgS _ _ _,(Below.refl _ _).alloc (Nat.le_refl _) _⟩
theorem Qmp(B xb sb:Nat)(M:Msg)(m:MS)(aa:Nat)(w:World)(h:MAt w B xb sb M m aa)(h0:m.stack≠[]) :
 Calls Tryz.prog 179 #[.pointer (some ⟨xb,0,none⟩)] w fun e w'=>e=.returned (.bool (topL m))/\MAt w' B xb sb M (QoD m) aa/\Fr (PMc B xb) w w':=by
 obtain⟨kv,ab⟩:=h;have ae:=Qab ab;have hpos:=List.length_pos_iff.2 h0;obtain⟨n,hn⟩:∃ n,m.stack.length=n+1:=⟨m.stack.length - 1,by omega⟩;have ac:=ab.stack;rw[hn]at ac;obtain⟨g,kc,ai,hbg,hgl,hcells⟩:=Qcq ac (by omega);subst ai;have c1:w.cell? ⟨xb,1,none⟩=some (.slice (some ⟨g,0,none⟩) (n+1) kc):=Qaa ab.blk 1
 have ht:w.cell? ⟨g,n,none⟩=some (.bool (topL m)):=hcells n _ (by
  unfold Qeq topL;rw[List.getElem?_map,List.getLastD_eq_getLast?,List.getLast?_eq_getElem?,hn,Nat.add_sub_cancel];rw[List.getElem?_eq_getElem (show n<m.stack.length by omega)]
  rfl)
 have hfx:=Qah ab.blk;have hsl:=ab.sl;have hbx:=ab.bx;have aj:=Qab ac;have hn8:n+1<=8:=by omega
 have hcap:n+1<=kc:=by
  rcases ac.2 with⟨h1,_⟩ | ⟨g',cap,cur,h1,_,_,h2,_⟩
  ·injection h1 with h1;cases h1
  ·injection h1 with h3 h4 h5;omega
 have hcap':(n:Int)<=(kc:Int):=by omega
 have hn0:(0:Int)<=(n:Int):=by omega
 have hn1:(n:Int)<(n:Int)+1:=by omega
 have hn2:(0:Int)<(n:Int)+1:=by omega
 clear ab ac hcells;go_enter func179,ntmps179;go_wp2_with (first|(go_at_call 139;refine(Qbv _ _).mono ?_;rintro e w' ⟨rfl,ag⟩;rw[ag];clear ag));go_ret
 have ah:w.ownsRow (xb+7) 4 1 (.slice (some ⟨g,0,none⟩) n kc) (QoD m).stack.length (Qeq (QoD m).stack):=by
  have:=QqV aj.o;rw[Qpf]at this;show w.ownsRow (xb+7) 4 1 _ m.stack.dropLast.length (Qeq m.stack.dropLast)
  rw[List.length_dropLast,hn,Nat.add_sub_cancel];exact this
 have af:(Value.slice (some ⟨g,0,none⟩) n kc).ownBlock≠some xb:=ae.o.row;have ad:=ae.o.set 1 (.slice (some ⟨g,0,none⟩) n kc) (QoD m) (.slice (some ⟨g,0,none⟩) n kc) rfl rfl (QbU ah af _ _) (by show m.stack.dropLast.length<=8;rw[List.length_dropLast];omega) ae.o.nw ae.o.nx;exact⟨rfl,⟨_,ad.1⟩,ad.2.mono (fun _ _=>PMc.k)⟩
theorem Quz(B xb sb:Nat)(M:Msg)(m:MS)(aa:Nat)(w:World)(h:MAt w B xb sb M m aa) :
 Calls Tryz.prog 179 #[.pointer (some ⟨xb,0,none⟩)] w fun e w'=>(m.stack=[]/\QdO (12,(m.now:Int)) w e w'/\Below w.heap.size w w')\/(m.stack≠[]/\e=.returned (.bool (topL m))/\MAt w' B xb sb M (QoD m) aa/\Fr (PMc B xb) w w'):=by
 by_cases h0:m.stack=[]
 ·exact(Qma B xb sb M m aa w h h0).mono fun e w' h=>Or.inl ⟨h0,h⟩
 ·exact(Qmp B xb sb M m aa w h h0).mono fun e w' h=>Or.inr ⟨h0,h⟩
theorem Qd8(n:Int)(B xb sb:Nat)(M:Msg)(m:MS)(aa:Nat)(w:World)(h:MAt w B xb sb M m aa) :
 Calls Tryz.prog 180 #[.pointer (some ⟨xb,0,none⟩),.int .i64 n] w fun e w'=>e=.returned (.bool (Qjo aa m n))/\Below w.heap.size w w':=by
 obtain⟨kv,ab⟩:=h;have c3:w.cell? ⟨xb,3,none⟩=some (.int .i64 (m.next:Int)):=Qaa ab.blk 3;have c4:w.cell? ⟨xb,4,none⟩=some (.int .i64 (aa:Int)):=Qaa ab.blk 4;have hx:=ab.nx;have hc:=ab.cl;have HR:Hid (Qjo aa m n=(decide (0<=n)&&decide (n<=(aa:Int) - m.next))):=rfl;have hw:IntKind.i64.wrap ((aa:Int) - (m.next:Int))=(aa:Int) - (m.next:Int):=by rw[IntKind.wrap_i64];omega
 clear ab;by_cases h0:0<=n
 ·have hd:decide (0<=n)=true:=decide_eq_true h0;rw[hd]at HR;by_cases h1:n<=(aa:Int) - m.next
  ·rw[decide_eq_true h1]at HR;go_enter func180,ntmps180;go_wp2_with fail;go_quiet (fail)
   all_goals go_wp2
   all_goals go_ret
   all_goals exact⟨QaF (by rw[HR.o];simp[h1]),QbF (Below.refl _ _)⟩
  ·rw[decide_eq_false h1]at HR;go_enter func180,ntmps180;go_wp2_with fail;go_quiet (fail)
   all_goals go_wp2
   all_goals go_ret
   all_goals exact⟨QaF (by rw[HR.o];simp[h1]),QbF (Below.refl _ _)⟩
 ·have hd:decide (0<=n)=false:=decide_eq_false h0;rw[hd]at HR;go_enter func180,ntmps180;go_wp2_with fail;go_quiet (fail)
  all_goals go_wp2
  all_goals go_ret
  all_goals exact⟨QaF (by rw[HR.o];rfl),QbF (Below.refl _ _)⟩
theorem MAt.box{w:World}{B xb sb:Nat}{M:Msg}{m:MS}{count:Nat}(h:MAt w B xb sb M m count)(o:Obj):MAt (w.alloc o) B xb sb M m count:=h.below ((Below.refl _ _).alloc (Nat.le_refl _) _)
theorem MAt.now{w:World}{B xb sb:Nat}{M:Msg}{m:MS}{aa:Nat}(h:MAt w B xb sb M m aa):w.cell? ⟨xb,2,none⟩=some (.int .i64 (m.now:Int)):=by
 obtain⟨kv,h⟩:=h;exact Qaa h.blk 2
theorem QcP{P:Nat->Obj->Prop}(w:World)(o:Obj):Fr P w (w.alloc o):=(Fr.refl _ w).alloc o
theorem Quy(i:Ins)(av bv:Value)(B xb sb:Nat)(M:Msg)(m:MS)(ab:Nat)(w:World)(h:MAt w B xb sb M m ab)(ho:QbY w i av bv) :
 Calls Tryz.prog 124 #[.pointer (some ⟨xb,0,none⟩),Qde i av bv] w (QaC (Qgo i m) B xb sb M ab w):=by
 have HM:=Qab h;obtain⟨aa,ac,rfl⟩:=ho.a.len;obtain⟨ba,bc,rfl⟩:=ho.b.len;have hxl:xb<w.heap.size:=Qau h.now;have ad:=(h.box (.cells (QkW i (.slice aa i.a.length ac) (.slice ba i.b.length bc)) 147)).now;unfold QkW at ad;have e0:=QeT i.n 0;have e1:=QeT i.n 1;clear h ho;unfold Qde;by_cases h01:i.n=0\/i.n=1
 ·have HR:Hid (Qgo i m=Qjz (decide (i.n=1)) m):=by show _=_;unfold Qgo;rw[if_pos h01]
  rcases h01 with h0|h1
  ·rw[decide_eq_true h0]at e0;rw[decide_eq_false (by omega)]at e1 HR;clear h0;go_enter func124,ntmps124;go_wp2_with (go_at_call 139;refine(Qbv _ _).mono ?_;rintro e w' ⟨rfl,ae⟩;rw[ae];clear ae);refine(QfT false B xb sb M m ab _ (HM.o.box _)).mono ?_;intro e w1 h1;rcases h1.cases with⟨hf,⟨m',hr,rfl,hm⟩ | ⟨f,hr,bb,hz,rfl,af⟩⟩
   ·have H1:=Qab h1;clear hm hf h1;go_wp2;go_end0;rw[HR.o];exact H1.o.from (QcP _ _)
   ·exact⟨rfl,by rw[HR.o];exact QaC.from h1 (QcP _ _)⟩
  ·rw[decide_eq_true h1]at e1 HR;rw[decide_eq_false (by omega)]at e0;clear h1;go_enter func124,ntmps124;go_wp2_with (go_at_call 139;refine(Qbv _ _).mono ?_;rintro e w' ⟨rfl,ae⟩;rw[ae];clear ae);refine(QfT true B xb sb M m ab _ (HM.o.box _)).mono ?_;intro e w1 h1;rcases h1.cases with⟨hf,⟨m',hr,rfl,hm⟩ | ⟨f,hr,bb,hz,rfl,af⟩⟩
   ·have H1:=Qab h1;clear hm hf h1;go_wp2;go_end0;rw[HR.o];exact H1.o.from (QcP _ _)
   ·exact⟨rfl,by rw[HR.o];exact QaC.from h1 (QcP _ _)⟩
 ·have HR:Hid (Qgo i m=.error (12,(m.now:Int))):=by show _=_;unfold Qgo Qb1;rw[if_neg h01]
  rw[decide_eq_false (by omega)]at e0;rw[decide_eq_false (by omega)]at e1;clear h01;go_enter func124,ntmps124;go_wp2_with (go_at_call 139;refine(Qci _ _ _ ad).mono ?_;rintro e w' ⟨⟨bb,hz,rfl,af⟩,hb⟩);exact⟨rfl,by rw[HR.o];exact QaC.from (QaC.err rfl (Fr.of_below hb) ⟨bb,hz,rfl,af⟩) (QcP _ _)⟩
theorem Quu(i:Ins)(av bv:Value)(B xb sb:Nat)(M:Msg)(m:MS)(ab:Nat)(w:World)(h:MAt w B xb sb M m ab)(ho:QbY w i av bv) :
 Calls Tryz.prog 125 #[.pointer (some ⟨xb,0,none⟩),Qde i av bv] w (QaC (QlC m) B xb sb M ab w):=by
 have HM:=Qab h;obtain⟨aa,ac,rfl⟩:=ho.a.len;obtain⟨ba,bc,rfl⟩:=ho.b.len;clear h ho;unfold Qde;by_cases h0:m.stack=[]
 ·have HR:Hid (QlC m=.error (12,(m.now:Int))):=by show _=_;unfold QlC Qb1;rw[if_pos h0]
  go_enter func125,ntmps125;go_wp2_with fail;refine(Qma B xb sb M m ab _ (HM.o.box _) h0).mono ?_;rintro e w1 ⟨⟨bb,hz,rfl,af⟩,hb⟩;refine⟨rfl,?_⟩;rw[HR.o];exact QaC.from (QaC.err rfl (Fr.of_below hb) ⟨bb,hz,rfl,af⟩) (QcP _ _)
 ·have HR:Hid (QlC m=Qjz (!topL m) (QoD m)):=by show _=_;unfold QlC;rw[if_neg h0]
  go_enter func125,ntmps125;go_wp2_with fail;refine(Qmp B xb sb M m ab _ (HM.o.box _) h0).mono ?_;rintro e w1 ⟨rfl,ag,ad⟩;have ah:=Qab ag;have ae:=Qab ((QcP _ _).trans ad);clear ag ad;go_wp2_with fail;refine(QfT (!topL m) B xb sb M (QoD m) ab _ ah.o).mono ?_;intro e w2 h2;rcases h2.cases with⟨hf,⟨m',hr,rfl,hm⟩ | ⟨f,hr,bb,hz,rfl,af⟩⟩
  ·have H2:=Qab h2;clear hm hf h2;go_wp2;go_end0;rw[HR.o];exact H2.o.from ae.o
  ·exact⟨rfl,by rw[HR.o];exact QaC.from h2 ae.o⟩
theorem MI.go{w:World}{B xb sb:Nat}{M:Msg}{m:MS}{aa:Nat}{kv:Value}(h:MI w B xb sb M m aa kv)(k:Nat)(hk:k<=aa):MAt (w.setCell ⟨xb,3,none⟩ (.int .i64 (k:Int))) B xb sb M (goL m k) aa/\Fr (PMc B xb) w (w.setCell ⟨xb,3,none⟩ (.int .i64 (k:Int))):=by
 have ab:=h.set 3 (.int .i64 (k:Int)) (goL m k) kv rfl rfl (QbU h.stack h.row _ _) h.sl h.nw hk;exact⟨⟨_,ab.1⟩,ab.2.mono (fun _ _=>PMc.k)⟩
theorem Qvl(i:Ins)(av bv:Value)(B xb sb:Nat)(M:Msg)(m:MS)(ab:Nat)(w:World)(h:MAt w B xb sb M m ab)(ho:QbY w i av bv) :
 Calls Tryz.prog 126 #[.pointer (some ⟨xb,0,none⟩),Qde i av bv] w (QaC (QgA ab i m) B xb sb M ab w):=by
 obtain⟨aa,ac,rfl⟩:=ho.a.len;obtain⟨ba,bc,rfl⟩:=ho.b.len;have HM:=Qab h;have hxl:xb<w.heap.size:=Qau h.now;clear ho;unfold Qde;cases hmay:Qjo ab m i.n
 ·have HR:Hid (QgA ab i m=.error (12,(m.now:Int))):=by show _=_;unfold QgA Qb1;rw[hmay];rfl
  clear h;go_enter func126,ntmps126;go_wp2_with fail;refine(Qd8 i.n B xb sb M m ab _ (HM.o.box _)).mono ?_;rintro e w1 ⟨rfl,af⟩;rw[hmay];have ad:=Qab (((Below.refl w.heap.size w).alloc (Nat.le_refl _) _).trans (af.mono (by simp)));have ai:=(HM.o.below ad.o).now;clear af;go_wp2_with (go_at_call 139;refine(Qci _ _ _ ai).mono ?_;rintro e w' ⟨⟨bb,hz,rfl,ap⟩,hb⟩);exact⟨rfl,by rw[HR.o];exact QaC.from (QaC.err rfl (Fr.of_below hb) ⟨bb,hz,rfl,ap⟩) (Fr.of_below ad.o)⟩
 ·have ah:=QpY hmay;have HR:Hid (QgA ab i m=.ok (goL m (m.next+i.n.toNat))):=by show _=_;unfold QgA;rw[hmay];rfl
  have aq:0<=i.n:=by unfold Qjo at hmay;simp at hmay;exact hmay.1
  obtain⟨kv,ag⟩:=h;have hcl:=ag.cl;clear ag;go_enter func126,ntmps126;go_wp2_with fail;refine(Qd8 i.n B xb sb M m ab _ (HM.o.box _)).mono ?_;rintro e w1 ⟨rfl,af⟩;rw[hmay];have ad:=Qab (((Below.refl w.heap.size w).alloc (Nat.le_refl _) _).trans (af.mono (by simp)));obtain⟨kv,ae⟩:=HM.o.below ad.o;have ak:=Qai (Qam w (.cells #[.int .i64 i.op,.int .i64 i.n,.int .i64 i.tag,.bool i.oct,.slice aa i.a.length ac,.slice ba i.b.length bc,.int .i64 i.at_] 147)) af;have q1:w1.cell? ⟨w.heap.size,1,none⟩=some (.int .i64 i.n):=Qaa ak 1;have c3:w1.cell? ⟨xb,3,none⟩=some (.int .i64 (m.next:Int)):=Qaa ae.blk 3;have f3:=Qah ae.blk;obtain⟨d,hd⟩:∃ d:Nat,i.n=(d:Int):=⟨i.n.toNat,by omega⟩;rw[hd]at q1 HR ah;rw[Int.toNat_natCast]at HR ah;have hsum:IntKind.i64.wrap ((m.next:Int)+(d:Int))=(m.next:Int)+(d:Int):=by rw[IntKind.wrap_i64];omega
  have HMI:=Qab ae;have hne:¬ w.heap.size=xb:=by omega
  have hne':¬ xb=w.heap.size:=by omega
  have HG:=Qab (ae.go (m.next+d) ah);have ao:=Qab ((ae.below (Qas (Below.refl _ _))).go (m.next+d) ah);clear af ae ak hd aq hmay;go_wp2_with (go_at_call 139;refine(Qbv _ _).mono ?_;rintro e w' ⟨rfl,aj⟩;rw[aj];clear aj);go_region
  all_goals go_wp2
  all_goals go_end0
  all_goals first
   |exact QaC.from (QaC.ok HR.o HG.o.2.drew (HG.o.1.below (Qas (Below.refl _ _)))) (Fr.of_below ad.o)
   |exact QaC.from (QaC.ok HR.o ((Fr.of_below (Qas (Below.refl _ _))).trans ao.o.2) ao.o.1) (Fr.of_below ad.o)
theorem Qkn(taken:Bool)(p:Nat)(i:Ins)(av bv:Value)(B xb sb:Nat)(M:Msg)(m:MS)(ab:Nat)(w:World)(h:MAt w B xb sb M m ab)(ho:QbY w i av bv)(hp:w.heap[p]?=some (.cells #[.bool taken] 4))(hpB:p<xb+7) :
 Calls Tryz.prog 181 #[.pointer (some ⟨xb,0,none⟩),Qde i av bv,.pointer (some ⟨p,0,none⟩)] w (QaC (doCond taken ab i m) B xb sb M ab w):=by
 obtain⟨aa,ac,rfl⟩:=ho.a.len;obtain⟨ba,bc,rfl⟩:=ho.b.len;have HM:=Qab h;have hxl:xb<w.heap.size:=Qau h.now;have HP:=Qab hp;have hpl:=Qar hp;clear ho hp;unfold Qde;cases hmay:Qjo ab m i.n
 ·have HR:Hid (doCond taken ab i m=.error (12,(m.now:Int))):=by show _=_;unfold doCond Qb1;rw[hmay];rfl
  clear h;go_enter func181,ntmps181;go_wp2_with fail;refine(Qd8 i.n B xb sb M m ab _ (HM.o.box _)).mono ?_;rintro e w1 ⟨rfl,ae⟩;rw[hmay];have HB1:=Qab (((Below.refl w.heap.size w).alloc (Nat.le_refl _) _).trans (ae.mono (by simp)));have aq:=(HM.o.below HB1.o).now;clear ae;go_wp2_with (go_at_call 139;refine(Qci _ _ _ aq).mono ?_;rintro e w' ⟨⟨bb,hz,rfl,af⟩,hb⟩);exact⟨rfl,by rw[HR.o];exact QaC.from (QaC.err rfl (Fr.of_below hb) ⟨bb,hz,rfl,af⟩) (Fr.of_below HB1.o)⟩
 have ah:=QpY hmay;have aA:0<=i.n:=by unfold Qjo at hmay;simp at hmay;exact hmay.1
 have hcl:ab<=400:=by obtain⟨kv,ap⟩:=h;exact ap.cl
 clear h;have aw:Hid (m.stack=[]->doCond taken ab i m=.error (12,(m.now:Int))):=fun h0=>by unfold doCond Qb1;rw[hmay,if_pos rfl,if_pos h0]
 have HR:Hid (m.stack≠[]->doCond taken ab i m=.ok (if topL m=taken then goL (QoD m) (m.next+i.n.toNat)else QoD m)):=fun h0=>by unfold doCond;rw[hmay,if_pos rfl,if_neg h0]
 go_enter func181,ntmps181;go_wp2_with fail;refine(Qd8 i.n B xb sb M m ab _ (HM.o.box _)).mono ?_;rintro e w1 ⟨rfl,ae⟩;rw[hmay];have HB1:=Qab (((Below.refl w.heap.size w).alloc (Nat.le_refl _) _).trans (ae.mono (by simp)));have p1:w1.cell? ⟨p,0,none⟩=some (.bool taken):=Qaa (Qai HP.o HB1.o) 0;have ag:=Qai (Qam w (.cells #[.int .i64 i.op,.int .i64 i.n,.int .i64 i.tag,.bool i.oct,.slice aa i.a.length ac,.slice ba i.b.length bc,.int .i64 i.at_] 147)) ae;have aB:=Qab ag;have ar:=Qab (Quz B xb sb M m ab w1.drew ((HM.o.below HB1.o).below (Qas (Below.refl _ _))));obtain⟨d,hd⟩:∃ d:Nat,i.n=(d:Int):=⟨i.n.toNat,by omega⟩;rw[hd]at HR ah;rw[Int.toNat_natCast]at HR ah
 have aj:Hid (∀ w2:World,Fr (PMc B xb) w1.drew w2->w2.cell? ⟨p,0,none⟩=some (.bool taken)/\w2.cell? ⟨w.heap.size,1,none⟩=some (.int .i64 (d:Int))):=fun w2 hf=>by
  have h1:w2.heap[p]?=some (.cells #[.bool taken] 4):=hf.block p _ (Qai HP.o (Qas HB1.o)) (fun hh=>by
   have:=hh.2;unfold kO stO at this;simp at this
   omega)
  have h2:=hf.block w.heap.size _ (show w1.drew.heap[w.heap.size]?=_ from aB.o) (PMc.not (by decide) (by decide) (by decide) (by decide));refine⟨Qaa h1 0,?_⟩;rw[Qaa h2,<-hd];rfl
 clear ae ag hmay aA hd;obtain⟨tp,ax⟩:∃ tp,topL m=tp:=⟨_,rfl⟩;rw[ax]at HR ar;clear ax;go_wp2_with (go_at_call 139;refine(Qbv _ _).mono ?_;rintro e w' ⟨rfl,ay⟩;rw[ay];clear ay);have hsum:IntKind.i64.wrap ((m.next:Int)+(d:Int))=(m.next:Int)+(d:Int):=by rw[IntKind.wrap_i64];omega
 have hne:¬ w.heap.size=xb:=by omega
 have hne':¬ xb=w.heap.size:=by omega
 by_cases hte:tp=taken
 ·subst hte;have ao:Hid (m.stack≠[]->doCond tp ab i m=.ok (goL (QoD m) (m.next+d))):=fun h0=>by rw[HR.o h0,if_pos rfl]
  have az:(tp==tp)=true:=by cases tp<;>rfl
  go_region_with (first|(go_at_call 179;refine ar.o.mono ?_;rintro e w2 (⟨h0,⟨bb,hz,rfl,af⟩,hb⟩ | ⟨h0,rfl,hm2,hf2⟩);exact⟨rfl,by rw[aw.o h0];exact QaC.from (QaC.err rfl (Fr.of_below hb) ⟨bb,hz,rfl,af⟩) (Fr.of_below (Qas HB1.o))⟩;obtain⟨kv,ad⟩:=hm2;have p2:=(aj.o w2 hf2).1;have q2:=(aj.o w2 hf2).2;have c3:w2.cell? ⟨xb,3,none⟩=some (.int .i64 (m.next:Int)):=Qaa ad.blk 3;have f3:=Qah ad.blk;have ai:=Qab ad;have ak:=Qab hf2;have H0:=Qab h0;clear ad hf2 h0;skip))
  all_goals go_wp2_with fail
  all_goals go_region
  all_goals go_wp2
  all_goals go_end0
  all_goals rw[ao.o H0.o]
  all_goals have HG:=ai.o.go (m.next+d) ah
  all_goals have au:=(ai.o.below (Qas (Below.refl _ _))).go (m.next+d) ah
  all_goals first
   |exact QaC.from (QaC.ok rfl (ak.o.trans HG.2.drew) (HG.1.below (Qas (Below.refl _ _)))) (Fr.of_below (Qas HB1.o))
   |exact QaC.from (QaC.ok rfl ((ak.o.drew).trans au.2) au.1) (Fr.of_below (Qas HB1.o))
 ·have ao:Hid (m.stack≠[]->doCond taken ab i m=.ok (QoD m)):=fun h0=>by rw[HR.o h0,if_neg hte]
  have az:(tp==taken)=false:=by cases tp<;>cases taken<;>first|rfl|exact absurd rfl hte
  clear hte;go_region_with (first|(go_at_call 179;refine ar.o.mono ?_;rintro e w2 (⟨h0,⟨bb,hz,rfl,af⟩,hb⟩ | ⟨h0,rfl,hm2,hf2⟩);exact⟨rfl,by rw[aw.o h0];exact QaC.from (QaC.err rfl (Fr.of_below hb) ⟨bb,hz,rfl,af⟩) (Fr.of_below (Qas HB1.o))⟩;obtain⟨kv,ad⟩:=hm2;have p2:=(aj.o w2 hf2).1;have q2:=(aj.o w2 hf2).2;have c3:w2.cell? ⟨xb,3,none⟩=some (.int .i64 (m.next:Int)):=Qaa ad.blk 3;have f3:=Qah ad.blk;have ai:=Qab ad;have ak:=Qab hf2;have H0:=Qab h0;clear ad hf2 h0;skip))
  all_goals go_wp2
  all_goals go_end0
  all_goals rw[ao.o H0.o]
  all_goals exact QaC.from (QaC.ok rfl ak.o ⟨_,ai.o⟩) (Fr.of_below (Qas HB1.o))
theorem Qx5(W:World):(binOp .neq 295 .nilFunc .nilFunc).run Tryz.prog W=.ok (.bool false) W:=by kernel_rfl
theorem Qyi(W:World)(f:Fn)(a b:Array Value):(binOp .neq 295 (.func f a b) .nilFunc).run Tryz.prog W=.ok (.bool true) W:=by kernel_rfl
theorem QxZ(tag:Int)(oct:Bool)(w:World) :
 Calls Tryz.prog 183 #[.int .i64 tag,.bool oct] w fun e w'=>(∃ wv,e=.returned wv/\((1<=tag/\tag<=3/\WayV w' tag oct wv)\/(¬(1<=tag/\tag<=3)/\wv=.nilFunc)))/\Below w.heap.size w w':=by
 cases oct
 ·exact QvV false _ rfl tag w
 ·exact QvV true _ rfl tag w
theorem MAt.pt{w:World}{B xb sb:Nat}{M:Msg}{m:MS}{aa:Nat}(h:MAt w B xb sb M m aa):w.cell? ⟨xb,0,none⟩=some (.pointer (some ⟨sb,0,none⟩)):=by
 obtain⟨kv,h⟩:=h;exact Qaa h.blk 0
theorem MAt.sat{w:World}{B xb sb:Nat}{M:Msg}{m:MS}{aa:Nat}(h:MAt w B xb sb M m aa):SAt w B sb M m.st:=by
 obtain⟨kv,h⟩:=h;exact h.st
theorem MAt.st'{w w':World}{B xb sb:Nat}{M:Msg}{m:MS}{aa:Nat}(h:MAt w B xb sb M m aa){s:SS}(hs:SAt w' B sb M s)(hf:Fr (PSt B) w w'):MAt w' B xb sb M (stL m s) aa:=by
 obtain⟨kv,h⟩:=h;exact⟨kv,h.st' hs hf⟩
theorem Qo6(fn:FuncId)(vals:List (L8))(p:Nat)(i:Ins)(av bv:Value)(B xb sb:Nat)(M:Msg)(m:MS)(ad:Nat)(w:World)(h:MAt w B xb sb M m ad)(ho:QbY w i av bv)(hp:w.heap[p]?=some (.cells #[.func (.func fn) #[] #[]] 233))(hcf:∀ args W,(callFunc fn args).run Tryz.prog W=.ok (.enter fn args) W)(af:∀ wv av bv W,WayV W i.tag i.oct wv->SAt W B sb M m.st->QbY W i av bv->Calls Tryz.prog fn #[.pointer (some ⟨sb,0,none⟩),wv,av,bv] W fun e w'=>e=.returned (.bool (askL m.st i.tag i.oct vals i.b).1)/\SAt w' B sb M (askL m.st i.tag i.oct vals i.b).2/\Fr (PSt B) W w') :
 Calls Tryz.prog 182 #[.pointer (some ⟨xb,0,none⟩),Qde i av bv,.pointer (some ⟨p,0,none⟩)] w (QaC (doAsk vals i m) B xb sb M ad w):=by
 obtain⟨aa,ac,aH⟩:=ho.a.len;obtain⟨ba,bc,aE⟩:=ho.b.len;subst aH aE;have HM:=Qab h;have HO:=Qab ho;have HP:=Qab hp;have hxl:xb<w.heap.size:=Qau h.now;have hpl:=Qar hp;have az:Hid (¬(1<=i.tag/\i.tag<=3)->doAsk vals i m=.error (12,(m.now:Int))):=fun h=>by unfold doAsk Qb1;rw[if_neg h]
 have HR:Hid ((1<=i.tag/\i.tag<=3)->doAsk vals i m=Qjz (askL m.st i.tag i.oct vals i.b).1 (stL m (askL m.st i.tag i.oct vals i.b).2)):=fun h=>by unfold doAsk QpL;rw[if_pos h]
 have hnt:=Qx5;have hnf:=Qyi;clear h ho hp;unfold Qde;go_enter func182,ntmps182;go_wp2_with fail;refine(QxZ i.tag i.oct _).mono ?_;rintro e w1 ⟨⟨wv,rfl,ae⟩,ah⟩;have ab:=Qab (((Below.refl w.heap.size w).alloc (Nat.le_refl _) _).trans (ah.mono (by simp)));have ag:=Qai (Qam w (.cells #[.int .i64 i.op,.int .i64 i.n,.int .i64 i.tag,.bool i.oct,.slice aa i.a.length ac,.slice ba i.b.length bc,.int .i64 i.at_] 147)) ah;rcases ae with⟨aC,aB,hw⟩ | ⟨ht,rfl⟩
 rotate_left
 ·have aq:=(HM.o.below ab.o).now;have HT:=Qab ht;clear ah ag ht;go_wp2_with (go_at_call 139;refine(Qci _ _ _ aq).mono ?_;rintro e w' ⟨⟨bb,hz,rfl,aw⟩,hb⟩);exact⟨rfl,by rw[az.o HT.o];exact QaC.from (QaC.err rfl (Fr.of_below hb) ⟨bb,hz,rfl,aw⟩) (Fr.of_below ab.o)⟩
 have ak:=Qab (HR.o ⟨aC,aB⟩);have HW:=Qab hw;obtain⟨F,fb,aF⟩:=hw.fn;subst aF;have p1:w1.cell? ⟨p,0,none⟩=some (.func (.func fn) #[] #[]):=Qaa (Qai HP.o ab.o) 0;have q4:w1.cell? ⟨w.heap.size,4,none⟩=some (.slice aa i.a.length ac):=Qaa ag 4;have q5:w1.cell? ⟨w.heap.size,5,none⟩=some (.slice ba i.b.length bc):=Qaa ag 5;have x0:=(HM.o.below ab.o).pt;have aj:=HM.o.below ab.o;obtain⟨kv0,ao⟩:=aj
 have ap:Hid (∀ W:World,Fr (PMc B xb) w1.drew W->W.cell? ⟨xb,0,none⟩=some (.pointer (some ⟨sb,0,none⟩))->W.cell? ⟨p,0,none⟩=some (.func (.func fn) #[] #[])/\W.cell? ⟨xb,0,none⟩=some (.pointer (some ⟨sb,0,none⟩))/\W.cell? ⟨w.heap.size,4,none⟩=some (.slice aa i.a.length ac)/\W.cell? ⟨w.heap.size,5,none⟩=some (.slice ba i.b.length bc)):=fun W hf hx=>by
  have h1:=hf.block p _ (Qai HP.o (Qas ab.o)) (PMc.not (by decide) (by decide) (by decide) (by decide));have h2:=hf.block w.heap.size _ (show w1.drew.heap[w.heap.size]?=_ from ag) (PMc.not (by decide) (by decide) (by decide) (by decide));exact⟨Qaa h1 0,hx,Qaa h2 4,Qaa h2 5⟩
 clear ao;have au:=Qab (af (.func (.func F) #[] fb) (.slice aa i.a.length ac) (.slice ba i.b.length bc) w1.drew (HW.o.below (Qas (Below.refl _ _))) ((HM.o.below (Qas ab.o)).sat) (HO.o.below (Qas ab.o)));generalize askL m.st i.tag i.oct vals i.b=r at *;obtain⟨rb,rs⟩:=r;dsimp only at ak au;clear ah ag hw HR az af;go_wp2_with (go_at_call 139;refine(Qbv _ _).mono ?_;rintro e w' ⟨rfl,aA⟩;rw[aA];clear aA);refine wp_region_held (S:=fun w'=>w'.cell? ⟨p,0,none⟩=some (.func (.func fn) #[] #[])/\w'.cell? ⟨xb,0,none⟩=some (.pointer (some ⟨sb,0,none⟩))/\w'.cell? ⟨w.heap.size,4,none⟩=some (.slice aa i.a.length ac)/\w'.cell? ⟨w.heap.size,5,none⟩=some (.slice ba i.b.length bc)) (by kernel_rfl) ?_;have hS:=ap.o w1.drew (Fr.refl _ _) x0;refine Qao 0 15 (.pointer (some ⟨xb,0,none⟩)) rfl hS (fun w' ⟨s1,s2,s3,s4⟩=>by go_simp) ?_;simp only[pt,sz,sc];refine Qao 1 16 (.func (.func fn) #[] #[]) rfl hS (fun w' ⟨s1,s2,s3,s4⟩=>by go_simp) ?_;simp only[pt,sz,sc];refine Qao 2 17 (.pointer (some ⟨xb,0,none⟩)) rfl hS (fun w' ⟨s1,s2,s3,s4⟩=>by go_simp) ?_;simp only[pt,sz,sc];refine Qao 3 18 (.pointer (some ⟨xb,0,none⟩)) rfl hS (fun w' ⟨s1,s2,s3,s4⟩=>by go_simp) ?_;simp only[pt,sz,sc];refine Qao 4 19 (.pointer (some ⟨xb,0,none⟩)) rfl hS (fun w' ⟨s1,s2,s3,s4⟩=>by go_simp) ?_;simp only[pt,sz,sc];refine Qao 5 20 (.pointer (some ⟨sb,0,none⟩)) rfl hS (fun w' ⟨s1,s2,s3,s4⟩=>by go_simp) ?_;simp only[pt,sz,sc];refine Qao 6 21 (.func (.func F) #[] fb) rfl hS (fun w' ⟨s1,s2,s3,s4⟩=>by go_simp) ?_;simp only[pt,sz,sc];refine Qao 7 22 (.pointer (some ⟨w.heap.size,4,none⟩)) rfl hS (fun w' ⟨s1,s2,s3,s4⟩=>by go_simp) ?_;simp only[pt,sz,sc];refine Qao 8 23 (.slice aa i.a.length ac) rfl hS (fun w' ⟨s1,s2,s3,s4⟩=>by go_simp) ?_;simp only[pt,sz,sc];refine Qao 9 24 (.pointer (some ⟨w.heap.size,5,none⟩)) rfl hS (fun w' ⟨s1,s2,s3,s4⟩=>by go_simp) ?_;simp only[pt,sz,sc];refine Qao 10 25 (.slice ba i.b.length bc) rfl hS (fun w' ⟨s1,s2,s3,s4⟩=>by go_simp) ?_;simp only[pt,sz,sc];refine wpAnyH_all (rs:=[11]) (by kernel_rfl) (by decide) (fun j hj=>?_);simp only[List.mem_singleton]at hj;subst hj;refine QaB rfl (by rfl) ?_;clear hS;go_simp;refine au.o.mono ?_;rintro e w2 ⟨rfl,ay,ai⟩;have ax:=Qab ((HM.o.below (Qas ab.o)).st' ay ai);have ar:=Qab ai;have aG:=Qab (ap.o w2 (ai.mono (fun _ _=>PMc.st)) ax.o.pt);clear ay ai;refine⟨aG.o,?_⟩
 try simp only[Act.put,List.setIfInBounds_toArray,List.set_cons_zero,List.set_cons_succ]
 refine wpAnyH_all (rs:=[12]) (by kernel_rfl) (by decide) (fun j hj=>?_);simp only[List.mem_singleton]at hj;subst hj;refine QaB rfl (by rfl) ?_;go_simp;refine(QfT rb B xb sb M (stL m rs) ad w2 ax.o).mono ?_;intro e w3 h3;rcases h3.cases with⟨hf,⟨m',hr,rfl,hm⟩ | ⟨f,hr,bb,hz,rfl,aw⟩⟩
 rotate_left
 ·exact⟨rfl,by rw[ak.o];exact QaC.from h3 ((Fr.of_below (Qas ab.o)).trans (ar.o.mono (fun _ _=>PMc.st)))⟩
 have H3:=Qab h3;have aD:=Qab (ap.o w3 ((ar.o.mono (fun _ _=>PMc.st)).trans hf) hm.pt);clear hm hf h3;refine⟨aD.o,wpAnyH_done (by kernel_rfl) ?_ _⟩
 try simp only[Act.put,List.setIfInBounds_toArray,List.set_cons_zero,List.set_cons_succ]
 go_wp2;go_end0;rw[ak.o];exact QaC.from H3.o ((Fr.of_below (Qas ab.o)).trans (ar.o.mono (fun _ _=>PMc.st)))
theorem QrA(p:Nat)(i:Ins)(av bv:Value)(B xb sb:Nat)(M:Msg)(m:MS)(aa:Nat)(w:World)(h:MAt w B xb sb M m aa)(ho:QbY w i av bv)(hp:w.heap[p]?=some (.cells #[.func (.func 129) #[] #[]] 233)) :
 Calls Tryz.prog 182 #[.pointer (some ⟨xb,0,none⟩),Qde i av bv,.pointer (some ⟨p,0,none⟩)] w (QaC (doAsk (fieldsL M (i.a.map (expL m.st))) i m) B xb sb M aa w):=
 Qo6 129 (fieldsL M (i.a.map (expL m.st))) p i av bv B xb sb M m aa w h ho hp (fun _ _=>by kernel_rfl) (fun wv av bv W hw hs hi=>QrS i.tag i.oct B sb M m.st i.a i.b wv av bv W hw hs hi.a hi.b hi.al hi.bl hi.an hi.bn)
theorem QmW(p:Nat)(i:Ins)(av bv:Value)(B xb sb:Nat)(M:Msg)(m:MS)(aa:Nat)(w:World)(h:MAt w B xb sb M m aa)(ho:QbY w i av bv)(hp:w.heap[p]?=some (.cells #[.func (.func 130) #[] #[]] 233)) :
 Calls Tryz.prog 182 #[.pointer (some ⟨xb,0,none⟩),Qde i av bv,.pointer (some ⟨p,0,none⟩)] w (QaC (doAsk (QiQ M i.a) i m) B xb sb M aa w):=
 Qo6 130 (QiQ M i.a) p i av bv B xb sb M m aa w h ho hp (fun _ _=>by kernel_rfl) (fun wv av bv W hw hs hi=>Qnu i.tag i.oct B sb M m.st i.a i.b wv av bv W hw hs hi.a hi.b hi.al hi.bl hi.an hi.bn)
theorem Qpd(p:Nat)(i:Ins)(av bv:Value)(B xb sb:Nat)(M:Msg)(m:MS)(aa:Nat)(w:World)(h:MAt w B xb sb M m aa)(ho:QbY w i av bv)(hp:w.heap[p]?=some (.cells #[.func (.func 131) #[] #[]] 233)) :
 Calls Tryz.prog 182 #[.pointer (some ⟨xb,0,none⟩),Qde i av bv,.pointer (some ⟨p,0,none⟩)] w (QaC (doAsk (i.a.map (expL m.st)) i m) B xb sb M aa w):=
 Qo6 131 (i.a.map (expL m.st)) p i av bv B xb sb M m aa w h ho hp (fun _ _=>by kernel_rfl) (fun wv av bv W hw hs hi=>Qoq i.tag i.oct B sb M m.st i.a i.b wv av bv W hw hs hi.a hi.b hi.al hi.bl hi.an hi.bn)
theorem Qav{B xb sb:Nat}{M:Msg}{m:MS}{aa:Nat}{w W:World}{cs:Array Value}(hm:MAt W B xb sb M m aa)(hf:Fr (PMc B xb) (w.alloc (.cells cs 147)).drew W):W.cell? ⟨xb,0,none⟩=some (.pointer (some ⟨sb,0,none⟩))/\∀ j,W.cell? ⟨w.heap.size,j,none⟩=cs[j]?:=by
 have h2:=hf.block w.heap.size _ (show(w.alloc (.cells cs 147)).drew.heap[w.heap.size]?=_ from Qam _ _) (PMc.not (by decide) (by decide) (by decide) (by decide));exact⟨hm.pt,fun j=>Qaa h2 j⟩
theorem Qak{w:World}(o:Obj):Below w.heap.size w (w.alloc o).drew:=Qas ((Below.refl _ _).alloc (Nat.le_refl _) _)
theorem QrF(i:Ins)(av bv:Value)(B xb sb:Nat)(M:Msg)(m:MS)(ab:Nat)(w:World)(h:MAt w B xb sb M m ab)(ho:QbY w i av bv) :
 Calls Tryz.prog 132 #[.pointer (some ⟨xb,0,none⟩),Qde i av bv] w (QaC (Qjz (existsL M (i.a.map (expL m.st))) m) B xb sb M ab w):=by
 obtain⟨aa,ac,ai⟩:=ho.a.len;obtain⟨ba,bc,aj⟩:=ho.b.len;subst ai aj;have HM:=Qab h;have HO:=Qab ho;have hxl:xb<w.heap.size:=Qau h.now;have hnow:=(h.box (.cells #[.int .i64 i.op,.int .i64 i.n,.int .i64 i.tag,.bool i.oct,.slice aa i.a.length ac,.slice ba i.b.length bc,.int .i64 i.at_] 147)).now;have ae:=Qab (h.below (Qak (.cells #[.int .i64 i.op,.int .i64 i.n,.int .i64 i.tag,.bool i.oct,.slice aa i.a.length ac,.slice ba i.b.length bc,.int .i64 i.at_] 147)));have ak:=Qab (ho.below (Qak (.cells #[.int .i64 i.op,.int .i64 i.n,.int .i64 i.tag,.bool i.oct,.slice aa i.a.length ac,.slice ba i.b.length bc,.int .i64 i.at_] 147)));clear h ho;unfold Qde;have HE:=Qab (Qpm B sb M m.st i.a (.slice aa i.a.length ac) (w.alloc (.cells #[.int .i64 i.op,.int .i64 i.n,.int .i64 i.tag,.bool i.oct,.slice aa i.a.length ac,.slice ba i.b.length bc,.int .i64 i.at_] 147)).drew ae.o.sat ak.o.a (fun z hz=>Nat.le_trans (HO.o.al z hz) (by decide)) HO.o.an);generalize existsL M (i.a.map (expL m.st))=rb at *;go_enter func132,ntmps132;go_wp2_with fail;refine wp_region_held (S:=fun w'=>w'.cell? ⟨xb,0,none⟩=some (.pointer (some ⟨sb,0,none⟩))/\w'.cell? ⟨w.heap.size,4,none⟩=some (.slice aa i.a.length ac)) (by kernel_rfl) ?_;have hS:(w.alloc (.cells #[.int .i64 i.op,.int .i64 i.n,.int .i64 i.tag,.bool i.oct,.slice aa i.a.length ac,.slice ba i.b.length bc,.int .i64 i.at_] 147)).drew.cell? ⟨xb,0,none⟩=some (.pointer (some ⟨sb,0,none⟩))/\(w.alloc (.cells #[.int .i64 i.op,.int .i64 i.n,.int .i64 i.tag,.bool i.oct,.slice aa i.a.length ac,.slice ba i.b.length bc,.int .i64 i.at_] 147)).drew.cell? ⟨w.heap.size,4,none⟩=some (.slice aa i.a.length ac):=⟨(Qav ae.o (Fr.refl _ _)).1,(Qav ae.o (Fr.refl _ _)).2 4⟩;refine Qao 0 4 (.pointer (some ⟨xb,0,none⟩)) rfl hS (fun w' ⟨s1,s2⟩=>by go_simp) ?_;simp only[pt,sz,sc];refine Qao 1 5 (.pointer (some ⟨xb,0,none⟩)) rfl hS (fun w' ⟨s1,s2⟩=>by go_simp) ?_;simp only[pt,sz,sc];refine Qao 2 6 (.pointer (some ⟨xb,0,none⟩)) rfl hS (fun w' ⟨s1,s2⟩=>by go_simp) ?_;simp only[pt,sz,sc];refine Qao 3 7 (.pointer (some ⟨xb,0,none⟩)) rfl hS (fun w' ⟨s1,s2⟩=>by go_simp) ?_;simp only[pt,sz,sc];refine Qao 4 8 (.pointer (some ⟨sb,0,none⟩)) rfl hS (fun w' ⟨s1,s2⟩=>by go_simp) ?_;simp only[pt,sz,sc];refine Qao 5 9 (.pointer (some ⟨w.heap.size,4,none⟩)) rfl hS (fun w' ⟨s1,s2⟩=>by go_simp) ?_;simp only[pt,sz,sc];refine Qao 6 10 (.slice aa i.a.length ac) rfl hS (fun w' ⟨s1,s2⟩=>by go_simp) ?_;simp only[pt,sz,sc];clear hS;refine wpAnyH_all (rs:=[7]) (by kernel_rfl) (by decide) (fun j hj=>?_);simp only[List.mem_singleton]at hj;subst hj;refine QaB rfl (by rfl) ?_;go_simp;refine HE.o.mono ?_;rintro e w2 ⟨rfl,ag⟩;have af:=Qab (ae.o.below ag);have ad:Hid (Fr (PMc B xb) (w.alloc (.cells #[.int .i64 i.op,.int .i64 i.n,.int .i64 i.tag,.bool i.oct,.slice aa i.a.length ac,.slice ba i.b.length bc,.int .i64 i.at_] 147)).drew w2):=Fr.of_below ag;clear ag;refine⟨⟨(Qav af.o ad.o).1,(Qav af.o ad.o).2 4⟩,?_⟩
 try simp only[Act.put,List.setIfInBounds_toArray,List.set_cons_zero,List.set_cons_succ]
 refine wpAnyH_all (rs:=[8]) (by kernel_rfl) (by decide) (fun j hj=>?_);simp only[List.mem_singleton]at hj;subst hj;refine QaB rfl (by rfl) ?_;go_simp;refine(QfT rb B xb sb M m ab w2 af.o).mono ?_;intro e w3 h3;rcases h3.cases with⟨hf,⟨m',hr,rfl,hm⟩ | ⟨f,hr,bb,hz,rfl,hcc⟩⟩
 rotate_left
 ·exact⟨rfl,QaC.from h3 ((Fr.of_below (Qak _)).trans ad.o)⟩
 have H3:=Qab h3;have ah:=Qab (Qav hm (ad.o.trans hf));clear hm hf h3;refine⟨⟨(ah.o).1,(ah.o).2 4⟩,wpAnyH_done (by kernel_rfl) ?_ _⟩
 try simp only[Act.put,List.setIfInBounds_toArray,List.set_cons_zero,List.set_cons_succ]
 go_wp2;go_end0;exact QaC.from H3.o ((Fr.of_below (Qak _)).trans ad.o)
theorem Qus(i:Ins)(av bv:Value)(B xb sb:Nat)(M:Msg)(m:MS)(ad:Nat)(w:World)(h:MAt w B xb sb M m ad)(ho:QbY w i av bv) :
 Calls Tryz.prog 133 #[.pointer (some ⟨xb,0,none⟩),Qde i av bv] w (QaC (Qf1 M i m) B xb sb M ad w):=by
 obtain⟨aa,ac,ai⟩:=ho.a.len;obtain⟨ba,bc,aj⟩:=ho.b.len;subst ai aj;have HM:=Qab h;have HO:=Qab ho;have hxl:xb<w.heap.size:=Qau h.now;have ag:=(h.box (.cells #[.int .i64 i.op,.int .i64 i.n,.int .i64 i.tag,.bool i.oct,.slice aa i.a.length ac,.slice ba i.b.length bc,.int .i64 i.at_] 147)).now;have ab:=Qab (h.below (Qak (.cells #[.int .i64 i.op,.int .i64 i.n,.int .i64 i.tag,.bool i.oct,.slice aa i.a.length ac,.slice ba i.b.length bc,.int .i64 i.at_] 147)));have HOD:=Qab (ho.below (Qak (.cells #[.int .i64 i.op,.int .i64 i.n,.int .i64 i.tag,.bool i.oct,.slice aa i.a.length ac,.slice ba i.b.length bc,.int .i64 i.at_] 147)));clear h ho;unfold Qde;have e1:=QeT i.tag 1;have e2:=QeT i.tag 2;by_cases ht:i.tag=1\/i.tag=2;rotate_left
 ·have HR:Hid (Qf1 M i m=.error (12,(m.now:Int))):=by show _=_;unfold Qf1 Qb1;rw[if_neg ht]
  rw[decide_eq_false (by omega)]at e1 e2;clear ht;go_enter func133,ntmps133;go_wp2_with (go_at_call 139;refine(Qci _ _ _ ag).mono ?_;rintro e w' ⟨⟨bb,hz,rfl,ah⟩,hb⟩);exact⟨rfl,by rw[HR.o];exact QaC.from (QaC.err rfl (Fr.of_below hb) ⟨bb,hz,rfl,ah⟩) (QcP _ _)⟩
 have HR:Hid (Qf1 M i m=Qjz (sizeB M i.tag i.n) m):=by show _=_;unfold Qf1;rw[if_pos ht]
 have ak:(decide (i.tag=1) || decide (i.tag=2))=true:=by simpa using ht
 have HZ:=Qab (Qwx B sb M m.st i.tag i.n (w.alloc (.cells #[.int .i64 i.op,.int .i64 i.n,.int .i64 i.tag,.bool i.oct,.slice aa i.a.length ac,.slice ba i.b.length bc,.int .i64 i.at_] 147)).drew ab.o.sat);generalize sizeB M i.tag i.n=rb at *;clear ht;generalize decide (i.tag=1)=b1 at *;generalize decide (i.tag=2)=b2 at *;cases b1
 ·cases b2
  ·cases ak
  go_enter func133,ntmps133;go_wp2_with (go_at_call 139;refine(Qbv _ _).mono ?_;rintro e w' ⟨rfl,af⟩;rw[af];clear af);refine wp_region_held (S:=fun w'=>w'.cell? ⟨xb,0,none⟩=some (.pointer (some ⟨sb,0,none⟩))/\w'.cell? ⟨w.heap.size,2,none⟩=some (.int .i64 i.tag)/\w'.cell? ⟨w.heap.size,1,none⟩=some (.int .i64 i.n)) (by kernel_rfl) ?_;have hS:(w.alloc (.cells #[.int .i64 i.op,.int .i64 i.n,.int .i64 i.tag,.bool i.oct,.slice aa i.a.length ac,.slice ba i.b.length bc,.int .i64 i.at_] 147)).drew.cell? ⟨xb,0,none⟩=some (.pointer (some ⟨sb,0,none⟩))/\(w.alloc (.cells #[.int .i64 i.op,.int .i64 i.n,.int .i64 i.tag,.bool i.oct,.slice aa i.a.length ac,.slice ba i.b.length bc,.int .i64 i.at_] 147)).drew.cell? ⟨w.heap.size,2,none⟩=some (.int .i64 i.tag)/\(w.alloc (.cells #[.int .i64 i.op,.int .i64 i.n,.int .i64 i.tag,.bool i.oct,.slice aa i.a.length ac,.slice ba i.b.length bc,.int .i64 i.at_] 147)).drew.cell? ⟨w.heap.size,1,none⟩=some (.int .i64 i.n):=⟨(Qav ab.o (Fr.refl _ _)).1,(Qav ab.o (Fr.refl _ _)).2 2,(Qav ab.o (Fr.refl _ _)).2 1⟩;refine Qao 0 14 (.pointer (some ⟨xb,0,none⟩)) rfl hS (fun w' ⟨s1,s2,s3⟩=>by go_simp) ?_;simp only[pt,sz,sc];refine Qao 1 15 (.pointer (some ⟨xb,0,none⟩)) rfl hS (fun w' ⟨s1,s2,s3⟩=>by go_simp) ?_;simp only[pt,sz,sc];refine Qao 2 16 (.pointer (some ⟨xb,0,none⟩)) rfl hS (fun w' ⟨s1,s2,s3⟩=>by go_simp) ?_;simp only[pt,sz,sc];refine Qao 3 17 (.pointer (some ⟨xb,0,none⟩)) rfl hS (fun w' ⟨s1,s2,s3⟩=>by go_simp) ?_;simp only[pt,sz,sc];refine Qao 4 18 (.pointer (some ⟨sb,0,none⟩)) rfl hS (fun w' ⟨s1,s2,s3⟩=>by go_simp) ?_;simp only[pt,sz,sc];refine Qao 5 19 (.pointer (some ⟨w.heap.size,2,none⟩)) rfl hS (fun w' ⟨s1,s2,s3⟩=>by go_simp) ?_;simp only[pt,sz,sc];refine Qao 6 20 (.int .i64 i.tag) rfl hS (fun w' ⟨s1,s2,s3⟩=>by go_simp) ?_;simp only[pt,sz,sc];refine Qao 7 21 (.pointer (some ⟨w.heap.size,1,none⟩)) rfl hS (fun w' ⟨s1,s2,s3⟩=>by go_simp) ?_;simp only[pt,sz,sc];refine Qao 8 22 (.int .i64 i.n) rfl hS (fun w' ⟨s1,s2,s3⟩=>by go_simp) ?_;simp only[pt,sz,sc];clear hS;refine wpAnyH_all (rs:=[9]) (by kernel_rfl) (by decide) (fun j hj=>?_);simp only[List.mem_singleton]at hj;subst hj;refine QaB rfl (by rfl) ?_;go_simp;refine HZ.o.mono ?_;rintro e w2 ⟨rfl,rfl⟩;refine⟨⟨(Qav ab.o (Fr.refl _ _)).1,(Qav ab.o (Fr.refl _ _)).2 2,(Qav ab.o (Fr.refl _ _)).2 1⟩,?_⟩
  try simp only[Act.put,List.setIfInBounds_toArray,List.set_cons_zero,List.set_cons_succ]
  refine wpAnyH_all (rs:=[10]) (by kernel_rfl) (by decide) (fun j hj=>?_);simp only[List.mem_singleton]at hj;subst hj;refine QaB rfl (by rfl) ?_;go_simp;refine(QfT rb B xb sb M m ad _ ab.o).mono ?_;intro e w3 h3;rcases h3.cases with⟨hf,⟨m',hr,rfl,hm⟩ | ⟨f,hr,bb,hz,rfl,ah⟩⟩
  rotate_left
  ·exact⟨rfl,by rw[HR.o];exact QaC.from h3 (Fr.of_below (Qak _))⟩
  have H3:=Qab h3;have ae:=Qab (Qav hm hf);clear hm hf h3;refine⟨⟨(ae.o).1,(ae.o).2 2,(ae.o).2 1⟩,wpAnyH_done (by kernel_rfl) ?_ _⟩
  try simp only[Act.put,List.setIfInBounds_toArray,List.set_cons_zero,List.set_cons_succ]
  go_wp2;go_end0;rw[HR.o];exact QaC.from H3.o (Fr.of_below (Qak _))
 ·go_enter func133,ntmps133;go_wp2_with (go_at_call 139;refine(Qbv _ _).mono ?_;rintro e w' ⟨rfl,af⟩;rw[af];clear af);refine wp_region_held (S:=fun w'=>w'.cell? ⟨xb,0,none⟩=some (.pointer (some ⟨sb,0,none⟩))/\w'.cell? ⟨w.heap.size,2,none⟩=some (.int .i64 i.tag)/\w'.cell? ⟨w.heap.size,1,none⟩=some (.int .i64 i.n)) (by kernel_rfl) ?_;have hS:(w.alloc (.cells #[.int .i64 i.op,.int .i64 i.n,.int .i64 i.tag,.bool i.oct,.slice aa i.a.length ac,.slice ba i.b.length bc,.int .i64 i.at_] 147)).drew.cell? ⟨xb,0,none⟩=some (.pointer (some ⟨sb,0,none⟩))/\(w.alloc (.cells #[.int .i64 i.op,.int .i64 i.n,.int .i64 i.tag,.bool i.oct,.slice aa i.a.length ac,.slice ba i.b.length bc,.int .i64 i.at_] 147)).drew.cell? ⟨w.heap.size,2,none⟩=some (.int .i64 i.tag)/\(w.alloc (.cells #[.int .i64 i.op,.int .i64 i.n,.int .i64 i.tag,.bool i.oct,.slice aa i.a.length ac,.slice ba i.b.length bc,.int .i64 i.at_] 147)).drew.cell? ⟨w.heap.size,1,none⟩=some (.int .i64 i.n):=⟨(Qav ab.o (Fr.refl _ _)).1,(Qav ab.o (Fr.refl _ _)).2 2,(Qav ab.o (Fr.refl _ _)).2 1⟩;refine Qao 0 14 (.pointer (some ⟨xb,0,none⟩)) rfl hS (fun w' ⟨s1,s2,s3⟩=>by go_simp) ?_;simp only[pt,sz,sc];refine Qao 1 15 (.pointer (some ⟨xb,0,none⟩)) rfl hS (fun w' ⟨s1,s2,s3⟩=>by go_simp) ?_;simp only[pt,sz,sc];refine Qao 2 16 (.pointer (some ⟨xb,0,none⟩)) rfl hS (fun w' ⟨s1,s2,s3⟩=>by go_simp) ?_;simp only[pt,sz,sc];refine Qao 3 17 (.pointer (some ⟨xb,0,none⟩)) rfl hS (fun w' ⟨s1,s2,s3⟩=>by go_simp) ?_;simp only[pt,sz,sc];refine Qao 4 18 (.pointer (some ⟨sb,0,none⟩)) rfl hS (fun w' ⟨s1,s2,s3⟩=>by go_simp) ?_;simp only[pt,sz,sc];refine Qao 5 19 (.pointer (some ⟨w.heap.size,2,none⟩)) rfl hS (fun w' ⟨s1,s2,s3⟩=>by go_simp) ?_;simp only[pt,sz,sc];refine Qao 6 20 (.int .i64 i.tag) rfl hS (fun w' ⟨s1,s2,s3⟩=>by go_simp) ?_;simp only[pt,sz,sc];refine Qao 7 21 (.pointer (some ⟨w.heap.size,1,none⟩)) rfl hS (fun w' ⟨s1,s2,s3⟩=>by go_simp) ?_;simp only[pt,sz,sc];refine Qao 8 22 (.int .i64 i.n) rfl hS (fun w' ⟨s1,s2,s3⟩=>by go_simp) ?_;simp only[pt,sz,sc];clear hS;refine wpAnyH_all (rs:=[9]) (by kernel_rfl) (by decide) (fun j hj=>?_);simp only[List.mem_singleton]at hj;subst hj;refine QaB rfl (by rfl) ?_;go_simp;refine HZ.o.mono ?_;rintro e w2 ⟨rfl,rfl⟩;refine⟨⟨(Qav ab.o (Fr.refl _ _)).1,(Qav ab.o (Fr.refl _ _)).2 2,(Qav ab.o (Fr.refl _ _)).2 1⟩,?_⟩
  try simp only[Act.put,List.setIfInBounds_toArray,List.set_cons_zero,List.set_cons_succ]
  refine wpAnyH_all (rs:=[10]) (by kernel_rfl) (by decide) (fun j hj=>?_);simp only[List.mem_singleton]at hj;subst hj;refine QaB rfl (by rfl) ?_;go_simp;refine(QfT rb B xb sb M m ad _ ab.o).mono ?_;intro e w3 h3;rcases h3.cases with⟨hf,⟨m',hr,rfl,hm⟩ | ⟨f,hr,bb,hz,rfl,ah⟩⟩
  rotate_left
  ·exact⟨rfl,by rw[HR.o];exact QaC.from h3 (Fr.of_below (Qak _))⟩
  have H3:=Qab h3;have ae:=Qab (Qav hm hf);clear hm hf h3;refine⟨⟨(ae.o).1,(ae.o).2 2,(ae.o).2 1⟩,wpAnyH_done (by kernel_rfl) ?_ _⟩
  try simp only[Act.put,List.setIfInBounds_toArray,List.set_cons_zero,List.set_cons_succ]
  go_wp2;go_end0;rw[HR.o];exact QaC.from H3.o (Fr.of_below (Qak _))
theorem Qpe(i:Ins)(av bv:Value)(B xb sb:Nat)(M:Msg)(m:MS)(ab:Nat)(w:World)(h:MAt w B xb sb M m ab)(ho:QbY w i av bv) :
 Calls Tryz.prog 136 #[.pointer (some ⟨xb,0,none⟩),Qde i av bv] w (QaC (.ok (stL m (QvF m.st))) B xb sb M ab w):=by
 obtain⟨aa,ac,af⟩:=ho.a.len;obtain⟨ba,bc,ag⟩:=ho.b.len;subst af ag;have HM:=Qab h;have HO:=Qab ho;have hxl:xb<w.heap.size:=Qau h.now;have hnow:=(h.box (.cells #[.int .i64 i.op,.int .i64 i.n,.int .i64 i.tag,.bool i.oct,.slice aa i.a.length ac,.slice ba i.b.length bc,.int .i64 i.at_] 147)).now;have HMD:=Qab (h.below (Qak (.cells #[.int .i64 i.op,.int .i64 i.n,.int .i64 i.tag,.bool i.oct,.slice aa i.a.length ac,.slice ba i.b.length bc,.int .i64 i.at_] 147)));have HOD:=Qab (ho.below (Qak (.cells #[.int .i64 i.op,.int .i64 i.n,.int .i64 i.tag,.bool i.oct,.slice aa i.a.length ac,.slice ba i.b.length bc,.int .i64 i.at_] 147)));clear h ho;unfold Qde;have x0:=(HM.o.box (.cells #[.int .i64 i.op,.int .i64 i.n,.int .i64 i.tag,.bool i.oct,.slice aa i.a.length ac,.slice ba i.b.length bc,.int .i64 i.at_] 147)).pt;go_enter func136,ntmps136;go_wp2_with fail;refine(QrQ B sb M m.st _ (HM.o.box _).sat).mono ?_;rintro e w2 ⟨ad,rfl,ae⟩;have ah:=Qab ad;have ai:=Qab ((HM.o.box _).st' ae ad);clear ad ae;go_wp2;go_end0;exact QaC.ok rfl ((QcP _ _).trans (ah.o.mono (fun _ _=>PMc.st))) ai.o
theorem QuC(i:Ins)(av bv:Value)(B xb sb:Nat)(M:Msg)(m:MS)(ab:Nat)(w:World)(h:MAt w B xb sb M m ab)(ho:QbY w i av bv) :
 Calls Tryz.prog 138 #[.pointer (some ⟨xb,0,none⟩),Qde i av bv] w (QaC (.ok (goL m ab)) B xb sb M ab w):=by
 obtain⟨aa,ac,af⟩:=ho.a.len;obtain⟨ba,bc,ae⟩:=ho.b.len;subst af ae;have HM:=Qab h;have HO:=Qab ho;have hxl:xb<w.heap.size:=Qau h.now;have hnow:=(h.box (.cells #[.int .i64 i.op,.int .i64 i.n,.int .i64 i.tag,.bool i.oct,.slice aa i.a.length ac,.slice ba i.b.length bc,.int .i64 i.at_] 147)).now;have HMD:=Qab (h.below (Qak (.cells #[.int .i64 i.op,.int .i64 i.n,.int .i64 i.tag,.bool i.oct,.slice aa i.a.length ac,.slice ba i.b.length bc,.int .i64 i.at_] 147)));have HOD:=Qab (ho.below (Qak (.cells #[.int .i64 i.op,.int .i64 i.n,.int .i64 i.tag,.bool i.oct,.slice aa i.a.length ac,.slice ba i.b.length bc,.int .i64 i.at_] 147)));clear h ho;unfold Qde;obtain⟨kv,ad⟩:=HM.o;have c3:=Qaa ad.blk 3;have c4:=Qaa ad.blk 4;have f3:=Qah ad.blk;unfold Qem at c3 c4;have HG:=Qab (ad.go ab (Nat.le_refl _));clear ad;go_enter func138,ntmps138;go_wp2;go_end0;exact QaC.ok rfl (HG.o.2.alloc _) (HG.o.1.box _)
theorem Qt0(i:Ins)(m:MS)(arg:L8):QvY i m arg=(Qxy m.st i.tag arg i.at_).map (stL m):=by
 unfold QvY Qxy;split<;>rfl
theorem Qms.cases{r:Except FZ SS}{B sb:Nat}{M:Msg}{w w':World}{e:Ending}(h:Qms r B sb M w e w'):Fr (PSt B) w w'/\((∃ s,r=.ok s/\e=.returned (.tuple #[])/\SAt w' B sb M s)\/∃ f,r=.error f/\QdO f w e w'):=by
 obtain⟨hf,h⟩:=h
 cases r with
 |ok s=>exact⟨hf,Or.inl ⟨s,rfl,h⟩⟩
 |error f=>exact⟨hf,Or.inr ⟨f,rfl,h⟩⟩
theorem QwQ(i:Ins)(av bv:Value)(B xb sb:Nat)(M:Msg)(m:MS)(ak:Nat)(w:World)(h:MAt w B xb sb M m ak)(ho:QbY w i av bv) :
 Calls Tryz.prog 134 #[.pointer (some ⟨xb,0,none⟩),Qde i av bv] w (QaC (QgK i m) B xb sb M ak w):=by
 obtain⟨aa,ac,aD⟩:=ho.a.len;obtain⟨ba,bc,aC⟩:=ho.b.len;subst aD aC;have HM:=Qab h;have HO:=Qab ho;have hxl:xb<w.heap.size:=Qau h.now;have aj:=(h.box (.cells #[.int .i64 i.op,.int .i64 i.n,.int .i64 i.tag,.bool i.oct,.slice aa i.a.length ac,.slice ba i.b.length bc,.int .i64 i.at_] 147)).now;have ab:=Qab (h.below (Qak (.cells #[.int .i64 i.op,.int .i64 i.n,.int .i64 i.tag,.bool i.oct,.slice aa i.a.length ac,.slice ba i.b.length bc,.int .i64 i.at_] 147)));have az:=Qab (ho.below (Qak (.cells #[.int .i64 i.op,.int .i64 i.n,.int .i64 i.tag,.bool i.oct,.slice aa i.a.length ac,.slice ba i.b.length bc,.int .i64 i.at_] 147)));clear h ho;unfold Qde;have e1:=QeT i.tag 1;have e2:=QeT i.tag 2;have e3:=QeT i.tag 3;have e4:=QeT i.tag 4;by_cases t1:i.tag=1
 ·have HR:Hid (QgK i m=(Qxy m.st i.tag [] i.at_).map (stL m)):=by show _=_;unfold QgK;rw[if_pos t1,Qt0]
  rw[decide_eq_true t1]at e1;have aw:=Qab (Qwc B sb M m.st i.tag i.at_ [] (w.alloc (.cells #[.int .i64 i.op,.int .i64 i.n,.int .i64 i.tag,.bool i.oct,.slice aa i.a.length ac,.slice ba i.b.length bc,.int .i64 i.at_] 147)).drew ab.o.sat (by decide));clear t1;go_enter func134,ntmps134;go_wp2_with fail;refine wp_region_held (S:=fun w'=>w'.cell? ⟨xb,0,none⟩=some (.pointer (some ⟨sb,0,none⟩))/\w'.cell? ⟨w.heap.size,2,none⟩=some (.int .i64 i.tag)/\w'.cell? ⟨w.heap.size,6,none⟩=some (.int .i64 i.at_)) (by kernel_rfl) ?_;have hS:(w.alloc (.cells #[.int .i64 i.op,.int .i64 i.n,.int .i64 i.tag,.bool i.oct,.slice aa i.a.length ac,.slice ba i.b.length bc,.int .i64 i.at_] 147)).drew.cell? ⟨xb,0,none⟩=some (.pointer (some ⟨sb,0,none⟩))/\(w.alloc (.cells #[.int .i64 i.op,.int .i64 i.n,.int .i64 i.tag,.bool i.oct,.slice aa i.a.length ac,.slice ba i.b.length bc,.int .i64 i.at_] 147)).drew.cell? ⟨w.heap.size,2,none⟩=some (.int .i64 i.tag)/\(w.alloc (.cells #[.int .i64 i.op,.int .i64 i.n,.int .i64 i.tag,.bool i.oct,.slice aa i.a.length ac,.slice ba i.b.length bc,.int .i64 i.at_] 147)).drew.cell? ⟨w.heap.size,6,none⟩=some (.int .i64 i.at_):=⟨(Qav ab.o (Fr.refl _ _)).1,(Qav ab.o (Fr.refl _ _)).2 2,(Qav ab.o (Fr.refl _ _)).2 6⟩;refine Qao 0 10 (.pointer (some ⟨xb,0,none⟩)) rfl hS (fun w' ⟨s1,s2,s3⟩=>by go_simp) ?_;simp only[pt,sz,sc];refine Qao 1 11 (.pointer (some ⟨xb,0,none⟩)) rfl hS (fun w' ⟨s1,s2,s3⟩=>by go_simp) ?_;simp only[pt,sz,sc];refine Qao 2 12 (.pointer (some ⟨xb,0,none⟩)) rfl hS (fun w' ⟨s1,s2,s3⟩=>by go_simp) ?_;simp only[pt,sz,sc];refine Qao 3 13 (.pointer (some ⟨sb,0,none⟩)) rfl hS (fun w' ⟨s1,s2,s3⟩=>by go_simp) ?_;simp only[pt,sz,sc];refine Qao 4 14 (.pointer (some ⟨w.heap.size,2,none⟩)) rfl hS (fun w' ⟨s1,s2,s3⟩=>by go_simp) ?_;simp only[pt,sz,sc];refine Qao 5 15 (.int .i64 i.tag) rfl hS (fun w' ⟨s1,s2,s3⟩=>by go_simp) ?_;simp only[pt,sz,sc];refine Qao 6 16 (.pointer (some ⟨w.heap.size,6,none⟩)) rfl hS (fun w' ⟨s1,s2,s3⟩=>by go_simp) ?_;simp only[pt,sz,sc];refine Qao 7 17 (.int .i64 i.at_) rfl hS (fun w' ⟨s1,s2,s3⟩=>by go_simp) ?_;simp only[pt,sz,sc];clear hS;refine wpAnyH_all (rs:=[8]) (by kernel_rfl) (by decide) (fun j hj=>?_);simp only[List.mem_singleton]at hj;subst hj;refine QaB rfl (by rfl) ?_;go_simp;refine aw.o.mono ?_;intro e w2 h2;rcases h2.cases with⟨hf,⟨s',hr,rfl,hs⟩ | ⟨f,hr,bb,hz,rfl,ae⟩⟩
  rotate_left
  ·exact⟨rfl,by rw[HR.o,hr];exact QaC.from (QaC.err rfl (hf.mono (fun _ _=>PMc.st)) ⟨bb,hz,rfl,ae⟩) (Fr.of_below (Qak _))⟩
  have ah:=Qab (ab.o.st' hs hf);have af:=Qab (hf.mono (fun _ _=>PMc.st (xb:=xb)));have ap:=Qab hr;have ad:=Qab (Qav ah.o af.o);clear hs hf h2 hr;refine⟨⟨(ad.o).1,(ad.o).2 2,(ad.o).2 6⟩,wpAnyH_done (by kernel_rfl) ?_ _⟩
  try simp only[Act.put,List.setIfInBounds_toArray,List.set_cons_zero,List.set_cons_succ]
  go_wp2;go_end0;rw[HR.o,ap.o];exact QaC.from (QaC.ok rfl af.o ah.o) (Fr.of_below (Qak _))
 rw[decide_eq_false t1]at e1;by_cases t24:2<=i.tag/\i.tag<=4;rotate_left
 ·have HR:Hid (QgK i m=.error (12,(m.now:Int))):=by show _=_;unfold QgK Qb1;rw[if_neg t1,if_neg (fun h=>t24 ⟨h.1,h.2.1⟩)]
  rw[decide_eq_false (by omega)]at e2 e3 e4;clear t1 t24;go_enter func134,ntmps134;go_wp2_with (go_at_call 139;refine(Qci _ _ _ aj).mono ?_;rintro e w' ⟨⟨bb,hz,rfl,ae⟩,hb⟩);exact⟨rfl,by rw[HR.o];exact QaC.from (QaC.err rfl (Fr.of_below hb) ⟨bb,hz,rfl,ae⟩) (QcP _ _)⟩
 by_cases ha:i.a=[]
 ·have HR:Hid (QgK i m=.error (12,(m.now:Int))):=by show _=_;unfold QgK Qb1;rw[if_neg t1,if_neg (fun h=>h.2.2 ha)]
  have hz0:¬(0:Int)<(i.a.length:Int):=by rw[ha];simp
  have aB:¬ 0<i.a.length:=by rw[ha];simp
  have hz2:decide (0<i.a.length)=false:=decide_eq_false aB;rcases(by omega:i.tag=2\/i.tag=3\/i.tag=4)with tt|tt|tt
  ·rw[decide_eq_true tt]at e2;rw[decide_eq_false (by omega)]at e3 e4;clear t1 t24 tt ha;go_enter func134,ntmps134;go_wp2_with (go_at_call 139;refine(Qci _ _ _ aj).mono ?_;rintro e w' ⟨⟨bb,hz,rfl,ae⟩,hb⟩);exact⟨rfl,by rw[HR.o];exact QaC.from (QaC.err rfl (Fr.of_below hb) ⟨bb,hz,rfl,ae⟩) (QcP _ _)⟩
  ·rw[decide_eq_true tt]at e3;rw[decide_eq_false (by omega)]at e2 e4;clear t1 t24 tt ha;go_enter func134,ntmps134;go_wp2_with (go_at_call 139;refine(Qci _ _ _ aj).mono ?_;rintro e w' ⟨⟨bb,hz,rfl,ae⟩,hb⟩);exact⟨rfl,by rw[HR.o];exact QaC.from (QaC.err rfl (Fr.of_below hb) ⟨bb,hz,rfl,ae⟩) (QcP _ _)⟩
  ·rw[decide_eq_true tt]at e4;rw[decide_eq_false (by omega)]at e2 e3;clear t1 t24 tt ha;go_enter func134,ntmps134;go_wp2_with (go_at_call 139;refine(Qci _ _ _ aj).mono ?_;rintro e w' ⟨⟨bb,hz,rfl,ae⟩,hb⟩);exact⟨rfl,by rw[HR.o];exact QaC.from (QaC.err rfl (Fr.of_below hb) ⟨bb,hz,rfl,ae⟩) (QcP _ _)⟩
 obtain⟨x,r,ai⟩:∃ x r,i.a=x::r:=by cases hh:i.a with|nil=>exact absurd hh ha|cons x r=>exact⟨x,r,rfl⟩
 have HR:Hid (QgK i m=(Qxy m.st i.tag x i.at_).map (stL m)):=by show _=_;unfold QgK;rw[if_neg t1,if_pos ⟨t24.1,t24.2,ha⟩,ai,Qt0];rfl
 have hxl2:=HO.o.al x (by rw[ai];simp);have aw:=Qab (Qwc B sb M m.st i.tag i.at_ x (w.alloc (.cells #[.int .i64 i.op,.int .i64 i.n,.int .i64 i.tag,.bool i.oct,.slice aa i.a.length ac,.slice ba i.b.length bc,.int .i64 i.at_] 147)).drew ab.o.sat (by omega));obtain⟨g,ay,hgl,ax⟩:=HO.o.a.get' 0 (by rw[ai];simp);have hgc':w.cell? ⟨g,0,none⟩=some (.string (sA x)):=by rw[ax];congr 3;simp[ai]
 have au:0<i.a.length:=by rw[ai];simp
 have hpos:(0:Int)<(i.a.length:Int):=by omega
 have hposd:decide (0<i.a.length)=true:=decide_eq_true au
 have ar:Hid (∀ W,Fr (PMc B xb) (w.alloc (.cells #[.int .i64 i.op,.int .i64 i.n,.int .i64 i.tag,.bool i.oct,.slice aa i.a.length ac,.slice ba i.b.length bc,.int .i64 i.at_] 147)).drew W->W.cell? ⟨g,0,none⟩=some (.string (sA x))):=fun W hf=>by
  have h1:=az.o.a.pm hf;obtain⟨g',aq,_,aA⟩:=h1.get' 0 (by rw[ai];simp);rw[ay]at aq;injection aq with aq
  injection aq with aq
  subst aq;rw[aA];congr 3;simp[ai]
 have hgne:¬ g=w.heap.size:=by omega
 clear ax;subst ay;rcases(by omega:i.tag=2\/i.tag=3\/i.tag=4)with tt|tt|tt
 ·rw[decide_eq_true tt]at e2;rw[decide_eq_false (by omega)]at e3 e4;clear t1 t24 tt ai ha;go_enter func134,ntmps134;go_wp2_with (go_at_call 139;refine(Qbv _ _).mono ?_;rintro e w' ⟨rfl,ao⟩;rw[ao];clear ao);refine wp_region_held (S:=fun w'=>w'.cell? ⟨xb,0,none⟩=some (.pointer (some ⟨sb,0,none⟩))/\w'.cell? ⟨w.heap.size,2,none⟩=some (.int .i64 i.tag)/\w'.cell? ⟨w.heap.size,4,none⟩=some (.slice (some ⟨g,0,none⟩) i.a.length ac)/\w'.cell? ⟨w.heap.size,6,none⟩=some (.int .i64 i.at_)/\w'.cell? ⟨g,0,none⟩=some (.string (sA x))) (by kernel_rfl) ?_;have hS:(w.alloc (.cells #[.int .i64 i.op,.int .i64 i.n,.int .i64 i.tag,.bool i.oct,.slice (some ⟨g,0,none⟩) i.a.length ac,.slice ba i.b.length bc,.int .i64 i.at_] 147)).drew.cell? ⟨xb,0,none⟩=some (.pointer (some ⟨sb,0,none⟩))/\(w.alloc (.cells #[.int .i64 i.op,.int .i64 i.n,.int .i64 i.tag,.bool i.oct,.slice (some ⟨g,0,none⟩) i.a.length ac,.slice ba i.b.length bc,.int .i64 i.at_] 147)).drew.cell? ⟨w.heap.size,2,none⟩=some (.int .i64 i.tag)/\(w.alloc (.cells #[.int .i64 i.op,.int .i64 i.n,.int .i64 i.tag,.bool i.oct,.slice (some ⟨g,0,none⟩) i.a.length ac,.slice ba i.b.length bc,.int .i64 i.at_] 147)).drew.cell? ⟨w.heap.size,4,none⟩=some (.slice (some ⟨g,0,none⟩) i.a.length ac)/\(w.alloc (.cells #[.int .i64 i.op,.int .i64 i.n,.int .i64 i.tag,.bool i.oct,.slice (some ⟨g,0,none⟩) i.a.length ac,.slice ba i.b.length bc,.int .i64 i.at_] 147)).drew.cell? ⟨w.heap.size,6,none⟩=some (.int .i64 i.at_)/\(w.alloc (.cells #[.int .i64 i.op,.int .i64 i.n,.int .i64 i.tag,.bool i.oct,.slice (some ⟨g,0,none⟩) i.a.length ac,.slice ba i.b.length bc,.int .i64 i.at_] 147)).drew.cell? ⟨g,0,none⟩=some (.string (sA x)):=⟨(Qav ab.o (Fr.refl _ _)).1,(Qav ab.o (Fr.refl _ _)).2 2,(Qav ab.o (Fr.refl _ _)).2 4,(Qav ab.o (Fr.refl _ _)).2 6,ar.o _ (Fr.refl _ _)⟩;refine Qao 0 29 (.pointer (some ⟨xb,0,none⟩)) rfl hS (fun w' ⟨s1,s2,s3,s4,s5⟩=>by go_simp) ?_;simp only[pt,sz,sc];refine Qao 1 30 (.pointer (some ⟨xb,0,none⟩)) rfl hS (fun w' ⟨s1,s2,s3,s4,s5⟩=>by go_simp) ?_;simp only[pt,sz,sc];refine Qao 2 31 (.pointer (some ⟨xb,0,none⟩)) rfl hS (fun w' ⟨s1,s2,s3,s4,s5⟩=>by go_simp) ?_;simp only[pt,sz,sc];refine Qao 3 32 (.pointer (some ⟨sb,0,none⟩)) rfl hS (fun w' ⟨s1,s2,s3,s4,s5⟩=>by go_simp) ?_;simp only[pt,sz,sc];refine Qao 4 33 (.pointer (some ⟨w.heap.size,2,none⟩)) rfl hS (fun w' ⟨s1,s2,s3,s4,s5⟩=>by go_simp) ?_;simp only[pt,sz,sc];refine Qao 5 34 (.int .i64 i.tag) rfl hS (fun w' ⟨s1,s2,s3,s4,s5⟩=>by go_simp) ?_;simp only[pt,sz,sc];refine Qao 6 35 (.pointer (some ⟨w.heap.size,4,none⟩)) rfl hS (fun w' ⟨s1,s2,s3,s4,s5⟩=>by go_simp) ?_;simp only[pt,sz,sc];refine Qao 7 36 (.slice (some ⟨g,0,none⟩) i.a.length ac) rfl hS (fun w' ⟨s1,s2,s3,s4,s5⟩=>by go_simp) ?_;simp only[pt,sz,sc];refine Qao 8 37 (.pointer (some ⟨g,0,none⟩)) rfl hS (fun w' ⟨s1,s2,s3,s4,s5⟩=>by go_simp) ?_;simp only[pt,sz,sc];refine Qao 9 38 (.string (sA x)) rfl hS (fun w' ⟨s1,s2,s3,s4,s5⟩=>by go_simp) ?_;simp only[pt,sz,sc];refine Qao 10 39 (.pointer (some ⟨w.heap.size,6,none⟩)) rfl hS (fun w' ⟨s1,s2,s3,s4,s5⟩=>by go_simp) ?_;simp only[pt,sz,sc];refine Qao 11 40 (.int .i64 i.at_) rfl hS (fun w' ⟨s1,s2,s3,s4,s5⟩=>by go_simp) ?_;simp only[pt,sz,sc];clear hS;refine wpAnyH_all (rs:=[12]) (by kernel_rfl) (by decide) (fun j hj=>?_);simp only[List.mem_singleton]at hj;subst hj;refine QaB rfl (by rfl) ?_;go_simp;refine aw.o.mono ?_;intro e w2 h2;rcases h2.cases with⟨hf,⟨s',hr,rfl,hs⟩ | ⟨f,hr,bb,hz,rfl,ae⟩⟩
  rotate_left
  ·exact⟨rfl,by rw[HR.o,hr];exact QaC.from (QaC.err rfl (hf.mono (fun _ _=>PMc.st)) ⟨bb,hz,rfl,ae⟩) (Fr.of_below (Qak _))⟩
  have ah:=Qab (ab.o.st' hs hf);have af:=Qab (hf.mono (fun _ _=>PMc.st (xb:=xb)));have ap:=Qab hr;have ag:=Qab (ar.o w2 af.o);have ad:=Qab (Qav ah.o af.o);clear hs hf h2 hr;refine⟨⟨(ad.o).1,(ad.o).2 2,(ad.o).2 4,(ad.o).2 6,ag.o⟩,wpAnyH_done (by kernel_rfl) ?_ _⟩
  try simp only[Act.put,List.setIfInBounds_toArray,List.set_cons_zero,List.set_cons_succ]
  go_wp2;go_end0;rw[HR.o,ap.o];exact QaC.from (QaC.ok rfl af.o ah.o) (Fr.of_below (Qak _))
 ·rw[decide_eq_true tt]at e3;rw[decide_eq_false (by omega)]at e2 e4;clear t1 t24 tt ai ha;go_enter func134,ntmps134;go_wp2_with (go_at_call 139;refine(Qbv _ _).mono ?_;rintro e w' ⟨rfl,ao⟩;rw[ao];clear ao);refine wp_region_held (S:=fun w'=>w'.cell? ⟨xb,0,none⟩=some (.pointer (some ⟨sb,0,none⟩))/\w'.cell? ⟨w.heap.size,2,none⟩=some (.int .i64 i.tag)/\w'.cell? ⟨w.heap.size,4,none⟩=some (.slice (some ⟨g,0,none⟩) i.a.length ac)/\w'.cell? ⟨w.heap.size,6,none⟩=some (.int .i64 i.at_)/\w'.cell? ⟨g,0,none⟩=some (.string (sA x))) (by kernel_rfl) ?_;have hS:(w.alloc (.cells #[.int .i64 i.op,.int .i64 i.n,.int .i64 i.tag,.bool i.oct,.slice (some ⟨g,0,none⟩) i.a.length ac,.slice ba i.b.length bc,.int .i64 i.at_] 147)).drew.cell? ⟨xb,0,none⟩=some (.pointer (some ⟨sb,0,none⟩))/\(w.alloc (.cells #[.int .i64 i.op,.int .i64 i.n,.int .i64 i.tag,.bool i.oct,.slice (some ⟨g,0,none⟩) i.a.length ac,.slice ba i.b.length bc,.int .i64 i.at_] 147)).drew.cell? ⟨w.heap.size,2,none⟩=some (.int .i64 i.tag)/\(w.alloc (.cells #[.int .i64 i.op,.int .i64 i.n,.int .i64 i.tag,.bool i.oct,.slice (some ⟨g,0,none⟩) i.a.length ac,.slice ba i.b.length bc,.int .i64 i.at_] 147)).drew.cell? ⟨w.heap.size,4,none⟩=some (.slice (some ⟨g,0,none⟩) i.a.length ac)/\(w.alloc (.cells #[.int .i64 i.op,.int .i64 i.n,.int .i64 i.tag,.bool i.oct,.slice (some ⟨g,0,none⟩) i.a.length ac,.slice ba i.b.length bc,.int .i64 i.at_] 147)).drew.cell? ⟨w.heap.size,6,none⟩=some (.int .i64 i.at_)/\(w.alloc (.cells #[.int .i64 i.op,.int .i64 i.n,.int .i64 i.tag,.bool i.oct,.slice (some ⟨g,0,none⟩) i.a.length ac,.slice ba i.b.length bc,.int .i64 i.at_] 147)).drew.cell? ⟨g,0,none⟩=some (.string (sA x)):=⟨(Qav ab.o (Fr.refl _ _)).1,(Qav ab.o (Fr.refl _ _)).2 2,(Qav ab.o (Fr.refl _ _)).2 4,(Qav ab.o (Fr.refl _ _)).2 6,ar.o _ (Fr.refl _ _)⟩;refine Qao 0 29 (.pointer (some ⟨xb,0,none⟩)) rfl hS (fun w' ⟨s1,s2,s3,s4,s5⟩=>by go_simp) ?_;simp only[pt,sz,sc];refine Qao 1 30 (.pointer (some ⟨xb,0,none⟩)) rfl hS (fun w' ⟨s1,s2,s3,s4,s5⟩=>by go_simp) ?_;simp only[pt,sz,sc];refine Qao 2 31 (.pointer (some ⟨xb,0,none⟩)) rfl hS (fun w' ⟨s1,s2,s3,s4,s5⟩=>by go_simp) ?_;simp only[pt,sz,sc];refine Qao 3 32 (.pointer (some ⟨sb,0,none⟩)) rfl hS (fun w' ⟨s1,s2,s3,s4,s5⟩=>by go_simp) ?_;simp only[pt,sz,sc];refine Qao 4 33 (.pointer (some ⟨w.heap.size,2,none⟩)) rfl hS (fun w' ⟨s1,s2,s3,s4,s5⟩=>by go_simp) ?_;simp only[pt,sz,sc];refine Qao 5 34 (.int .i64 i.tag) rfl hS (fun w' ⟨s1,s2,s3,s4,s5⟩=>by go_simp) ?_;simp only[pt,sz,sc];refine Qao 6 35 (.pointer (some ⟨w.heap.size,4,none⟩)) rfl hS (fun w' ⟨s1,s2,s3,s4,s5⟩=>by go_simp) ?_;simp only[pt,sz,sc];refine Qao 7 36 (.slice (some ⟨g,0,none⟩) i.a.length ac) rfl hS (fun w' ⟨s1,s2,s3,s4,s5⟩=>by go_simp) ?_;simp only[pt,sz,sc];refine Qao 8 37 (.pointer (some ⟨g,0,none⟩)) rfl hS (fun w' ⟨s1,s2,s3,s4,s5⟩=>by go_simp) ?_;simp only[pt,sz,sc];refine Qao 9 38 (.string (sA x)) rfl hS (fun w' ⟨s1,s2,s3,s4,s5⟩=>by go_simp) ?_;simp only[pt,sz,sc];refine Qao 10 39 (.pointer (some ⟨w.heap.size,6,none⟩)) rfl hS (fun w' ⟨s1,s2,s3,s4,s5⟩=>by go_simp) ?_;simp only[pt,sz,sc];refine Qao 11 40 (.int .i64 i.at_) rfl hS (fun w' ⟨s1,s2,s3,s4,s5⟩=>by go_simp) ?_;simp only[pt,sz,sc];clear hS;refine wpAnyH_all (rs:=[12]) (by kernel_rfl) (by decide) (fun j hj=>?_);simp only[List.mem_singleton]at hj;subst hj;refine QaB rfl (by rfl) ?_;go_simp;refine aw.o.mono ?_;intro e w2 h2;rcases h2.cases with⟨hf,⟨s',hr,rfl,hs⟩ | ⟨f,hr,bb,hz,rfl,ae⟩⟩
  rotate_left
  ·exact⟨rfl,by rw[HR.o,hr];exact QaC.from (QaC.err rfl (hf.mono (fun _ _=>PMc.st)) ⟨bb,hz,rfl,ae⟩) (Fr.of_below (Qak _))⟩
  have ah:=Qab (ab.o.st' hs hf);have af:=Qab (hf.mono (fun _ _=>PMc.st (xb:=xb)));have ap:=Qab hr;have ag:=Qab (ar.o w2 af.o);have ad:=Qab (Qav ah.o af.o);clear hs hf h2 hr;refine⟨⟨(ad.o).1,(ad.o).2 2,(ad.o).2 4,(ad.o).2 6,ag.o⟩,wpAnyH_done (by kernel_rfl) ?_ _⟩
  try simp only[Act.put,List.setIfInBounds_toArray,List.set_cons_zero,List.set_cons_succ]
  go_wp2;go_end0;rw[HR.o,ap.o];exact QaC.from (QaC.ok rfl af.o ah.o) (Fr.of_below (Qak _))
 ·rw[decide_eq_true tt]at e4;rw[decide_eq_false (by omega)]at e2 e3;clear t1 t24 tt ai ha;go_enter func134,ntmps134;go_wp2_with (go_at_call 139;refine(Qbv _ _).mono ?_;rintro e w' ⟨rfl,ao⟩;rw[ao];clear ao);refine wp_region_held (S:=fun w'=>w'.cell? ⟨xb,0,none⟩=some (.pointer (some ⟨sb,0,none⟩))/\w'.cell? ⟨w.heap.size,2,none⟩=some (.int .i64 i.tag)/\w'.cell? ⟨w.heap.size,4,none⟩=some (.slice (some ⟨g,0,none⟩) i.a.length ac)/\w'.cell? ⟨w.heap.size,6,none⟩=some (.int .i64 i.at_)/\w'.cell? ⟨g,0,none⟩=some (.string (sA x))) (by kernel_rfl) ?_;have hS:(w.alloc (.cells #[.int .i64 i.op,.int .i64 i.n,.int .i64 i.tag,.bool i.oct,.slice (some ⟨g,0,none⟩) i.a.length ac,.slice ba i.b.length bc,.int .i64 i.at_] 147)).drew.cell? ⟨xb,0,none⟩=some (.pointer (some ⟨sb,0,none⟩))/\(w.alloc (.cells #[.int .i64 i.op,.int .i64 i.n,.int .i64 i.tag,.bool i.oct,.slice (some ⟨g,0,none⟩) i.a.length ac,.slice ba i.b.length bc,.int .i64 i.at_] 147)).drew.cell? ⟨w.heap.size,2,none⟩=some (.int .i64 i.tag)/\(w.alloc (.cells #[.int .i64 i.op,.int .i64 i.n,.int .i64 i.tag,.bool i.oct,.slice (some ⟨g,0,none⟩) i.a.length ac,.slice ba i.b.length bc,.int .i64 i.at_] 147)).drew.cell? ⟨w.heap.size,4,none⟩=some (.slice (some ⟨g,0,none⟩) i.a.length ac)/\(w.alloc (.cells #[.int .i64 i.op,.int .i64 i.n,.int .i64 i.tag,.bool i.oct,.slice (some ⟨g,0,none⟩) i.a.length ac,.slice ba i.b.length bc,.int .i64 i.at_] 147)).drew.cell? ⟨w.heap.size,6,none⟩=some (.int .i64 i.at_)/\(w.alloc (.cells #[.int .i64 i.op,.int .i64 i.n,.int .i64 i.tag,.bool i.oct,.slice (some ⟨g,0,none⟩) i.a.length ac,.slice ba i.b.length bc,.int .i64 i.at_] 147)).drew.cell? ⟨g,0,none⟩=some (.string (sA x)):=⟨(Qav ab.o (Fr.refl _ _)).1,(Qav ab.o (Fr.refl _ _)).2 2,(Qav ab.o (Fr.refl _ _)).2 4,(Qav ab.o (Fr.refl _ _)).2 6,ar.o _ (Fr.refl _ _)⟩;refine Qao 0 29 (.pointer (some ⟨xb,0,none⟩)) rfl hS (fun w' ⟨s1,s2,s3,s4,s5⟩=>by go_simp) ?_;simp only[pt,sz,sc];refine Qao 1 30 (.pointer (some ⟨xb,0,none⟩)) rfl hS (fun w' ⟨s1,s2,s3,s4,s5⟩=>by go_simp) ?_;simp only[pt,sz,sc];refine Qao 2 31 (.pointer (some ⟨xb,0,none⟩)) rfl hS (fun w' ⟨s1,s2,s3,s4,s5⟩=>by go_simp) ?_;simp only[pt,sz,sc];refine Qao 3 32 (.pointer (some ⟨sb,0,none⟩)) rfl hS (fun w' ⟨s1,s2,s3,s4,s5⟩=>by go_simp) ?_;simp only[pt,sz,sc];refine Qao 4 33 (.pointer (some ⟨w.heap.size,2,none⟩)) rfl hS (fun w' ⟨s1,s2,s3,s4,s5⟩=>by go_simp) ?_;simp only[pt,sz,sc];refine Qao 5 34 (.int .i64 i.tag) rfl hS (fun w' ⟨s1,s2,s3,s4,s5⟩=>by go_simp) ?_;simp only[pt,sz,sc];refine Qao 6 35 (.pointer (some ⟨w.heap.size,4,none⟩)) rfl hS (fun w' ⟨s1,s2,s3,s4,s5⟩=>by go_simp) ?_;simp only[pt,sz,sc];refine Qao 7 36 (.slice (some ⟨g,0,none⟩) i.a.length ac) rfl hS (fun w' ⟨s1,s2,s3,s4,s5⟩=>by go_simp) ?_;simp only[pt,sz,sc];refine Qao 8 37 (.pointer (some ⟨g,0,none⟩)) rfl hS (fun w' ⟨s1,s2,s3,s4,s5⟩=>by go_simp) ?_;simp only[pt,sz,sc];refine Qao 9 38 (.string (sA x)) rfl hS (fun w' ⟨s1,s2,s3,s4,s5⟩=>by go_simp) ?_;simp only[pt,sz,sc];refine Qao 10 39 (.pointer (some ⟨w.heap.size,6,none⟩)) rfl hS (fun w' ⟨s1,s2,s3,s4,s5⟩=>by go_simp) ?_;simp only[pt,sz,sc];refine Qao 11 40 (.int .i64 i.at_) rfl hS (fun w' ⟨s1,s2,s3,s4,s5⟩=>by go_simp) ?_;simp only[pt,sz,sc];clear hS;refine wpAnyH_all (rs:=[12]) (by kernel_rfl) (by decide) (fun j hj=>?_);simp only[List.mem_singleton]at hj;subst hj;refine QaB rfl (by rfl) ?_;go_simp;refine aw.o.mono ?_;intro e w2 h2;rcases h2.cases with⟨hf,⟨s',hr,rfl,hs⟩ | ⟨f,hr,bb,hz,rfl,ae⟩⟩
  rotate_left
  ·exact⟨rfl,by rw[HR.o,hr];exact QaC.from (QaC.err rfl (hf.mono (fun _ _=>PMc.st)) ⟨bb,hz,rfl,ae⟩) (Fr.of_below (Qak _))⟩
  have ah:=Qab (ab.o.st' hs hf);have af:=Qab (hf.mono (fun _ _=>PMc.st (xb:=xb)));have ap:=Qab hr;have ag:=Qab (ar.o w2 af.o);have ad:=Qab (Qav ah.o af.o);clear hs hf h2 hr;refine⟨⟨(ad.o).1,(ad.o).2 2,(ad.o).2 4,(ad.o).2 6,ag.o⟩,wpAnyH_done (by kernel_rfl) ?_ _⟩
  try simp only[Act.put,List.setIfInBounds_toArray,List.set_cons_zero,List.set_cons_succ]
  go_wp2;go_end0;rw[HR.o,ap.o];exact QaC.from (QaC.ok rfl af.o ah.o) (Fr.of_below (Qak _))
end
end Go.Proofs.YthkibedbcbgajaaGreatDoor
