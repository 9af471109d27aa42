import Derived.MapFrom
import Derived.Orders
import Derived.OrdersHeld
import Derived.Test.YtbiclelojbfnbabGreatDoorBeginC
namespace Go.Proofs.YtbiclelojbfnbabGreatDoor
set_option linter.unusedVariables false
set_option linter.unusedSimpArgs false
set_option maxRecDepth 100000
set_option maxHeartbeats 4000000
section
open Go.RowKit
attribute [local go_sem ↓] Go.wp_at_zero Go.wp_at_succ
theorem QnP {l:List UInt8} {chk:List UInt8→Nat}:∀ (f:Nat) (acc:List (List UInt8)) (s:PS),Gd l s→∀ y,moreL l chk f acc s=.ok y→2*y.1.length+mu l.length y.2≤2*acc.length+mu l.length s
 | 0,acc,s,h=>fun y e=>by cases e;exact Nat.le_refl _
 | f+1,acc,s,h=>fun y e=>by
  rw [moreL] at e
  cases hp:passL l [[44],[93]] s with
  | error g=>rw [hp] at e;cases e
  | ok z=>
   rw [hp] at e
   obtain ⟨h1,h2⟩:=Qfj (zs:=[[44],[93]]) h (by decide) z hp
   dsimp only at e
   split at e
   ·cases hs:stringL l chk z.2 with
    | error g=>rw [hs] at e;cases e
    | ok x=>
     rw [hs] at e
     obtain ⟨h3,h4⟩:=Qct h1 x hs
     have h6:=QnP f _ x.2 h3 y e
     simp only [List.length_append,List.length_cons,List.length_nil] at h6
     omega
   ·cases e;dsimp only;omega
theorem Qnc {l:List UInt8} {chk:List UInt8→Nat} {F:Nat} {s:PS} (h:Gd l s):∀ y,stringsL l chk F s=.ok y→2*y.1.length+mu l.length y.2≤mu l.length s+1:=fun y e=>by
 unfold stringsL at e
 cases hm:mayL l [[91]] s with
 | error g=>rw [hm] at e;cases e
 | ok z=>
  rw [hm] at e
  obtain ⟨h1,h2⟩:=Qjk (zs:=[[91]]) h (by decide) z hm
  dsimp only at e
  cases hs:stringL l chk z.2 with
  | error g=>rw [hs] at e;cases e
  | ok x=>
   rw [hs] at e
   obtain ⟨h3,h4⟩:=Qct h1 x hs
   dsimp only at e
   split at e
   ·cases e;simp only [List.length_cons,List.length_nil];omega
   ·have h6:=QnP F _ x.2 h3 y e
    simp only [List.length_cons,List.length_nil] at h6
    omega
theorem QjL (req:List (List UInt8)) (x:List UInt8):(QbQ req x).length≤req.length+1:=by
 unfold QbQ;split <;> simp
theorem Qfi:∀ (xs req:List (List UInt8)),(xs.foldl QbQ req).length≤req.length+xs.length
 | [],req=>by simp
 | x :: r,req=>by
  have h1:=Qfi r (QbQ req x)
  have h2:=QjL req x
  rw [List.foldl_cons,List.length_cons]
  omega
theorem Qk6 {w:World} {base b:Nat} {rv:Value} {req:List (List UInt8)} (h:w.ownsRow base 9 1 rv req.length (QaV req)) (hnil:req=[]→rv=.slice none 0 0) (hb:b < base) (hl:req.length≤1000):Qjq w b rv req:=by
 by_cases hr:req=[]
 ·exact Or.inl ⟨hnil hr,hr⟩
 ·obtain ⟨g,c,hv,hg,ht,hx⟩:=slB.of_owns h rfl hr
  exact Or.inr ⟨g,c,hv,by omega,ht,hx,hl⟩
theorem QhJ.mod {w w':World} {p1 p2 g n c er b:Nat} {zs:List (List UInt8)} (h:QhJ w p1 p2 g n c er zs) (hm:Mod b w w') (h1:p1≠b) (h2:p2≠b) (h3:g≠b):QhJ w' p1 p2 g n c er zs:=
 ⟨QbK h.1 hm h1,QbK h.2.1 hm h2,fun j hj=>QbK (h.2.2.1 j hj) hm h3,h.2.2.2.1,h.2.2.2.2⟩
def Qhc:List (List UInt8):=[QaH,QaK,QaZ,Qbc]
theorem RC.setReq {w:World} {b:Nat} {t:ByteArray} {s:PS} {rv:Value} {mc mt:Nat} (h:RC w b t s rv mc mt) (v:Value):RC (w.setCell ⟨b,7,none⟩ v) b t s v mc mt:=
 h.step ((Mod.refl b w).setCell 7 v) (Qah w b 7 v _ _ h.at_) h.le h.sz h.e0 h.nm
def Qti (r:Except Flt (List (List UInt8)×PS)) (b:Nat) (t:ByteArray) (mc mt:Nat) (w:World) (e:Ending) (w':World):Prop:=
 Mod b w w'∧((∃ y rv,r=.ok y∧e=.returned (.tuple #[])∧RC w' b t y.2 rv mc mt∧Qjq w' b rv y.1∧∀ k,rv.ownBlock=some k→w.heap.size≤k)∨(∃ f,r=.error f∧QcR f w e w'))
theorem Qnf (b F:Nat) (t:ByteArray) (s:PS) (mc mt:Nat) (w:World) (h:RC w b t s (.slice none 0 0) mc mt) (hF:2*t.size+1 < F) :
 Calls Tryz.prog 122 #[.pointer (some ⟨b,0,none⟩)] w (Qti (reqMore t.data.toList F F [] s) b t mc mt w):=by
 have H:=Qaa h
 have hlt:=h.at_.lt
 have hmuL:=h.mu_le
 have hmuF:=h.mu_lt hF
 clear h
 obtain ⟨i0,hi,hz0,hz1,hz2⟩:=info_parts Tryz.infoStr
 go_enter Tryz.func122,Tryz.ntmps122
 go_wp2_with fail
 go_loopw [] (fun wr=>∃ (s':PS) (req:List (List UInt8)) (rv:Value) (f:Nat),RC wr b t s' rv mc mt∧wr.ownsRow w.heap.size 9 1 rv req.length (QaV req)∧(req=[]→rv=.slice none 0 0)∧Mod b w wr∧mu t.size s' < f∧2*req.length+mu t.size s'≤1300∧reqMore t.data.toList F F [] s=reqMore t.data.toList F f req s') (fun wr=>muW wr b t.size)
 case atStart=>exact ⟨s,[],.slice none 0 0,F,H.out,World.ownsRow_nil _ _ _ _,fun _=>rfl,Mod.refl _ _,hmuF,by simp;omega,rfl⟩
 case round=>
  obtain ⟨s',req,rv,f,hrc,hown,hnil,hmod,hf,hbd,hsp⟩:=hrel
  obtain ⟨f,rfl⟩:∃ g,f=g+1:=⟨f - 1,by omega⟩
  have hmuR:=hrc.muEq
  have hszR:wr.heap.size=wr.heap.size:=rfl
  generalize hMR:muW wr b t.size=MR at *
  have HR:=Qaa hrc
  have HMr:=Qaa hmod
  have HSP:=Qaa hsp
  have HOW:=Qaa hown
  have HNL:=Qaa hnil
  have hwr:w.heap.size≤wr.heap.size:=hmod.size
  clear hrc hmod hsp hown hnil hmuL hmuF
  go_wp2_with fail
  refine (Qgw b wr.heap.size 1 1 [Qbw] t s' rv mc mt _ (HR.out.alloc _) (QbN wr [Qbw] _ _ rfl) rfl (by decide)).mono ?_
  intro e w3 h3
  rcases h3.cases with ⟨y3,v3,hy3,rfl,hv3,hc3,hm3⟩ | ⟨f3,hf3,⟨bb,hz,rfl,hcc⟩,hm3⟩
  rotate_left
  ·exact ⟨rfl,⟨(HMr.out.alloc _).trans hm3,Or.inr ⟨f3,HSP.out.trans (Qae hf3),⟨bb,by simp at hz;omega,rfl,hcc⟩⟩⟩⟩
  have hmu3:=QhK (l:=t.data.toList) (by simpa using HR.out.le) HR.out.e0 (by decide) hy3
  rw [bal] at hmu3
  have hmu3':=hmu3.2.1
  replace hmu3:=hmu3.1
  have hA3:=((Mod.refl b wr).alloc (.cells #[.string (Qag Qbw)] 9)).trans hm3
  have HM3:=Qaa (HMr.out.trans hA3)
  have HY3:=Qaa hy3
  have HC3:=Qaa hc3
  have HO3:=Qaa (Qbj (b:=b) HOW.out hA3 (by omega))
  unfold Qi7 at hv3
  subst hv3
  clear h3 hy3 hc3 hm3 hA3
  by_cases h1:y3.1=0
  ·have h1':¬ (0:Int) < (y3.1:Int):=by omega
   have H1:=Qaa h1
   clear h1
   go_wp2
   go_end0
   exact ⟨HM3.out,Or.inl ⟨(req,y3.2),rv,HSP.out.trans ((Qac HY3.out).trans (if_pos H1.out)),rfl,HC3.out,Qk6 HO3.out HNL.out (by omega) (show req.length≤1000 by omega),fun k hk=>(HO3.out.lt k hk).1⟩⟩
  have h1':(0:Int) < (y3.1:Int):=by omega
  have hmu3'':=hmu3' h1
  have H1:=Qaa h1
  clear h1 hmu3'
  go_wp2_with (go_at_call 117;refine (Qhr _ _ _ _ _).mono ?_;rintro e w' ⟨rfl,rfl⟩)
  obtain ⟨U,hU⟩:∃ U,U=((w3.alloc (.cells #[.string ⟨#[101,110,118,101,108,111,112,101]⟩,.string ⟨#[102,105,108,101,105,110,116,111]⟩,.string ⟨#[114,101,106,101,99,116]⟩,.string ⟨#[118,97,114,105,97,98,108,101,115]⟩] 9)).alloc (.cells #[.int .i64 6] 30)).alloc (.cells #[.slice (some ⟨w3.heap.size,0,none⟩) 4 4] 89):=⟨_,rfl⟩
  have hw3:w.heap.size≤w3.heap.size:=HM3.out.size
  have HOU:Hid (QhJ U (w3.heap.size+1+1) (w3.heap.size+1) w3.heap.size 4 4 6 Qhc):=by
   rw [hU]
   refine ⟨?_,?_,?_,rfl,by decide⟩
   ·exact Qab (Qaw (by simp)) 0
   ·exact Qab (Qad (Qaw (by simp))) 0
   ·exact ((QbN w3 Qhc _ _ rfl).below ((Below.refl _ _).alloc (Nat.le_refl _) _)).below ((Below.refl _ _).alloc (Nat.le_refl _) _)
  have HRU:Hid (RC U b t y3.2 rv mc mt):=by rw [hU];exact ((HC3.out.alloc _).alloc _).alloc _
  have hMU':Mod b w3 U:=by rw [hU];exact (((Mod.refl b w3).alloc _).alloc _).alloc _
  have HMU:=Qaa (HM3.out.trans hMU')
  have HOW4:=Qaa (Qbj (b:=b) HO3.out hMU' (by omega))
  have hzU:U.heap.size=w3.heap.size+1+1+1:=by rw [hU];simp
  rw [← hU]
  clear hU hMU'
  refine (Qd5 (.func (.func 172) #[] #[.pointer (some ⟨w3.heap.size+1+1,0,none⟩),.pointer (some ⟨w3.heap.size+1,0,none⟩)]) (Qcs 6 Qhc) b F t y3.2 rv mc mt _ HRU.out (fun W s hm hc=>QgN _ _ _ 4 4 6 Qhc b t s rv mc mt W hc (HOU.out.mod hm (by omega) (by omega) (by omega))) (by have:=HRU.out.mu_lt hF;exact this)).mono ?_
  intro e w5 h5
  rcases h5.cases with ⟨y5,v5,hy5,rfl,hv5,hc5,hm5⟩ | ⟨f5,hf5,⟨bb,hz,rfl,hcc⟩,hm5⟩
  rotate_left
  ·exact ⟨rfl,⟨HMU.out.trans hm5,Or.inr ⟨f5,HSP.out.trans ((Qac HY3.out).trans ((if_neg H1.out).trans (Qae hf5))),⟨bb,Nat.le_trans HMU.out.size hz,rfl,hcc⟩⟩⟩⟩
  have hlen5:=Qnc (l:=t.data.toList) ⟨by simpa using HRU.out.le,HRU.out.e0⟩ y5 hy5
  rw [bal] at hlen5
  obtain ⟨xg,xc,rfl,hxg,hxt,hxne⟩:=hv5
  have HX5:=Qaa hxt
  have HM5:=Qaa (HMU.out.trans hm5)
  have HY5:=Qaa hy5
  have HC5:=Qaa hc5
  have HO5:=Qaa (Qbj (b:=b) HOW4.out hm5 (by omega))
  have hrvx:∀ k,rv.ownBlock=some k→k < U.heap.size:=fun k hk=>(HOW4.out.lt k hk).2
  clear h5 hy5 hc5 hm5 hxt
  go_wp2_with fail
  go_loopw [13] (fun i wi=>∃ (k:Nat) (rv':Value),i=.int .i64 k∧k≤y5.1.length∧RC wi b t y5.2 rv' mc mt∧wi.ownsRow w.heap.size 9 1 rv' ((y5.1.take k).foldl QbQ req).length (QaV ((y5.1.take k).foldl QbQ req))∧((y5.1.take k).foldl QbQ req=[]→rv'=.slice none 0 0)∧Mod b w wi∧Qc6 wi xg y5.1∧(∀ g,rv'.ownBlock=some g→g≠xg)∧muW wi b t.size=mu t.size y5.2∧xg < wi.heap.size) (fun i _=>y5.1.length - (intOf i).toNat)
  case atStart=>exact ⟨0,rv,rfl,Nat.zero_le _,HC5.out,HO5.out,HNL.out,HM5.out,HX5.out,fun k hk e=>by have:=hrvx k hk;omega,HC5.out.muEq,Qay (HX5.out 0 (List.length_pos_iff.2 hxne))⟩
  case round=>
   obtain ⟨k,rv',rfl,hk,hrc,hown,hnil,hmod,hxt,hrx,hmuw,hxl⟩:=hrel
   have hfl:=Qfi (y5.1.take k) req
   have htk:(y5.1.take k).length=k:=by rw [List.length_take];omega
   have HRi:=Qaa hrc
   have HOi:=Qaa hown
   have HNi:=Qaa hnil
   have HMi:=Qaa hmod
   have HXi:=Qaa hxt
   have hwi:w.heap.size≤wr.heap.size:=hmod.size
   clear hrc hown hnil hmod hxt HC5 HO5 HM5 HX5 HR HOW HNL HMr HO3 HC3 HM3
   by_cases hkl:k < y5.1.length
   ·have hx:(y5.1.take (k+1)).foldl QbQ req=QbQ ((y5.1.take k).foldl QbQ req) (y5.1.getD k []):=by
     rw [List.take_add_one,List.foldl_append,List.getElem?_eq_getElem hkl,List.getD_eq_getElem?_getD,List.getElem?_eq_getElem hkl]
     rfl
    have HXX:=Qaa hx
    have hck:wr.cell? ⟨xg,k,none⟩=some (.string (Qag (y5.1.getD k []))):=HXi.out k hkl
    have h7:wr.cell? ⟨b,7,none⟩=some rv':=HRi.out.at_.cell 7
    generalize hR:(y5.1.take k).foldl QbQ req=R at *
    generalize y5.1.getD k []=x at *
    have HCN:=Qaa (QgV wr b rv' R x (Qk6 HOi.out HNi.out (by omega) (by omega)))
    obtain ⟨ra,rn,rc,hrv⟩:∃ a n c,rv'=.slice a n c:=by
     obtain ⟨_,h2⟩:=HOi.out
     rcases h2 with ⟨h,_⟩ | ⟨g,cap,cur,h,_⟩
     ·exact ⟨_,_,_,h⟩
     ·exact ⟨_,_,_,h⟩
    subst hrv
    clear hx hR
    by_cases hw0:0 < whichL R x
    ·rw [decide_eq_true hw0] at HCN
     have HA:Hid (QbQ R x=R):=by show _=_;unfold QbQ;rw [if_pos hw0]
     clear hw0
     go_wp2_with (go_at_call 37;refine HCN.out.mono ?_;rintro e w' ⟨rfl,hww⟩;subst w')
     go_roundw
     case rel=>exact ⟨k+1,_,by go_num,by omega,HRi.out,by rw [HXX.out,HA.out];exact HOi.out,fun hh=>HNi.out (by rw [HXX.out,HA.out] at hh;exact hh),HMi.out,HXi.out,hrx,hmuw,hxl⟩
     case measure=>simp [intOf];omega
    ·rw [decide_eq_false hw0] at HCN
     have HA:Hid (QbQ R x=R++[x]):=by show _=_;unfold QbQ;rw [if_neg hw0]
     clear hw0
     have hfz:wr.frozen? ⟨b,7,none⟩=false:=HRi.out.at_.frozen 7
     go_wp2_with (first | (go_at_call 37;refine HCN.out.mono ?_;rintro e w' ⟨rfl,hww⟩;subst w') | (at_builtin;refine wpList_append_own_at _ rfl _ _ 89 rfl w.heap.size 9 i0 (.string ⟨#[]⟩) 1 16 Tryz.underlying89 hi hz0 hz1 hz2 rfl (by decide) _ _ _ rfl (HOi.out.alloc _) ⟨wr.heap.size,0,none⟩ 1 1 [.string (Qag x)] rfl rfl ?c1 ?c2 ?c3 ?c4 ?c5 ?_))
     case c1=>exact cell_one_new _ _ _
     case c2=>intro u hu;simp at hu;subst hu;rfl
     case c3=>unfold maxLen;omega
     case c4=>omega
     case c5=>simp;omega
     ·intro v' w6 hown6 hgrow _ hat
      have hl1:R.length+1=(R++[x]).length:=by simp
      rw [show QaV R++[.string (Qag x)]=QaV (R++[x]) from Qcx R x,hl1] at hown6
      obtain ⟨g',c',rfl,hg',_,_⟩:=slB.of_owns hown6 rfl (by simp)
      obtain ⟨nn,hnn⟩:∃ n,n=(R++[x]).length:=⟨_,rfl⟩
      rw [← hnn] at hown6 hat ⊢
      have hrow:∀ k,(Value.slice ra rn rc).ownBlock=some k→w.heap.size≤k:=fun k hk=>(HOi.out.lt k hk).1
      have hx6:Qc6 w6 xg y5.1:=fun j hj=>by
       rw [World.cell?_of_block (w:=wr) (a:=⟨xg,j,none⟩) (by
        rw [hgrow.block xg (by simp;omega) (fun e=>hrx xg e.symm rfl)]
        exact Below.heap_alloc _ _ _ hxl)]
       exact HXi.out j hj
      have hgx:g'≠xg:=by
       rcases hat with h | h
       ·exact hrx g' (by rw [← h];rfl)
       ·simp [Value.ownBlock] at h;omega
      have hR6:=(HRi.out.alloc (Obj.cells #[.string (Qag x)] 9)).grown hgrow (fun k hk=>by have:=hrow k hk;omega)
      have hM6:=(HMi.out.alloc (Obj.cells #[.string (Qag x)] 9)).grown hgrow (fun k hk=>hrow k hk)
      have h76:w6.cell? ⟨b,7,none⟩=some (.slice ra rn rc):=hR6.at_.cell 7
      have hfz6:w6.frozen? ⟨b,7,none⟩=false:=hR6.at_.frozen 7
      have hxl6:xg < w6.heap.size:=by have:=hgrow.size;simp at this;omega
      have HR7:=Qaa (hR6.setReq (.slice (some ⟨g',0,none⟩) nn c'))
      have HM7:=Qaa (hM6.setCell 7 (.slice (some ⟨g',0,none⟩) nn c'))
      have HO7:=Qaa (QhS (T:=b) (o:=7) (x:=.slice (some ⟨g',0,none⟩) nn c') hown6 (fun k hk=>by simp [Value.ownBlock] at hk;omega))
      have HX7:Hid (Qc6 (w6.setCell ⟨b,7,none⟩ (.slice (some ⟨g',0,none⟩) nn c')) xg y5.1):=fun j hj=>by
       rw [World.cell?_setCell_other _ _ _ _ (by simp;try omega)]
       exact hx6 j hj
      have hzz:(w6.setCell ⟨b,7,none⟩ (.slice (some ⟨g',0,none⟩) nn c')).heap.size=w6.heap.size:=by simp [World.setCell]
      have HNN:=Qaa hnn
      clear hnn hown6 hgrow hat hrow hx6 hR6 hM6
      go_wp2
      go_roundw
      case rel=>exact ⟨k+1,_,by go_num,by omega,HR7.out,by rw [HXX.out,HA.out,← HNN.out];exact HO7.out,fun hh=>by rw [HXX.out,HA.out] at hh;simp at hh,HM7.out,HX7.out,fun g hg=>by simp [Value.ownBlock] at hg;omega,HR7.out.muEq,by rw [hzz];exact hxl6⟩
      case measure=>simp [intOf];omega
   ·have hke:k=y5.1.length:=by omega
    subst hke
    have htt:y5.1.take y5.1.length=y5.1:=List.take_length
    rw [htt] at HOi HNi hfl
    go_wp2_with fail
    have HP:=Qaa (QcO b wr.heap.size 1 1 [[59]] t y5.2 rv' mc mt _ (HRi.out.alloc (.cells (QaV [[59]]).toArray 9)) (Qb7 _ _ rfl) rfl (by decide))
    refine HP.out.mono ?_
    intro e w8 h8
    rcases h8.cases with ⟨y8,v8,hy8,rfl,hv8,hc8,hm8⟩ | ⟨f8,hf8,⟨bb,hz,rfl,hcc⟩,hm8⟩
    rotate_left
    ·exact ⟨rfl,⟨(HMi.out.alloc _).trans hm8,Or.inr ⟨f8,HSP.out.trans ((Qac HY3.out).trans ((if_neg H1.out).trans ((Qac HY5.out).trans (Qae hf8)))),⟨bb,Nat.le_trans (HMi.out.alloc _).size hz,rfl,hcc⟩⟩⟩⟩
    have hmu8:=Qg7 (l:=t.data.toList) (by simpa using HRi.out.le) HRi.out.e0 (by decide) hy8
    rw [bal] at hmu8
    replace hmu8:=hmu8.1
    have hA8:=((Mod.refl b wr).alloc (.cells (QaV [[59]]).toArray 9)).trans hm8
    have HM8:=Qaa (HMi.out.trans hA8)
    have HO8:=Qaa (Qbj (b:=b) HOi.out hA8 (by omega))
    have HC8:=Qaa hc8
    have HY8:=Qaa hy8
    unfold Qi7 at hv8
    subst hv8
    clear h8 hy8 hc8 hm8 hA8 HP
    have HMW:Hid (muW w8 b t.size < MR):=by
     show _ < _
     rw [HC8.out.muEq]
     omega
    go_wp2
    go_roundw
    case rel=>exact ⟨y8.2,y5.1.foldl QbQ req,rv',f,HC8.out,HO8.out,HNi.out,HM8.out,by omega,by omega,HSP.out.trans ((Qac HY3.out).trans ((if_neg H1.out).trans ((Qac HY5.out).trans (Qac HY8.out))))⟩
    case measure=>exact HMW.out
end
section
open Go.RowKit
attribute [local go_sem ↓] Go.wp_at_zero Go.wp_at_succ
def ps0:PS:=(⟨0,0,[],[],0⟩,0)
def Qkw (X:Nat→Prop) (req:List (List UInt8)) (w:World) (v:Value):Prop:=
 (req=[]∧v=.slice none 0 0)∨slX X req w v
def Qt8 (X:Nat→Prop) (y:List (List UInt8)×List (QcX 7)) (w:World) (v:Value):Prop:=
 ∃ rv lv,v=.agg #[rv,lv]∧Qkw X y.1 w rv∧blX X (Qio 7) y.2 w lv
theorem Qkw.keep {X:Nat→Prop} {req:List (List UInt8)} {w w':World} {v:Value} (h:Qkw X req w v) (hk:AbvX X w w'):Qkw X req w' v:=by
 rcases h with h | h
 ·exact Or.inl h
 ·exact Or.inr (h.keep hk)
theorem Qkw.weak {X Y:Nat→Prop} {req:List (List UInt8)} {w:World} {v:Value} (h:Qkw X req w v) (hB:∀ k,X k→k < w.heap.size→Y k):Qkw Y req w v:=by
 rcases h with h | h
 ·exact Or.inl h
 ·exact Or.inr (h.weak hB)
theorem Qkw.of {w:World} {b B:Nat} {rv:Value} {req:List (List UInt8)} (h:Qjq w b rv req) (hB:∀ k,rv.ownBlock=some k→B≤k):Qkw (fromB B) req w rv:=by
 rcases h with ⟨h1,h2⟩ | ⟨g,c,hv,_,ht,hne,_⟩
 ·exact Or.inl ⟨h2,h1⟩
 ·exact Or.inr ⟨g,c,hv,hB g (by rw [hv];rfl),ht,hne⟩
theorem Qkw.form {X:Nat→Prop} {req:List (List UInt8)} {w:World} {v:Value} (h:Qkw X req w v):∃ a n c,v=.slice a n c:=by
 rcases h with ⟨_,h⟩ | ⟨g,c,h,_⟩
 ·exact ⟨_,_,_,h⟩
 ·exact ⟨_,_,_,h⟩
def Quw (r:Except Flt (List (List UInt8)×List (QcX 7))) (b:Nat) (w:World) (e:Ending) (w':World):Prop:=
 Mod b w w'∧((∃ y v,r=.ok y∧e=.returned v∧Qt8 (fromB w.heap.size) y w' v)∨(∃ f,r=.error f∧QcR f w e w'))
theorem QiG {l:List UInt8} {f:Flt} (h:nextL l 0=.error f):parseL l=.error f:=by unfold parseL;rw [h]
theorem QjP {l:List UInt8} {s:PS} {f:Flt} (h:nextL l 0=.ok s) (h2:reqMore l (2*l.length+10) (2*l.length+10) [] s=.error f):parseL l=.error f:=by unfold parseL;rw [h];dsimp only;rw [h2]
theorem Qkf {l:List UInt8} {s:PS} {y:List (List UInt8)×PS} {f:Flt} (h:nextL l 0=.ok s) (h2:reqMore l (2*l.length+10) (2*l.length+10) [] s=.ok y) (h3:cmdsMore (cmdL l y.1 (2*l.length+10) 7) (2*l.length+10) [] y.2=.error f):parseL l=.error f:=by unfold parseL;rw [h];dsimp only;rw [h2];dsimp only;rw [h3]
theorem QqH {l:List UInt8} {s:PS} {y:List (List UInt8)×PS} {cs:List (QcX 7)} (h:nextL l 0=.ok s) (h2:reqMore l (2*l.length+10) (2*l.length+10) [] s=.ok y) (h3:cmdsMore (cmdL l y.1 (2*l.length+10) 7) (2*l.length+10) [] y.2=.ok cs):parseL l=.ok (y.1,cs):=by unfold parseL;rw [h];dsimp only;rw [h2];dsimp only;rw [h3]
theorem Ql8 {α:Type} {sub:PS→Except Flt (α×PS)} {f:Nat} {acc:List α} {s:PS} (h:s.1.kind=0):cmdsMore sub (f+1) acc s=.ok acc:=by rw [cmdsMore,if_pos h]
theorem QkK {α:Type} {sub:PS→Except Flt (α×PS)} {f:Nat} {acc:List α} {s:PS} {e:Flt} (h:¬ s.1.kind=0) (h2:sub s=.error e):cmdsMore sub (f+1) acc s=.error e:=by rw [cmdsMore,if_neg h,h2]
theorem Qne {α:Type} {sub:PS→Except Flt (α×PS)} {f:Nat} {acc:List α} {s:PS} {y:α×PS} (h:¬ s.1.kind=0) (h2:sub s=.ok y):cmdsMore sub (f+1) acc s=cmdsMore sub f (acc++[y.1]) y.2:=by rw [cmdsMore,if_neg h,h2]
theorem QpV (b:Nat) (t:ByteArray) (mc mt pr pt pf p1 k1 p2 k2 p3 k3:Nat) (w:World) (h:RC w b t ps0 (.slice none 0 0) mc mt) (ht:QmA w b mt pr pt pf) (hcm:QoF w b mc p1 k1 p2 k2 p3 k3) :
 Calls Tryz.prog 60 #[.pointer (some ⟨b,0,none⟩)] w (Quw (parseL t.data.toList) b w):=by
 have H:=Qaa h
 have HT:=Qaa ht
 have HCM:=Qaa hcm
 have hlt:=h.at_.lt
 have hFF:2*t.size+1 < 2*t.data.toList.length+10:=by rw [bal];omega
 generalize hFe:2*t.data.toList.length+10=F at hFF
 clear h ht hcm
 obtain ⟨i0,hi,hz0,hz1,hz2⟩:=info_parts Tryz.infoCommand
 go_enter Tryz.func60,Tryz.ntmps60
 go_wp2_with fail
 have HM0:=Qaa ((Mod.refl b w).alloc (.cells #[.slice none 0 0,.slice none 0 0] 92))
 have HB0:=Qaa (QaB w (.cells #[.slice none 0 0,.slice none 0 0] 92))
 refine (QcJ b t ps0 _ mc mt _ (H.out.alloc _)).mono ?_
 rintro e w1 (⟨y,hy,rfl,hc,hm⟩ | ⟨f2,hf2,⟨bb,hz,rfl,hcc⟩,hm⟩)
 rotate_left
 ·exact ⟨rfl,HM0.out.trans hm,Or.inr ⟨f2,QiG hf2,⟨bb,by simp at hz;omega,rfl,hcc⟩⟩⟩
 have HY:=Qaa hy
 have HC:=Qaa hc
 have HM:=Qaa (HM0.out.trans hm)
 have HB1:=Qaa (QaP HB0.out hm (by omega))
 clear hy hc hm
 go_wp2_with fail
 refine (Qnf b F t y mc mt _ HC.out hFF).mono ?_
 rintro e w2 ⟨hm2,⟨y2,rv,hy2,rfl,hc2,hr2,hrb⟩ | ⟨f2,hf2,⟨bb,hz,rfl,hcc⟩⟩⟩
 rotate_left
 ·exact ⟨rfl,HM.out.trans hm2,Or.inr ⟨f2,QjP HY.out (by rw [hFe];exact hf2),⟨bb,Nat.le_trans HM.out.size hz,rfl,hcc⟩⟩⟩
 have hz1':=QaM HB1.out
 have HY2:=Qaa hy2
 have HC2:=Qaa hc2
 have HM2:=Qaa (HM.out.trans hm2)
 have HB2:=Qaa (QaP HB1.out hm2 (by omega))
 have HR2:=Qaa hr2
 have HRB:Hid (∀ k,rv.ownBlock=some k→w.heap.size+1≤k):=fun k hk=>by have:=hrb k hk;omega
 have HO:=Qaa (QhV y2.1 b F t rv mc mt pr pt pf p1 k1 p2 k2 p3 k3 hFF 7 (Nat.le_refl _) w2 (HT.out.mod HM2.out) (HCM.out.mod HM2.out) hr2)
 rw [show (7:Int) - ((7:Nat):Int)=0 from rfl] at HO
 have hmuL:=hc2.mu_le
 have hmuF:=hc2.mu_lt hFF
 have hz2':=QaM HB2.out
 clear hy2 hc2 hm2 hr2 hrb
 go_wp2_with fail
 go_loopw [3] (fun v wr=>∃ (s':PS) (acc:List (QcX 7)) (vs:List Value) (f:Nat),wr.ownsRow w2.heap.size 221 1 v acc.length vs∧Qi6 (fun a u=>Qga (Qio 7) w2.heap.size wr v a u) acc vs∧(acc=[]→v=.slice none 0 0)∧RC wr b t s' rv mc mt∧Mod b w2 wr∧mu t.size s' < f∧acc.length+mu t.size s'≤1300∧cmdsMore (cmdL t.data.toList y2.1 F 7) F [] y2.2=cmdsMore (cmdL t.data.toList y2.1 F 7) f acc s') (fun _ wr=>muW wr b t.size)
 case atStart=>
  exact ⟨y2.2,[],[],F,World.ownsRow_nil _ _ _ _,trivial,fun _=>rfl,HC2.out,Mod.refl _ _,hmuF,by simp;omega,rfl⟩
 case round=>
  obtain ⟨s',acc,vs,f,hown,hrow,hnil,hrc,hmod,hf,hbd,hsp⟩:=hrel
  obtain ⟨f,rfl⟩:∃ g,f=g+1:=⟨f - 1,by omega⟩
  have HR:=Qaa hrc
  have HMr:=Qaa hmod
  have HSP:=Qaa hsp
  have HOW:=Qaa hown
  have HRW:=Qaa hrow
  have HNL:=Qaa hnil
  have HBr:=Qaa (QaP HB2.out hmod (by omega))
  have hzr:=QaM HBr.out
  have hk1:wr.cell? ⟨b,1,none⟩=some (.int .i64 s'.1.kind):=hrc.at_.cell 1
  clear hrc hmod hsp hown hrow hnil HC2 hmuL hmuF
  by_cases h1:s'.1.kind=0
  ·have h1':((s'.1.kind:Int) != 0)=false:=by simp;omega
   have H1:=Qaa h1
   have HTb:=Qaa (blX.of_owns (Qa3 7) HOW.out rfl HNL.out HRW.out)
   obtain ⟨la,ln,lc,rfl⟩:=HTb.out.form
   have HRQ:=Qaa (Qkw.of (HR2.out.mod HMr.out) HRB.out)
   obtain ⟨ra,rn,rc,rfl⟩:=HRQ.out.form
   have h7:wr.cell? ⟨b,7,none⟩=some (.slice ra rn rc):=HR.out.at_.cell 7
   have r0:wr.cell? ⟨w.heap.size,0,none⟩=some (.slice none 0 0):=Qab HBr.out 0
   have r1:wr.cell? ⟨w.heap.size,1,none⟩=some (.slice none 0 0):=Qab HBr.out 1
   have rf:=Qam HBr.out
   clear h1
   go_wp2
   have hq:¬ fromB (w.heap.size+1) w.heap.size:=by unfold fromB;omega
   have hwk:∀ k,fromB (w.heap.size+1) k→k < ((wr.setCell ⟨w.heap.size,0,none⟩ (.slice ra rn rc)).setCell ⟨w.heap.size,1,none⟩ (.slice la ln lc)).heap.size→fromB w.heap.size k:=fun k hk _=>by unfold fromB at *;omega
   refine bodyPost_ret (v:=.agg #[.slice ra rn rc,.slice la ln lc]) (by simp [results,Tryz.results60,go_sem,r0,r1]) rfl ⟨((HM2.out.trans HMr.out).setNew (Nat.le_refl _) _ _).setNew (Nat.le_refl _) _ _,Or.inl ⟨(y2.1,acc),_,QqH HY.out (by rw [hFe];exact HY2.out) (by rw [hFe,HSP.out];exact Ql8 H1.out),rfl,⟨_,_,rfl,?_,?_⟩⟩⟩
   ·exact ((HRQ.out.keep (AbvX.set hq _ _)).keep (AbvX.set hq _ _)).weak hwk
   ·have hq:¬ fromB w2.heap.size w.heap.size:=by unfold fromB;omega
    refine blX.weak (Qa3 7) ((HTb.out.keep (Qa3 7) (AbvX.set hq _ _)).keep (Qa3 7) (AbvX.set hq _ _)) (fun k hk _=>by unfold fromB at *;omega)
  have h1':((s'.1.kind:Int) != 0)=true:=by simp;omega
  have H1:=Qaa h1
  clear h1
  go_wp2_with fail
  refine (HO.out _ s' HMr.out HR.out).mono ?_
  intro e w4 h4
  rcases h4.cases with ⟨z4,v4,hy4,rfl,hv4,hc4,hm4⟩ | ⟨f4,hf4,⟨bb,hz,rfl,hcc⟩,hm4⟩
  rotate_left
  ·exact ⟨rfl,(HM2.out.trans HMr.out).trans hm4,Or.inr ⟨f4,Qkf HY.out (by rw [hFe];exact HY2.out) (by rw [hFe,HSP.out];exact QkK H1.out hf4),⟨bb,Nat.le_trans (HM2.out.trans HMr.out).size hz,rfl,hcc⟩⟩⟩
  have hmu4:=Qs2 t y2.1 F 7 s' z4 HR.out.le HR.out.e0 hy4
  have HV4:=Qaa hv4
  obtain ⟨ty4,x4,rfl⟩:=(Qa3 7).form _ _ _ _ hv4
  have HM4:=Qaa (HMr.out.trans hm4)
  have HY4:=Qaa hy4
  have HC4:=Qaa hc4
  have hown4:=Qbj (b:=b) HOW.out hm4 (by omega)
  have HW4:=Qaa (HRW.out.imp (fun a u hu=>Qga.mod (Qa3 7) (b:=b) (w':=w4) hu hm4 (by omega)))
  have hlt3:=Qaa (fun k hk=>(HOW.out.lt k hk).2)
  have HG4:=Qaa (Qga.new (Qa3 7) (base:=w2.heap.size) HV4.out HMr.out.size hlt3.out)
  have hz4:w2.heap.size≤w4.heap.size:=HM4.out.size
  clear h4 hy4 hc4 hm4 hv4
  go_wp2_with (at_builtin;refine wpList_append_own_at _ rfl _ _ 90 rfl w2.heap.size 221 i0 .nilIface 1 16 Tryz.underlying90 hi hz0 hz1 hz2 rfl (by decide) _ _ _ rfl (hown4.alloc _) ⟨w4.heap.size,0,none⟩ 1 1 [.iface ty4 x4] rfl rfl ?c1 ?c2 ?c3 ?c4 ?c5 ?_)
  case c1=>exact cell_one_new _ _ _
  case c2=>intro u hu;simp at hu;subst hu;rfl
  case c3=>unfold maxLen;omega
  case c4=>omega
  case c5=>simp;omega
  ·intro v' w5 hown5 hgrow _ hat
   have hrow:∀ k,(u3).ownBlock=some k→w2.heap.size≤k:=fun k hk=>(hown4.lt k hk).1
   have HM5:=Qaa ((HM4.out.alloc (Obj.cells #[.iface ty4 x4] 221)).grown hgrow (fun k hk=>hrow k hk))
   have HC5:=Qaa ((HC4.out.alloc (Obj.cells #[.iface ty4 x4] 221)).grown hgrow (fun k hk=>by have:=hrow k hk;omega))
   have HO5:=Qaa hown5
   have HR5:=Qaa (Qi6.snoc (P:=fun a u=>Qga (Qio 7) w2.heap.size w5 v' a u) (HG4.out.grown (Qa3 7) hgrow hat) (HW4.out.imp (fun a u hu=>Qga.grown (Qa3 7) hu hgrow hat)))
   have hmw:muW w5 b t.size < muW wr b t.size:=by rw [HC5.out.muEq,HR.out.muEq];omega
   have HMW:=Qaa hmw
   clear hown5 hgrow hmw hown4 hrow hat
   go_wp2
   go_roundw
   case rel=>exact ⟨z4.2,acc++[z4.1],vs++[.iface ty4 x4],f,by simpa using HO5.out,HR5.out,fun hh=>absurd hh (by simp),HC5.out,HM5.out,by omega,by simp;omega,HSP.out.trans (Qne H1.out HY4.out)⟩
   case measure=>exact HMW.out
end
section
open Go.RowKit
def Qca (es:Array MapEntry) (f:List UInt8→Option Value):Prop:=
 (∀ e∈es.toList,∃ x,e.key=.string (Qag x)∧f x=some e.val)∧∀ x v,f x=some v→∃ e∈es.toList,e.key=.string (Qag x)
theorem Qca.keys {es:Array MapEntry} {f:List UInt8→Option Value} (h:Qca es f):∀ e∈es.toList,MapKept.IsKey .string e.key:=fun e he=>by
 obtain ⟨x,hx,_⟩:=h.1 e he
 rw [hx];trivial
theorem Qca.empty:Qca #[] (fun _=>none):=⟨fun e he=>by simp at he,fun x v h=>by cases h⟩
theorem Qca.push {es:Array MapEntry} {f g:List UInt8→Option Value} (h:Qca es f) {x:List UInt8} {v:Value} {c:Nat} (hn:f x=none) (hx:g x=some v) (hg:∀ z,z≠x→g z=f z):Qca (es.push ⟨.string (Qag x),v,c⟩) g:=by
 refine ⟨fun e he=>?_,fun z u hz=>?_⟩
 ·simp only [Array.toList_push,List.mem_append,List.mem_singleton] at he
  rcases he with he | he
  ·obtain ⟨z,h1,h2⟩:=h.1 e he
   have:z≠x:=fun e=>by rw [e,hn] at h2;cases h2
   exact ⟨z,h1,by rw [hg z this];exact h2⟩
  ·subst he;exact ⟨x,rfl,hx⟩
 ·by_cases e:z=x
  ·exact ⟨⟨.string (Qag x),v,c⟩,by simp,by rw [e]⟩
  ·rw [hg z e] at hz
   obtain ⟨y,hy,hk⟩:=h.2 z u hz
   exact ⟨y,by simp [hy],hk⟩
theorem Qca.congr {es:Array MapEntry} {f g:List UInt8→Option Value} (h:Qca es f) (e:∀ x,f x=g x):Qca es g:=by
 have:f=g:=funext e
 rw [← this];exact h
def QaL (w:World) (m:Nat) (o:Obj):World:={ w with heap:=w.heap.setIfInBounds m o }
theorem QaO {T K E:TypeId} (hT:Tryz.prog.underlying T=some (.map K E)) (hK:Tryz.prog.underlying K=some .string) {w:World} {m:Nat} {es:Array MapEntry} {c:Nat} {f:List UInt8→Option Value} {x:List UInt8} (hm:w.heap[m]?=some (.map es c)) (hf:Qca es f) (hx:f x=none) (v:Value) :
 (Instr.mapUpdate T (.map (some m)) (.string (Qag x)) v).run Tryz.prog w=.ok () (QaL w m (.map (es.push ⟨.string (Qag x),v,c⟩) (c+1))):=by
 have hk:MapKept.IsKey .string (.string (Qag x)):=trivial
 rcases MapKept.findNow_spec hk es.toList 0 hf.keys with ⟨h1,_⟩ | ⟨j,e,h1,h2,h3⟩
 ·simp [Instr.mapUpdate,run_underlying hT,MapKept.run_getObj_map hm,MapKept.run_checkKey hK hk,MapKept.run_findKey hK h1,MapKept.run_setObj_map _ hm,Result.andThen,QaL]
 ·obtain ⟨z,hz,hz2⟩:=hf.1 e (List.mem_of_getElem? h2)
  rw [h3] at hz
  have:x=z:=QfS (by simpa using hz)
  subst this
  rw [hx] at hz2;cases hz2
theorem QaW {w:World} {m:Nat} {o o':Obj} (h:w.heap[m]?=some o):(QaL w m o').heap[m]?=some o':=by
 have:=QaM h
 simp [QaL,this]
theorem Qan {w:World} {m k:Nat} {o':Obj} (h:k≠m):(QaL w m o').heap[k]?=w.heap[k]?:=by
 simp [QaL,Array.getElem?_setIfInBounds_ne (Ne.symm h)]
theorem QhU {w:World} {m:Nat} {o':Obj}:(QaL w m o').heap.size=w.heap.size:=by simp [QaL]
theorem Qlq {T K E:TypeId} (hT:Tryz.prog.underlying T=some (.map K E)) (hK:Tryz.prog.underlying K=some .string) (hE:∀ W,(zeroValue E).run Tryz.prog W=.ok .nilFunc W) {w:World} {m:Nat} {es:Array MapEntry} {c:Nat} {f:List UInt8→Option Value} (hm:w.heap[m]?=some (.map es c)) (hf:Qca es f):QqJ w T m f:=by
 intro W x hW
 rw [hm] at hW
 have hk:MapKept.IsKey .string (.string (Qag x)):=trivial
 rcases MapKept.findNow_spec hk es.toList 0 hf.keys with ⟨h1,h2⟩ | ⟨j,e,h1,h2,h3⟩
 ·have hn:f x=none:=by
   cases hfx:f x with
   | none=>rfl
   | some v=>
    obtain ⟨e,he,hke⟩:=hf.2 x v hfx
    exact absurd hke (h2 e he)
  rw [hn]
  simp [Instr.lookup,run_underlying hT,MapKept.run_getObj_map hW,MapKept.run_checkKey hK hk,MapKept.run_findKey hK h1,hE,Result.andThen]
 ·obtain ⟨z,hz,hz2⟩:=hf.1 e (List.mem_of_getElem? h2)
  rw [h3] at hz
  have:x=z:=QfS (by simpa using hz)
  subst this
  rw [hz2]
  simp [Instr.lookup,run_underlying hT,MapKept.run_getObj_map hW,MapKept.run_checkKey hK hk,MapKept.run_findKey hK h1,Result.andThen]
end
section
open Go.RowKit
attribute [local go_sem ↓] Go.wp_at_zero Go.wp_at_succ
theorem Tryz.infoFnC:(Tryz.prog.info? 195).map (fun i=>(i.zero,i.size,i.bytes))=some (some .nilFunc,1,8):=by kernel_rfl
theorem Tryz.infoFnT:(Tryz.prog.info? 197).map (fun i=>(i.zero,i.size,i.bytes))=some (some .nilFunc,1,8):=by kernel_rfl
theorem QtE (W:World):(zeroValue 195).run Tryz.prog W=.ok .nilFunc W:=by
 obtain ⟨i0,hi,hz0,hz1,hz2⟩:=info_parts Tryz.infoFnC
 simp [zeroValue,typeInfo,Sem.run,hi,hz0]
theorem Qtt (W:World):(zeroValue 197).run Tryz.prog W=.ok .nilFunc W:=by
 obtain ⟨i0,hi,hz0,hz1,hz2⟩:=info_parts Tryz.infoFnT
 simp [zeroValue,typeInfo,Sem.run,hi,hz0]
theorem Qnz (r:Value) (b:Nat) (kd:Int) (w:World) (hr:r=.pointer (some ⟨b,0,none⟩)) :
 Calls Tryz.prog 104 #[r,.int .i64 kd] w fun e w'=>e=.returned (.func (.func 159) #[] #[.pointer (some ⟨w.heap.size,0,none⟩),.pointer (some ⟨w.heap.size+1,0,none⟩)])∧w'=(w.alloc (.cells #[r] 132)).alloc (.cells #[.int .i64 kd] 3):=by
 subst hr
 have hmf:∀ (fn:Fn) (first cap:Array Value) (w:World),(Instr.makeFunc fn first cap).run Tryz.prog w=.ok (.func fn first cap) w:=fun _ _ _ _=>rfl
 go_enter Tryz.func104,Tryz.ntmps104
 go_wp2
 go_ret
 exact ⟨rfl,rfl⟩
theorem QlD (h:Bool) (w:World) :
 Calls Tryz.prog 107 #[.bool h] w fun e w'=>e=.returned (.func (.func 167) #[] #[.pointer (some ⟨w.heap.size,0,none⟩)])∧w'=w.alloc (.cells #[.bool h] 4):=by
 have hmf:∀ (fn:Fn) (first cap:Array Value) (w:World),(Instr.makeFunc fn first cap).run Tryz.prog w=.ok (.func fn first cap) w:=fun _ _ _ _=>rfl
 go_enter Tryz.func107,Tryz.ntmps107
 go_wp2
 go_ret
 exact ⟨rfl,rfl⟩
end
section
open Go.RowKit
def up (L:Nat→Bool) (i:Nat):Nat→Bool:=fun j=>if j=i then true else L j
theorem QbD (L:Nat→Bool) (i:Nat):up L i i=true:=by simp [up]
theorem Qaf (L:Nat→Bool) {i j:Nat} (h:j≠i):up L i j=L j:=by simp [up,h]
theorem Qak (L:Nat→Bool) {i j:Nat} (h:L j=true):up L i j=true:=by unfold up;split <;> simp [h]
theorem ud {L:Nat→Bool} {i j:Nat} (h:up L i j=true) (hd:j≠i:=by decide):L j=true:=by rwa [Qaf L hd] at h
theorem ui {L:Nat→Bool} {i j k:Nat} (hi:L j=true→L k=true) (hd:j≠i:=by decide) (h:up L i j=true):up L i k=true:=Qak _ (hi (ud h hd))
theorem nf {L:Nat→Bool} {j k:Nat} (hi:L j=true→L k=true) (h0:L k=false):L j=false:=by
 cases hh:L j with
 | false=>rfl
 | true=>have:=hi hh;rw [h0] at this;cases this
def Qcf (t:ByteArray) (mv mv2:Value):Obj:=.cells #[.string t,.int .i64 0,.int .i64 0,.string ⟨#[]⟩,.string ⟨#[]⟩,.int .i64 0,.int .i64 0,.slice none 0 0,mv,mv2] 194
def Qou (w:World) (b B kd:Nat) (v:Value):Prop:=
 ∃ p q,v=.func (.func 159) #[] #[.pointer (some ⟨p,0,none⟩),.pointer (some ⟨q,0,none⟩)]∧B≤p∧B≤q∧w.heap[p]?=some (.cells #[.pointer (some ⟨b,0,none⟩)] 132)∧w.heap[q]?=some (.cells #[.int .i64 kd] 3)
theorem Qou.keep {w w':World} {b B kd:Nat} {v:Value} (h:Qou w b B kd v) (hk:∀ k cs ty,B≤k→w.heap[k]?=some (.cells cs ty)→w'.heap[k]?=some (.cells cs ty)):Qou w' b B kd v:=by
 obtain ⟨p,q,hv,hp,hq,h1,h2⟩:=h
 exact ⟨p,q,hv,hp,hq,hk p _ _ hp h1,hk q _ _ hq h2⟩
def fC (b:Nat) (L:Nat→Bool) (u16 u18 u20:Value) (x:List UInt8):Option Value:=
 match whichL cmdNames x with
 | 1=>if L 4 then some (.func (.func 101) #[.pointer (some ⟨b,0,none⟩)] #[]) else none
 | 2=>if L 7 then some (.func (.func 102) #[.pointer (some ⟨b,0,none⟩)] #[]) else none
 | 3=>if L 10 then some (.func (.func 103) #[.pointer (some ⟨b,0,none⟩)] #[]) else none
 | 4=>if L 13 then some (u16) else none
 | 5=>if L 16 then some (u18) else none
 | 6=>if L 19 then some (u20) else none
 | 7=>if L 22 then some (.func (.func 105) #[.pointer (some ⟨b,0,none⟩)] #[]) else none
 | 8=>if L 25 then some (.func (.func 106) #[.pointer (some ⟨b,0,none⟩)] #[]) else none
 | _=>none
structure JC (t:ByteArray) (b:Nat) (W:World) (mv2:Value) (L:Nat→Bool) (u8 u16 u18 u20 u25 u26 u27:Value) (w:World):Prop where
 hb:b < W.heap.size
 mod:Mod b W w
 rd:w.heap[b]?=some (Qcf t (if L 29 then u25 else Value.map none) mv2)
 cm4:L 4=true→L 1=true
 cm7:L 7=true→L 1=true
 cm10:L 10=true→L 1=true
 cm13:L 13=true→L 1=true
 cm16:L 16=true→L 1=true
 cm19:L 19=true→L 1=true
 cm22:L 22=true→L 1=true
 cm25:L 25=true→L 1=true
 cv13:L 13=true→L 12=true
 cv16:L 16=true→L 15=true
 cv19:L 19=true→L 18=true
 a12:L 12=true→Qou w b W.heap.size 2 u16
 a15:L 15=true→Qou w b W.heap.size 3 u18
 a18:L 18=true→Qou w b W.heap.size 4 u20
 mp:L 1=true→∃ m es c,u8=.map (some m)∧W.heap.size≤m∧w.heap[m]?=some (.map es c)∧Qca es (fC b L u16 u18 u20)
 m26:L 26=true→u25=u8∧L 1=true∧L 4=true∧L 7=true∧L 10=true∧L 13=true∧L 16=true∧L 19=true∧L 22=true∧L 25=true
 m27:L 27=true→u26=.pointer (some ⟨b,0,none⟩)
 m28:L 28=true→u27=.pointer (some ⟨b,8,none⟩)
 m29:L 29=true→L 26=true
theorem Qbd {b m:Nat} {W w:World} {o:Obj} (h:Mod b W w) (hm:W.heap.size≤m):Mod b W (QaL w m o):=
 ⟨h.os,h.tape,h.output,by rw [QhU];exact h.size,fun k hk hn=>by rw [Qan (by omega)];exact h.block k hk hn⟩
section
variable {t:ByteArray} {b:Nat} {W:World} {mv2:Value} {L:Nat→Bool} {u8 u16 u18 u20 u25 u26 u27:Value} {w:World}
theorem QlB (i:Nat) (h:i≠4∧i≠7∧i≠10∧i≠13∧i≠16∧i≠19∧i≠22∧i≠25) (x:List UInt8):fC b (up L i) u16 u18 u20 x=fC b L u16 u18 u20 x:=by
 obtain ⟨h0,h1,h2,h3,h4,h5,h6,h7⟩:=h
 unfold fC
 simp only [Qaf L (Ne.symm h0),Qaf L (Ne.symm h1),Qaf L (Ne.symm h2),Qaf L (Ne.symm h3),Qaf L (Ne.symm h4),Qaf L (Ne.symm h5),Qaf L (Ne.symm h6),Qaf L (Ne.symm h7)]
theorem JC.m26u (J:JC t b W mv2 L u8 u16 u18 u20 u25 u26 u27 w) {i:Nat} (h:L 26=true):u25=u8∧up L i 1=true∧up L i 4=true∧up L i 7=true∧up L i 10=true∧up L i 13=true∧up L i 16=true∧up L i 19=true∧up L i 22=true∧up L i 25=true:=by
 obtain ⟨e1,e2,e3,e4,e5,e6,e7,e8,e9,e10⟩:=J.m26 h
 exact ⟨e1,Qak _ e2,Qak _ e3,Qak _ e4,Qak _ e5,Qak _ e6,Qak _ e7,Qak _ e8,Qak _ e9,Qak _ e10⟩
theorem JC.s1 (J:JC t b W mv2 L u8 u16 u18 u20 u25 u26 u27 w) (h0:L 1=false):JC t b W mv2 (up L 1) (.map (some w.heap.size)) u16 u18 u20 u25 u26 u27 (w.alloc (Obj.map #[] 0)):=by
 have hk:∀ k cs ty,W.heap.size≤k→w.heap[k]?=some (.cells cs ty)→(w.alloc (Obj.map #[] 0)).heap[k]?=some (.cells cs ty):=fun k cs ty _ h=>Qad h
 have hkb:(w.alloc (Obj.map #[] 0)).heap[b]?=some (Qcf t (if L 29 then u25 else Value.map none) mv2):=Qad J.rd
 have n4:L 4=false:=nf J.cm4 h0
 have n7:L 7=false:=nf J.cm7 h0
 have n10:L 10=false:=nf J.cm10 h0
 have n13:L 13=false:=nf J.cm13 h0
 have n16:L 16=false:=nf J.cm16 h0
 have n19:L 19=false:=nf J.cm19 h0
 have n22:L 22=false:=nf J.cm22 h0
 have n25:L 25=false:=nf J.cm25 h0
 exact ⟨J.hb,J.mod.trans ((Mod.refl b w).alloc _),by rw [Qaf L (by decide)];exact hkb,ui J.cm4,ui J.cm7,ui J.cm10,ui J.cm13,ui J.cm16,ui J.cm19,ui J.cm22,ui J.cm25,ui J.cv13,ui J.cv16,ui J.cv19,fun h=>(J.a12 (ud h)).keep hk,fun h=>(J.a15 (ud h)).keep hk,fun h=>(J.a18 (ud h)).keep hk,fun _=>⟨w.heap.size,#[],0,rfl,J.mod.size,QaB _ _,Qca.empty.congr (fun x=>by rw [QlB 1 (by decide)];unfold fC;simp only [n4,n7,n10,n13,n16,n19,n22,n25];split <;> rfl)⟩,fun h=>absurd (J.m26 (ud h)).2.1 (by rw [h0];decide),fun h=>J.m27 (ud h),fun h=>J.m28 (ud h),ui J.m29⟩
theorem JC.s12 (J:JC t b W mv2 L u8 u16 u18 u20 u25 u26 u27 w) (h0:L 12=false):JC t b W mv2 (up L 12) u8 (.func (.func 159) #[] #[.pointer (some ⟨w.heap.size,0,none⟩),.pointer (some ⟨w.heap.size+1,0,none⟩)]) u18 u20 u25 u26 u27 ((w.alloc (.cells #[.pointer (some ⟨b,0,none⟩)] 132)).alloc (.cells #[.int .i64 2] 3)):=by
 have hk:∀ k cs ty,W.heap.size≤k→w.heap[k]?=some (.cells cs ty)→((w.alloc (.cells #[.pointer (some ⟨b,0,none⟩)] 132)).alloc (.cells #[.int .i64 2] 3)).heap[k]?=some (.cells cs ty):=fun k cs ty _ h=>Qad (Qad h)
 have hkm:∀ (m:Nat) (es:Array MapEntry) (c:Nat),w.heap[m]?=some (Obj.map es c)→((w.alloc (.cells #[.pointer (some ⟨b,0,none⟩)] 132)).alloc (.cells #[.int .i64 2] 3)).heap[m]?=some (Obj.map es c):=fun m es c h=>Qad (Qad h)
 have hkb:((w.alloc (.cells #[.pointer (some ⟨b,0,none⟩)] 132)).alloc (.cells #[.int .i64 2] 3)).heap[b]?=some (Qcf t (if L 29 then u25 else Value.map none) mv2):=Qad (Qad J.rd)
 have hn:L 13=false:=nf J.cv13 h0
 have hsz:=J.mod.size
 exact ⟨J.hb,J.mod.trans (((Mod.refl b w).alloc _).alloc _),by rw [Qaf L (by decide)];exact hkb,ui J.cm4,ui J.cm7,ui J.cm10,ui J.cm13,ui J.cm16,ui J.cm19,ui J.cm22,ui J.cm25,ui J.cv13,ui J.cv16,ui J.cv19,fun _=>⟨w.heap.size,w.heap.size+1,rfl,hsz,by omega,Qad (QaB _ _),Qaw (by simp)⟩,fun h=>(J.a15 (ud h)).keep hk,fun h=>(J.a18 (ud h)).keep hk,fun h=>by obtain ⟨m,es,c,h3,h4,h5,h6⟩:=J.mp (ud h);exact ⟨m,es,c,h3,h4,hkm m _ _ h5,h6.congr (fun x=>by rw [QlB 12 (by decide)];unfold fC;simp only [hn,Bool.false_eq_true,if_false])⟩,fun h=>J.m26u (ud h),fun h=>J.m27 (ud h),fun h=>J.m28 (ud h),ui J.m29⟩
theorem JC.s15 (J:JC t b W mv2 L u8 u16 u18 u20 u25 u26 u27 w) (h0:L 15=false):JC t b W mv2 (up L 15) u8 u16 (.func (.func 159) #[] #[.pointer (some ⟨w.heap.size,0,none⟩),.pointer (some ⟨w.heap.size+1,0,none⟩)]) u20 u25 u26 u27 ((w.alloc (.cells #[.pointer (some ⟨b,0,none⟩)] 132)).alloc (.cells #[.int .i64 3] 3)):=by
 have hk:∀ k cs ty,W.heap.size≤k→w.heap[k]?=some (.cells cs ty)→((w.alloc (.cells #[.pointer (some ⟨b,0,none⟩)] 132)).alloc (.cells #[.int .i64 3] 3)).heap[k]?=some (.cells cs ty):=fun k cs ty _ h=>Qad (Qad h)
 have hkm:∀ (m:Nat) (es:Array MapEntry) (c:Nat),w.heap[m]?=some (Obj.map es c)→((w.alloc (.cells #[.pointer (some ⟨b,0,none⟩)] 132)).alloc (.cells #[.int .i64 3] 3)).heap[m]?=some (Obj.map es c):=fun m es c h=>Qad (Qad h)
 have hkb:((w.alloc (.cells #[.pointer (some ⟨b,0,none⟩)] 132)).alloc (.cells #[.int .i64 3] 3)).heap[b]?=some (Qcf t (if L 29 then u25 else Value.map none) mv2):=Qad (Qad J.rd)
 have hn:L 16=false:=nf J.cv16 h0
 have hsz:=J.mod.size
 exact ⟨J.hb,J.mod.trans (((Mod.refl b w).alloc _).alloc _),by rw [Qaf L (by decide)];exact hkb,ui J.cm4,ui J.cm7,ui J.cm10,ui J.cm13,ui J.cm16,ui J.cm19,ui J.cm22,ui J.cm25,ui J.cv13,ui J.cv16,ui J.cv19,fun h=>(J.a12 (ud h)).keep hk,fun _=>⟨w.heap.size,w.heap.size+1,rfl,hsz,by omega,Qad (QaB _ _),Qaw (by simp)⟩,fun h=>(J.a18 (ud h)).keep hk,fun h=>by obtain ⟨m,es,c,h3,h4,h5,h6⟩:=J.mp (ud h);exact ⟨m,es,c,h3,h4,hkm m _ _ h5,h6.congr (fun x=>by rw [QlB 15 (by decide)];unfold fC;simp only [hn,Bool.false_eq_true,if_false])⟩,fun h=>J.m26u (ud h),fun h=>J.m27 (ud h),fun h=>J.m28 (ud h),ui J.m29⟩
theorem JC.s18 (J:JC t b W mv2 L u8 u16 u18 u20 u25 u26 u27 w) (h0:L 18=false):JC t b W mv2 (up L 18) u8 u16 u18 (.func (.func 159) #[] #[.pointer (some ⟨w.heap.size,0,none⟩),.pointer (some ⟨w.heap.size+1,0,none⟩)]) u25 u26 u27 ((w.alloc (.cells #[.pointer (some ⟨b,0,none⟩)] 132)).alloc (.cells #[.int .i64 4] 3)):=by
 have hk:∀ k cs ty,W.heap.size≤k→w.heap[k]?=some (.cells cs ty)→((w.alloc (.cells #[.pointer (some ⟨b,0,none⟩)] 132)).alloc (.cells #[.int .i64 4] 3)).heap[k]?=some (.cells cs ty):=fun k cs ty _ h=>Qad (Qad h)
 have hkm:∀ (m:Nat) (es:Array MapEntry) (c:Nat),w.heap[m]?=some (Obj.map es c)→((w.alloc (.cells #[.pointer (some ⟨b,0,none⟩)] 132)).alloc (.cells #[.int .i64 4] 3)).heap[m]?=some (Obj.map es c):=fun m es c h=>Qad (Qad h)
 have hkb:((w.alloc (.cells #[.pointer (some ⟨b,0,none⟩)] 132)).alloc (.cells #[.int .i64 4] 3)).heap[b]?=some (Qcf t (if L 29 then u25 else Value.map none) mv2):=Qad (Qad J.rd)
 have hn:L 19=false:=nf J.cv19 h0
 have hsz:=J.mod.size
 exact ⟨J.hb,J.mod.trans (((Mod.refl b w).alloc _).alloc _),by rw [Qaf L (by decide)];exact hkb,ui J.cm4,ui J.cm7,ui J.cm10,ui J.cm13,ui J.cm16,ui J.cm19,ui J.cm22,ui J.cm25,ui J.cv13,ui J.cv16,ui J.cv19,fun h=>(J.a12 (ud h)).keep hk,fun h=>(J.a15 (ud h)).keep hk,fun _=>⟨w.heap.size,w.heap.size+1,rfl,hsz,by omega,Qad (QaB _ _),Qaw (by simp)⟩,fun h=>by obtain ⟨m,es,c,h3,h4,h5,h6⟩:=J.mp (ud h);exact ⟨m,es,c,h3,h4,hkm m _ _ h5,h6.congr (fun x=>by rw [QlB 18 (by decide)];unfold fC;simp only [hn,Bool.false_eq_true,if_false])⟩,fun h=>J.m26u (ud h),fun h=>J.m27 (ud h),fun h=>J.m28 (ud h),ui J.m29⟩
theorem JC.s4 (J:JC t b W mv2 L u8 u16 u18 u20 u25 u26 u27 w) (h0:L 4=false) (h1:L 1=true):∃ m es c,u8=.map (some m)∧w.heap[m]?=some (.map es c)∧Qca es (fC b L u16 u18 u20)∧fC b L u16 u18 u20 QfD=none∧JC t b W mv2 (up L 4) u8 u16 u18 u20 u25 u26 u27 (QaL w m (.map (es.push ⟨.string (Qag QfD),.func (.func 101) #[.pointer (some ⟨b,0,none⟩)] #[],c⟩) (c+1))):=by
 obtain ⟨m,es,c,h3,h4,h5,h6⟩:=J.mp h1
 have hn:fC b L u16 u18 u20 QfD=none:=by unfold fC;rw [show whichL cmdNames QfD=1 from by decide];simp only [h0];rfl
 have hx:fC b (up L 4) u16 u18 u20 QfD=some (.func (.func 101) #[.pointer (some ⟨b,0,none⟩)] #[]):=by unfold fC;rw [show whichL cmdNames QfD=1 from by decide];simp only [QbD];rfl
 have hg:∀ z,z≠QfD→fC b (up L 4) u16 u18 u20 z=fC b L u16 u18 u20 z:=fun z hz=>by
  have hw:whichL cmdNames z≠1:=fun e=>hz (by have:=QaC cmdNames z 0 e;simpa [cmdNames] using this.symm)
  unfold fC
  split <;> first | (rename_i e;exact absurd e hw) | simp only [Qaf L (by decide)] | rfl
 have hmb:m≠b:=by have:=J.hb;omega
 have hk:∀ k cs ty,W.heap.size≤k→w.heap[k]?=some (.cells cs ty)→(QaL w m (.map (es.push ⟨.string (Qag QfD),.func (.func 101) #[.pointer (some ⟨b,0,none⟩)] #[],c⟩) (c+1))).heap[k]?=some (.cells cs ty):=fun k cs ty _ h=>by
  rw [Qan (fun e=>by rw [e,h5] at h;cases h)];exact h
 have hkb:(QaL w m (.map (es.push ⟨.string (Qag QfD),.func (.func 101) #[.pointer (some ⟨b,0,none⟩)] #[],c⟩) (c+1))).heap[b]?=some (Qcf t (if L 29 then u25 else Value.map none) mv2):=by rw [Qan (Ne.symm hmb)];exact J.rd
 refine ⟨m,es,c,h3,h5,h6,hn,?_⟩
 exact ⟨J.hb,Qbd J.mod h4,by rw [Qaf L (by decide)];exact hkb,fun _=>Qak _ h1,ui J.cm7,ui J.cm10,ui J.cm13,ui J.cm16,ui J.cm19,ui J.cm22,ui J.cm25,ui J.cv13,ui J.cv16,ui J.cv19,fun h=>(J.a12 (ud h)).keep hk,fun h=>(J.a15 (ud h)).keep hk,fun h=>(J.a18 (ud h)).keep hk,fun _=>⟨m,_,_,h3,h4,QaW h5,h6.push hn hx hg⟩,fun h=>J.m26u (ud h),fun h=>J.m27 (ud h),fun h=>J.m28 (ud h),ui J.m29⟩
theorem JC.s7 (J:JC t b W mv2 L u8 u16 u18 u20 u25 u26 u27 w) (h0:L 7=false) (h1:L 1=true):∃ m es c,u8=.map (some m)∧w.heap[m]?=some (.map es c)∧Qca es (fC b L u16 u18 u20)∧fC b L u16 u18 u20 Qb1=none∧JC t b W mv2 (up L 7) u8 u16 u18 u20 u25 u26 u27 (QaL w m (.map (es.push ⟨.string (Qag Qb1),.func (.func 102) #[.pointer (some ⟨b,0,none⟩)] #[],c⟩) (c+1))):=by
 obtain ⟨m,es,c,h3,h4,h5,h6⟩:=J.mp h1
 have hn:fC b L u16 u18 u20 Qb1=none:=by unfold fC;rw [show whichL cmdNames Qb1=2 from by decide];simp only [h0];rfl
 have hx:fC b (up L 7) u16 u18 u20 Qb1=some (.func (.func 102) #[.pointer (some ⟨b,0,none⟩)] #[]):=by unfold fC;rw [show whichL cmdNames Qb1=2 from by decide];simp only [QbD];rfl
 have hg:∀ z,z≠Qb1→fC b (up L 7) u16 u18 u20 z=fC b L u16 u18 u20 z:=fun z hz=>by
  have hw:whichL cmdNames z≠2:=fun e=>hz (by have:=QaC cmdNames z 1 e;simpa [cmdNames] using this.symm)
  unfold fC
  split <;> first | (rename_i e;exact absurd e hw) | simp only [Qaf L (by decide)] | rfl
 have hmb:m≠b:=by have:=J.hb;omega
 have hk:∀ k cs ty,W.heap.size≤k→w.heap[k]?=some (.cells cs ty)→(QaL w m (.map (es.push ⟨.string (Qag Qb1),.func (.func 102) #[.pointer (some ⟨b,0,none⟩)] #[],c⟩) (c+1))).heap[k]?=some (.cells cs ty):=fun k cs ty _ h=>by
  rw [Qan (fun e=>by rw [e,h5] at h;cases h)];exact h
 have hkb:(QaL w m (.map (es.push ⟨.string (Qag Qb1),.func (.func 102) #[.pointer (some ⟨b,0,none⟩)] #[],c⟩) (c+1))).heap[b]?=some (Qcf t (if L 29 then u25 else Value.map none) mv2):=by rw [Qan (Ne.symm hmb)];exact J.rd
 refine ⟨m,es,c,h3,h5,h6,hn,?_⟩
 exact ⟨J.hb,Qbd J.mod h4,by rw [Qaf L (by decide)];exact hkb,ui J.cm4,fun _=>Qak _ h1,ui J.cm10,ui J.cm13,ui J.cm16,ui J.cm19,ui J.cm22,ui J.cm25,ui J.cv13,ui J.cv16,ui J.cv19,fun h=>(J.a12 (ud h)).keep hk,fun h=>(J.a15 (ud h)).keep hk,fun h=>(J.a18 (ud h)).keep hk,fun _=>⟨m,_,_,h3,h4,QaW h5,h6.push hn hx hg⟩,fun h=>J.m26u (ud h),fun h=>J.m27 (ud h),fun h=>J.m28 (ud h),ui J.m29⟩
theorem JC.s10 (J:JC t b W mv2 L u8 u16 u18 u20 u25 u26 u27 w) (h0:L 10=false) (h1:L 1=true):∃ m es c,u8=.map (some m)∧w.heap[m]?=some (.map es c)∧Qca es (fC b L u16 u18 u20)∧fC b L u16 u18 u20 Qfl=none∧JC t b W mv2 (up L 10) u8 u16 u18 u20 u25 u26 u27 (QaL w m (.map (es.push ⟨.string (Qag Qfl),.func (.func 103) #[.pointer (some ⟨b,0,none⟩)] #[],c⟩) (c+1))):=by
 obtain ⟨m,es,c,h3,h4,h5,h6⟩:=J.mp h1
 have hn:fC b L u16 u18 u20 Qfl=none:=by unfold fC;rw [show whichL cmdNames Qfl=3 from by decide];simp only [h0];rfl
 have hx:fC b (up L 10) u16 u18 u20 Qfl=some (.func (.func 103) #[.pointer (some ⟨b,0,none⟩)] #[]):=by unfold fC;rw [show whichL cmdNames Qfl=3 from by decide];simp only [QbD];rfl
 have hg:∀ z,z≠Qfl→fC b (up L 10) u16 u18 u20 z=fC b L u16 u18 u20 z:=fun z hz=>by
  have hw:whichL cmdNames z≠3:=fun e=>hz (by have:=QaC cmdNames z 2 e;simpa [cmdNames] using this.symm)
  unfold fC
  split <;> first | (rename_i e;exact absurd e hw) | simp only [Qaf L (by decide)] | rfl
 have hmb:m≠b:=by have:=J.hb;omega
 have hk:∀ k cs ty,W.heap.size≤k→w.heap[k]?=some (.cells cs ty)→(QaL w m (.map (es.push ⟨.string (Qag Qfl),.func (.func 103) #[.pointer (some ⟨b,0,none⟩)] #[],c⟩) (c+1))).heap[k]?=some (.cells cs ty):=fun k cs ty _ h=>by
  rw [Qan (fun e=>by rw [e,h5] at h;cases h)];exact h
 have hkb:(QaL w m (.map (es.push ⟨.string (Qag Qfl),.func (.func 103) #[.pointer (some ⟨b,0,none⟩)] #[],c⟩) (c+1))).heap[b]?=some (Qcf t (if L 29 then u25 else Value.map none) mv2):=by rw [Qan (Ne.symm hmb)];exact J.rd
 refine ⟨m,es,c,h3,h5,h6,hn,?_⟩
 exact ⟨J.hb,Qbd J.mod h4,by rw [Qaf L (by decide)];exact hkb,ui J.cm4,ui J.cm7,fun _=>Qak _ h1,ui J.cm13,ui J.cm16,ui J.cm19,ui J.cm22,ui J.cm25,ui J.cv13,ui J.cv16,ui J.cv19,fun h=>(J.a12 (ud h)).keep hk,fun h=>(J.a15 (ud h)).keep hk,fun h=>(J.a18 (ud h)).keep hk,fun _=>⟨m,_,_,h3,h4,QaW h5,h6.push hn hx hg⟩,fun h=>J.m26u (ud h),fun h=>J.m27 (ud h),fun h=>J.m28 (ud h),ui J.m29⟩
theorem JC.s13 (J:JC t b W mv2 L u8 u16 u18 u20 u25 u26 u27 w) (h0:L 13=false) (h1:L 1=true) (h2:L 12=true):∃ m es c,u8=.map (some m)∧w.heap[m]?=some (.map es c)∧Qca es (fC b L u16 u18 u20)∧fC b L u16 u18 u20 QaK=none∧JC t b W mv2 (up L 13) u8 u16 u18 u20 u25 u26 u27 (QaL w m (.map (es.push ⟨.string (Qag QaK),u16,c⟩) (c+1))):=by
 obtain ⟨m,es,c,h3,h4,h5,h6⟩:=J.mp h1
 have hn:fC b L u16 u18 u20 QaK=none:=by unfold fC;rw [show whichL cmdNames QaK=4 from by decide];simp only [h0];rfl
 have hx:fC b (up L 13) u16 u18 u20 QaK=some (u16):=by unfold fC;rw [show whichL cmdNames QaK=4 from by decide];simp only [QbD];rfl
 have hg:∀ z,z≠QaK→fC b (up L 13) u16 u18 u20 z=fC b L u16 u18 u20 z:=fun z hz=>by
  have hw:whichL cmdNames z≠4:=fun e=>hz (by have:=QaC cmdNames z 3 e;simpa [cmdNames] using this.symm)
  unfold fC
  split <;> first | (rename_i e;exact absurd e hw) | simp only [Qaf L (by decide)] | rfl
 have hmb:m≠b:=by have:=J.hb;omega
 have hk:∀ k cs ty,W.heap.size≤k→w.heap[k]?=some (.cells cs ty)→(QaL w m (.map (es.push ⟨.string (Qag QaK),u16,c⟩) (c+1))).heap[k]?=some (.cells cs ty):=fun k cs ty _ h=>by
  rw [Qan (fun e=>by rw [e,h5] at h;cases h)];exact h
 have hkb:(QaL w m (.map (es.push ⟨.string (Qag QaK),u16,c⟩) (c+1))).heap[b]?=some (Qcf t (if L 29 then u25 else Value.map none) mv2):=by rw [Qan (Ne.symm hmb)];exact J.rd
 refine ⟨m,es,c,h3,h5,h6,hn,?_⟩
 exact ⟨J.hb,Qbd J.mod h4,by rw [Qaf L (by decide)];exact hkb,ui J.cm4,ui J.cm7,ui J.cm10,fun _=>Qak _ h1,ui J.cm16,ui J.cm19,ui J.cm22,ui J.cm25,fun _=>Qak _ h2,ui J.cv16,ui J.cv19,fun h=>(J.a12 (ud h)).keep hk,fun h=>(J.a15 (ud h)).keep hk,fun h=>(J.a18 (ud h)).keep hk,fun _=>⟨m,_,_,h3,h4,QaW h5,h6.push hn hx hg⟩,fun h=>J.m26u (ud h),fun h=>J.m27 (ud h),fun h=>J.m28 (ud h),ui J.m29⟩
theorem JC.s16 (J:JC t b W mv2 L u8 u16 u18 u20 u25 u26 u27 w) (h0:L 16=false) (h1:L 1=true) (h2:L 15=true):∃ m es c,u8=.map (some m)∧w.heap[m]?=some (.map es c)∧Qca es (fC b L u16 u18 u20)∧fC b L u16 u18 u20 Qbl=none∧JC t b W mv2 (up L 16) u8 u16 u18 u20 u25 u26 u27 (QaL w m (.map (es.push ⟨.string (Qag Qbl),u18,c⟩) (c+1))):=by
 obtain ⟨m,es,c,h3,h4,h5,h6⟩:=J.mp h1
 have hn:fC b L u16 u18 u20 Qbl=none:=by unfold fC;rw [show whichL cmdNames Qbl=5 from by decide];simp only [h0];rfl
 have hx:fC b (up L 16) u16 u18 u20 Qbl=some (u18):=by unfold fC;rw [show whichL cmdNames Qbl=5 from by decide];simp only [QbD];rfl
 have hg:∀ z,z≠Qbl→fC b (up L 16) u16 u18 u20 z=fC b L u16 u18 u20 z:=fun z hz=>by
  have hw:whichL cmdNames z≠5:=fun e=>hz (by have:=QaC cmdNames z 4 e;simpa [cmdNames] using this.symm)
  unfold fC
  split <;> first | (rename_i e;exact absurd e hw) | simp only [Qaf L (by decide)] | rfl
 have hmb:m≠b:=by have:=J.hb;omega
 have hk:∀ k cs ty,W.heap.size≤k→w.heap[k]?=some (.cells cs ty)→(QaL w m (.map (es.push ⟨.string (Qag Qbl),u18,c⟩) (c+1))).heap[k]?=some (.cells cs ty):=fun k cs ty _ h=>by
  rw [Qan (fun e=>by rw [e,h5] at h;cases h)];exact h
 have hkb:(QaL w m (.map (es.push ⟨.string (Qag Qbl),u18,c⟩) (c+1))).heap[b]?=some (Qcf t (if L 29 then u25 else Value.map none) mv2):=by rw [Qan (Ne.symm hmb)];exact J.rd
 refine ⟨m,es,c,h3,h5,h6,hn,?_⟩
 exact ⟨J.hb,Qbd J.mod h4,by rw [Qaf L (by decide)];exact hkb,ui J.cm4,ui J.cm7,ui J.cm10,ui J.cm13,fun _=>Qak _ h1,ui J.cm19,ui J.cm22,ui J.cm25,ui J.cv13,fun _=>Qak _ h2,ui J.cv19,fun h=>(J.a12 (ud h)).keep hk,fun h=>(J.a15 (ud h)).keep hk,fun h=>(J.a18 (ud h)).keep hk,fun _=>⟨m,_,_,h3,h4,QaW h5,h6.push hn hx hg⟩,fun h=>J.m26u (ud h),fun h=>J.m27 (ud h),fun h=>J.m28 (ud h),ui J.m29⟩
theorem JC.s19 (J:JC t b W mv2 L u8 u16 u18 u20 u25 u26 u27 w) (h0:L 19=false) (h1:L 1=true) (h2:L 18=true):∃ m es c,u8=.map (some m)∧w.heap[m]?=some (.map es c)∧Qca es (fC b L u16 u18 u20)∧fC b L u16 u18 u20 QaZ=none∧JC t b W mv2 (up L 19) u8 u16 u18 u20 u25 u26 u27 (QaL w m (.map (es.push ⟨.string (Qag QaZ),u20,c⟩) (c+1))):=by
 obtain ⟨m,es,c,h3,h4,h5,h6⟩:=J.mp h1
 have hn:fC b L u16 u18 u20 QaZ=none:=by unfold fC;rw [show whichL cmdNames QaZ=6 from by decide];simp only [h0];rfl
 have hx:fC b (up L 19) u16 u18 u20 QaZ=some (u20):=by unfold fC;rw [show whichL cmdNames QaZ=6 from by decide];simp only [QbD];rfl
 have hg:∀ z,z≠QaZ→fC b (up L 19) u16 u18 u20 z=fC b L u16 u18 u20 z:=fun z hz=>by
  have hw:whichL cmdNames z≠6:=fun e=>hz (by have:=QaC cmdNames z 5 e;simpa [cmdNames] using this.symm)
  unfold fC
  split <;> first | (rename_i e;exact absurd e hw) | simp only [Qaf L (by decide)] | rfl
 have hmb:m≠b:=by have:=J.hb;omega
 have hk:∀ k cs ty,W.heap.size≤k→w.heap[k]?=some (.cells cs ty)→(QaL w m (.map (es.push ⟨.string (Qag QaZ),u20,c⟩) (c+1))).heap[k]?=some (.cells cs ty):=fun k cs ty _ h=>by
  rw [Qan (fun e=>by rw [e,h5] at h;cases h)];exact h
 have hkb:(QaL w m (.map (es.push ⟨.string (Qag QaZ),u20,c⟩) (c+1))).heap[b]?=some (Qcf t (if L 29 then u25 else Value.map none) mv2):=by rw [Qan (Ne.symm hmb)];exact J.rd
 refine ⟨m,es,c,h3,h5,h6,hn,?_⟩
 exact ⟨J.hb,Qbd J.mod h4,by rw [Qaf L (by decide)];exact hkb,ui J.cm4,ui J.cm7,ui J.cm10,ui J.cm13,ui J.cm16,fun _=>Qak _ h1,ui J.cm22,ui J.cm25,ui J.cv13,ui J.cv16,fun _=>Qak _ h2,fun h=>(J.a12 (ud h)).keep hk,fun h=>(J.a15 (ud h)).keep hk,fun h=>(J.a18 (ud h)).keep hk,fun _=>⟨m,_,_,h3,h4,QaW h5,h6.push hn hx hg⟩,fun h=>J.m26u (ud h),fun h=>J.m27 (ud h),fun h=>J.m28 (ud h),ui J.m29⟩
theorem JC.s22 (J:JC t b W mv2 L u8 u16 u18 u20 u25 u26 u27 w) (h0:L 22=false) (h1:L 1=true):∃ m es c,u8=.map (some m)∧w.heap[m]?=some (.map es c)∧Qca es (fC b L u16 u18 u20)∧fC b L u16 u18 u20 Qg1=none∧JC t b W mv2 (up L 22) u8 u16 u18 u20 u25 u26 u27 (QaL w m (.map (es.push ⟨.string (Qag Qg1),.func (.func 105) #[.pointer (some ⟨b,0,none⟩)] #[],c⟩) (c+1))):=by
 obtain ⟨m,es,c,h3,h4,h5,h6⟩:=J.mp h1
 have hn:fC b L u16 u18 u20 Qg1=none:=by unfold fC;rw [show whichL cmdNames Qg1=7 from by decide];simp only [h0];rfl
 have hx:fC b (up L 22) u16 u18 u20 Qg1=some (.func (.func 105) #[.pointer (some ⟨b,0,none⟩)] #[]):=by unfold fC;rw [show whichL cmdNames Qg1=7 from by decide];simp only [QbD];rfl
 have hg:∀ z,z≠Qg1→fC b (up L 22) u16 u18 u20 z=fC b L u16 u18 u20 z:=fun z hz=>by
  have hw:whichL cmdNames z≠7:=fun e=>hz (by have:=QaC cmdNames z 6 e;simpa [cmdNames] using this.symm)
  unfold fC
  split <;> first | (rename_i e;exact absurd e hw) | simp only [Qaf L (by decide)] | rfl
 have hmb:m≠b:=by have:=J.hb;omega
 have hk:∀ k cs ty,W.heap.size≤k→w.heap[k]?=some (.cells cs ty)→(QaL w m (.map (es.push ⟨.string (Qag Qg1),.func (.func 105) #[.pointer (some ⟨b,0,none⟩)] #[],c⟩) (c+1))).heap[k]?=some (.cells cs ty):=fun k cs ty _ h=>by
  rw [Qan (fun e=>by rw [e,h5] at h;cases h)];exact h
 have hkb:(QaL w m (.map (es.push ⟨.string (Qag Qg1),.func (.func 105) #[.pointer (some ⟨b,0,none⟩)] #[],c⟩) (c+1))).heap[b]?=some (Qcf t (if L 29 then u25 else Value.map none) mv2):=by rw [Qan (Ne.symm hmb)];exact J.rd
 refine ⟨m,es,c,h3,h5,h6,hn,?_⟩
 exact ⟨J.hb,Qbd J.mod h4,by rw [Qaf L (by decide)];exact hkb,ui J.cm4,ui J.cm7,ui J.cm10,ui J.cm13,ui J.cm16,ui J.cm19,fun _=>Qak _ h1,ui J.cm25,ui J.cv13,ui J.cv16,ui J.cv19,fun h=>(J.a12 (ud h)).keep hk,fun h=>(J.a15 (ud h)).keep hk,fun h=>(J.a18 (ud h)).keep hk,fun _=>⟨m,_,_,h3,h4,QaW h5,h6.push hn hx hg⟩,fun h=>J.m26u (ud h),fun h=>J.m27 (ud h),fun h=>J.m28 (ud h),ui J.m29⟩
theorem JC.s25 (J:JC t b W mv2 L u8 u16 u18 u20 u25 u26 u27 w) (h0:L 25=false) (h1:L 1=true):∃ m es c,u8=.map (some m)∧w.heap[m]?=some (.map es c)∧Qca es (fC b L u16 u18 u20)∧fC b L u16 u18 u20 kIf=none∧JC t b W mv2 (up L 25) u8 u16 u18 u20 u25 u26 u27 (QaL w m (.map (es.push ⟨.string (Qag kIf),.func (.func 106) #[.pointer (some ⟨b,0,none⟩)] #[],c⟩) (c+1))):=by
 obtain ⟨m,es,c,h3,h4,h5,h6⟩:=J.mp h1
 have hn:fC b L u16 u18 u20 kIf=none:=by unfold fC;rw [show whichL cmdNames kIf=8 from by decide];simp only [h0];rfl
 have hx:fC b (up L 25) u16 u18 u20 kIf=some (.func (.func 106) #[.pointer (some ⟨b,0,none⟩)] #[]):=by unfold fC;rw [show whichL cmdNames kIf=8 from by decide];simp only [QbD];rfl
 have hg:∀ z,z≠kIf→fC b (up L 25) u16 u18 u20 z=fC b L u16 u18 u20 z:=fun z hz=>by
  have hw:whichL cmdNames z≠8:=fun e=>hz (by have:=QaC cmdNames z 7 e;simpa [cmdNames] using this.symm)
  unfold fC
  split <;> first | (rename_i e;exact absurd e hw) | simp only [Qaf L (by decide)] | rfl
 have hmb:m≠b:=by have:=J.hb;omega
 have hk:∀ k cs ty,W.heap.size≤k→w.heap[k]?=some (.cells cs ty)→(QaL w m (.map (es.push ⟨.string (Qag kIf),.func (.func 106) #[.pointer (some ⟨b,0,none⟩)] #[],c⟩) (c+1))).heap[k]?=some (.cells cs ty):=fun k cs ty _ h=>by
  rw [Qan (fun e=>by rw [e,h5] at h;cases h)];exact h
 have hkb:(QaL w m (.map (es.push ⟨.string (Qag kIf),.func (.func 106) #[.pointer (some ⟨b,0,none⟩)] #[],c⟩) (c+1))).heap[b]?=some (Qcf t (if L 29 then u25 else Value.map none) mv2):=by rw [Qan (Ne.symm hmb)];exact J.rd
 refine ⟨m,es,c,h3,h5,h6,hn,?_⟩
 exact ⟨J.hb,Qbd J.mod h4,by rw [Qaf L (by decide)];exact hkb,ui J.cm4,ui J.cm7,ui J.cm10,ui J.cm13,ui J.cm16,ui J.cm19,ui J.cm22,fun _=>Qak _ h1,ui J.cv13,ui J.cv16,ui J.cv19,fun h=>(J.a12 (ud h)).keep hk,fun h=>(J.a15 (ud h)).keep hk,fun h=>(J.a18 (ud h)).keep hk,fun _=>⟨m,_,_,h3,h4,QaW h5,h6.push hn hx hg⟩,fun h=>J.m26u (ud h),fun h=>J.m27 (ud h),fun h=>J.m28 (ud h),ui J.m29⟩
theorem JC.s26 (J:JC t b W mv2 L u8 u16 u18 u20 u25 u26 u27 w) (h0:L 26=false) (h1:L 1=true) (hi4:L 4=true) (hi7:L 7=true) (hi10:L 10=true) (hi13:L 13=true) (hi16:L 16=true) (hi19:L 19=true) (hi22:L 22=true) (hi25:L 25=true):JC t b W mv2 (up L 26) u8 u16 u18 u20 u8 u26 u27 w:=by
 have n29:L 29=false:=nf J.m29 h0
 have hk:∀ k cs ty,W.heap.size≤k→w.heap[k]?=some (.cells cs ty)→w.heap[k]?=some (.cells cs ty):=fun k cs ty _ h=>h
 have hkm:∀ (m:Nat) (es:Array MapEntry) (c:Nat),w.heap[m]?=some (Obj.map es c)→w.heap[m]?=some (Obj.map es c):=fun m es c h=>h
 exact ⟨J.hb,J.mod.trans (Mod.refl b w),by have:=J.rd;rw [n29] at this;rw [Qaf L (by decide),n29];exact this,ui J.cm4,ui J.cm7,ui J.cm10,ui J.cm13,ui J.cm16,ui J.cm19,ui J.cm22,ui J.cm25,ui J.cv13,ui J.cv16,ui J.cv19,fun h=>(J.a12 (ud h)).keep hk,fun h=>(J.a15 (ud h)).keep hk,fun h=>(J.a18 (ud h)).keep hk,fun h=>by obtain ⟨m,es,c,h3,h4,h5,h6⟩:=J.mp (ud h);exact ⟨m,es,c,h3,h4,hkm m _ _ h5,h6.congr (fun x=>(QlB 26 (by decide) x).symm)⟩,fun _=>⟨rfl,Qak _ h1,Qak _ hi4,Qak _ hi7,Qak _ hi10,Qak _ hi13,Qak _ hi16,Qak _ hi19,Qak _ hi22,Qak _ hi25⟩,fun h=>J.m27 (ud h),fun h=>J.m28 (ud h),ui J.m29⟩
theorem JC.s27 (J:JC t b W mv2 L u8 u16 u18 u20 u25 u26 u27 w) (h0:L 27=false):JC t b W mv2 (up L 27) u8 u16 u18 u20 u25 (.pointer (some ⟨b,0,none⟩)) u27 w:=by
 have hk:∀ k cs ty,W.heap.size≤k→w.heap[k]?=some (.cells cs ty)→w.heap[k]?=some (.cells cs ty):=fun k cs ty _ h=>h
 have hkm:∀ (m:Nat) (es:Array MapEntry) (c:Nat),w.heap[m]?=some (Obj.map es c)→w.heap[m]?=some (Obj.map es c):=fun m es c h=>h
 exact ⟨J.hb,J.mod.trans (Mod.refl b w),by rw [Qaf L (by decide)];exact J.rd,ui J.cm4,ui J.cm7,ui J.cm10,ui J.cm13,ui J.cm16,ui J.cm19,ui J.cm22,ui J.cm25,ui J.cv13,ui J.cv16,ui J.cv19,fun h=>(J.a12 (ud h)).keep hk,fun h=>(J.a15 (ud h)).keep hk,fun h=>(J.a18 (ud h)).keep hk,fun h=>by obtain ⟨m,es,c,h3,h4,h5,h6⟩:=J.mp (ud h);exact ⟨m,es,c,h3,h4,hkm m _ _ h5,h6.congr (fun x=>(QlB 27 (by decide) x).symm)⟩,fun h=>J.m26u (ud h),fun _=>rfl,fun h=>J.m28 (ud h),ui J.m29⟩
theorem JC.s28 (J:JC t b W mv2 L u8 u16 u18 u20 u25 u26 u27 w) (h0:L 28=false):JC t b W mv2 (up L 28) u8 u16 u18 u20 u25 u26 (.pointer (some ⟨b,8,none⟩)) w:=by
 have hk:∀ k cs ty,W.heap.size≤k→w.heap[k]?=some (.cells cs ty)→w.heap[k]?=some (.cells cs ty):=fun k cs ty _ h=>h
 have hkm:∀ (m:Nat) (es:Array MapEntry) (c:Nat),w.heap[m]?=some (Obj.map es c)→w.heap[m]?=some (Obj.map es c):=fun m es c h=>h
 exact ⟨J.hb,J.mod.trans (Mod.refl b w),by rw [Qaf L (by decide)];exact J.rd,ui J.cm4,ui J.cm7,ui J.cm10,ui J.cm13,ui J.cm16,ui J.cm19,ui J.cm22,ui J.cm25,ui J.cv13,ui J.cv16,ui J.cv19,fun h=>(J.a12 (ud h)).keep hk,fun h=>(J.a15 (ud h)).keep hk,fun h=>(J.a18 (ud h)).keep hk,fun h=>by obtain ⟨m,es,c,h3,h4,h5,h6⟩:=J.mp (ud h);exact ⟨m,es,c,h3,h4,hkm m _ _ h5,h6.congr (fun x=>(QlB 28 (by decide) x).symm)⟩,fun h=>J.m26u (ud h),fun h=>J.m27 (ud h),fun _=>rfl,ui J.m29⟩
theorem JC.s29 (J:JC t b W mv2 L u8 u16 u18 u20 u25 u26 u27 w) (h0:L 29=false) (h26:L 26=true):JC t b W mv2 (up L 29) u8 u16 u18 u20 u25 u26 u27 (w.setCell ⟨b,8,none⟩ u25):=by
 have hb:=J.hb
 have hk:∀ k cs ty,W.heap.size≤k→w.heap[k]?=some (.cells cs ty)→(w.setCell ⟨b,8,none⟩ u25).heap[k]?=some (.cells cs ty):=fun k cs ty hk h=>by rw [Below.heap_setCell _ _ _ _ (show k≠b by omega)];exact h
 have hkm:∀ (m:Nat) (es:Array MapEntry) (c:Nat),w.heap[m]?=some (Obj.map es c)→(w.setCell ⟨b,8,none⟩ u25).heap[m]?=some (Obj.map es c):=fun m es c h=>by
  have hr:=J.rd
  rw [Below.heap_setCell _ _ _ _ (show m≠b from fun e=>by rw [e,hr] at h;cases h)];exact h
 exact ⟨J.hb,J.mod.setCell 8 u25,by rw [QbD];exact Qah _ _ _ _ _ _ J.rd,ui J.cm4,ui J.cm7,ui J.cm10,ui J.cm13,ui J.cm16,ui J.cm19,ui J.cm22,ui J.cm25,ui J.cv13,ui J.cv16,ui J.cv19,fun h=>(J.a12 (ud h)).keep hk,fun h=>(J.a15 (ud h)).keep hk,fun h=>(J.a18 (ud h)).keep hk,fun h=>by obtain ⟨m,es,c,h3,h4,h5,h6⟩:=J.mp (ud h);exact ⟨m,es,c,h3,h4,hkm m _ _ h5,h6.congr (fun x=>(QlB 29 (by decide) x).symm)⟩,fun h=>J.m26u (ud h),fun h=>J.m27 (ud h),fun h=>J.m28 (ud h),fun _=>Qak _ h26⟩
theorem JC.done (J:JC t b W mv2 L u8 u16 u18 u20 u25 u26 u27 w) (hall:∀ i,i < 30→L i=true):∃ m p1 k1 p2 k2 p3 k3,w.heap[b]?=some (Qcf t (.map (some m)) mv2)∧QoF w b m p1 k1 p2 k2 p3 k3∧Mod b W w∧W.heap.size≤m:=by
 obtain ⟨m,es,c,h3,h4,h5,h6⟩:=J.mp (hall 1 (by decide))
 obtain ⟨p1,k1,e1,hp1,hk1,hp1',hk1'⟩:=J.a12 (hall 12 (by decide))
 obtain ⟨p2,k2,e2,hp2,hk2,hp2',hk2'⟩:=J.a15 (hall 15 (by decide))
 obtain ⟨p3,k3,e3,hp3,hk3,hp3',hk3'⟩:=J.a18 (hall 18 (by decide))
 have hb:=J.hb
 have hr:=J.rd
 rw [hall 29 (by decide),if_pos rfl,(J.m26 (hall 26 (by decide))).1,h3] at hr
 have hf:Qca es (cmdFn b p1 k1 p2 k2 p3 k3):=h6.congr (fun x=>by
  subst e1 e2 e3
  unfold fC cmdFn
  simp only [hall 4 (by decide),hall 7 (by decide),hall 10 (by decide),hall 13 (by decide),hall 16 (by decide),hall 19 (by decide),hall 22 (by decide),hall 25 (by decide),if_true]
  all_goals (
   generalize whichL cmdNames x=i
   match i with
   | 0 | 1 | 2 | 3 | 4 | 5 | 6 | 7 | 8=>rfl
   | n+9=>rfl))
 exact ⟨m,p1,k1,p2,k2,p3,k3,hr,⟨Qlq (K:=9) (E:=195) Tryz.underlying191 Tryz.underlying9 QtE h5 hf,⟨Qab hp1' 0,by omega⟩,Qab hk1' 0,⟨Qab hp2' 0,by omega⟩,Qab hk2' 0,⟨Qab hp3' 0,by omega⟩,Qab hk3' 0,by omega,by omega,by omega,by omega,QaM h5⟩,J.mod,h4⟩
end
theorem Qe2 {P:Program} {md:Region.Mode} {ops:Array Oper} {Q:Exit→Act→World→Prop} {S:World→Prop} (J:Array Bool→Act→World→Prop)
 (hsz:∀ l a w,J l a w→l.size=ops.size) (hS:∀ l a w,J l a w→S w)
 (hstep:∀ l a w i,J l a w→i∈Region.ready md ops l→wpOp P ops Q i (fun a' w'=>J (l.setIfInBounds i true) a' w') a w)
 (hdone:∀ l a w,J l a w→Region.ready md ops l=[]→Q .normal a w) :
 ∀ (fuel:Nat) (l:Array Bool) (a:Act) (w:World),l.toList.count false≤fuel→J l a w→wpAnyH P md ops Q S fuel l a w
 | 0,l,a,w,hf,hJ=>by
  have hr:Region.ready md ops l=[]:=by
   rw [List.eq_nil_iff_forall_not_mem]
   intro i hi
   obtain ⟨h0,o,ho,_⟩:=mem_ready.1 hi
   have hlt:i < l.size:=by rw [hsz l a w hJ];exact (Array.getElem?_eq_some_iff.1 ho).1
   have:l[i]=false:=by simpa [hlt] using h0
   have hm:false∈l.toList:=by rw [← this];simp
   have:=List.count_pos_iff.2 hm
   omega
  exact ⟨hr,hdone l a w hJ hr⟩
 | fuel+1,l,a,w,hf,hJ=>by
  refine ⟨hdone l a w hJ,fun i hi=>wpOp_mono (fun a' w' h=>⟨hS _ _ _ h,?_⟩) (hstep l a w i hJ hi)⟩
  refine Qe2 J hsz hS hstep hdone fuel _ a' w' ?_ h
  obtain ⟨h0,o,ho,_⟩:=mem_ready.1 hi
  have hlt:i < l.size:=by rw [hsz l a w hJ];exact (Array.getElem?_eq_some_iff.1 ho).1
  have hv:l[i]=false:=by simpa [hlt] using h0
  have e:(l.setIfInBounds i true).toList=l.toList.set i true:=by simp
  rw [e]
  have hc:=List.count_set (a:=true) (b:=false) (l:=l.toList) (i:=i) (h:=by simpa using hlt)
  have hv':l.toList[i]'(by simpa using hlt)=false:=by simpa using hv
  rw [hv'] at hc
  simp only [beq_self_eq_true,if_true,show ((true:Bool) == false)=false from rfl,Bool.false_eq_true,if_false] at hc
  have hm:false∈l.toList:=by rw [← hv'];simp
  have:=List.count_pos_iff.2 hm
  omega
theorem Qed {md:Region.Mode} {ops:Array Oper} {l:Array Bool} (hl:l.size=ops.size) (hd:((List.range ops.size).all fun i=>(ops[i]?).all fun o=>o.after.all fun e=>decide (e.on < i))=true) (hr:Region.ready md ops l=[]):∀ i,i < ops.size→l.getD i false=true:=by
 intro i
 induction i using Nat.strongRecOn with
 | _ i ih=>
  intro hi
  apply Classical.byContradiction
  intro hn
  have hm:i∈Region.ready md ops l:=by
   refine mem_ready.2 ⟨?_,ops[i],by simp [hi],fun e he _=>?_⟩
   ·have:i < l.size:=by omega
    simp [this] at hn ⊢
    exact hn
   ·have h1:=List.all_eq_true.1 hd i (List.mem_range.2 hi)
    rw [Array.getElem?_eq_getElem hi] at h1
    simp only [Option.all_some] at h1
    have h2:=Array.all_eq_true_iff_forall_mem.1 h1 e he
    have h3:e.on < i:=of_decide_eq_true h2
    exact ih e.on h3 (by omega)
  rw [hr] at hm
  cases hm
theorem QaG {P:Program} {ops:Array Oper} {Q:Exit→Act→World→Prop} {i:Nat} {o:Oper} {K:Act→World→Prop} {a:Act} {w:World} (ho:ops[i]?=some o) (hw:Region.wanted o (yielded ops a.tmps)=true) (h:o.wp P a w K Q):wpOp P ops Q i K a w:=by
 unfold wpOp
 rw [ho]
 dsimp only
 rw [if_pos hw]
 exact Or.inl h
end
section
open Go.RowKit
def Qie (w:World) (B:Nat) (h:Bool) (v:Value):Prop:=
 ∃ p,v=.func (.func 167) #[] #[.pointer (some ⟨p,0,none⟩)]∧B≤p∧w.heap[p]?=some (.cells #[.bool h] 4)
theorem Qie.keep {w w':World} {B:Nat} {h:Bool} {v:Value} (hh:Qie w B h v) (hk:∀ k cs ty,B≤k→w.heap[k]?=some (.cells cs ty)→w'.heap[k]?=some (.cells cs ty)):Qie w' B h v:=by
 obtain ⟨p,hv,hp,h1⟩:=hh
 exact ⟨p,hv,hp,hk p _ _ hp h1⟩
def fT (b:Nat) (L:Nat→Bool) (u30 u31:Value) (x:List UInt8):Option Value:=
 match whichL testNames x with
 | 1=>if L 3 then some (u30) else none
 | 2=>if L 5 then some (u31) else none
 | 3=>if L 8 then some (.func (.func 108) #[.pointer (some ⟨b,0,none⟩)] #[]) else none
 | 4=>if L 10 then some (.func (.func 109) #[] #[.pointer (some ⟨b+1,0,none⟩)]) else none
 | 5=>if L 12 then some (.func (.func 111) #[] #[.pointer (some ⟨b+1,0,none⟩)]) else none
 | 6=>if L 14 then some (.func (.func 112) #[] #[.pointer (some ⟨b+1,0,none⟩)]) else none
 | 7=>if L 16 then some (.func (.func 115) #[] #[.pointer (some ⟨b+1,0,none⟩)]) else none
 | 8=>if L 18 then some (.func (.func 118) #[] #[.pointer (some ⟨b+1,0,none⟩)]) else none
 | 9=>if L 21 then some (.func (.func 119) #[.pointer (some ⟨b,0,none⟩)] #[]) else none
 | 10=>if L 24 then some (.func (.func 120) #[.pointer (some ⟨b,0,none⟩)] #[]) else none
 | _=>none
structure JT (t:ByteArray) (b:Nat) (W:World) (mv1:Value) (L:Nat→Bool) (u29 u30 u31 u43 u44 u45:Value) (w:World):Prop where
 hb:b < W.heap.size
 mod:Mod b W w
 rd:w.heap[b]?=some (Qcf t mv1 (if L 28 then u43 else Value.map none))
 cm3:L 3=true→L 1=true
 cm5:L 5=true→L 1=true
 cm8:L 8=true→L 1=true
 cm10:L 10=true→L 1=true
 cm12:L 12=true→L 1=true
 cm14:L 14=true→L 1=true
 cm16:L 16=true→L 1=true
 cm18:L 18=true→L 1=true
 cm21:L 21=true→L 1=true
 cm24:L 24=true→L 1=true
 cv3:L 3=true→L 2=true
 cv5:L 5=true→L 4=true
 a2:L 2=true→Qie w W.heap.size true u30
 a4:L 4=true→Qie w W.heap.size false u31
 mp:L 1=true→∃ m es c,u29=.map (some m)∧W.heap.size≤m∧w.heap[m]?=some (.map es c)∧Qca es (fT b L u30 u31)
 m25:L 25=true→u43=u29∧L 1=true∧L 3=true∧L 5=true∧L 8=true∧L 10=true∧L 12=true∧L 14=true∧L 16=true∧L 18=true∧L 21=true∧L 24=true
 m26:L 26=true→u44=.pointer (some ⟨b,0,none⟩)
 m27:L 27=true→u45=.pointer (some ⟨b,9,none⟩)
 m28:L 28=true→L 25=true
section
variable {t:ByteArray} {b:Nat} {W:World} {mv1:Value} {L:Nat→Bool} {u29 u30 u31 u43 u44 u45:Value} {w:World}
theorem Qmp (i:Nat) (h:i≠3∧i≠5∧i≠8∧i≠10∧i≠12∧i≠14∧i≠16∧i≠18∧i≠21∧i≠24) (x:List UInt8):fT b (up L i) u30 u31 x=fT b L u30 u31 x:=by
 obtain ⟨h0,h1,h2,h3,h4,h5,h6,h7,h8,h9⟩:=h
 unfold fT
 simp only [Qaf L (Ne.symm h0),Qaf L (Ne.symm h1),Qaf L (Ne.symm h2),Qaf L (Ne.symm h3),Qaf L (Ne.symm h4),Qaf L (Ne.symm h5),Qaf L (Ne.symm h6),Qaf L (Ne.symm h7),Qaf L (Ne.symm h8),Qaf L (Ne.symm h9)]
theorem JT.m25u (J:JT t b W mv1 L u29 u30 u31 u43 u44 u45 w) {i:Nat} (h:L 25=true):u43=u29∧up L i 1=true∧up L i 3=true∧up L i 5=true∧up L i 8=true∧up L i 10=true∧up L i 12=true∧up L i 14=true∧up L i 16=true∧up L i 18=true∧up L i 21=true∧up L i 24=true:=by
 obtain ⟨e1,e2,e3,e4,e5,e6,e7,e8,e9,e10,e11,e12⟩:=J.m25 h
 exact ⟨e1,Qak _ e2,Qak _ e3,Qak _ e4,Qak _ e5,Qak _ e6,Qak _ e7,Qak _ e8,Qak _ e9,Qak _ e10,Qak _ e11,Qak _ e12⟩
theorem JT.s1 (J:JT t b W mv1 L u29 u30 u31 u43 u44 u45 w) (h0:L 1=false):JT t b W mv1 (up L 1) (.map (some w.heap.size)) u30 u31 u43 u44 u45 (w.alloc (Obj.map #[] 0)):=by
 have hk:∀ k cs ty,W.heap.size≤k→w.heap[k]?=some (.cells cs ty)→(w.alloc (Obj.map #[] 0)).heap[k]?=some (.cells cs ty):=fun k cs ty _ h=>Qad h
 have hkb:(w.alloc (Obj.map #[] 0)).heap[b]?=some (Qcf t mv1 (if L 28 then u43 else Value.map none)):=Qad J.rd
 have n3:L 3=false:=nf J.cm3 h0
 have n5:L 5=false:=nf J.cm5 h0
 have n8:L 8=false:=nf J.cm8 h0
 have n10:L 10=false:=nf J.cm10 h0
 have n12:L 12=false:=nf J.cm12 h0
 have n14:L 14=false:=nf J.cm14 h0
 have n16:L 16=false:=nf J.cm16 h0
 have n18:L 18=false:=nf J.cm18 h0
 have n21:L 21=false:=nf J.cm21 h0
 have n24:L 24=false:=nf J.cm24 h0
 exact ⟨J.hb,J.mod.trans ((Mod.refl b w).alloc _),by rw [Qaf L (by decide)];exact hkb,ui J.cm3,ui J.cm5,ui J.cm8,ui J.cm10,ui J.cm12,ui J.cm14,ui J.cm16,ui J.cm18,ui J.cm21,ui J.cm24,ui J.cv3,ui J.cv5,fun h=>(J.a2 (ud h)).keep hk,fun h=>(J.a4 (ud h)).keep hk,fun _=>⟨w.heap.size,#[],0,rfl,J.mod.size,QaB _ _,Qca.empty.congr (fun x=>by rw [Qmp 1 (by decide)];unfold fT;simp only [n3,n5,n8,n10,n12,n14,n16,n18,n21,n24];split <;> rfl)⟩,fun h=>absurd (J.m25 (ud h)).2.1 (by rw [h0];decide),fun h=>J.m26 (ud h),fun h=>J.m27 (ud h),ui J.m28⟩
theorem JT.s2 (J:JT t b W mv1 L u29 u30 u31 u43 u44 u45 w) (h0:L 2=false):JT t b W mv1 (up L 2) u29 (.func (.func 167) #[] #[.pointer (some ⟨w.heap.size,0,none⟩)]) u31 u43 u44 u45 (w.alloc (.cells #[.bool true] 4)):=by
 have hk:∀ k cs ty,W.heap.size≤k→w.heap[k]?=some (.cells cs ty)→(w.alloc (.cells #[.bool true] 4)).heap[k]?=some (.cells cs ty):=fun k cs ty _ h=>Qad h
 have hkm:∀ (m:Nat) (es:Array MapEntry) (c:Nat),w.heap[m]?=some (Obj.map es c)→(w.alloc (.cells #[.bool true] 4)).heap[m]?=some (Obj.map es c):=fun m es c h=>Qad h
 have hkb:(w.alloc (.cells #[.bool true] 4)).heap[b]?=some (Qcf t mv1 (if L 28 then u43 else Value.map none)):=Qad J.rd
 have hn:L 3=false:=nf J.cv3 h0
 have hsz:=J.mod.size
 exact ⟨J.hb,J.mod.trans ((Mod.refl b w).alloc _),by rw [Qaf L (by decide)];exact hkb,ui J.cm3,ui J.cm5,ui J.cm8,ui J.cm10,ui J.cm12,ui J.cm14,ui J.cm16,ui J.cm18,ui J.cm21,ui J.cm24,ui J.cv3,ui J.cv5,fun _=>⟨w.heap.size,rfl,hsz,QaB _ _⟩,fun h=>(J.a4 (ud h)).keep hk,fun h=>by obtain ⟨m,es,c,h3,h4,h5,h6⟩:=J.mp (ud h);exact ⟨m,es,c,h3,h4,hkm m _ _ h5,h6.congr (fun x=>by rw [Qmp 2 (by decide)];unfold fT;simp only [hn,Bool.false_eq_true,if_false])⟩,fun h=>J.m25u (ud h),fun h=>J.m26 (ud h),fun h=>J.m27 (ud h),ui J.m28⟩
theorem JT.s4 (J:JT t b W mv1 L u29 u30 u31 u43 u44 u45 w) (h0:L 4=false):JT t b W mv1 (up L 4) u29 u30 (.func (.func 167) #[] #[.pointer (some ⟨w.heap.size,0,none⟩)]) u43 u44 u45 (w.alloc (.cells #[.bool false] 4)):=by
 have hk:∀ k cs ty,W.heap.size≤k→w.heap[k]?=some (.cells cs ty)→(w.alloc (.cells #[.bool false] 4)).heap[k]?=some (.cells cs ty):=fun k cs ty _ h=>Qad h
 have hkm:∀ (m:Nat) (es:Array MapEntry) (c:Nat),w.heap[m]?=some (Obj.map es c)→(w.alloc (.cells #[.bool false] 4)).heap[m]?=some (Obj.map es c):=fun m es c h=>Qad h
 have hkb:(w.alloc (.cells #[.bool false] 4)).heap[b]?=some (Qcf t mv1 (if L 28 then u43 else Value.map none)):=Qad J.rd
 have hn:L 5=false:=nf J.cv5 h0
 have hsz:=J.mod.size
 exact ⟨J.hb,J.mod.trans ((Mod.refl b w).alloc _),by rw [Qaf L (by decide)];exact hkb,ui J.cm3,ui J.cm5,ui J.cm8,ui J.cm10,ui J.cm12,ui J.cm14,ui J.cm16,ui J.cm18,ui J.cm21,ui J.cm24,ui J.cv3,ui J.cv5,fun h=>(J.a2 (ud h)).keep hk,fun _=>⟨w.heap.size,rfl,hsz,QaB _ _⟩,fun h=>by obtain ⟨m,es,c,h3,h4,h5,h6⟩:=J.mp (ud h);exact ⟨m,es,c,h3,h4,hkm m _ _ h5,h6.congr (fun x=>by rw [Qmp 4 (by decide)];unfold fT;simp only [hn,Bool.false_eq_true,if_false])⟩,fun h=>J.m25u (ud h),fun h=>J.m26 (ud h),fun h=>J.m27 (ud h),ui J.m28⟩
theorem JT.s3 (J:JT t b W mv1 L u29 u30 u31 u43 u44 u45 w) (h0:L 3=false) (h1:L 1=true) (h2:L 2=true):∃ m es c,u29=.map (some m)∧w.heap[m]?=some (.map es c)∧Qca es (fT b L u30 u31)∧fT b L u30 u31 Qfk=none∧JT t b W mv1 (up L 3) u29 u30 u31 u43 u44 u45 (QaL w m (.map (es.push ⟨.string (Qag Qfk),u30,c⟩) (c+1))):=by
 obtain ⟨m,es,c,h3,h4,h5,h6⟩:=J.mp h1
 have hn:fT b L u30 u31 Qfk=none:=by unfold fT;rw [show whichL testNames Qfk=1 from by decide];simp only [h0];rfl
 have hx:fT b (up L 3) u30 u31 Qfk=some (u30):=by unfold fT;rw [show whichL testNames Qfk=1 from by decide];simp only [QbD];rfl
 have hg:∀ z,z≠Qfk→fT b (up L 3) u30 u31 z=fT b L u30 u31 z:=fun z hz=>by
  have hw:whichL testNames z≠1:=fun e=>hz (by have:=QaC testNames z 0 e;simpa [testNames] using this.symm)
  unfold fT
  split <;> first | (rename_i e;exact absurd e hw) | simp only [Qaf L (by decide)] | rfl
 have hmb:m≠b:=by have:=J.hb;omega
 have hk:∀ k cs ty,W.heap.size≤k→w.heap[k]?=some (.cells cs ty)→(QaL w m (.map (es.push ⟨.string (Qag Qfk),u30,c⟩) (c+1))).heap[k]?=some (.cells cs ty):=fun k cs ty _ h=>by
  rw [Qan (fun e=>by rw [e,h5] at h;cases h)];exact h
 have hkb:(QaL w m (.map (es.push ⟨.string (Qag Qfk),u30,c⟩) (c+1))).heap[b]?=some (Qcf t mv1 (if L 28 then u43 else Value.map none)):=by rw [Qan (Ne.symm hmb)];exact J.rd
 refine ⟨m,es,c,h3,h5,h6,hn,?_⟩
 exact ⟨J.hb,Qbd J.mod h4,by rw [Qaf L (by decide)];exact hkb,fun _=>Qak _ h1,ui J.cm5,ui J.cm8,ui J.cm10,ui J.cm12,ui J.cm14,ui J.cm16,ui J.cm18,ui J.cm21,ui J.cm24,fun _=>Qak _ h2,ui J.cv5,fun h=>(J.a2 (ud h)).keep hk,fun h=>(J.a4 (ud h)).keep hk,fun _=>⟨m,_,_,h3,h4,QaW h5,h6.push hn hx hg⟩,fun h=>J.m25u (ud h),fun h=>J.m26 (ud h),fun h=>J.m27 (ud h),ui J.m28⟩
theorem JT.s5 (J:JT t b W mv1 L u29 u30 u31 u43 u44 u45 w) (h0:L 5=false) (h1:L 1=true) (h2:L 4=true):∃ m es c,u29=.map (some m)∧w.heap[m]?=some (.map es c)∧Qca es (fT b L u30 u31)∧fT b L u30 u31 QdA=none∧JT t b W mv1 (up L 5) u29 u30 u31 u43 u44 u45 (QaL w m (.map (es.push ⟨.string (Qag QdA),u31,c⟩) (c+1))):=by
 obtain ⟨m,es,c,h3,h4,h5,h6⟩:=J.mp h1
 have hn:fT b L u30 u31 QdA=none:=by unfold fT;rw [show whichL testNames QdA=2 from by decide];simp only [h0];rfl
 have hx:fT b (up L 5) u30 u31 QdA=some (u31):=by unfold fT;rw [show whichL testNames QdA=2 from by decide];simp only [QbD];rfl
 have hg:∀ z,z≠QdA→fT b (up L 5) u30 u31 z=fT b L u30 u31 z:=fun z hz=>by
  have hw:whichL testNames z≠2:=fun e=>hz (by have:=QaC testNames z 1 e;simpa [testNames] using this.symm)
  unfold fT
  split <;> first | (rename_i e;exact absurd e hw) | simp only [Qaf L (by decide)] | rfl
 have hmb:m≠b:=by have:=J.hb;omega
 have hk:∀ k cs ty,W.heap.size≤k→w.heap[k]?=some (.cells cs ty)→(QaL w m (.map (es.push ⟨.string (Qag QdA),u31,c⟩) (c+1))).heap[k]?=some (.cells cs ty):=fun k cs ty _ h=>by
  rw [Qan (fun e=>by rw [e,h5] at h;cases h)];exact h
 have hkb:(QaL w m (.map (es.push ⟨.string (Qag QdA),u31,c⟩) (c+1))).heap[b]?=some (Qcf t mv1 (if L 28 then u43 else Value.map none)):=by rw [Qan (Ne.symm hmb)];exact J.rd
 refine ⟨m,es,c,h3,h5,h6,hn,?_⟩
 exact ⟨J.hb,Qbd J.mod h4,by rw [Qaf L (by decide)];exact hkb,ui J.cm3,fun _=>Qak _ h1,ui J.cm8,ui J.cm10,ui J.cm12,ui J.cm14,ui J.cm16,ui J.cm18,ui J.cm21,ui J.cm24,ui J.cv3,fun _=>Qak _ h2,fun h=>(J.a2 (ud h)).keep hk,fun h=>(J.a4 (ud h)).keep hk,fun _=>⟨m,_,_,h3,h4,QaW h5,h6.push hn hx hg⟩,fun h=>J.m25u (ud h),fun h=>J.m26 (ud h),fun h=>J.m27 (ud h),ui J.m28⟩
theorem JT.s8 (J:JT t b W mv1 L u29 u30 u31 u43 u44 u45 w) (h0:L 8=false) (h1:L 1=true):∃ m es c,u29=.map (some m)∧w.heap[m]?=some (.map es c)∧Qca es (fT b L u30 u31)∧fT b L u30 u31 kNot=none∧JT t b W mv1 (up L 8) u29 u30 u31 u43 u44 u45 (QaL w m (.map (es.push ⟨.string (Qag kNot),.func (.func 108) #[.pointer (some ⟨b,0,none⟩)] #[],c⟩) (c+1))):=by
 obtain ⟨m,es,c,h3,h4,h5,h6⟩:=J.mp h1
 have hn:fT b L u30 u31 kNot=none:=by unfold fT;rw [show whichL testNames kNot=3 from by decide];simp only [h0];rfl
 have hx:fT b (up L 8) u30 u31 kNot=some (.func (.func 108) #[.pointer (some ⟨b,0,none⟩)] #[]):=by unfold fT;rw [show whichL testNames kNot=3 from by decide];simp only [QbD];rfl
 have hg:∀ z,z≠kNot→fT b (up L 8) u30 u31 z=fT b L u30 u31 z:=fun z hz=>by
  have hw:whichL testNames z≠3:=fun e=>hz (by have:=QaC testNames z 2 e;simpa [testNames] using this.symm)
  unfold fT
  split <;> first | (rename_i e;exact absurd e hw) | simp only [Qaf L (by decide)] | rfl
 have hmb:m≠b:=by have:=J.hb;omega
 have hk:∀ k cs ty,W.heap.size≤k→w.heap[k]?=some (.cells cs ty)→(QaL w m (.map (es.push ⟨.string (Qag kNot),.func (.func 108) #[.pointer (some ⟨b,0,none⟩)] #[],c⟩) (c+1))).heap[k]?=some (.cells cs ty):=fun k cs ty _ h=>by
  rw [Qan (fun e=>by rw [e,h5] at h;cases h)];exact h
 have hkb:(QaL w m (.map (es.push ⟨.string (Qag kNot),.func (.func 108) #[.pointer (some ⟨b,0,none⟩)] #[],c⟩) (c+1))).heap[b]?=some (Qcf t mv1 (if L 28 then u43 else Value.map none)):=by rw [Qan (Ne.symm hmb)];exact J.rd
 refine ⟨m,es,c,h3,h5,h6,hn,?_⟩
 exact ⟨J.hb,Qbd J.mod h4,by rw [Qaf L (by decide)];exact hkb,ui J.cm3,ui J.cm5,fun _=>Qak _ h1,ui J.cm10,ui J.cm12,ui J.cm14,ui J.cm16,ui J.cm18,ui J.cm21,ui J.cm24,ui J.cv3,ui J.cv5,fun h=>(J.a2 (ud h)).keep hk,fun h=>(J.a4 (ud h)).keep hk,fun _=>⟨m,_,_,h3,h4,QaW h5,h6.push hn hx hg⟩,fun h=>J.m25u (ud h),fun h=>J.m26 (ud h),fun h=>J.m27 (ud h),ui J.m28⟩
theorem JT.s10 (J:JT t b W mv1 L u29 u30 u31 u43 u44 u45 w) (h0:L 10=false) (h1:L 1=true):∃ m es c,u29=.map (some m)∧w.heap[m]?=some (.map es c)∧Qca es (fT b L u30 u31)∧fT b L u30 u31 QcG=none∧JT t b W mv1 (up L 10) u29 u30 u31 u43 u44 u45 (QaL w m (.map (es.push ⟨.string (Qag QcG),.func (.func 109) #[] #[.pointer (some ⟨b+1,0,none⟩)],c⟩) (c+1))):=by
 obtain ⟨m,es,c,h3,h4,h5,h6⟩:=J.mp h1
 have hn:fT b L u30 u31 QcG=none:=by unfold fT;rw [show whichL testNames QcG=4 from by decide];simp only [h0];rfl
 have hx:fT b (up L 10) u30 u31 QcG=some (.func (.func 109) #[] #[.pointer (some ⟨b+1,0,none⟩)]):=by unfold fT;rw [show whichL testNames QcG=4 from by decide];simp only [QbD];rfl
 have hg:∀ z,z≠QcG→fT b (up L 10) u30 u31 z=fT b L u30 u31 z:=fun z hz=>by
  have hw:whichL testNames z≠4:=fun e=>hz (by have:=QaC testNames z 3 e;simpa [testNames] using this.symm)
  unfold fT
  split <;> first | (rename_i e;exact absurd e hw) | simp only [Qaf L (by decide)] | rfl
 have hmb:m≠b:=by have:=J.hb;omega
 have hk:∀ k cs ty,W.heap.size≤k→w.heap[k]?=some (.cells cs ty)→(QaL w m (.map (es.push ⟨.string (Qag QcG),.func (.func 109) #[] #[.pointer (some ⟨b+1,0,none⟩)],c⟩) (c+1))).heap[k]?=some (.cells cs ty):=fun k cs ty _ h=>by
  rw [Qan (fun e=>by rw [e,h5] at h;cases h)];exact h
 have hkb:(QaL w m (.map (es.push ⟨.string (Qag QcG),.func (.func 109) #[] #[.pointer (some ⟨b+1,0,none⟩)],c⟩) (c+1))).heap[b]?=some (Qcf t mv1 (if L 28 then u43 else Value.map none)):=by rw [Qan (Ne.symm hmb)];exact J.rd
 refine ⟨m,es,c,h3,h5,h6,hn,?_⟩
 exact ⟨J.hb,Qbd J.mod h4,by rw [Qaf L (by decide)];exact hkb,ui J.cm3,ui J.cm5,ui J.cm8,fun _=>Qak _ h1,ui J.cm12,ui J.cm14,ui J.cm16,ui J.cm18,ui J.cm21,ui J.cm24,ui J.cv3,ui J.cv5,fun h=>(J.a2 (ud h)).keep hk,fun h=>(J.a4 (ud h)).keep hk,fun _=>⟨m,_,_,h3,h4,QaW h5,h6.push hn hx hg⟩,fun h=>J.m25u (ud h),fun h=>J.m26 (ud h),fun h=>J.m27 (ud h),ui J.m28⟩
theorem JT.s12 (J:JT t b W mv1 L u29 u30 u31 u43 u44 u45 w) (h0:L 12=false) (h1:L 1=true):∃ m es c,u29=.map (some m)∧w.heap[m]?=some (.map es c)∧Qca es (fT b L u30 u31)∧fT b L u30 u31 QcF=none∧JT t b W mv1 (up L 12) u29 u30 u31 u43 u44 u45 (QaL w m (.map (es.push ⟨.string (Qag QcF),.func (.func 111) #[] #[.pointer (some ⟨b+1,0,none⟩)],c⟩) (c+1))):=by
 obtain ⟨m,es,c,h3,h4,h5,h6⟩:=J.mp h1
 have hn:fT b L u30 u31 QcF=none:=by unfold fT;rw [show whichL testNames QcF=5 from by decide];simp only [h0];rfl
 have hx:fT b (up L 12) u30 u31 QcF=some (.func (.func 111) #[] #[.pointer (some ⟨b+1,0,none⟩)]):=by unfold fT;rw [show whichL testNames QcF=5 from by decide];simp only [QbD];rfl
 have hg:∀ z,z≠QcF→fT b (up L 12) u30 u31 z=fT b L u30 u31 z:=fun z hz=>by
  have hw:whichL testNames z≠5:=fun e=>hz (by have:=QaC testNames z 4 e;simpa [testNames] using this.symm)
  unfold fT
  split <;> first | (rename_i e;exact absurd e hw) | simp only [Qaf L (by decide)] | rfl
 have hmb:m≠b:=by have:=J.hb;omega
 have hk:∀ k cs ty,W.heap.size≤k→w.heap[k]?=some (.cells cs ty)→(QaL w m (.map (es.push ⟨.string (Qag QcF),.func (.func 111) #[] #[.pointer (some ⟨b+1,0,none⟩)],c⟩) (c+1))).heap[k]?=some (.cells cs ty):=fun k cs ty _ h=>by
  rw [Qan (fun e=>by rw [e,h5] at h;cases h)];exact h
 have hkb:(QaL w m (.map (es.push ⟨.string (Qag QcF),.func (.func 111) #[] #[.pointer (some ⟨b+1,0,none⟩)],c⟩) (c+1))).heap[b]?=some (Qcf t mv1 (if L 28 then u43 else Value.map none)):=by rw [Qan (Ne.symm hmb)];exact J.rd
 refine ⟨m,es,c,h3,h5,h6,hn,?_⟩
 exact ⟨J.hb,Qbd J.mod h4,by rw [Qaf L (by decide)];exact hkb,ui J.cm3,ui J.cm5,ui J.cm8,ui J.cm10,fun _=>Qak _ h1,ui J.cm14,ui J.cm16,ui J.cm18,ui J.cm21,ui J.cm24,ui J.cv3,ui J.cv5,fun h=>(J.a2 (ud h)).keep hk,fun h=>(J.a4 (ud h)).keep hk,fun _=>⟨m,_,_,h3,h4,QaW h5,h6.push hn hx hg⟩,fun h=>J.m25u (ud h),fun h=>J.m26 (ud h),fun h=>J.m27 (ud h),ui J.m28⟩
theorem JT.s14 (J:JT t b W mv1 L u29 u30 u31 u43 u44 u45 w) (h0:L 14=false) (h1:L 1=true):∃ m es c,u29=.map (some m)∧w.heap[m]?=some (.map es c)∧Qca es (fT b L u30 u31)∧fT b L u30 u31 QbA=none∧JT t b W mv1 (up L 14) u29 u30 u31 u43 u44 u45 (QaL w m (.map (es.push ⟨.string (Qag QbA),.func (.func 112) #[] #[.pointer (some ⟨b+1,0,none⟩)],c⟩) (c+1))):=by
 obtain ⟨m,es,c,h3,h4,h5,h6⟩:=J.mp h1
 have hn:fT b L u30 u31 QbA=none:=by unfold fT;rw [show whichL testNames QbA=6 from by decide];simp only [h0];rfl
 have hx:fT b (up L 14) u30 u31 QbA=some (.func (.func 112) #[] #[.pointer (some ⟨b+1,0,none⟩)]):=by unfold fT;rw [show whichL testNames QbA=6 from by decide];simp only [QbD];rfl
 have hg:∀ z,z≠QbA→fT b (up L 14) u30 u31 z=fT b L u30 u31 z:=fun z hz=>by
  have hw:whichL testNames z≠6:=fun e=>hz (by have:=QaC testNames z 5 e;simpa [testNames] using this.symm)
  unfold fT
  split <;> first | (rename_i e;exact absurd e hw) | simp only [Qaf L (by decide)] | rfl
 have hmb:m≠b:=by have:=J.hb;omega
 have hk:∀ k cs ty,W.heap.size≤k→w.heap[k]?=some (.cells cs ty)→(QaL w m (.map (es.push ⟨.string (Qag QbA),.func (.func 112) #[] #[.pointer (some ⟨b+1,0,none⟩)],c⟩) (c+1))).heap[k]?=some (.cells cs ty):=fun k cs ty _ h=>by
  rw [Qan (fun e=>by rw [e,h5] at h;cases h)];exact h
 have hkb:(QaL w m (.map (es.push ⟨.string (Qag QbA),.func (.func 112) #[] #[.pointer (some ⟨b+1,0,none⟩)],c⟩) (c+1))).heap[b]?=some (Qcf t mv1 (if L 28 then u43 else Value.map none)):=by rw [Qan (Ne.symm hmb)];exact J.rd
 refine ⟨m,es,c,h3,h5,h6,hn,?_⟩
 exact ⟨J.hb,Qbd J.mod h4,by rw [Qaf L (by decide)];exact hkb,ui J.cm3,ui J.cm5,ui J.cm8,ui J.cm10,ui J.cm12,fun _=>Qak _ h1,ui J.cm16,ui J.cm18,ui J.cm21,ui J.cm24,ui J.cv3,ui J.cv5,fun h=>(J.a2 (ud h)).keep hk,fun h=>(J.a4 (ud h)).keep hk,fun _=>⟨m,_,_,h3,h4,QaW h5,h6.push hn hx hg⟩,fun h=>J.m25u (ud h),fun h=>J.m26 (ud h),fun h=>J.m27 (ud h),ui J.m28⟩
theorem JT.s16 (J:JT t b W mv1 L u29 u30 u31 u43 u44 u45 w) (h0:L 16=false) (h1:L 1=true):∃ m es c,u29=.map (some m)∧w.heap[m]?=some (.map es c)∧Qca es (fT b L u30 u31)∧fT b L u30 u31 QaH=none∧JT t b W mv1 (up L 16) u29 u30 u31 u43 u44 u45 (QaL w m (.map (es.push ⟨.string (Qag QaH),.func (.func 115) #[] #[.pointer (some ⟨b+1,0,none⟩)],c⟩) (c+1))):=by
 obtain ⟨m,es,c,h3,h4,h5,h6⟩:=J.mp h1
 have hn:fT b L u30 u31 QaH=none:=by unfold fT;rw [show whichL testNames QaH=7 from by decide];simp only [h0];rfl
 have hx:fT b (up L 16) u30 u31 QaH=some (.func (.func 115) #[] #[.pointer (some ⟨b+1,0,none⟩)]):=by unfold fT;rw [show whichL testNames QaH=7 from by decide];simp only [QbD];rfl
 have hg:∀ z,z≠QaH→fT b (up L 16) u30 u31 z=fT b L u30 u31 z:=fun z hz=>by
  have hw:whichL testNames z≠7:=fun e=>hz (by have:=QaC testNames z 6 e;simpa [testNames] using this.symm)
  unfold fT
  split <;> first | (rename_i e;exact absurd e hw) | simp only [Qaf L (by decide)] | rfl
 have hmb:m≠b:=by have:=J.hb;omega
 have hk:∀ k cs ty,W.heap.size≤k→w.heap[k]?=some (.cells cs ty)→(QaL w m (.map (es.push ⟨.string (Qag QaH),.func (.func 115) #[] #[.pointer (some ⟨b+1,0,none⟩)],c⟩) (c+1))).heap[k]?=some (.cells cs ty):=fun k cs ty _ h=>by
  rw [Qan (fun e=>by rw [e,h5] at h;cases h)];exact h
 have hkb:(QaL w m (.map (es.push ⟨.string (Qag QaH),.func (.func 115) #[] #[.pointer (some ⟨b+1,0,none⟩)],c⟩) (c+1))).heap[b]?=some (Qcf t mv1 (if L 28 then u43 else Value.map none)):=by rw [Qan (Ne.symm hmb)];exact J.rd
 refine ⟨m,es,c,h3,h5,h6,hn,?_⟩
 exact ⟨J.hb,Qbd J.mod h4,by rw [Qaf L (by decide)];exact hkb,ui J.cm3,ui J.cm5,ui J.cm8,ui J.cm10,ui J.cm12,ui J.cm14,fun _=>Qak _ h1,ui J.cm18,ui J.cm21,ui J.cm24,ui J.cv3,ui J.cv5,fun h=>(J.a2 (ud h)).keep hk,fun h=>(J.a4 (ud h)).keep hk,fun _=>⟨m,_,_,h3,h4,QaW h5,h6.push hn hx hg⟩,fun h=>J.m25u (ud h),fun h=>J.m26 (ud h),fun h=>J.m27 (ud h),ui J.m28⟩
theorem JT.s18 (J:JT t b W mv1 L u29 u30 u31 u43 u44 u45 w) (h0:L 18=false) (h1:L 1=true):∃ m es c,u29=.map (some m)∧w.heap[m]?=some (.map es c)∧Qca es (fT b L u30 u31)∧fT b L u30 u31 Qbu=none∧JT t b W mv1 (up L 18) u29 u30 u31 u43 u44 u45 (QaL w m (.map (es.push ⟨.string (Qag Qbu),.func (.func 118) #[] #[.pointer (some ⟨b+1,0,none⟩)],c⟩) (c+1))):=by
 obtain ⟨m,es,c,h3,h4,h5,h6⟩:=J.mp h1
 have hn:fT b L u30 u31 Qbu=none:=by unfold fT;rw [show whichL testNames Qbu=8 from by decide];simp only [h0];rfl
 have hx:fT b (up L 18) u30 u31 Qbu=some (.func (.func 118) #[] #[.pointer (some ⟨b+1,0,none⟩)]):=by unfold fT;rw [show whichL testNames Qbu=8 from by decide];simp only [QbD];rfl
 have hg:∀ z,z≠Qbu→fT b (up L 18) u30 u31 z=fT b L u30 u31 z:=fun z hz=>by
  have hw:whichL testNames z≠8:=fun e=>hz (by have:=QaC testNames z 7 e;simpa [testNames] using this.symm)
  unfold fT
  split <;> first | (rename_i e;exact absurd e hw) | simp only [Qaf L (by decide)] | rfl
 have hmb:m≠b:=by have:=J.hb;omega
 have hk:∀ k cs ty,W.heap.size≤k→w.heap[k]?=some (.cells cs ty)→(QaL w m (.map (es.push ⟨.string (Qag Qbu),.func (.func 118) #[] #[.pointer (some ⟨b+1,0,none⟩)],c⟩) (c+1))).heap[k]?=some (.cells cs ty):=fun k cs ty _ h=>by
  rw [Qan (fun e=>by rw [e,h5] at h;cases h)];exact h
 have hkb:(QaL w m (.map (es.push ⟨.string (Qag Qbu),.func (.func 118) #[] #[.pointer (some ⟨b+1,0,none⟩)],c⟩) (c+1))).heap[b]?=some (Qcf t mv1 (if L 28 then u43 else Value.map none)):=by rw [Qan (Ne.symm hmb)];exact J.rd
 refine ⟨m,es,c,h3,h5,h6,hn,?_⟩
 exact ⟨J.hb,Qbd J.mod h4,by rw [Qaf L (by decide)];exact hkb,ui J.cm3,ui J.cm5,ui J.cm8,ui J.cm10,ui J.cm12,ui J.cm14,ui J.cm16,fun _=>Qak _ h1,ui J.cm21,ui J.cm24,ui J.cv3,ui J.cv5,fun h=>(J.a2 (ud h)).keep hk,fun h=>(J.a4 (ud h)).keep hk,fun _=>⟨m,_,_,h3,h4,QaW h5,h6.push hn hx hg⟩,fun h=>J.m25u (ud h),fun h=>J.m26 (ud h),fun h=>J.m27 (ud h),ui J.m28⟩
theorem JT.s21 (J:JT t b W mv1 L u29 u30 u31 u43 u44 u45 w) (h0:L 21=false) (h1:L 1=true):∃ m es c,u29=.map (some m)∧w.heap[m]?=some (.map es c)∧Qca es (fT b L u30 u31)∧fT b L u30 u31 QbJ=none∧JT t b W mv1 (up L 21) u29 u30 u31 u43 u44 u45 (QaL w m (.map (es.push ⟨.string (Qag QbJ),.func (.func 119) #[.pointer (some ⟨b,0,none⟩)] #[],c⟩) (c+1))):=by
 obtain ⟨m,es,c,h3,h4,h5,h6⟩:=J.mp h1
 have hn:fT b L u30 u31 QbJ=none:=by unfold fT;rw [show whichL testNames QbJ=9 from by decide];simp only [h0];rfl
 have hx:fT b (up L 21) u30 u31 QbJ=some (.func (.func 119) #[.pointer (some ⟨b,0,none⟩)] #[]):=by unfold fT;rw [show whichL testNames QbJ=9 from by decide];simp only [QbD];rfl
 have hg:∀ z,z≠QbJ→fT b (up L 21) u30 u31 z=fT b L u30 u31 z:=fun z hz=>by
  have hw:whichL testNames z≠9:=fun e=>hz (by have:=QaC testNames z 8 e;simpa [testNames] using this.symm)
  unfold fT
  split <;> first | (rename_i e;exact absurd e hw) | simp only [Qaf L (by decide)] | rfl
 have hmb:m≠b:=by have:=J.hb;omega
 have hk:∀ k cs ty,W.heap.size≤k→w.heap[k]?=some (.cells cs ty)→(QaL w m (.map (es.push ⟨.string (Qag QbJ),.func (.func 119) #[.pointer (some ⟨b,0,none⟩)] #[],c⟩) (c+1))).heap[k]?=some (.cells cs ty):=fun k cs ty _ h=>by
  rw [Qan (fun e=>by rw [e,h5] at h;cases h)];exact h
 have hkb:(QaL w m (.map (es.push ⟨.string (Qag QbJ),.func (.func 119) #[.pointer (some ⟨b,0,none⟩)] #[],c⟩) (c+1))).heap[b]?=some (Qcf t mv1 (if L 28 then u43 else Value.map none)):=by rw [Qan (Ne.symm hmb)];exact J.rd
 refine ⟨m,es,c,h3,h5,h6,hn,?_⟩
 exact ⟨J.hb,Qbd J.mod h4,by rw [Qaf L (by decide)];exact hkb,ui J.cm3,ui J.cm5,ui J.cm8,ui J.cm10,ui J.cm12,ui J.cm14,ui J.cm16,ui J.cm18,fun _=>Qak _ h1,ui J.cm24,ui J.cv3,ui J.cv5,fun h=>(J.a2 (ud h)).keep hk,fun h=>(J.a4 (ud h)).keep hk,fun _=>⟨m,_,_,h3,h4,QaW h5,h6.push hn hx hg⟩,fun h=>J.m25u (ud h),fun h=>J.m26 (ud h),fun h=>J.m27 (ud h),ui J.m28⟩
theorem JT.s24 (J:JT t b W mv1 L u29 u30 u31 u43 u44 u45 w) (h0:L 24=false) (h1:L 1=true):∃ m es c,u29=.map (some m)∧w.heap[m]?=some (.map es c)∧Qca es (fT b L u30 u31)∧fT b L u30 u31 Qd4=none∧JT t b W mv1 (up L 24) u29 u30 u31 u43 u44 u45 (QaL w m (.map (es.push ⟨.string (Qag Qd4),.func (.func 120) #[.pointer (some ⟨b,0,none⟩)] #[],c⟩) (c+1))):=by
 obtain ⟨m,es,c,h3,h4,h5,h6⟩:=J.mp h1
 have hn:fT b L u30 u31 Qd4=none:=by unfold fT;rw [show whichL testNames Qd4=10 from by decide];simp only [h0];rfl
 have hx:fT b (up L 24) u30 u31 Qd4=some (.func (.func 120) #[.pointer (some ⟨b,0,none⟩)] #[]):=by unfold fT;rw [show whichL testNames Qd4=10 from by decide];simp only [QbD];rfl
 have hg:∀ z,z≠Qd4→fT b (up L 24) u30 u31 z=fT b L u30 u31 z:=fun z hz=>by
  have hw:whichL testNames z≠10:=fun e=>hz (by have:=QaC testNames z 9 e;simpa [testNames] using this.symm)
  unfold fT
  split <;> first | (rename_i e;exact absurd e hw) | simp only [Qaf L (by decide)] | rfl
 have hmb:m≠b:=by have:=J.hb;omega
 have hk:∀ k cs ty,W.heap.size≤k→w.heap[k]?=some (.cells cs ty)→(QaL w m (.map (es.push ⟨.string (Qag Qd4),.func (.func 120) #[.pointer (some ⟨b,0,none⟩)] #[],c⟩) (c+1))).heap[k]?=some (.cells cs ty):=fun k cs ty _ h=>by
  rw [Qan (fun e=>by rw [e,h5] at h;cases h)];exact h
 have hkb:(QaL w m (.map (es.push ⟨.string (Qag Qd4),.func (.func 120) #[.pointer (some ⟨b,0,none⟩)] #[],c⟩) (c+1))).heap[b]?=some (Qcf t mv1 (if L 28 then u43 else Value.map none)):=by rw [Qan (Ne.symm hmb)];exact J.rd
 refine ⟨m,es,c,h3,h5,h6,hn,?_⟩
 exact ⟨J.hb,Qbd J.mod h4,by rw [Qaf L (by decide)];exact hkb,ui J.cm3,ui J.cm5,ui J.cm8,ui J.cm10,ui J.cm12,ui J.cm14,ui J.cm16,ui J.cm18,ui J.cm21,fun _=>Qak _ h1,ui J.cv3,ui J.cv5,fun h=>(J.a2 (ud h)).keep hk,fun h=>(J.a4 (ud h)).keep hk,fun _=>⟨m,_,_,h3,h4,QaW h5,h6.push hn hx hg⟩,fun h=>J.m25u (ud h),fun h=>J.m26 (ud h),fun h=>J.m27 (ud h),ui J.m28⟩
theorem JT.s25 (J:JT t b W mv1 L u29 u30 u31 u43 u44 u45 w) (h0:L 25=false) (h1:L 1=true) (hi3:L 3=true) (hi5:L 5=true) (hi8:L 8=true) (hi10:L 10=true) (hi12:L 12=true) (hi14:L 14=true) (hi16:L 16=true) (hi18:L 18=true) (hi21:L 21=true) (hi24:L 24=true):JT t b W mv1 (up L 25) u29 u30 u31 u29 u44 u45 w:=by
 have n28:L 28=false:=nf J.m28 h0
 have hk:∀ k cs ty,W.heap.size≤k→w.heap[k]?=some (.cells cs ty)→w.heap[k]?=some (.cells cs ty):=fun k cs ty _ h=>h
 have hkm:∀ (m:Nat) (es:Array MapEntry) (c:Nat),w.heap[m]?=some (Obj.map es c)→w.heap[m]?=some (Obj.map es c):=fun m es c h=>h
 exact ⟨J.hb,J.mod,by have:=J.rd;rw [n28] at this;rw [Qaf L (by decide),n28];exact this,ui J.cm3,ui J.cm5,ui J.cm8,ui J.cm10,ui J.cm12,ui J.cm14,ui J.cm16,ui J.cm18,ui J.cm21,ui J.cm24,ui J.cv3,ui J.cv5,fun h=>(J.a2 (ud h)).keep hk,fun h=>(J.a4 (ud h)).keep hk,fun h=>by obtain ⟨m,es,c,h3,h4,h5,h6⟩:=J.mp (ud h);exact ⟨m,es,c,h3,h4,hkm m _ _ h5,h6.congr (fun x=>(Qmp 25 (by decide) x).symm)⟩,fun _=>⟨rfl,Qak _ h1,Qak _ hi3,Qak _ hi5,Qak _ hi8,Qak _ hi10,Qak _ hi12,Qak _ hi14,Qak _ hi16,Qak _ hi18,Qak _ hi21,Qak _ hi24⟩,fun h=>J.m26 (ud h),fun h=>J.m27 (ud h),ui J.m28⟩
theorem JT.s26 (J:JT t b W mv1 L u29 u30 u31 u43 u44 u45 w) (h0:L 26=false):JT t b W mv1 (up L 26) u29 u30 u31 u43 (.pointer (some ⟨b,0,none⟩)) u45 w:=by
 have hk:∀ k cs ty,W.heap.size≤k→w.heap[k]?=some (.cells cs ty)→w.heap[k]?=some (.cells cs ty):=fun k cs ty _ h=>h
 have hkm:∀ (m:Nat) (es:Array MapEntry) (c:Nat),w.heap[m]?=some (Obj.map es c)→w.heap[m]?=some (Obj.map es c):=fun m es c h=>h
 exact ⟨J.hb,J.mod,by rw [Qaf L (by decide)];exact J.rd,ui J.cm3,ui J.cm5,ui J.cm8,ui J.cm10,ui J.cm12,ui J.cm14,ui J.cm16,ui J.cm18,ui J.cm21,ui J.cm24,ui J.cv3,ui J.cv5,fun h=>(J.a2 (ud h)).keep hk,fun h=>(J.a4 (ud h)).keep hk,fun h=>by obtain ⟨m,es,c,h3,h4,h5,h6⟩:=J.mp (ud h);exact ⟨m,es,c,h3,h4,hkm m _ _ h5,h6.congr (fun x=>(Qmp 26 (by decide) x).symm)⟩,fun h=>J.m25u (ud h),fun _=>rfl,fun h=>J.m27 (ud h),ui J.m28⟩
theorem JT.s27 (J:JT t b W mv1 L u29 u30 u31 u43 u44 u45 w) (h0:L 27=false):JT t b W mv1 (up L 27) u29 u30 u31 u43 u44 (.pointer (some ⟨b,9,none⟩)) w:=by
 have hk:∀ k cs ty,W.heap.size≤k→w.heap[k]?=some (.cells cs ty)→w.heap[k]?=some (.cells cs ty):=fun k cs ty _ h=>h
 have hkm:∀ (m:Nat) (es:Array MapEntry) (c:Nat),w.heap[m]?=some (Obj.map es c)→w.heap[m]?=some (Obj.map es c):=fun m es c h=>h
 exact ⟨J.hb,J.mod,by rw [Qaf L (by decide)];exact J.rd,ui J.cm3,ui J.cm5,ui J.cm8,ui J.cm10,ui J.cm12,ui J.cm14,ui J.cm16,ui J.cm18,ui J.cm21,ui J.cm24,ui J.cv3,ui J.cv5,fun h=>(J.a2 (ud h)).keep hk,fun h=>(J.a4 (ud h)).keep hk,fun h=>by obtain ⟨m,es,c,h3,h4,h5,h6⟩:=J.mp (ud h);exact ⟨m,es,c,h3,h4,hkm m _ _ h5,h6.congr (fun x=>(Qmp 27 (by decide) x).symm)⟩,fun h=>J.m25u (ud h),fun h=>J.m26 (ud h),fun _=>rfl,ui J.m28⟩
theorem JT.s28 (J:JT t b W mv1 L u29 u30 u31 u43 u44 u45 w) (h0:L 28=false) (h25:L 25=true):JT t b W mv1 (up L 28) u29 u30 u31 u43 u44 u45 (w.setCell ⟨b,9,none⟩ u43):=by
 have hb:=J.hb
 have hk:∀ k cs ty,W.heap.size≤k→w.heap[k]?=some (.cells cs ty)→(w.setCell ⟨b,9,none⟩ u43).heap[k]?=some (.cells cs ty):=fun k cs ty hk h=>by rw [Below.heap_setCell _ _ _ _ (show k≠b by omega)];exact h
 have hkm:∀ (m:Nat) (es:Array MapEntry) (c:Nat),w.heap[m]?=some (Obj.map es c)→(w.setCell ⟨b,9,none⟩ u43).heap[m]?=some (Obj.map es c):=fun m es c h=>by
  have hr:=J.rd
  rw [Below.heap_setCell _ _ _ _ (show m≠b from fun e=>by rw [e,hr] at h;cases h)];exact h
 exact ⟨J.hb,J.mod.setCell 9 u43,by rw [QbD];exact Qah _ _ _ _ _ _ J.rd,ui J.cm3,ui J.cm5,ui J.cm8,ui J.cm10,ui J.cm12,ui J.cm14,ui J.cm16,ui J.cm18,ui J.cm21,ui J.cm24,ui J.cv3,ui J.cv5,fun h=>(J.a2 (ud h)).keep hk,fun h=>(J.a4 (ud h)).keep hk,fun h=>by obtain ⟨m,es,c,h3,h4,h5,h6⟩:=J.mp (ud h);exact ⟨m,es,c,h3,h4,hkm m _ _ h5,h6.congr (fun x=>(Qmp 28 (by decide) x).symm)⟩,fun h=>J.m25u (ud h),fun h=>J.m26 (ud h),fun h=>J.m27 (ud h),fun _=>Qak _ h25⟩
theorem JT.done (J:JT t b W mv1 L u29 u30 u31 u43 u44 u45 w) (hall:∀ i,i < 29→L i=true) (hpr:Qla W (b+1) b):∃ m pt pf,w.heap[b]?=some (Qcf t mv1 (.map (some m)))∧QmA w b m (b+1) pt pf∧Mod b W w∧W.heap.size≤m:=by
 obtain ⟨m,es,c,h3,h4,h5,h6⟩:=J.mp (hall 1 (by decide))
 obtain ⟨pt,e1,hp1,hp1'⟩:=J.a2 (hall 2 (by decide))
 obtain ⟨pf,e2,hp2,hp2'⟩:=J.a4 (hall 4 (by decide))
 have hb:=J.hb
 have hr:=J.rd
 rw [hall 28 (by decide),if_pos rfl,(J.m25 (hall 25 (by decide))).1,h3] at hr
 have hf:Qca es (testFn b (b+1) pt pf):=h6.congr (fun x=>by
  subst e1 e2
  unfold fT testFn
  simp only [hall 3 (by decide),hall 5 (by decide),hall 8 (by decide),hall 10 (by decide),hall 12 (by decide),hall 14 (by decide),hall 16 (by decide),hall 18 (by decide),hall 21 (by decide),hall 24 (by decide),if_true]
  generalize whichL testNames x=i
  match i with
  | 0 | 1 | 2 | 3 | 4 | 5 | 6 | 7 | 8 | 9 | 10=>rfl
  | n+11=>rfl)
 exact ⟨m,pt,pf,hr,⟨Qlq (K:=9) (E:=197) Tryz.underlying192 Tryz.underlying9 Qtt h5 hf,hpr.mod J.mod,Qab hp1' 0,Qab hp2' 0,by omega,by omega,by omega,QaM h5⟩,J.mod,h4⟩
end
end
end Go.Proofs.YtbiclelojbfnbabGreatDoor
