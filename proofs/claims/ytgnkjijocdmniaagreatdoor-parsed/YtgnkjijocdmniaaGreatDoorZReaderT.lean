import Derived.MapFrom
import Derived.Orders
import Derived.OrdersHeld
import Derived.Test.YtgnkjijocdmniaaGreatDoorBeginC
import Derived.Test.YtgnkjijocdmniaaGreatDoorWCmd
namespace Go.Proofs.YtgnkjijocdmniaaGreatDoor
set_option linter.unusedVariables false
set_option linter.unusedSimpArgs false
set_option maxRecDepth 100000
set_option maxHeartbeats 4000000
section
open Go.RowKit
attribute [local go_sem ↓] Go.wp_at_zero Go.wp_at_succ
theorem more_len {l:List UInt8} {chk:List UInt8→Nat}:∀ (f:Nat) (acc:List (List UInt8)) (s:PS),Gd l s→∀ y,moreL l chk f acc s=.ok y→2*y.1.length+mu l.length y.2≤2*acc.length+mu l.length s
 | 0,acc,s,h=>fun y e=>by cases e;exact Nat.le_refl _
 | f+1,acc,s,h=>fun y e=>by
  rw [moreL] at e
  cases hp:passL l [[44],[93]] s with
  | error g=>rw [hp] at e;cases e
  | ok z=>
   rw [hp] at e
   obtain ⟨h1,h2⟩:=pass_dn (zs:=[[44],[93]]) h (by decide) z hp
   dsimp only at e
   split at e
   ·cases hs:stringL l chk z.2 with
    | error g=>rw [hs] at e;cases e
    | ok x=>
     rw [hs] at e
     obtain ⟨h3,h4⟩:=string_dn h1 x hs
     have h6:=more_len f _ x.2 h3 y e
     simp only [List.length_append,List.length_cons,List.length_nil] at h6
     omega
   ·cases e;dsimp only;omega
theorem strings_len {l:List UInt8} {chk:List UInt8→Nat} {F:Nat} {s:PS} (h:Gd l s):∀ y,stringsL l chk F s=.ok y→2*y.1.length+mu l.length y.2≤mu l.length s+1:=fun y e=>by
 unfold stringsL at e
 cases hm:mayL l [[91]] s with
 | error g=>rw [hm] at e;cases e
 | ok z=>
  rw [hm] at e
  obtain ⟨h1,h2⟩:=may_dn (zs:=[[91]]) h (by decide) z hm
  dsimp only at e
  cases hs:stringL l chk z.2 with
  | error g=>rw [hs] at e;cases e
  | ok x=>
   rw [hs] at e
   obtain ⟨h3,h4⟩:=string_dn h1 x hs
   dsimp only at e
   split at e
   ·cases e;simp only [List.length_cons,List.length_nil];omega
   ·have h6:=more_len F _ x.2 h3 y e
    simp only [List.length_cons,List.length_nil] at h6
    omega
theorem addReq_length (req:List (List UInt8)) (x:List UInt8):(addReq req x).length≤req.length+1:=by
 unfold addReq;split <;> simp
theorem foldReq_length:∀ (xs req:List (List UInt8)),(xs.foldl addReq req).length≤req.length+xs.length
 | [],req=>by simp
 | x :: r,req=>by
  have h1:=foldReq_length r (addReq req x)
  have h2:=addReq_length req x
  rw [List.foldl_cons,List.length_cons]
  omega
theorem reqV_owns {w:World} {base b:Nat} {rv:Value} {req:List (List UInt8)} (h:w.ownsRow base 9 1 rv req.length (tcells req)) (hnil:req=[]→rv=.slice none 0 0) (hb:b < base) (hl:req.length≤1000):ReqV w b rv req:=by
 by_cases hr:req=[]
 ·exact Or.inl ⟨hnil hr,hr⟩
 ·obtain ⟨g,c,hv,hg,ht,hx⟩:=slB.of_owns h rfl hr
  exact Or.inr ⟨g,c,hv,by omega,ht,hx,hl⟩
theorem OneAt.mod {w w':World} {p1 p2 g n c er b:Nat} {zs:List (List UInt8)} (h:OneAt w p1 p2 g n c er zs) (hm:Mod b w w') (h1:p1≠b) (h2:p2≠b) (h3:g≠b):OneAt w' p1 p2 g n c er zs:=
 ⟨cell_mod h.1 hm h1,cell_mod h.2.1 hm h2,fun j hj=>cell_mod (h.2.2.1 j hj) hm h3,h.2.2.2.1,h.2.2.2.2⟩
def reqNames:List (List UInt8):=[kEnvelope,kFileinto,kReject,kVariables]
theorem RC.setReq {w:World} {b:Nat} {t:ByteArray} {s:PS} {rv:Value} {mc mt:Nat} (h:RC w b t s rv mc mt) (v:Value):RC (w.setCell ⟨b,7,none⟩ v) b t s v mc mt:=
 h.step ((Mod.refl b w).setCell 7 v) (heap_setCell_at w b 7 v _ _ h.at_) h.le h.sz h.e0 h.nm
def ReqPost (r:Except Flt (List (List UInt8)×PS)) (b:Nat) (t:ByteArray) (mc mt:Nat) (w:World) (e:Ending) (w':World):Prop:=
 Mod b w w'∧((∃ y rv,r=.ok y∧e=.returned (.tuple #[])∧RC w' b t y.2 rv mc mt∧ReqV w' b rv y.1∧∀ k,rv.ownBlock=some k→w.heap.size≤k)∨(∃ f,r=.error f∧Threw f w e w'))
theorem require_any (b F:Nat) (t:ByteArray) (s:PS) (mc mt:Nat) (w:World) (h:RC w b t s (.slice none 0 0) mc mt) (hF:2*t.size+1 < F) :
 Calls Tryz.prog 142 #[.pointer (some ⟨b,0,none⟩)] w (ReqPost (reqMore t.data.toList F F [] s) b t mc mt w):=by
 have H:=hide h
 have hlt:=h.at_.lt
 have hmuL:=h.mu_le
 have hmuF:=h.mu_lt hF
 clear h
 obtain ⟨i0,hi,hz0,hz1,hz2⟩:=info_parts Tryz.infoStr
 go_enter Tryz.func142,Tryz.ntmps142
 go_wp2_with fail
 go_loopw [] (fun wr=>∃ (s':PS) (req:List (List UInt8)) (rv:Value) (f:Nat),RC wr b t s' rv mc mt∧wr.ownsRow w.heap.size 9 1 rv req.length (tcells req)∧(req=[]→rv=.slice none 0 0)∧Mod b w wr∧mu t.size s' < f∧2*req.length+mu t.size s'≤1300∧reqMore t.data.toList F F [] s=reqMore t.data.toList F f req s') (fun wr=>muW wr b t.size)
 case atStart=>exact ⟨s,[],.slice none 0 0,F,H.out,World.ownsRow_nil _ _ _ _,fun _=>rfl,Mod.refl _ _,hmuF,by simp;omega,rfl⟩
 case round=>
  obtain ⟨s',req,rv,f,hrc,hown,hnil,hmod,hf,hbd,hsp⟩:=hrel
  obtain ⟨f,rfl⟩:∃ g,f=g+1:=⟨f - 1,by omega⟩
  have hmuR:=hrc.muEq
  have hszR:wr.heap.size=wr.heap.size:=rfl
  generalize hMR:muW wr b t.size=MR at *
  have HR:=hide hrc
  have HMr:=hide hmod
  have HSP:=hide hsp
  have HOW:=hide hown
  have HNL:=hide hnil
  have hwr:w.heap.size≤wr.heap.size:=hmod.size
  clear hrc hmod hsp hown hnil hmuL hmuF
  go_wp2_with fail
  refine (may_any b wr.heap.size 1 1 [kRequire] t s' rv mc mt _ (HR.out.alloc _) (txt_alloc wr [kRequire] _ _ rfl) rfl (by decide)).mono ?_
  intro e w3 h3
  rcases h3.cases with ⟨y3,v3,hy3,rfl,hv3,hc3,hm3⟩ | ⟨f3,hf3,⟨bb,hz,rfl,hcc⟩,hm3⟩
  rotate_left
  ·exact ⟨rfl,⟨(HMr.out.alloc _).trans hm3,Or.inr ⟨f3,HSP.out.trans (thenL_err hf3),⟨bb,by simp at hz;omega,rfl,hcc⟩⟩⟩⟩
  have hmu3:=mayL_mu (l:=t.data.toList) (by simpa using HR.out.le) HR.out.e0 (by decide) hy3
  rw [bal] at hmu3
  have hmu3':=hmu3.2.1
  replace hmu3:=hmu3.1
  have hA3:=((Mod.refl b wr).alloc (.cells #[.string (strA kRequire)] 9)).trans hm3
  have HM3:=hide (HMr.out.trans hA3)
  have HY3:=hide hy3
  have HC3:=hide hc3
  have HO3:=hide (ownsRow_mod (b:=b) HOW.out hA3 (by omega))
  unfold numV at hv3
  subst hv3
  clear h3 hy3 hc3 hm3 hA3
  by_cases h1:y3.1=0
  ·have h1':¬ (0:Int) < (y3.1:Int):=by omega
   have H1:=hide h1
   clear h1
   go_wp2
   go_end0
   exact ⟨HM3.out,Or.inl ⟨(req,y3.2),rv,HSP.out.trans ((thenL_ok HY3.out).trans (if_pos H1.out)),rfl,HC3.out,reqV_owns HO3.out HNL.out (by omega) (show req.length≤1000 by omega),fun k hk=>(HO3.out.lt k hk).1⟩⟩
  have h1':(0:Int) < (y3.1:Int):=by omega
  have hmu3'':=hmu3' h1
  have H1:=hide h1
  clear h1 hmu3'
  go_wp2_with (go_at_call 137;refine (oneOf_any _ _ _ _ _).mono ?_;rintro e w' ⟨rfl,rfl⟩)
  obtain ⟨U,hU⟩:∃ U,U=((w3.alloc (.cells #[.string ⟨#[101,110,118,101,108,111,112,101]⟩,.string ⟨#[102,105,108,101,105,110,116,111]⟩,.string ⟨#[114,101,106,101,99,116]⟩,.string ⟨#[118,97,114,105,97,98,108,101,115]⟩] 9)).alloc (.cells #[.int .i64 6] 33)).alloc (.cells #[.slice (some ⟨w3.heap.size,0,none⟩) 4 4] 61):=⟨_,rfl⟩
  have hw3:w.heap.size≤w3.heap.size:=HM3.out.size
  have HOU:Hid (OneAt U (w3.heap.size+1+1) (w3.heap.size+1) w3.heap.size 4 4 6 reqNames):=by
   rw [hU]
   refine ⟨?_,?_,?_,rfl,by decide⟩
   ·exact blk_cell (blk_newAt (by simp)) 0
   ·exact blk_cell (blk_alloc (blk_newAt (by simp))) 0
   ·exact ((txt_alloc w3 reqNames _ _ rfl).below ((Below.refl _ _).alloc (Nat.le_refl _) _)).below ((Below.refl _ _).alloc (Nat.le_refl _) _)
  have HRU:Hid (RC U b t y3.2 rv mc mt):=by rw [hU];exact ((HC3.out.alloc _).alloc _).alloc _
  have hMU':Mod b w3 U:=by rw [hU];exact (((Mod.refl b w3).alloc _).alloc _).alloc _
  have HMU:=hide (HM3.out.trans hMU')
  have HOW4:=hide (ownsRow_mod (b:=b) HO3.out hMU' (by omega))
  have hzU:U.heap.size=w3.heap.size+1+1+1:=by rw [hU];simp
  rw [← hU]
  clear hU hMU'
  refine (strings_any (.func (.func 190) #[] #[.pointer (some ⟨w3.heap.size+1+1,0,none⟩),.pointer (some ⟨w3.heap.size+1,0,none⟩)]) (chkOne 6 reqNames) b F t y3.2 rv mc mt _ HRU.out (fun W s hm hc=>string_oneOf _ _ _ 4 4 6 reqNames b t s rv mc mt W hc (HOU.out.mod hm (by omega) (by omega) (by omega))) (by have:=HRU.out.mu_lt hF;exact this)).mono ?_
  intro e w5 h5
  rcases h5.cases with ⟨y5,v5,hy5,rfl,hv5,hc5,hm5⟩ | ⟨f5,hf5,⟨bb,hz,rfl,hcc⟩,hm5⟩
  rotate_left
  ·exact ⟨rfl,⟨HMU.out.trans hm5,Or.inr ⟨f5,HSP.out.trans ((thenL_ok HY3.out).trans ((if_neg H1.out).trans (thenL_err hf5))),⟨bb,Nat.le_trans HMU.out.size hz,rfl,hcc⟩⟩⟩⟩
  have hlen5:=strings_len (l:=t.data.toList) ⟨by simpa using HRU.out.le,HRU.out.e0⟩ y5 hy5
  rw [bal] at hlen5
  obtain ⟨xg,xc,rfl,hxg,hxt,hxne⟩:=hv5
  have HX5:=hide hxt
  have HM5:=hide (HMU.out.trans hm5)
  have HY5:=hide hy5
  have HC5:=hide hc5
  have HO5:=hide (ownsRow_mod (b:=b) HOW4.out hm5 (by omega))
  have hrvx:∀ k,rv.ownBlock=some k→k < U.heap.size:=fun k hk=>(HOW4.out.lt k hk).2
  clear h5 hy5 hc5 hm5 hxt
  go_wp2_with fail
  go_loopw [13] (fun i wi=>∃ (k:Nat) (rv':Value),i=.int .i64 k∧k≤y5.1.length∧RC wi b t y5.2 rv' mc mt∧wi.ownsRow w.heap.size 9 1 rv' ((y5.1.take k).foldl addReq req).length (tcells ((y5.1.take k).foldl addReq req))∧((y5.1.take k).foldl addReq req=[]→rv'=.slice none 0 0)∧Mod b w wi∧TxtAt wi xg y5.1∧(∀ g,rv'.ownBlock=some g→g≠xg)∧muW wi b t.size=mu t.size y5.2∧xg < wi.heap.size) (fun i _=>y5.1.length - (intOf i).toNat)
  case atStart=>exact ⟨0,rv,rfl,Nat.zero_le _,HC5.out,HO5.out,HNL.out,HM5.out,HX5.out,fun k hk e=>by have:=hrvx k hk;omega,HC5.out.muEq,cell_lt (HX5.out 0 (List.length_pos_iff.2 hxne))⟩
  case round=>
   obtain ⟨k,rv',rfl,hk,hrc,hown,hnil,hmod,hxt,hrx,hmuw,hxl⟩:=hrel
   have hfl:=foldReq_length (y5.1.take k) req
   have htk:(y5.1.take k).length=k:=by rw [List.length_take];omega
   have HRi:=hide hrc
   have HOi:=hide hown
   have HNi:=hide hnil
   have HMi:=hide hmod
   have HXi:=hide hxt
   have hwi:w.heap.size≤wr.heap.size:=hmod.size
   clear hrc hown hnil hmod hxt HC5 HO5 HM5 HX5 HR HOW HNL HMr HO3 HC3 HM3
   by_cases hkl:k < y5.1.length
   ·have hx:(y5.1.take (k+1)).foldl addReq req=addReq ((y5.1.take k).foldl addReq req) (y5.1.getD k []):=by
     rw [List.take_add_one,List.foldl_append,List.getElem?_eq_getElem hkl,List.getD_eq_getElem?_getD,List.getElem?_eq_getElem hkl]
     rfl
    have HXX:=hide hx
    have hck:wr.cell? ⟨xg,k,none⟩=some (.string (strA (y5.1.getD k []))):=HXi.out k hkl
    have h7:wr.cell? ⟨b,7,none⟩=some rv':=HRi.out.at_.cell 7
    generalize hR:(y5.1.take k).foldl addReq req=R at *
    generalize y5.1.getD k []=x at *
    have HCN:=hide (contains_req wr b rv' R x (reqV_owns HOi.out HNi.out (by omega) (by omega)))
    obtain ⟨ra,rn,rc,hrv⟩:∃ a n c,rv'=.slice a n c:=by
     obtain ⟨_,h2⟩:=HOi.out
     rcases h2 with ⟨h,_⟩ | ⟨g,cap,cur,h,_⟩
     ·exact ⟨_,_,_,h⟩
     ·exact ⟨_,_,_,h⟩
    subst hrv
    clear hx hR
    by_cases hw0:0 < whichL R x
    ·rw [decide_eq_true hw0] at HCN
     have HA:Hid (addReq R x=R):=by show _=_;unfold addReq;rw [if_pos hw0]
     clear hw0
     go_wp2_with (go_at_call 64;refine HCN.out.mono ?_;rintro e w' ⟨rfl,hww⟩;subst w')
     go_roundw
     case rel=>exact ⟨k+1,_,by go_num,by omega,HRi.out,by rw [HXX.out,HA.out];exact HOi.out,fun hh=>HNi.out (by rw [HXX.out,HA.out] at hh;exact hh),HMi.out,HXi.out,hrx,hmuw,hxl⟩
     case measure=>simp [intOf];omega
    ·rw [decide_eq_false hw0] at HCN
     have HA:Hid (addReq R x=R++[x]):=by show _=_;unfold addReq;rw [if_neg hw0]
     clear hw0
     have hfz:wr.frozen? ⟨b,7,none⟩=false:=HRi.out.at_.frozen 7
     go_wp2_with (first | (go_at_call 64;refine HCN.out.mono ?_;rintro e w' ⟨rfl,hww⟩;subst w') | (at_builtin;refine wpList_append_own_at _ rfl _ _ 61 rfl w.heap.size 9 i0 (.string ⟨#[]⟩) 1 16 Tryz.underlying61 hi hz0 hz1 hz2 rfl (by decide) _ _ _ rfl (HOi.out.alloc _) ⟨wr.heap.size,0,none⟩ 1 1 [.string (strA x)] rfl rfl ?c1 ?c2 ?c3 ?c4 ?c5 ?_))
     case c1=>exact cell_one_new _ _ _
     case c2=>intro u hu;simp at hu;subst hu;rfl
     case c3=>unfold maxLen;omega
     case c4=>omega
     case c5=>simp;omega
     ·intro v' w6 hown6 hgrow _ hat
      have hl1:R.length+1=(R++[x]).length:=by simp
      rw [show tcells R++[.string (strA x)]=tcells (R++[x]) from tcells_snoc R x,hl1] at hown6
      obtain ⟨g',c',rfl,hg',_,_⟩:=slB.of_owns hown6 rfl (by simp)
      obtain ⟨nn,hnn⟩:∃ n,n=(R++[x]).length:=⟨_,rfl⟩
      rw [← hnn] at hown6 hat ⊢
      have hrow:∀ k,(Value.slice ra rn rc).ownBlock=some k→w.heap.size≤k:=fun k hk=>(HOi.out.lt k hk).1
      have hx6:TxtAt w6 xg y5.1:=fun j hj=>by
       rw [World.cell?_of_block (w:=wr) (a:=⟨xg,j,none⟩) (by
        rw [hgrow.block xg (by simp;omega) (fun e=>hrx xg e.symm rfl)]
        exact Below.heap_alloc _ _ _ hxl)]
       exact HXi.out j hj
      have hgx:g'≠xg:=by
       rcases hat with h | h
       ·exact hrx g' (by rw [← h];rfl)
       ·simp [Value.ownBlock] at h;omega
      have hR6:=(HRi.out.alloc (Obj.cells #[.string (strA x)] 9)).grown hgrow (fun k hk=>by have:=hrow k hk;omega)
      have hM6:=(HMi.out.alloc (Obj.cells #[.string (strA x)] 9)).grown hgrow (fun k hk=>hrow k hk)
      have h76:w6.cell? ⟨b,7,none⟩=some (.slice ra rn rc):=hR6.at_.cell 7
      have hfz6:w6.frozen? ⟨b,7,none⟩=false:=hR6.at_.frozen 7
      have hxl6:xg < w6.heap.size:=by have:=hgrow.size;simp at this;omega
      have HR7:=hide (hR6.setReq (.slice (some ⟨g',0,none⟩) nn c'))
      have HM7:=hide (hM6.setCell 7 (.slice (some ⟨g',0,none⟩) nn c'))
      have HO7:=hide (ownsRow_set (T:=b) (o:=7) (x:=.slice (some ⟨g',0,none⟩) nn c') hown6 (fun k hk=>by simp [Value.ownBlock] at hk;omega))
      have HX7:Hid (TxtAt (w6.setCell ⟨b,7,none⟩ (.slice (some ⟨g',0,none⟩) nn c')) xg y5.1):=fun j hj=>by
       rw [World.cell?_setCell_other _ _ _ _ (by simp;try omega)]
       exact hx6 j hj
      have hzz:(w6.setCell ⟨b,7,none⟩ (.slice (some ⟨g',0,none⟩) nn c')).heap.size=w6.heap.size:=by simp [World.setCell]
      have HNN:=hide hnn
      clear hnn hown6 hgrow hat hrow hx6 hR6 hM6
      go_wp2
      go_roundw
      case rel=>exact ⟨k+1,_,by go_num,by omega,HR7.out,by rw [HXX.out,HA.out,← HNN.out];exact HO7.out,fun hh=>by rw [HXX.out,HA.out] at hh;simp at hh,HM7.out,HX7.out,fun g hg=>by simp [Value.ownBlock] at hg;omega,HR7.out.muEq,by rw [hzz];exact hxl6⟩
      case measure=>simp [intOf];omega
   ·have hke:k=y5.1.length:=by omega
    subst hke
    have htt:y5.1.take y5.1.length=y5.1:=List.take_length
    rw [htt] at HOi HNi hfl
    go_wp2_with fail
    have HP:=hide (pass_any b wr.heap.size 1 1 [[59]] t y5.2 rv' mc mt _ (HRi.out.alloc (.cells (tcells [[59]]).toArray 9)) (txt_newAt _ _ rfl) rfl (by decide))
    refine HP.out.mono ?_
    intro e w8 h8
    rcases h8.cases with ⟨y8,v8,hy8,rfl,hv8,hc8,hm8⟩ | ⟨f8,hf8,⟨bb,hz,rfl,hcc⟩,hm8⟩
    rotate_left
    ·exact ⟨rfl,⟨(HMi.out.alloc _).trans hm8,Or.inr ⟨f8,HSP.out.trans ((thenL_ok HY3.out).trans ((if_neg H1.out).trans ((thenL_ok HY5.out).trans (thenL_err hf8)))),⟨bb,Nat.le_trans (HMi.out.alloc _).size hz,rfl,hcc⟩⟩⟩⟩
    have hmu8:=passL_mu (l:=t.data.toList) (by simpa using HRi.out.le) HRi.out.e0 (by decide) hy8
    rw [bal] at hmu8
    replace hmu8:=hmu8.1
    have hA8:=((Mod.refl b wr).alloc (.cells (tcells [[59]]).toArray 9)).trans hm8
    have HM8:=hide (HMi.out.trans hA8)
    have HO8:=hide (ownsRow_mod (b:=b) HOi.out hA8 (by omega))
    have HC8:=hide hc8
    have HY8:=hide hy8
    unfold numV at hv8
    subst hv8
    clear h8 hy8 hc8 hm8 hA8 HP
    have HMW:Hid (muW w8 b t.size < MR):=by
     show _ < _
     rw [HC8.out.muEq]
     omega
    go_wp2
    go_roundw
    case rel=>exact ⟨y8.2,y5.1.foldl addReq req,rv',f,HC8.out,HO8.out,HNi.out,HM8.out,by omega,by omega,HSP.out.trans ((thenL_ok HY3.out).trans ((if_neg H1.out).trans ((thenL_ok HY5.out).trans (thenL_ok HY8.out))))⟩
    case measure=>exact HMW.out
end
section
open Go.RowKit
attribute [local go_sem ↓] Go.wp_at_zero Go.wp_at_succ
def ps0:PS:=(⟨0,0,[],[],0⟩,0)
def reqX (X:Nat→Prop) (req:List (List UInt8)) (w:World) (v:Value):Prop:=
 (req=[]∧v=.slice none 0 0)∨slX X req w v
def treeX (X:Nat→Prop) (y:List (List UInt8)×List (CmdT 7)) (w:World) (v:Value):Prop:=
 ∃ rv lv,v=.agg #[rv,lv]∧reqX X y.1 w rv∧blX X (CmdV 7) y.2 w lv
theorem reqX.keep {X:Nat→Prop} {req:List (List UInt8)} {w w':World} {v:Value} (h:reqX X req w v) (hk:AbvX X w w'):reqX X req w' v:=by
 rcases h with h | h
 ·exact Or.inl h
 ·exact Or.inr (h.keep hk)
theorem reqX.weak {X Y:Nat→Prop} {req:List (List UInt8)} {w:World} {v:Value} (h:reqX X req w v) (hB:∀ k,X k→k < w.heap.size→Y k):reqX Y req w v:=by
 rcases h with h | h
 ·exact Or.inl h
 ·exact Or.inr (h.weak hB)
theorem reqX.of {w:World} {b B:Nat} {rv:Value} {req:List (List UInt8)} (h:ReqV w b rv req) (hB:∀ k,rv.ownBlock=some k→B≤k):reqX (fromB B) req w rv:=by
 rcases h with ⟨h1,h2⟩ | ⟨g,c,hv,_,ht,hne,_⟩
 ·exact Or.inl ⟨h2,h1⟩
 ·exact Or.inr ⟨g,c,hv,hB g (by rw [hv];rfl),ht,hne⟩
theorem reqX.form {X:Nat→Prop} {req:List (List UInt8)} {w:World} {v:Value} (h:reqX X req w v):∃ a n c,v=.slice a n c:=by
 rcases h with ⟨_,h⟩ | ⟨g,c,h,_⟩
 ·exact ⟨_,_,_,h⟩
 ·exact ⟨_,_,_,h⟩
def SPost (r:Except Flt (List (List UInt8)×List (CmdT 7))) (b:Nat) (w:World) (e:Ending) (w':World):Prop:=
 Mod b w w'∧((∃ y v,r=.ok y∧e=.returned v∧treeX (fromB w.heap.size) y w' v)∨(∃ f,r=.error f∧Threw f w e w'))
theorem parseL_nextErr {l:List UInt8} {f:Flt} (h:nextL l 0=.error f):parseL l=.error f:=by unfold parseL;rw [h]
theorem parseL_reqErr {l:List UInt8} {s:PS} {f:Flt} (h:nextL l 0=.ok s) (h2:reqMore l (2*l.length+10) (2*l.length+10) [] s=.error f):parseL l=.error f:=by unfold parseL;rw [h];dsimp only;rw [h2]
theorem parseL_cmdErr {l:List UInt8} {s:PS} {y:List (List UInt8)×PS} {f:Flt} (h:nextL l 0=.ok s) (h2:reqMore l (2*l.length+10) (2*l.length+10) [] s=.ok y) (h3:cmdsMore (cmdL l y.1 (2*l.length+10) 7) (2*l.length+10) [] y.2=.error f):parseL l=.error f:=by unfold parseL;rw [h];dsimp only;rw [h2];dsimp only;rw [h3]
theorem parseL_ok {l:List UInt8} {s:PS} {y:List (List UInt8)×PS} {cs:List (CmdT 7)} (h:nextL l 0=.ok s) (h2:reqMore l (2*l.length+10) (2*l.length+10) [] s=.ok y) (h3:cmdsMore (cmdL l y.1 (2*l.length+10) 7) (2*l.length+10) [] y.2=.ok cs):parseL l=.ok (y.1,cs):=by unfold parseL;rw [h];dsimp only;rw [h2];dsimp only;rw [h3]
theorem cmdsMore_end {α:Type} {sub:PS→Except Flt (α×PS)} {f:Nat} {acc:List α} {s:PS} (h:s.1.kind=0):cmdsMore sub (f+1) acc s=.ok acc:=by rw [cmdsMore,if_pos h]
theorem cmdsMore_err {α:Type} {sub:PS→Except Flt (α×PS)} {f:Nat} {acc:List α} {s:PS} {e:Flt} (h:¬ s.1.kind=0) (h2:sub s=.error e):cmdsMore sub (f+1) acc s=.error e:=by rw [cmdsMore,if_neg h,h2]
theorem cmdsMore_go {α:Type} {sub:PS→Except Flt (α×PS)} {f:Nat} {acc:List α} {s:PS} {y:α×PS} (h:¬ s.1.kind=0) (h2:sub s=.ok y):cmdsMore sub (f+1) acc s=cmdsMore sub f (acc++[y.1]) y.2:=by rw [cmdsMore,if_neg h,h2]
theorem script_any (b:Nat) (t:ByteArray) (mc mt pr pt pf p1 k1 p2 k2 p3 k3:Nat) (w:World) (h:RC w b t ps0 (.slice none 0 0) mc mt) (ht:TMap w b mt pr pt pf) (hcm:CMap w b mc p1 k1 p2 k2 p3 k3) :
 Calls Tryz.prog 90 #[.pointer (some ⟨b,0,none⟩)] w (SPost (parseL t.data.toList) b w):=by
 have H:=hide h
 have HT:=hide ht
 have HCM:=hide hcm
 have hlt:=h.at_.lt
 have hFF:2*t.size+1 < 2*t.data.toList.length+10:=by rw [bal];omega
 generalize hFe:2*t.data.toList.length+10=F at hFF
 clear h ht hcm
 obtain ⟨i0,hi,hz0,hz1,hz2⟩:=info_parts Tryz.infoCommand
 go_enter Tryz.func90,Tryz.ntmps90
 go_wp2_with fail
 have HM0:=hide ((Mod.refl b w).alloc (.cells #[.slice none 0 0,.slice none 0 0] 91))
 have HB0:=hide (blk_new w (.cells #[.slice none 0 0,.slice none 0 0] 91))
 refine (next_rc b t ps0 _ mc mt _ (H.out.alloc _)).mono ?_
 rintro e w1 (⟨y,hy,rfl,hc,hm⟩ | ⟨f2,hf2,⟨bb,hz,rfl,hcc⟩,hm⟩)
 rotate_left
 ·exact ⟨rfl,HM0.out.trans hm,Or.inr ⟨f2,parseL_nextErr hf2,⟨bb,by simp at hz;omega,rfl,hcc⟩⟩⟩
 have HY:=hide hy
 have HC:=hide hc
 have HM:=hide (HM0.out.trans hm)
 have HB1:=hide (blk_mod HB0.out hm (by omega))
 clear hy hc hm
 go_wp2_with fail
 refine (require_any b F t y mc mt _ HC.out hFF).mono ?_
 rintro e w2 ⟨hm2,⟨y2,rv,hy2,rfl,hc2,hr2,hrb⟩ | ⟨f2,hf2,⟨bb,hz,rfl,hcc⟩⟩⟩
 rotate_left
 ·exact ⟨rfl,HM.out.trans hm2,Or.inr ⟨f2,parseL_reqErr HY.out (by rw [hFe];exact hf2),⟨bb,Nat.le_trans HM.out.size hz,rfl,hcc⟩⟩⟩
 have hz1':=blk_lt HB1.out
 have HY2:=hide hy2
 have HC2:=hide hc2
 have HM2:=hide (HM.out.trans hm2)
 have HB2:=hide (blk_mod HB1.out hm2 (by omega))
 have HR2:=hide hr2
 have HRB:Hid (∀ k,rv.ownBlock=some k→w.heap.size+1≤k):=fun k hk=>by have:=hrb k hk;omega
 have HO:=hide (command_any y2.1 b F t rv mc mt pr pt pf p1 k1 p2 k2 p3 k3 hFF 7 (Nat.le_refl _) w2 (HT.out.mod HM2.out) (HCM.out.mod HM2.out) hr2)
 rw [show (7:Int) - ((7:Nat):Int)=0 from rfl] at HO
 have hmuL:=hc2.mu_le
 have hmuF:=hc2.mu_lt hFF
 have hz2':=blk_lt HB2.out
 clear hy2 hc2 hm2 hr2 hrb
 go_wp2_with fail
 go_loopw [3] (fun v wr=>∃ (s':PS) (acc:List (CmdT 7)) (vs:List Value) (f:Nat),wr.ownsRow w2.heap.size 179 1 v acc.length vs∧RowP (fun a u=>Gath (CmdV 7) w2.heap.size wr v a u) acc vs∧(acc=[]→v=.slice none 0 0)∧RC wr b t s' rv mc mt∧Mod b w2 wr∧mu t.size s' < f∧acc.length+mu t.size s'≤1300∧cmdsMore (cmdL t.data.toList y2.1 F 7) F [] y2.2=cmdsMore (cmdL t.data.toList y2.1 F 7) f acc s') (fun _ wr=>muW wr b t.size)
 case atStart=>
  exact ⟨y2.2,[],[],F,World.ownsRow_nil _ _ _ _,trivial,fun _=>rfl,HC2.out,Mod.refl _ _,hmuF,by simp;omega,rfl⟩
 case round=>
  obtain ⟨s',acc,vs,f,hown,hrow,hnil,hrc,hmod,hf,hbd,hsp⟩:=hrel
  obtain ⟨f,rfl⟩:∃ g,f=g+1:=⟨f - 1,by omega⟩
  have HR:=hide hrc
  have HMr:=hide hmod
  have HSP:=hide hsp
  have HOW:=hide hown
  have HRW:=hide hrow
  have HNL:=hide hnil
  have HBr:=hide (blk_mod HB2.out hmod (by omega))
  have hzr:=blk_lt HBr.out
  have hk1:wr.cell? ⟨b,1,none⟩=some (.int .i64 s'.1.kind):=hrc.at_.cell 1
  clear hrc hmod hsp hown hrow hnil HC2 hmuL hmuF
  by_cases h1:s'.1.kind=0
  ·have h1':((s'.1.kind:Int) != 0)=false:=by simp;omega
   have H1:=hide h1
   have HTb:=hide (blX.of_owns (cmdV_tree 7) HOW.out rfl HNL.out HRW.out)
   obtain ⟨la,ln,lc,rfl⟩:=HTb.out.form
   have HRQ:=hide (reqX.of (HR2.out.mod HMr.out) HRB.out)
   obtain ⟨ra,rn,rc,rfl⟩:=HRQ.out.form
   have h7:wr.cell? ⟨b,7,none⟩=some (.slice ra rn rc):=HR.out.at_.cell 7
   have r0:wr.cell? ⟨w.heap.size,0,none⟩=some (.slice none 0 0):=blk_cell HBr.out 0
   have r1:wr.cell? ⟨w.heap.size,1,none⟩=some (.slice none 0 0):=blk_cell HBr.out 1
   have rf:=blk_frozen HBr.out
   clear h1
   go_wp2
   have hq:¬ fromB (w.heap.size+1) w.heap.size:=by unfold fromB;omega
   have hwk:∀ k,fromB (w.heap.size+1) k→k < ((wr.setCell ⟨w.heap.size,0,none⟩ (.slice ra rn rc)).setCell ⟨w.heap.size,1,none⟩ (.slice la ln lc)).heap.size→fromB w.heap.size k:=fun k hk _=>by unfold fromB at *;omega
   refine bodyPost_ret (v:=.agg #[.slice ra rn rc,.slice la ln lc]) (by simp [results,Tryz.results90,go_sem,r0,r1]) rfl ⟨((HM2.out.trans HMr.out).setNew (Nat.le_refl _) _ _).setNew (Nat.le_refl _) _ _,Or.inl ⟨(y2.1,acc),_,parseL_ok HY.out (by rw [hFe];exact HY2.out) (by rw [hFe,HSP.out];exact cmdsMore_end H1.out),rfl,⟨_,_,rfl,?_,?_⟩⟩⟩
   ·exact ((HRQ.out.keep (AbvX.set hq _ _)).keep (AbvX.set hq _ _)).weak hwk
   ·have hq:¬ fromB w2.heap.size w.heap.size:=by unfold fromB;omega
    refine blX.weak (cmdV_tree 7) ((HTb.out.keep (cmdV_tree 7) (AbvX.set hq _ _)).keep (cmdV_tree 7) (AbvX.set hq _ _)) (fun k hk _=>by unfold fromB at *;omega)
  have h1':((s'.1.kind:Int) != 0)=true:=by simp;omega
  have H1:=hide h1
  clear h1
  go_wp2_with fail
  refine (HO.out _ s' HMr.out HR.out).mono ?_
  intro e w4 h4
  rcases h4.cases with ⟨z4,v4,hy4,rfl,hv4,hc4,hm4⟩ | ⟨f4,hf4,⟨bb,hz,rfl,hcc⟩,hm4⟩
  rotate_left
  ·exact ⟨rfl,(HM2.out.trans HMr.out).trans hm4,Or.inr ⟨f4,parseL_cmdErr HY.out (by rw [hFe];exact HY2.out) (by rw [hFe,HSP.out];exact cmdsMore_err H1.out hf4),⟨bb,Nat.le_trans (HM2.out.trans HMr.out).size hz,rfl,hcc⟩⟩⟩
  have hmu4:=cmd_mu t y2.1 F 7 s' z4 HR.out.le HR.out.e0 hy4
  have HV4:=hide hv4
  obtain ⟨ty4,x4,rfl⟩:=(cmdV_tree 7).form _ _ _ _ hv4
  have HM4:=hide (HMr.out.trans hm4)
  have HY4:=hide hy4
  have HC4:=hide hc4
  have hown4:=ownsRow_mod (b:=b) HOW.out hm4 (by omega)
  have HW4:=hide (HRW.out.imp (fun a u hu=>Gath.mod (cmdV_tree 7) (b:=b) (w':=w4) hu hm4 (by omega)))
  have hlt3:=hide (fun k hk=>(HOW.out.lt k hk).2)
  have HG4:=hide (Gath.new (cmdV_tree 7) (base:=w2.heap.size) HV4.out HMr.out.size hlt3.out)
  have hz4:w2.heap.size≤w4.heap.size:=HM4.out.size
  clear h4 hy4 hc4 hm4 hv4
  go_wp2_with (at_builtin;refine wpList_append_own_at _ rfl _ _ 89 rfl w2.heap.size 179 i0 .nilIface 1 16 Tryz.underlying89 hi hz0 hz1 hz2 rfl (by decide) _ _ _ rfl (hown4.alloc _) ⟨w4.heap.size,0,none⟩ 1 1 [.iface ty4 x4] rfl rfl ?c1 ?c2 ?c3 ?c4 ?c5 ?_)
  case c1=>exact cell_one_new _ _ _
  case c2=>intro u hu;simp at hu;subst hu;rfl
  case c3=>unfold maxLen;omega
  case c4=>omega
  case c5=>simp;omega
  ·intro v' w5 hown5 hgrow _ hat
   have hrow:∀ k,(u3).ownBlock=some k→w2.heap.size≤k:=fun k hk=>(hown4.lt k hk).1
   have HM5:=hide ((HM4.out.alloc (Obj.cells #[.iface ty4 x4] 179)).grown hgrow (fun k hk=>hrow k hk))
   have HC5:=hide ((HC4.out.alloc (Obj.cells #[.iface ty4 x4] 179)).grown hgrow (fun k hk=>by have:=hrow k hk;omega))
   have HO5:=hide hown5
   have HR5:=hide (RowP.snoc (P:=fun a u=>Gath (CmdV 7) w2.heap.size w5 v' a u) (HG4.out.grown (cmdV_tree 7) hgrow hat) (HW4.out.imp (fun a u hu=>Gath.grown (cmdV_tree 7) hu hgrow hat)))
   have hmw:muW w5 b t.size < muW wr b t.size:=by rw [HC5.out.muEq,HR.out.muEq];omega
   have HMW:=hide hmw
   clear hown5 hgrow hmw hown4 hrow hat
   go_wp2
   go_roundw
   case rel=>exact ⟨z4.2,acc++[z4.1],vs++[.iface ty4 x4],f,by simpa using HO5.out,HR5.out,fun hh=>absurd hh (by simp),HC5.out,HM5.out,by omega,by simp;omega,HSP.out.trans (cmdsMore_go H1.out HY4.out)⟩
   case measure=>exact HMW.out
end
section
open Go.RowKit
def MapIs (es:Array MapEntry) (f:List UInt8→Option Value):Prop:=
 (∀ e∈es.toList,∃ x,e.key=.string (strA x)∧f x=some e.val)∧∀ x v,f x=some v→∃ e∈es.toList,e.key=.string (strA x)
theorem MapIs.keys {es:Array MapEntry} {f:List UInt8→Option Value} (h:MapIs es f):∀ e∈es.toList,MapKept.IsKey .string e.key:=fun e he=>by
 obtain ⟨x,hx,_⟩:=h.1 e he
 rw [hx];trivial
theorem MapIs.empty:MapIs #[] (fun _=>none):=⟨fun e he=>by simp at he,fun x v h=>by cases h⟩
theorem MapIs.push {es:Array MapEntry} {f g:List UInt8→Option Value} (h:MapIs es f) {x:List UInt8} {v:Value} {c:Nat} (hn:f x=none) (hx:g x=some v) (hg:∀ z,z≠x→g z=f z):MapIs (es.push ⟨.string (strA x),v,c⟩) g:=by
 refine ⟨fun e he=>?_,fun z u hz=>?_⟩
 ·simp only [Array.toList_push,List.mem_append,List.mem_singleton] at he
  rcases he with he | he
  ·obtain ⟨z,h1,h2⟩:=h.1 e he
   have:z≠x:=fun e=>by rw [e,hn] at h2;cases h2
   exact ⟨z,h1,by rw [hg z this];exact h2⟩
  ·subst he;exact ⟨x,rfl,hx⟩
 ·by_cases e:z=x
  ·exact ⟨⟨.string (strA x),v,c⟩,by simp,by rw [e]⟩
  ·rw [hg z e] at hz
   obtain ⟨y,hy,hk⟩:=h.2 z u hz
   exact ⟨y,by simp [hy],hk⟩
theorem MapIs.congr {es:Array MapEntry} {f g:List UInt8→Option Value} (h:MapIs es f) (e:∀ x,f x=g x):MapIs es g:=by
 have:f=g:=funext e
 rw [← this];exact h
def mapSet (w:World) (m:Nat) (o:Obj):World:={ w with heap:=w.heap.setIfInBounds m o }
theorem run_insert_new {T K E:TypeId} (hT:Tryz.prog.underlying T=some (.map K E)) (hK:Tryz.prog.underlying K=some .string) {w:World} {m:Nat} {es:Array MapEntry} {c:Nat} {f:List UInt8→Option Value} {x:List UInt8} (hm:w.heap[m]?=some (.map es c)) (hf:MapIs es f) (hx:f x=none) (v:Value) :
 (Instr.mapUpdate T (.map (some m)) (.string (strA x)) v).run Tryz.prog w=.ok () (mapSet w m (.map (es.push ⟨.string (strA x),v,c⟩) (c+1))):=by
 have hk:MapKept.IsKey .string (.string (strA x)):=trivial
 rcases MapKept.findNow_spec hk es.toList 0 hf.keys with ⟨h1,_⟩ | ⟨j,e,h1,h2,h3⟩
 ·simp [Instr.mapUpdate,run_underlying hT,MapKept.run_getObj_map hm,MapKept.run_checkKey hK hk,MapKept.run_findKey hK h1,MapKept.run_setObj_map _ hm,Result.andThen,mapSet]
 ·obtain ⟨z,hz,hz2⟩:=hf.1 e (List.mem_of_getElem? h2)
  rw [h3] at hz
  have:x=z:=strA_inj (by simpa using hz)
  subst this
  rw [hx] at hz2;cases hz2
theorem mapSet_same {w:World} {m:Nat} {o o':Obj} (h:w.heap[m]?=some o):(mapSet w m o').heap[m]?=some o':=by
 have:=blk_lt h
 simp [mapSet,this]
theorem mapSet_other {w:World} {m k:Nat} {o':Obj} (h:k≠m):(mapSet w m o').heap[k]?=w.heap[k]?:=by
 simp [mapSet,Array.getElem?_setIfInBounds_ne (Ne.symm h)]
theorem mapSet_size {w:World} {m:Nat} {o':Obj}:(mapSet w m o').heap.size=w.heap.size:=by simp [mapSet]
theorem lookOk_of {T K E:TypeId} (hT:Tryz.prog.underlying T=some (.map K E)) (hK:Tryz.prog.underlying K=some .string) (hE:∀ W,(zeroValue E).run Tryz.prog W=.ok .nilFunc W) {w:World} {m:Nat} {es:Array MapEntry} {c:Nat} {f:List UInt8→Option Value} (hm:w.heap[m]?=some (.map es c)) (hf:MapIs es f):LookOk w T m f:=by
 intro W x hW
 rw [hm] at hW
 have hk:MapKept.IsKey .string (.string (strA x)):=trivial
 rcases MapKept.findNow_spec hk es.toList 0 hf.keys with ⟨h1,h2⟩ | ⟨j,e,h1,h2,h3⟩
 ·have hn:f x=none:=by
   cases hfx:f x with
   | none=>rfl
   | some v=>
    obtain ⟨e,he,hke⟩:=hf.2 x v hfx
    exact absurd hke (h2 e he)
  rw [hn]
  simp [Instr.lookup,run_underlying hT,MapKept.run_getObj_map hW,MapKept.run_checkKey hK hk,MapKept.run_findKey hK h1,hE,Result.andThen]
 ·obtain ⟨z,hz,hz2⟩:=hf.1 e (List.mem_of_getElem? h2)
  rw [h3] at hz
  have:x=z:=strA_inj (by simpa using hz)
  subst this
  rw [hz2]
  simp [Instr.lookup,run_underlying hT,MapKept.run_getObj_map hW,MapKept.run_checkKey hK hk,MapKept.run_findKey hK h1,Result.andThen]
end
section
open Go.RowKit
attribute [local go_sem ↓] Go.wp_at_zero Go.wp_at_succ
theorem Tryz.infoFnC:(Tryz.prog.info? 211).map (fun i=>(i.zero,i.size,i.bytes))=some (some .nilFunc,1,8):=by kernel_rfl
theorem Tryz.infoFnT:(Tryz.prog.info? 213).map (fun i=>(i.zero,i.size,i.bytes))=some (some .nilFunc,1,8):=by kernel_rfl
theorem zeroFnC (W:World):(zeroValue 211).run Tryz.prog W=.ok .nilFunc W:=by
 obtain ⟨i0,hi,hz0,hz1,hz2⟩:=info_parts Tryz.infoFnC
 simp [zeroValue,typeInfo,Sem.run,hi,hz0]
theorem zeroFnT (W:World):(zeroValue 213).run Tryz.prog W=.ok .nilFunc W:=by
 obtain ⟨i0,hi,hz0,hz1,hz2⟩:=info_parts Tryz.infoFnT
 simp [zeroValue,typeInfo,Sem.run,hi,hz0]
theorem act_any (r:Value) (b:Nat) (kd:Int) (w:World) (hr:r=.pointer (some ⟨b,0,none⟩)) :
 Calls Tryz.prog 124 #[r,.int .i64 kd] w fun e w'=>e=.returned (.func (.func 178) #[] #[.pointer (some ⟨w.heap.size,0,none⟩),.pointer (some ⟨w.heap.size+1,0,none⟩)])∧w'=(w.alloc (.cells #[r] 161)).alloc (.cells #[.int .i64 kd] 3):=by
 subst hr
 have hmf:∀ (fn:Fn) (first cap:Array Value) (w:World),(Instr.makeFunc fn first cap).run Tryz.prog w=.ok (.func fn first cap) w:=fun _ _ _ _=>rfl
 go_enter Tryz.func124,Tryz.ntmps124
 go_wp2
 go_ret
 exact ⟨rfl,rfl⟩
theorem truth_any (h:Bool) (w:World) :
 Calls Tryz.prog 127 #[.bool h] w fun e w'=>e=.returned (.func (.func 185) #[] #[.pointer (some ⟨w.heap.size,0,none⟩)])∧w'=w.alloc (.cells #[.bool h] 4):=by
 have hmf:∀ (fn:Fn) (first cap:Array Value) (w:World),(Instr.makeFunc fn first cap).run Tryz.prog w=.ok (.func fn first cap) w:=fun _ _ _ _=>rfl
 go_enter Tryz.func127,Tryz.ntmps127
 go_wp2
 go_ret
 exact ⟨rfl,rfl⟩
end
section
open Go.RowKit
def up (L:Nat→Bool) (i:Nat):Nat→Bool:=fun j=>if j=i then true else L j
theorem up_same (L:Nat→Bool) (i:Nat):up L i i=true:=by simp [up]
theorem up_other (L:Nat→Bool) {i j:Nat} (h:j≠i):up L i j=L j:=by simp [up,h]
theorem up_old (L:Nat→Bool) {i j:Nat} (h:L j=true):up L i j=true:=by unfold up;split <;> simp [h]
theorem ud {L:Nat→Bool} {i j:Nat} (h:up L i j=true) (hd:j≠i:=by decide):L j=true:=by rwa [up_other L hd] at h
theorem ui {L:Nat→Bool} {i j k:Nat} (hi:L j=true→L k=true) (hd:j≠i:=by decide) (h:up L i j=true):up L i k=true:=up_old _ (hi (ud h hd))
theorem nf {L:Nat→Bool} {j k:Nat} (hi:L j=true→L k=true) (h0:L k=false):L j=false:=by
 cases hh:L j with
 | false=>rfl
 | true=>have:=hi hh;rw [h0] at this;cases this
def rdObj (t:ByteArray) (mv mv2:Value):Obj:=.cells #[.string t,.int .i64 0,.int .i64 0,.string ⟨#[]⟩,.string ⟨#[]⟩,.int .i64 0,.int .i64 0,.slice none 0 0,mv,mv2] 210
def ActAt (w:World) (b B kd:Nat) (v:Value):Prop:=
 ∃ p q,v=.func (.func 178) #[] #[.pointer (some ⟨p,0,none⟩),.pointer (some ⟨q,0,none⟩)]∧B≤p∧B≤q∧w.heap[p]?=some (.cells #[.pointer (some ⟨b,0,none⟩)] 161)∧w.heap[q]?=some (.cells #[.int .i64 kd] 3)
theorem ActAt.keep {w w':World} {b B kd:Nat} {v:Value} (h:ActAt w b B kd v) (hk:∀ k cs ty,B≤k→w.heap[k]?=some (.cells cs ty)→w'.heap[k]?=some (.cells cs ty)):ActAt w' b B kd v:=by
 obtain ⟨p,q,hv,hp,hq,h1,h2⟩:=h
 exact ⟨p,q,hv,hp,hq,hk p _ _ hp h1,hk q _ _ hq h2⟩
def fC (b:Nat) (L:Nat→Bool) (u16 u18 u20:Value) (x:List UInt8):Option Value:=
 match whichL cmdNames x with
 | 1=>if L 4 then some (.func (.func 121) #[.pointer (some ⟨b,0,none⟩)] #[]) else none
 | 2=>if L 7 then some (.func (.func 122) #[.pointer (some ⟨b,0,none⟩)] #[]) else none
 | 3=>if L 10 then some (.func (.func 123) #[.pointer (some ⟨b,0,none⟩)] #[]) else none
 | 4=>if L 13 then some (u16) else none
 | 5=>if L 16 then some (u18) else none
 | 6=>if L 19 then some (u20) else none
 | 7=>if L 22 then some (.func (.func 125) #[.pointer (some ⟨b,0,none⟩)] #[]) else none
 | 8=>if L 25 then some (.func (.func 126) #[.pointer (some ⟨b,0,none⟩)] #[]) else none
 | _=>none
structure JC (t:ByteArray) (b:Nat) (W:World) (mv2:Value) (L:Nat→Bool) (u8 u16 u18 u20 u25 u26 u27:Value) (w:World):Prop where
 hb:b < W.heap.size
 mod:Mod b W w
 rd:w.heap[b]?=some (rdObj t (if L 29 then u25 else Value.map none) mv2)
 cm4:L 4=true→L 1=true
 cm7:L 7=true→L 1=true
 cm10:L 10=true→L 1=true
 cm13:L 13=true→L 1=true
 cm16:L 16=true→L 1=true
 cm19:L 19=true→L 1=true
 cm22:L 22=true→L 1=true
 cm25:L 25=true→L 1=true
 cv13:L 13=true→L 12=true
 cv16:L 16=true→L 15=true
 cv19:L 19=true→L 18=true
 a12:L 12=true→ActAt w b W.heap.size 2 u16
 a15:L 15=true→ActAt w b W.heap.size 3 u18
 a18:L 18=true→ActAt w b W.heap.size 4 u20
 mp:L 1=true→∃ m es c,u8=.map (some m)∧W.heap.size≤m∧w.heap[m]?=some (.map es c)∧MapIs es (fC b L u16 u18 u20)
 m26:L 26=true→u25=u8∧L 1=true∧L 4=true∧L 7=true∧L 10=true∧L 13=true∧L 16=true∧L 19=true∧L 22=true∧L 25=true
 m27:L 27=true→u26=.pointer (some ⟨b,0,none⟩)
 m28:L 28=true→u27=.pointer (some ⟨b,8,none⟩)
 m29:L 29=true→L 26=true
theorem mod_mapSet {b m:Nat} {W w:World} {o:Obj} (h:Mod b W w) (hm:W.heap.size≤m):Mod b W (mapSet w m o):=
 ⟨h.os,h.tape,h.output,by rw [mapSet_size];exact h.size,fun k hk hn=>by rw [mapSet_other (by omega)];exact h.block k hk hn⟩
section
variable {t:ByteArray} {b:Nat} {W:World} {mv2:Value} {L:Nat→Bool} {u8 u16 u18 u20 u25 u26 u27:Value} {w:World}
theorem fC_up (i:Nat) (h:i≠4∧i≠7∧i≠10∧i≠13∧i≠16∧i≠19∧i≠22∧i≠25) (x:List UInt8):fC b (up L i) u16 u18 u20 x=fC b L u16 u18 u20 x:=by
 obtain ⟨h0,h1,h2,h3,h4,h5,h6,h7⟩:=h
 unfold fC
 simp only [up_other L (Ne.symm h0),up_other L (Ne.symm h1),up_other L (Ne.symm h2),up_other L (Ne.symm h3),up_other L (Ne.symm h4),up_other L (Ne.symm h5),up_other L (Ne.symm h6),up_other L (Ne.symm h7)]
theorem JC.m26u (J:JC t b W mv2 L u8 u16 u18 u20 u25 u26 u27 w) {i:Nat} (h:L 26=true):u25=u8∧up L i 1=true∧up L i 4=true∧up L i 7=true∧up L i 10=true∧up L i 13=true∧up L i 16=true∧up L i 19=true∧up L i 22=true∧up L i 25=true:=by
 obtain ⟨e1,e2,e3,e4,e5,e6,e7,e8,e9,e10⟩:=J.m26 h
 exact ⟨e1,up_old _ e2,up_old _ e3,up_old _ e4,up_old _ e5,up_old _ e6,up_old _ e7,up_old _ e8,up_old _ e9,up_old _ e10⟩
theorem JC.s1 (J:JC t b W mv2 L u8 u16 u18 u20 u25 u26 u27 w) (h0:L 1=false):JC t b W mv2 (up L 1) (.map (some w.heap.size)) u16 u18 u20 u25 u26 u27 (w.alloc (Obj.map #[] 0)):=by
 have hk:∀ k cs ty,W.heap.size≤k→w.heap[k]?=some (.cells cs ty)→(w.alloc (Obj.map #[] 0)).heap[k]?=some (.cells cs ty):=fun k cs ty _ h=>blk_alloc h
 have hkb:(w.alloc (Obj.map #[] 0)).heap[b]?=some (rdObj t (if L 29 then u25 else Value.map none) mv2):=blk_alloc J.rd
 have n4:L 4=false:=nf J.cm4 h0
 have n7:L 7=false:=nf J.cm7 h0
 have n10:L 10=false:=nf J.cm10 h0
 have n13:L 13=false:=nf J.cm13 h0
 have n16:L 16=false:=nf J.cm16 h0
 have n19:L 19=false:=nf J.cm19 h0
 have n22:L 22=false:=nf J.cm22 h0
 have n25:L 25=false:=nf J.cm25 h0
 exact ⟨J.hb,J.mod.trans ((Mod.refl b w).alloc _),by rw [up_other L (by decide)];exact hkb,ui J.cm4,ui J.cm7,ui J.cm10,ui J.cm13,ui J.cm16,ui J.cm19,ui J.cm22,ui J.cm25,ui J.cv13,ui J.cv16,ui J.cv19,fun h=>(J.a12 (ud h)).keep hk,fun h=>(J.a15 (ud h)).keep hk,fun h=>(J.a18 (ud h)).keep hk,fun _=>⟨w.heap.size,#[],0,rfl,J.mod.size,blk_new _ _,MapIs.empty.congr (fun x=>by rw [fC_up 1 (by decide)];unfold fC;simp only [n4,n7,n10,n13,n16,n19,n22,n25];split <;> rfl)⟩,fun h=>absurd (J.m26 (ud h)).2.1 (by rw [h0];decide),fun h=>J.m27 (ud h),fun h=>J.m28 (ud h),ui J.m29⟩
theorem JC.s12 (J:JC t b W mv2 L u8 u16 u18 u20 u25 u26 u27 w) (h0:L 12=false):JC t b W mv2 (up L 12) u8 (.func (.func 178) #[] #[.pointer (some ⟨w.heap.size,0,none⟩),.pointer (some ⟨w.heap.size+1,0,none⟩)]) u18 u20 u25 u26 u27 ((w.alloc (.cells #[.pointer (some ⟨b,0,none⟩)] 161)).alloc (.cells #[.int .i64 2] 3)):=by
 have hk:∀ k cs ty,W.heap.size≤k→w.heap[k]?=some (.cells cs ty)→((w.alloc (.cells #[.pointer (some ⟨b,0,none⟩)] 161)).alloc (.cells #[.int .i64 2] 3)).heap[k]?=some (.cells cs ty):=fun k cs ty _ h=>blk_alloc (blk_alloc h)
 have hkm:∀ (m:Nat) (es:Array MapEntry) (c:Nat),w.heap[m]?=some (Obj.map es c)→((w.alloc (.cells #[.pointer (some ⟨b,0,none⟩)] 161)).alloc (.cells #[.int .i64 2] 3)).heap[m]?=some (Obj.map es c):=fun m es c h=>blk_alloc (blk_alloc h)
 have hkb:((w.alloc (.cells #[.pointer (some ⟨b,0,none⟩)] 161)).alloc (.cells #[.int .i64 2] 3)).heap[b]?=some (rdObj t (if L 29 then u25 else Value.map none) mv2):=blk_alloc (blk_alloc J.rd)
 have hn:L 13=false:=nf J.cv13 h0
 have hsz:=J.mod.size
 exact ⟨J.hb,J.mod.trans (((Mod.refl b w).alloc _).alloc _),by rw [up_other L (by decide)];exact hkb,ui J.cm4,ui J.cm7,ui J.cm10,ui J.cm13,ui J.cm16,ui J.cm19,ui J.cm22,ui J.cm25,ui J.cv13,ui J.cv16,ui J.cv19,fun _=>⟨w.heap.size,w.heap.size+1,rfl,hsz,by omega,blk_alloc (blk_new _ _),blk_newAt (by simp)⟩,fun h=>(J.a15 (ud h)).keep hk,fun h=>(J.a18 (ud h)).keep hk,fun h=>by obtain ⟨m,es,c,h3,h4,h5,h6⟩:=J.mp (ud h);exact ⟨m,es,c,h3,h4,hkm m _ _ h5,h6.congr (fun x=>by rw [fC_up 12 (by decide)];unfold fC;simp only [hn,Bool.false_eq_true,if_false])⟩,fun h=>J.m26u (ud h),fun h=>J.m27 (ud h),fun h=>J.m28 (ud h),ui J.m29⟩
theorem JC.s15 (J:JC t b W mv2 L u8 u16 u18 u20 u25 u26 u27 w) (h0:L 15=false):JC t b W mv2 (up L 15) u8 u16 (.func (.func 178) #[] #[.pointer (some ⟨w.heap.size,0,none⟩),.pointer (some ⟨w.heap.size+1,0,none⟩)]) u20 u25 u26 u27 ((w.alloc (.cells #[.pointer (some ⟨b,0,none⟩)] 161)).alloc (.cells #[.int .i64 3] 3)):=by
 have hk:∀ k cs ty,W.heap.size≤k→w.heap[k]?=some (.cells cs ty)→((w.alloc (.cells #[.pointer (some ⟨b,0,none⟩)] 161)).alloc (.cells #[.int .i64 3] 3)).heap[k]?=some (.cells cs ty):=fun k cs ty _ h=>blk_alloc (blk_alloc h)
 have hkm:∀ (m:Nat) (es:Array MapEntry) (c:Nat),w.heap[m]?=some (Obj.map es c)→((w.alloc (.cells #[.pointer (some ⟨b,0,none⟩)] 161)).alloc (.cells #[.int .i64 3] 3)).heap[m]?=some (Obj.map es c):=fun m es c h=>blk_alloc (blk_alloc h)
 have hkb:((w.alloc (.cells #[.pointer (some ⟨b,0,none⟩)] 161)).alloc (.cells #[.int .i64 3] 3)).heap[b]?=some (rdObj t (if L 29 then u25 else Value.map none) mv2):=blk_alloc (blk_alloc J.rd)
 have hn:L 16=false:=nf J.cv16 h0
 have hsz:=J.mod.size
 exact ⟨J.hb,J.mod.trans (((Mod.refl b w).alloc _).alloc _),by rw [up_other L (by decide)];exact hkb,ui J.cm4,ui J.cm7,ui J.cm10,ui J.cm13,ui J.cm16,ui J.cm19,ui J.cm22,ui J.cm25,ui J.cv13,ui J.cv16,ui J.cv19,fun h=>(J.a12 (ud h)).keep hk,fun _=>⟨w.heap.size,w.heap.size+1,rfl,hsz,by omega,blk_alloc (blk_new _ _),blk_newAt (by simp)⟩,fun h=>(J.a18 (ud h)).keep hk,fun h=>by obtain ⟨m,es,c,h3,h4,h5,h6⟩:=J.mp (ud h);exact ⟨m,es,c,h3,h4,hkm m _ _ h5,h6.congr (fun x=>by rw [fC_up 15 (by decide)];unfold fC;simp only [hn,Bool.false_eq_true,if_false])⟩,fun h=>J.m26u (ud h),fun h=>J.m27 (ud h),fun h=>J.m28 (ud h),ui J.m29⟩
theorem JC.s18 (J:JC t b W mv2 L u8 u16 u18 u20 u25 u26 u27 w) (h0:L 18=false):JC t b W mv2 (up L 18) u8 u16 u18 (.func (.func 178) #[] #[.pointer (some ⟨w.heap.size,0,none⟩),.pointer (some ⟨w.heap.size+1,0,none⟩)]) u25 u26 u27 ((w.alloc (.cells #[.pointer (some ⟨b,0,none⟩)] 161)).alloc (.cells #[.int .i64 4] 3)):=by
 have hk:∀ k cs ty,W.heap.size≤k→w.heap[k]?=some (.cells cs ty)→((w.alloc (.cells #[.pointer (some ⟨b,0,none⟩)] 161)).alloc (.cells #[.int .i64 4] 3)).heap[k]?=some (.cells cs ty):=fun k cs ty _ h=>blk_alloc (blk_alloc h)
 have hkm:∀ (m:Nat) (es:Array MapEntry) (c:Nat),w.heap[m]?=some (Obj.map es c)→((w.alloc (.cells #[.pointer (some ⟨b,0,none⟩)] 161)).alloc (.cells #[.int .i64 4] 3)).heap[m]?=some (Obj.map es c):=fun m es c h=>blk_alloc (blk_alloc h)
 have hkb:((w.alloc (.cells #[.pointer (some ⟨b,0,none⟩)] 161)).alloc (.cells #[.int .i64 4] 3)).heap[b]?=some (rdObj t (if L 29 then u25 else Value.map none) mv2):=blk_alloc (blk_alloc J.rd)
 have hn:L 19=false:=nf J.cv19 h0
 have hsz:=J.mod.size
 exact ⟨J.hb,J.mod.trans (((Mod.refl b w).alloc _).alloc _),by rw [up_other L (by decide)];exact hkb,ui J.cm4,ui J.cm7,ui J.cm10,ui J.cm13,ui J.cm16,ui J.cm19,ui J.cm22,ui J.cm25,ui J.cv13,ui J.cv16,ui J.cv19,fun h=>(J.a12 (ud h)).keep hk,fun h=>(J.a15 (ud h)).keep hk,fun _=>⟨w.heap.size,w.heap.size+1,rfl,hsz,by omega,blk_alloc (blk_new _ _),blk_newAt (by simp)⟩,fun h=>by obtain ⟨m,es,c,h3,h4,h5,h6⟩:=J.mp (ud h);exact ⟨m,es,c,h3,h4,hkm m _ _ h5,h6.congr (fun x=>by rw [fC_up 18 (by decide)];unfold fC;simp only [hn,Bool.false_eq_true,if_false])⟩,fun h=>J.m26u (ud h),fun h=>J.m27 (ud h),fun h=>J.m28 (ud h),ui J.m29⟩
theorem JC.s4 (J:JC t b W mv2 L u8 u16 u18 u20 u25 u26 u27 w) (h0:L 4=false) (h1:L 1=true):∃ m es c,u8=.map (some m)∧w.heap[m]?=some (.map es c)∧MapIs es (fC b L u16 u18 u20)∧fC b L u16 u18 u20 kKeep=none∧JC t b W mv2 (up L 4) u8 u16 u18 u20 u25 u26 u27 (mapSet w m (.map (es.push ⟨.string (strA kKeep),.func (.func 121) #[.pointer (some ⟨b,0,none⟩)] #[],c⟩) (c+1))):=by
 obtain ⟨m,es,c,h3,h4,h5,h6⟩:=J.mp h1
 have hn:fC b L u16 u18 u20 kKeep=none:=by unfold fC;rw [show whichL cmdNames kKeep=1 from by decide];simp only [h0];rfl
 have hx:fC b (up L 4) u16 u18 u20 kKeep=some (.func (.func 121) #[.pointer (some ⟨b,0,none⟩)] #[]):=by unfold fC;rw [show whichL cmdNames kKeep=1 from by decide];simp only [up_same];rfl
 have hg:∀ z,z≠kKeep→fC b (up L 4) u16 u18 u20 z=fC b L u16 u18 u20 z:=fun z hz=>by
  have hw:whichL cmdNames z≠1:=fun e=>hz (by have:=whichL_get cmdNames z 0 e;simpa [cmdNames] using this.symm)
  unfold fC
  split <;> first | (rename_i e;exact absurd e hw) | simp only [up_other L (by decide)] | rfl
 have hmb:m≠b:=by have:=J.hb;omega
 have hk:∀ k cs ty,W.heap.size≤k→w.heap[k]?=some (.cells cs ty)→(mapSet w m (.map (es.push ⟨.string (strA kKeep),.func (.func 121) #[.pointer (some ⟨b,0,none⟩)] #[],c⟩) (c+1))).heap[k]?=some (.cells cs ty):=fun k cs ty _ h=>by
  rw [mapSet_other (fun e=>by rw [e,h5] at h;cases h)];exact h
 have hkb:(mapSet w m (.map (es.push ⟨.string (strA kKeep),.func (.func 121) #[.pointer (some ⟨b,0,none⟩)] #[],c⟩) (c+1))).heap[b]?=some (rdObj t (if L 29 then u25 else Value.map none) mv2):=by rw [mapSet_other (Ne.symm hmb)];exact J.rd
 refine ⟨m,es,c,h3,h5,h6,hn,?_⟩
 exact ⟨J.hb,mod_mapSet J.mod h4,by rw [up_other L (by decide)];exact hkb,fun _=>up_old _ h1,ui J.cm7,ui J.cm10,ui J.cm13,ui J.cm16,ui J.cm19,ui J.cm22,ui J.cm25,ui J.cv13,ui J.cv16,ui J.cv19,fun h=>(J.a12 (ud h)).keep hk,fun h=>(J.a15 (ud h)).keep hk,fun h=>(J.a18 (ud h)).keep hk,fun _=>⟨m,_,_,h3,h4,mapSet_same h5,h6.push hn hx hg⟩,fun h=>J.m26u (ud h),fun h=>J.m27 (ud h),fun h=>J.m28 (ud h),ui J.m29⟩
theorem JC.s7 (J:JC t b W mv2 L u8 u16 u18 u20 u25 u26 u27 w) (h0:L 7=false) (h1:L 1=true):∃ m es c,u8=.map (some m)∧w.heap[m]?=some (.map es c)∧MapIs es (fC b L u16 u18 u20)∧fC b L u16 u18 u20 kDiscard=none∧JC t b W mv2 (up L 7) u8 u16 u18 u20 u25 u26 u27 (mapSet w m (.map (es.push ⟨.string (strA kDiscard),.func (.func 122) #[.pointer (some ⟨b,0,none⟩)] #[],c⟩) (c+1))):=by
 obtain ⟨m,es,c,h3,h4,h5,h6⟩:=J.mp h1
 have hn:fC b L u16 u18 u20 kDiscard=none:=by unfold fC;rw [show whichL cmdNames kDiscard=2 from by decide];simp only [h0];rfl
 have hx:fC b (up L 7) u16 u18 u20 kDiscard=some (.func (.func 122) #[.pointer (some ⟨b,0,none⟩)] #[]):=by unfold fC;rw [show whichL cmdNames kDiscard=2 from by decide];simp only [up_same];rfl
 have hg:∀ z,z≠kDiscard→fC b (up L 7) u16 u18 u20 z=fC b L u16 u18 u20 z:=fun z hz=>by
  have hw:whichL cmdNames z≠2:=fun e=>hz (by have:=whichL_get cmdNames z 1 e;simpa [cmdNames] using this.symm)
  unfold fC
  split <;> first | (rename_i e;exact absurd e hw) | simp only [up_other L (by decide)] | rfl
 have hmb:m≠b:=by have:=J.hb;omega
 have hk:∀ k cs ty,W.heap.size≤k→w.heap[k]?=some (.cells cs ty)→(mapSet w m (.map (es.push ⟨.string (strA kDiscard),.func (.func 122) #[.pointer (some ⟨b,0,none⟩)] #[],c⟩) (c+1))).heap[k]?=some (.cells cs ty):=fun k cs ty _ h=>by
  rw [mapSet_other (fun e=>by rw [e,h5] at h;cases h)];exact h
 have hkb:(mapSet w m (.map (es.push ⟨.string (strA kDiscard),.func (.func 122) #[.pointer (some ⟨b,0,none⟩)] #[],c⟩) (c+1))).heap[b]?=some (rdObj t (if L 29 then u25 else Value.map none) mv2):=by rw [mapSet_other (Ne.symm hmb)];exact J.rd
 refine ⟨m,es,c,h3,h5,h6,hn,?_⟩
 exact ⟨J.hb,mod_mapSet J.mod h4,by rw [up_other L (by decide)];exact hkb,ui J.cm4,fun _=>up_old _ h1,ui J.cm10,ui J.cm13,ui J.cm16,ui J.cm19,ui J.cm22,ui J.cm25,ui J.cv13,ui J.cv16,ui J.cv19,fun h=>(J.a12 (ud h)).keep hk,fun h=>(J.a15 (ud h)).keep hk,fun h=>(J.a18 (ud h)).keep hk,fun _=>⟨m,_,_,h3,h4,mapSet_same h5,h6.push hn hx hg⟩,fun h=>J.m26u (ud h),fun h=>J.m27 (ud h),fun h=>J.m28 (ud h),ui J.m29⟩
theorem JC.s10 (J:JC t b W mv2 L u8 u16 u18 u20 u25 u26 u27 w) (h0:L 10=false) (h1:L 1=true):∃ m es c,u8=.map (some m)∧w.heap[m]?=some (.map es c)∧MapIs es (fC b L u16 u18 u20)∧fC b L u16 u18 u20 kStop=none∧JC t b W mv2 (up L 10) u8 u16 u18 u20 u25 u26 u27 (mapSet w m (.map (es.push ⟨.string (strA kStop),.func (.func 123) #[.pointer (some ⟨b,0,none⟩)] #[],c⟩) (c+1))):=by
 obtain ⟨m,es,c,h3,h4,h5,h6⟩:=J.mp h1
 have hn:fC b L u16 u18 u20 kStop=none:=by unfold fC;rw [show whichL cmdNames kStop=3 from by decide];simp only [h0];rfl
 have hx:fC b (up L 10) u16 u18 u20 kStop=some (.func (.func 123) #[.pointer (some ⟨b,0,none⟩)] #[]):=by unfold fC;rw [show whichL cmdNames kStop=3 from by decide];simp only [up_same];rfl
 have hg:∀ z,z≠kStop→fC b (up L 10) u16 u18 u20 z=fC b L u16 u18 u20 z:=fun z hz=>by
  have hw:whichL cmdNames z≠3:=fun e=>hz (by have:=whichL_get cmdNames z 2 e;simpa [cmdNames] using this.symm)
  unfold fC
  split <;> first | (rename_i e;exact absurd e hw) | simp only [up_other L (by decide)] | rfl
 have hmb:m≠b:=by have:=J.hb;omega
 have hk:∀ k cs ty,W.heap.size≤k→w.heap[k]?=some (.cells cs ty)→(mapSet w m (.map (es.push ⟨.string (strA kStop),.func (.func 123) #[.pointer (some ⟨b,0,none⟩)] #[],c⟩) (c+1))).heap[k]?=some (.cells cs ty):=fun k cs ty _ h=>by
  rw [mapSet_other (fun e=>by rw [e,h5] at h;cases h)];exact h
 have hkb:(mapSet w m (.map (es.push ⟨.string (strA kStop),.func (.func 123) #[.pointer (some ⟨b,0,none⟩)] #[],c⟩) (c+1))).heap[b]?=some (rdObj t (if L 29 then u25 else Value.map none) mv2):=by rw [mapSet_other (Ne.symm hmb)];exact J.rd
 refine ⟨m,es,c,h3,h5,h6,hn,?_⟩
 exact ⟨J.hb,mod_mapSet J.mod h4,by rw [up_other L (by decide)];exact hkb,ui J.cm4,ui J.cm7,fun _=>up_old _ h1,ui J.cm13,ui J.cm16,ui J.cm19,ui J.cm22,ui J.cm25,ui J.cv13,ui J.cv16,ui J.cv19,fun h=>(J.a12 (ud h)).keep hk,fun h=>(J.a15 (ud h)).keep hk,fun h=>(J.a18 (ud h)).keep hk,fun _=>⟨m,_,_,h3,h4,mapSet_same h5,h6.push hn hx hg⟩,fun h=>J.m26u (ud h),fun h=>J.m27 (ud h),fun h=>J.m28 (ud h),ui J.m29⟩
theorem JC.s13 (J:JC t b W mv2 L u8 u16 u18 u20 u25 u26 u27 w) (h0:L 13=false) (h1:L 1=true) (h2:L 12=true):∃ m es c,u8=.map (some m)∧w.heap[m]?=some (.map es c)∧MapIs es (fC b L u16 u18 u20)∧fC b L u16 u18 u20 kFileinto=none∧JC t b W mv2 (up L 13) u8 u16 u18 u20 u25 u26 u27 (mapSet w m (.map (es.push ⟨.string (strA kFileinto),u16,c⟩) (c+1))):=by
 obtain ⟨m,es,c,h3,h4,h5,h6⟩:=J.mp h1
 have hn:fC b L u16 u18 u20 kFileinto=none:=by unfold fC;rw [show whichL cmdNames kFileinto=4 from by decide];simp only [h0];rfl
 have hx:fC b (up L 13) u16 u18 u20 kFileinto=some (u16):=by unfold fC;rw [show whichL cmdNames kFileinto=4 from by decide];simp only [up_same];rfl
 have hg:∀ z,z≠kFileinto→fC b (up L 13) u16 u18 u20 z=fC b L u16 u18 u20 z:=fun z hz=>by
  have hw:whichL cmdNames z≠4:=fun e=>hz (by have:=whichL_get cmdNames z 3 e;simpa [cmdNames] using this.symm)
  unfold fC
  split <;> first | (rename_i e;exact absurd e hw) | simp only [up_other L (by decide)] | rfl
 have hmb:m≠b:=by have:=J.hb;omega
 have hk:∀ k cs ty,W.heap.size≤k→w.heap[k]?=some (.cells cs ty)→(mapSet w m (.map (es.push ⟨.string (strA kFileinto),u16,c⟩) (c+1))).heap[k]?=some (.cells cs ty):=fun k cs ty _ h=>by
  rw [mapSet_other (fun e=>by rw [e,h5] at h;cases h)];exact h
 have hkb:(mapSet w m (.map (es.push ⟨.string (strA kFileinto),u16,c⟩) (c+1))).heap[b]?=some (rdObj t (if L 29 then u25 else Value.map none) mv2):=by rw [mapSet_other (Ne.symm hmb)];exact J.rd
 refine ⟨m,es,c,h3,h5,h6,hn,?_⟩
 exact ⟨J.hb,mod_mapSet J.mod h4,by rw [up_other L (by decide)];exact hkb,ui J.cm4,ui J.cm7,ui J.cm10,fun _=>up_old _ h1,ui J.cm16,ui J.cm19,ui J.cm22,ui J.cm25,fun _=>up_old _ h2,ui J.cv16,ui J.cv19,fun h=>(J.a12 (ud h)).keep hk,fun h=>(J.a15 (ud h)).keep hk,fun h=>(J.a18 (ud h)).keep hk,fun _=>⟨m,_,_,h3,h4,mapSet_same h5,h6.push hn hx hg⟩,fun h=>J.m26u (ud h),fun h=>J.m27 (ud h),fun h=>J.m28 (ud h),ui J.m29⟩
theorem JC.s16 (J:JC t b W mv2 L u8 u16 u18 u20 u25 u26 u27 w) (h0:L 16=false) (h1:L 1=true) (h2:L 15=true):∃ m es c,u8=.map (some m)∧w.heap[m]?=some (.map es c)∧MapIs es (fC b L u16 u18 u20)∧fC b L u16 u18 u20 kRedirect=none∧JC t b W mv2 (up L 16) u8 u16 u18 u20 u25 u26 u27 (mapSet w m (.map (es.push ⟨.string (strA kRedirect),u18,c⟩) (c+1))):=by
 obtain ⟨m,es,c,h3,h4,h5,h6⟩:=J.mp h1
 have hn:fC b L u16 u18 u20 kRedirect=none:=by unfold fC;rw [show whichL cmdNames kRedirect=5 from by decide];simp only [h0];rfl
 have hx:fC b (up L 16) u16 u18 u20 kRedirect=some (u18):=by unfold fC;rw [show whichL cmdNames kRedirect=5 from by decide];simp only [up_same];rfl
 have hg:∀ z,z≠kRedirect→fC b (up L 16) u16 u18 u20 z=fC b L u16 u18 u20 z:=fun z hz=>by
  have hw:whichL cmdNames z≠5:=fun e=>hz (by have:=whichL_get cmdNames z 4 e;simpa [cmdNames] using this.symm)
  unfold fC
  split <;> first | (rename_i e;exact absurd e hw) | simp only [up_other L (by decide)] | rfl
 have hmb:m≠b:=by have:=J.hb;omega
 have hk:∀ k cs ty,W.heap.size≤k→w.heap[k]?=some (.cells cs ty)→(mapSet w m (.map (es.push ⟨.string (strA kRedirect),u18,c⟩) (c+1))).heap[k]?=some (.cells cs ty):=fun k cs ty _ h=>by
  rw [mapSet_other (fun e=>by rw [e,h5] at h;cases h)];exact h
 have hkb:(mapSet w m (.map (es.push ⟨.string (strA kRedirect),u18,c⟩) (c+1))).heap[b]?=some (rdObj t (if L 29 then u25 else Value.map none) mv2):=by rw [mapSet_other (Ne.symm hmb)];exact J.rd
 refine ⟨m,es,c,h3,h5,h6,hn,?_⟩
 exact ⟨J.hb,mod_mapSet J.mod h4,by rw [up_other L (by decide)];exact hkb,ui J.cm4,ui J.cm7,ui J.cm10,ui J.cm13,fun _=>up_old _ h1,ui J.cm19,ui J.cm22,ui J.cm25,ui J.cv13,fun _=>up_old _ h2,ui J.cv19,fun h=>(J.a12 (ud h)).keep hk,fun h=>(J.a15 (ud h)).keep hk,fun h=>(J.a18 (ud h)).keep hk,fun _=>⟨m,_,_,h3,h4,mapSet_same h5,h6.push hn hx hg⟩,fun h=>J.m26u (ud h),fun h=>J.m27 (ud h),fun h=>J.m28 (ud h),ui J.m29⟩
theorem JC.s19 (J:JC t b W mv2 L u8 u16 u18 u20 u25 u26 u27 w) (h0:L 19=false) (h1:L 1=true) (h2:L 18=true):∃ m es c,u8=.map (some m)∧w.heap[m]?=some (.map es c)∧MapIs es (fC b L u16 u18 u20)∧fC b L u16 u18 u20 kReject=none∧JC t b W mv2 (up L 19) u8 u16 u18 u20 u25 u26 u27 (mapSet w m (.map (es.push ⟨.string (strA kReject),u20,c⟩) (c+1))):=by
 obtain ⟨m,es,c,h3,h4,h5,h6⟩:=J.mp h1
 have hn:fC b L u16 u18 u20 kReject=none:=by unfold fC;rw [show whichL cmdNames kReject=6 from by decide];simp only [h0];rfl
 have hx:fC b (up L 19) u16 u18 u20 kReject=some (u20):=by unfold fC;rw [show whichL cmdNames kReject=6 from by decide];simp only [up_same];rfl
 have hg:∀ z,z≠kReject→fC b (up L 19) u16 u18 u20 z=fC b L u16 u18 u20 z:=fun z hz=>by
  have hw:whichL cmdNames z≠6:=fun e=>hz (by have:=whichL_get cmdNames z 5 e;simpa [cmdNames] using this.symm)
  unfold fC
  split <;> first | (rename_i e;exact absurd e hw) | simp only [up_other L (by decide)] | rfl
 have hmb:m≠b:=by have:=J.hb;omega
 have hk:∀ k cs ty,W.heap.size≤k→w.heap[k]?=some (.cells cs ty)→(mapSet w m (.map (es.push ⟨.string (strA kReject),u20,c⟩) (c+1))).heap[k]?=some (.cells cs ty):=fun k cs ty _ h=>by
  rw [mapSet_other (fun e=>by rw [e,h5] at h;cases h)];exact h
 have hkb:(mapSet w m (.map (es.push ⟨.string (strA kReject),u20,c⟩) (c+1))).heap[b]?=some (rdObj t (if L 29 then u25 else Value.map none) mv2):=by rw [mapSet_other (Ne.symm hmb)];exact J.rd
 refine ⟨m,es,c,h3,h5,h6,hn,?_⟩
 exact ⟨J.hb,mod_mapSet J.mod h4,by rw [up_other L (by decide)];exact hkb,ui J.cm4,ui J.cm7,ui J.cm10,ui J.cm13,ui J.cm16,fun _=>up_old _ h1,ui J.cm22,ui J.cm25,ui J.cv13,ui J.cv16,fun _=>up_old _ h2,fun h=>(J.a12 (ud h)).keep hk,fun h=>(J.a15 (ud h)).keep hk,fun h=>(J.a18 (ud h)).keep hk,fun _=>⟨m,_,_,h3,h4,mapSet_same h5,h6.push hn hx hg⟩,fun h=>J.m26u (ud h),fun h=>J.m27 (ud h),fun h=>J.m28 (ud h),ui J.m29⟩
theorem JC.s22 (J:JC t b W mv2 L u8 u16 u18 u20 u25 u26 u27 w) (h0:L 22=false) (h1:L 1=true):∃ m es c,u8=.map (some m)∧w.heap[m]?=some (.map es c)∧MapIs es (fC b L u16 u18 u20)∧fC b L u16 u18 u20 kSet=none∧JC t b W mv2 (up L 22) u8 u16 u18 u20 u25 u26 u27 (mapSet w m (.map (es.push ⟨.string (strA kSet),.func (.func 125) #[.pointer (some ⟨b,0,none⟩)] #[],c⟩) (c+1))):=by
 obtain ⟨m,es,c,h3,h4,h5,h6⟩:=J.mp h1
 have hn:fC b L u16 u18 u20 kSet=none:=by unfold fC;rw [show whichL cmdNames kSet=7 from by decide];simp only [h0];rfl
 have hx:fC b (up L 22) u16 u18 u20 kSet=some (.func (.func 125) #[.pointer (some ⟨b,0,none⟩)] #[]):=by unfold fC;rw [show whichL cmdNames kSet=7 from by decide];simp only [up_same];rfl
 have hg:∀ z,z≠kSet→fC b (up L 22) u16 u18 u20 z=fC b L u16 u18 u20 z:=fun z hz=>by
  have hw:whichL cmdNames z≠7:=fun e=>hz (by have:=whichL_get cmdNames z 6 e;simpa [cmdNames] using this.symm)
  unfold fC
  split <;> first | (rename_i e;exact absurd e hw) | simp only [up_other L (by decide)] | rfl
 have hmb:m≠b:=by have:=J.hb;omega
 have hk:∀ k cs ty,W.heap.size≤k→w.heap[k]?=some (.cells cs ty)→(mapSet w m (.map (es.push ⟨.string (strA kSet),.func (.func 125) #[.pointer (some ⟨b,0,none⟩)] #[],c⟩) (c+1))).heap[k]?=some (.cells cs ty):=fun k cs ty _ h=>by
  rw [mapSet_other (fun e=>by rw [e,h5] at h;cases h)];exact h
 have hkb:(mapSet w m (.map (es.push ⟨.string (strA kSet),.func (.func 125) #[.pointer (some ⟨b,0,none⟩)] #[],c⟩) (c+1))).heap[b]?=some (rdObj t (if L 29 then u25 else Value.map none) mv2):=by rw [mapSet_other (Ne.symm hmb)];exact J.rd
 refine ⟨m,es,c,h3,h5,h6,hn,?_⟩
 exact ⟨J.hb,mod_mapSet J.mod h4,by rw [up_other L (by decide)];exact hkb,ui J.cm4,ui J.cm7,ui J.cm10,ui J.cm13,ui J.cm16,ui J.cm19,fun _=>up_old _ h1,ui J.cm25,ui J.cv13,ui J.cv16,ui J.cv19,fun h=>(J.a12 (ud h)).keep hk,fun h=>(J.a15 (ud h)).keep hk,fun h=>(J.a18 (ud h)).keep hk,fun _=>⟨m,_,_,h3,h4,mapSet_same h5,h6.push hn hx hg⟩,fun h=>J.m26u (ud h),fun h=>J.m27 (ud h),fun h=>J.m28 (ud h),ui J.m29⟩
theorem JC.s25 (J:JC t b W mv2 L u8 u16 u18 u20 u25 u26 u27 w) (h0:L 25=false) (h1:L 1=true):∃ m es c,u8=.map (some m)∧w.heap[m]?=some (.map es c)∧MapIs es (fC b L u16 u18 u20)∧fC b L u16 u18 u20 kIf=none∧JC t b W mv2 (up L 25) u8 u16 u18 u20 u25 u26 u27 (mapSet w m (.map (es.push ⟨.string (strA kIf),.func (.func 126) #[.pointer (some ⟨b,0,none⟩)] #[],c⟩) (c+1))):=by
 obtain ⟨m,es,c,h3,h4,h5,h6⟩:=J.mp h1
 have hn:fC b L u16 u18 u20 kIf=none:=by unfold fC;rw [show whichL cmdNames kIf=8 from by decide];simp only [h0];rfl
 have hx:fC b (up L 25) u16 u18 u20 kIf=some (.func (.func 126) #[.pointer (some ⟨b,0,none⟩)] #[]):=by unfold fC;rw [show whichL cmdNames kIf=8 from by decide];simp only [up_same];rfl
 have hg:∀ z,z≠kIf→fC b (up L 25) u16 u18 u20 z=fC b L u16 u18 u20 z:=fun z hz=>by
  have hw:whichL cmdNames z≠8:=fun e=>hz (by have:=whichL_get cmdNames z 7 e;simpa [cmdNames] using this.symm)
  unfold fC
  split <;> first | (rename_i e;exact absurd e hw) | simp only [up_other L (by decide)] | rfl
 have hmb:m≠b:=by have:=J.hb;omega
 have hk:∀ k cs ty,W.heap.size≤k→w.heap[k]?=some (.cells cs ty)→(mapSet w m (.map (es.push ⟨.string (strA kIf),.func (.func 126) #[.pointer (some ⟨b,0,none⟩)] #[],c⟩) (c+1))).heap[k]?=some (.cells cs ty):=fun k cs ty _ h=>by
  rw [mapSet_other (fun e=>by rw [e,h5] at h;cases h)];exact h
 have hkb:(mapSet w m (.map (es.push ⟨.string (strA kIf),.func (.func 126) #[.pointer (some ⟨b,0,none⟩)] #[],c⟩) (c+1))).heap[b]?=some (rdObj t (if L 29 then u25 else Value.map none) mv2):=by rw [mapSet_other (Ne.symm hmb)];exact J.rd
 refine ⟨m,es,c,h3,h5,h6,hn,?_⟩
 exact ⟨J.hb,mod_mapSet J.mod h4,by rw [up_other L (by decide)];exact hkb,ui J.cm4,ui J.cm7,ui J.cm10,ui J.cm13,ui J.cm16,ui J.cm19,ui J.cm22,fun _=>up_old _ h1,ui J.cv13,ui J.cv16,ui J.cv19,fun h=>(J.a12 (ud h)).keep hk,fun h=>(J.a15 (ud h)).keep hk,fun h=>(J.a18 (ud h)).keep hk,fun _=>⟨m,_,_,h3,h4,mapSet_same h5,h6.push hn hx hg⟩,fun h=>J.m26u (ud h),fun h=>J.m27 (ud h),fun h=>J.m28 (ud h),ui J.m29⟩
theorem JC.s26 (J:JC t b W mv2 L u8 u16 u18 u20 u25 u26 u27 w) (h0:L 26=false) (h1:L 1=true) (hi4:L 4=true) (hi7:L 7=true) (hi10:L 10=true) (hi13:L 13=true) (hi16:L 16=true) (hi19:L 19=true) (hi22:L 22=true) (hi25:L 25=true):JC t b W mv2 (up L 26) u8 u16 u18 u20 u8 u26 u27 w:=by
 have n29:L 29=false:=nf J.m29 h0
 have hk:∀ k cs ty,W.heap.size≤k→w.heap[k]?=some (.cells cs ty)→w.heap[k]?=some (.cells cs ty):=fun k cs ty _ h=>h
 have hkm:∀ (m:Nat) (es:Array MapEntry) (c:Nat),w.heap[m]?=some (Obj.map es c)→w.heap[m]?=some (Obj.map es c):=fun m es c h=>h
 exact ⟨J.hb,J.mod.trans (Mod.refl b w),by have:=J.rd;rw [n29] at this;rw [up_other L (by decide),n29];exact this,ui J.cm4,ui J.cm7,ui J.cm10,ui J.cm13,ui J.cm16,ui J.cm19,ui J.cm22,ui J.cm25,ui J.cv13,ui J.cv16,ui J.cv19,fun h=>(J.a12 (ud h)).keep hk,fun h=>(J.a15 (ud h)).keep hk,fun h=>(J.a18 (ud h)).keep hk,fun h=>by obtain ⟨m,es,c,h3,h4,h5,h6⟩:=J.mp (ud h);exact ⟨m,es,c,h3,h4,hkm m _ _ h5,h6.congr (fun x=>(fC_up 26 (by decide) x).symm)⟩,fun _=>⟨rfl,up_old _ h1,up_old _ hi4,up_old _ hi7,up_old _ hi10,up_old _ hi13,up_old _ hi16,up_old _ hi19,up_old _ hi22,up_old _ hi25⟩,fun h=>J.m27 (ud h),fun h=>J.m28 (ud h),ui J.m29⟩
theorem JC.s27 (J:JC t b W mv2 L u8 u16 u18 u20 u25 u26 u27 w) (h0:L 27=false):JC t b W mv2 (up L 27) u8 u16 u18 u20 u25 (.pointer (some ⟨b,0,none⟩)) u27 w:=by
 have hk:∀ k cs ty,W.heap.size≤k→w.heap[k]?=some (.cells cs ty)→w.heap[k]?=some (.cells cs ty):=fun k cs ty _ h=>h
 have hkm:∀ (m:Nat) (es:Array MapEntry) (c:Nat),w.heap[m]?=some (Obj.map es c)→w.heap[m]?=some (Obj.map es c):=fun m es c h=>h
 exact ⟨J.hb,J.mod.trans (Mod.refl b w),by rw [up_other L (by decide)];exact J.rd,ui J.cm4,ui J.cm7,ui J.cm10,ui J.cm13,ui J.cm16,ui J.cm19,ui J.cm22,ui J.cm25,ui J.cv13,ui J.cv16,ui J.cv19,fun h=>(J.a12 (ud h)).keep hk,fun h=>(J.a15 (ud h)).keep hk,fun h=>(J.a18 (ud h)).keep hk,fun h=>by obtain ⟨m,es,c,h3,h4,h5,h6⟩:=J.mp (ud h);exact ⟨m,es,c,h3,h4,hkm m _ _ h5,h6.congr (fun x=>(fC_up 27 (by decide) x).symm)⟩,fun h=>J.m26u (ud h),fun _=>rfl,fun h=>J.m28 (ud h),ui J.m29⟩
theorem JC.s28 (J:JC t b W mv2 L u8 u16 u18 u20 u25 u26 u27 w) (h0:L 28=false):JC t b W mv2 (up L 28) u8 u16 u18 u20 u25 u26 (.pointer (some ⟨b,8,none⟩)) w:=by
 have hk:∀ k cs ty,W.heap.size≤k→w.heap[k]?=some (.cells cs ty)→w.heap[k]?=some (.cells cs ty):=fun k cs ty _ h=>h
 have hkm:∀ (m:Nat) (es:Array MapEntry) (c:Nat),w.heap[m]?=some (Obj.map es c)→w.heap[m]?=some (Obj.map es c):=fun m es c h=>h
 exact ⟨J.hb,J.mod.trans (Mod.refl b w),by rw [up_other L (by decide)];exact J.rd,ui J.cm4,ui J.cm7,ui J.cm10,ui J.cm13,ui J.cm16,ui J.cm19,ui J.cm22,ui J.cm25,ui J.cv13,ui J.cv16,ui J.cv19,fun h=>(J.a12 (ud h)).keep hk,fun h=>(J.a15 (ud h)).keep hk,fun h=>(J.a18 (ud h)).keep hk,fun h=>by obtain ⟨m,es,c,h3,h4,h5,h6⟩:=J.mp (ud h);exact ⟨m,es,c,h3,h4,hkm m _ _ h5,h6.congr (fun x=>(fC_up 28 (by decide) x).symm)⟩,fun h=>J.m26u (ud h),fun h=>J.m27 (ud h),fun _=>rfl,ui J.m29⟩
theorem JC.s29 (J:JC t b W mv2 L u8 u16 u18 u20 u25 u26 u27 w) (h0:L 29=false) (h26:L 26=true):JC t b W mv2 (up L 29) u8 u16 u18 u20 u25 u26 u27 (w.setCell ⟨b,8,none⟩ u25):=by
 have hb:=J.hb
 have hk:∀ k cs ty,W.heap.size≤k→w.heap[k]?=some (.cells cs ty)→(w.setCell ⟨b,8,none⟩ u25).heap[k]?=some (.cells cs ty):=fun k cs ty hk h=>by rw [Below.heap_setCell _ _ _ _ (show k≠b by omega)];exact h
 have hkm:∀ (m:Nat) (es:Array MapEntry) (c:Nat),w.heap[m]?=some (Obj.map es c)→(w.setCell ⟨b,8,none⟩ u25).heap[m]?=some (Obj.map es c):=fun m es c h=>by
  have hr:=J.rd
  rw [Below.heap_setCell _ _ _ _ (show m≠b from fun e=>by rw [e,hr] at h;cases h)];exact h
 exact ⟨J.hb,J.mod.setCell 8 u25,by rw [up_same];exact heap_setCell_at _ _ _ _ _ _ J.rd,ui J.cm4,ui J.cm7,ui J.cm10,ui J.cm13,ui J.cm16,ui J.cm19,ui J.cm22,ui J.cm25,ui J.cv13,ui J.cv16,ui J.cv19,fun h=>(J.a12 (ud h)).keep hk,fun h=>(J.a15 (ud h)).keep hk,fun h=>(J.a18 (ud h)).keep hk,fun h=>by obtain ⟨m,es,c,h3,h4,h5,h6⟩:=J.mp (ud h);exact ⟨m,es,c,h3,h4,hkm m _ _ h5,h6.congr (fun x=>(fC_up 29 (by decide) x).symm)⟩,fun h=>J.m26u (ud h),fun h=>J.m27 (ud h),fun h=>J.m28 (ud h),fun _=>up_old _ h26⟩
theorem JC.done (J:JC t b W mv2 L u8 u16 u18 u20 u25 u26 u27 w) (hall:∀ i,i < 30→L i=true):∃ m p1 k1 p2 k2 p3 k3,w.heap[b]?=some (rdObj t (.map (some m)) mv2)∧CMap w b m p1 k1 p2 k2 p3 k3∧Mod b W w∧W.heap.size≤m:=by
 obtain ⟨m,es,c,h3,h4,h5,h6⟩:=J.mp (hall 1 (by decide))
 obtain ⟨p1,k1,e1,hp1,hk1,hp1',hk1'⟩:=J.a12 (hall 12 (by decide))
 obtain ⟨p2,k2,e2,hp2,hk2,hp2',hk2'⟩:=J.a15 (hall 15 (by decide))
 obtain ⟨p3,k3,e3,hp3,hk3,hp3',hk3'⟩:=J.a18 (hall 18 (by decide))
 have hb:=J.hb
 have hr:=J.rd
 rw [hall 29 (by decide),if_pos rfl,(J.m26 (hall 26 (by decide))).1,h3] at hr
 have hf:MapIs es (cmdFn b p1 k1 p2 k2 p3 k3):=h6.congr (fun x=>by
  subst e1 e2 e3
  unfold fC cmdFn
  simp only [hall 4 (by decide),hall 7 (by decide),hall 10 (by decide),hall 13 (by decide),hall 16 (by decide),hall 19 (by decide),hall 22 (by decide),hall 25 (by decide),if_true]
  all_goals (
   generalize whichL cmdNames x=i
   match i with
   | 0 | 1 | 2 | 3 | 4 | 5 | 6 | 7 | 8=>rfl
   | n+9=>rfl))
 exact ⟨m,p1,k1,p2,k2,p3,k3,hr,⟨lookOk_of (K:=9) (E:=211) Tryz.underlying207 Tryz.underlying9 zeroFnC h5 hf,⟨blk_cell hp1' 0,by omega⟩,blk_cell hk1' 0,⟨blk_cell hp2' 0,by omega⟩,blk_cell hk2' 0,⟨blk_cell hp3' 0,by omega⟩,blk_cell hk3' 0,by omega,by omega,by omega,by omega,blk_lt h5⟩,J.mod,h4⟩
end
theorem wpAnyH_inv {P:Program} {md:Region.Mode} {ops:Array Oper} {Q:Exit→Act→World→Prop} {S:World→Prop} (J:Array Bool→Act→World→Prop)
 (hsz:∀ l a w,J l a w→l.size=ops.size) (hS:∀ l a w,J l a w→S w)
 (hstep:∀ l a w i,J l a w→i∈Region.ready md ops l→wpOp P ops Q i (fun a' w'=>J (l.setIfInBounds i true) a' w') a w)
 (hdone:∀ l a w,J l a w→Region.ready md ops l=[]→Q .normal a w) :
 ∀ (fuel:Nat) (l:Array Bool) (a:Act) (w:World),l.toList.count false≤fuel→J l a w→wpAnyH P md ops Q S fuel l a w
 | 0,l,a,w,hf,hJ=>by
  have hr:Region.ready md ops l=[]:=by
   rw [List.eq_nil_iff_forall_not_mem]
   intro i hi
   obtain ⟨h0,o,ho,_⟩:=mem_ready.1 hi
   have hlt:i < l.size:=by rw [hsz l a w hJ];exact (Array.getElem?_eq_some_iff.1 ho).1
   have:l[i]=false:=by simpa [hlt] using h0
   have hm:false∈l.toList:=by rw [← this];simp
   have:=List.count_pos_iff.2 hm
   omega
  exact ⟨hr,hdone l a w hJ hr⟩
 | fuel+1,l,a,w,hf,hJ=>by
  refine ⟨hdone l a w hJ,fun i hi=>wpOp_mono (fun a' w' h=>⟨hS _ _ _ h,?_⟩) (hstep l a w i hJ hi)⟩
  refine wpAnyH_inv J hsz hS hstep hdone fuel _ a' w' ?_ h
  obtain ⟨h0,o,ho,_⟩:=mem_ready.1 hi
  have hlt:i < l.size:=by rw [hsz l a w hJ];exact (Array.getElem?_eq_some_iff.1 ho).1
  have hv:l[i]=false:=by simpa [hlt] using h0
  have e:(l.setIfInBounds i true).toList=l.toList.set i true:=by simp
  rw [e]
  have hc:=List.count_set (a:=true) (b:=false) (l:=l.toList) (i:=i) (h:=by simpa using hlt)
  have hv':l.toList[i]'(by simpa using hlt)=false:=by simpa using hv
  rw [hv'] at hc
  simp only [beq_self_eq_true,if_true,show ((true:Bool) == false)=false from rfl,Bool.false_eq_true,if_false] at hc
  have hm:false∈l.toList:=by rw [← hv'];simp
  have:=List.count_pos_iff.2 hm
  omega
theorem ready_nil_all {md:Region.Mode} {ops:Array Oper} {l:Array Bool} (hl:l.size=ops.size) (hd:((List.range ops.size).all fun i=>(ops[i]?).all fun o=>o.after.all fun e=>decide (e.on < i))=true) (hr:Region.ready md ops l=[]):∀ i,i < ops.size→l.getD i false=true:=by
 intro i
 induction i using Nat.strongRecOn with
 | _ i ih=>
  intro hi
  apply Classical.byContradiction
  intro hn
  have hm:i∈Region.ready md ops l:=by
   refine mem_ready.2 ⟨?_,ops[i],by simp [hi],fun e he _=>?_⟩
   ·have:i < l.size:=by omega
    simp [this] at hn ⊢
    exact hn
   ·have h1:=List.all_eq_true.1 hd i (List.mem_range.2 hi)
    rw [Array.getElem?_eq_getElem hi] at h1
    simp only [Option.all_some] at h1
    have h2:=Array.all_eq_true_iff_forall_mem.1 h1 e he
    have h3:e.on < i:=of_decide_eq_true h2
    exact ih e.on h3 (by omega)
  rw [hr] at hm
  cases hm
theorem wpOp_of {P:Program} {ops:Array Oper} {Q:Exit→Act→World→Prop} {i:Nat} {o:Oper} {K:Act→World→Prop} {a:Act} {w:World} (ho:ops[i]?=some o) (hw:Region.wanted o (yielded ops a.tmps)=true) (h:o.wp P a w K Q):wpOp P ops Q i K a w:=by
 unfold wpOp
 rw [ho]
 dsimp only
 rw [if_pos hw]
 exact Or.inl h
end
section
open Go.RowKit
def TruthAt (w:World) (B:Nat) (h:Bool) (v:Value):Prop:=
 ∃ p,v=.func (.func 185) #[] #[.pointer (some ⟨p,0,none⟩)]∧B≤p∧w.heap[p]?=some (.cells #[.bool h] 4)
theorem TruthAt.keep {w w':World} {B:Nat} {h:Bool} {v:Value} (hh:TruthAt w B h v) (hk:∀ k cs ty,B≤k→w.heap[k]?=some (.cells cs ty)→w'.heap[k]?=some (.cells cs ty)):TruthAt w' B h v:=by
 obtain ⟨p,hv,hp,h1⟩:=hh
 exact ⟨p,hv,hp,hk p _ _ hp h1⟩
def fT (b:Nat) (L:Nat→Bool) (u30 u31:Value) (x:List UInt8):Option Value:=
 match whichL testNames x with
 | 1=>if L 3 then some (u30) else none
 | 2=>if L 5 then some (u31) else none
 | 3=>if L 8 then some (.func (.func 128) #[.pointer (some ⟨b,0,none⟩)] #[]) else none
 | 4=>if L 10 then some (.func (.func 129) #[] #[.pointer (some ⟨b+1,0,none⟩)]) else none
 | 5=>if L 12 then some (.func (.func 131) #[] #[.pointer (some ⟨b+1,0,none⟩)]) else none
 | 6=>if L 14 then some (.func (.func 132) #[] #[.pointer (some ⟨b+1,0,none⟩)]) else none
 | 7=>if L 16 then some (.func (.func 135) #[] #[.pointer (some ⟨b+1,0,none⟩)]) else none
 | 8=>if L 18 then some (.func (.func 138) #[] #[.pointer (some ⟨b+1,0,none⟩)]) else none
 | 9=>if L 21 then some (.func (.func 139) #[.pointer (some ⟨b,0,none⟩)] #[]) else none
 | 10=>if L 24 then some (.func (.func 140) #[.pointer (some ⟨b,0,none⟩)] #[]) else none
 | _=>none
structure JT (t:ByteArray) (b:Nat) (W:World) (mv1:Value) (L:Nat→Bool) (u29 u30 u31 u43 u44 u45:Value) (w:World):Prop where
 hb:b < W.heap.size
 mod:Mod b W w
 rd:w.heap[b]?=some (rdObj t mv1 (if L 28 then u43 else Value.map none))
 cm3:L 3=true→L 1=true
 cm5:L 5=true→L 1=true
 cm8:L 8=true→L 1=true
 cm10:L 10=true→L 1=true
 cm12:L 12=true→L 1=true
 cm14:L 14=true→L 1=true
 cm16:L 16=true→L 1=true
 cm18:L 18=true→L 1=true
 cm21:L 21=true→L 1=true
 cm24:L 24=true→L 1=true
 cv3:L 3=true→L 2=true
 cv5:L 5=true→L 4=true
 a2:L 2=true→TruthAt w W.heap.size true u30
 a4:L 4=true→TruthAt w W.heap.size false u31
 mp:L 1=true→∃ m es c,u29=.map (some m)∧W.heap.size≤m∧w.heap[m]?=some (.map es c)∧MapIs es (fT b L u30 u31)
 m25:L 25=true→u43=u29∧L 1=true∧L 3=true∧L 5=true∧L 8=true∧L 10=true∧L 12=true∧L 14=true∧L 16=true∧L 18=true∧L 21=true∧L 24=true
 m26:L 26=true→u44=.pointer (some ⟨b,0,none⟩)
 m27:L 27=true→u45=.pointer (some ⟨b,9,none⟩)
 m28:L 28=true→L 25=true
section
variable {t:ByteArray} {b:Nat} {W:World} {mv1:Value} {L:Nat→Bool} {u29 u30 u31 u43 u44 u45:Value} {w:World}
theorem fT_up (i:Nat) (h:i≠3∧i≠5∧i≠8∧i≠10∧i≠12∧i≠14∧i≠16∧i≠18∧i≠21∧i≠24) (x:List UInt8):fT b (up L i) u30 u31 x=fT b L u30 u31 x:=by
 obtain ⟨h0,h1,h2,h3,h4,h5,h6,h7,h8,h9⟩:=h
 unfold fT
 simp only [up_other L (Ne.symm h0),up_other L (Ne.symm h1),up_other L (Ne.symm h2),up_other L (Ne.symm h3),up_other L (Ne.symm h4),up_other L (Ne.symm h5),up_other L (Ne.symm h6),up_other L (Ne.symm h7),up_other L (Ne.symm h8),up_other L (Ne.symm h9)]
theorem JT.m25u (J:JT t b W mv1 L u29 u30 u31 u43 u44 u45 w) {i:Nat} (h:L 25=true):u43=u29∧up L i 1=true∧up L i 3=true∧up L i 5=true∧up L i 8=true∧up L i 10=true∧up L i 12=true∧up L i 14=true∧up L i 16=true∧up L i 18=true∧up L i 21=true∧up L i 24=true:=by
 obtain ⟨e1,e2,e3,e4,e5,e6,e7,e8,e9,e10,e11,e12⟩:=J.m25 h
 exact ⟨e1,up_old _ e2,up_old _ e3,up_old _ e4,up_old _ e5,up_old _ e6,up_old _ e7,up_old _ e8,up_old _ e9,up_old _ e10,up_old _ e11,up_old _ e12⟩
theorem JT.s1 (J:JT t b W mv1 L u29 u30 u31 u43 u44 u45 w) (h0:L 1=false):JT t b W mv1 (up L 1) (.map (some w.heap.size)) u30 u31 u43 u44 u45 (w.alloc (Obj.map #[] 0)):=by
 have hk:∀ k cs ty,W.heap.size≤k→w.heap[k]?=some (.cells cs ty)→(w.alloc (Obj.map #[] 0)).heap[k]?=some (.cells cs ty):=fun k cs ty _ h=>blk_alloc h
 have hkb:(w.alloc (Obj.map #[] 0)).heap[b]?=some (rdObj t mv1 (if L 28 then u43 else Value.map none)):=blk_alloc J.rd
 have n3:L 3=false:=nf J.cm3 h0
 have n5:L 5=false:=nf J.cm5 h0
 have n8:L 8=false:=nf J.cm8 h0
 have n10:L 10=false:=nf J.cm10 h0
 have n12:L 12=false:=nf J.cm12 h0
 have n14:L 14=false:=nf J.cm14 h0
 have n16:L 16=false:=nf J.cm16 h0
 have n18:L 18=false:=nf J.cm18 h0
 have n21:L 21=false:=nf J.cm21 h0
 have n24:L 24=false:=nf J.cm24 h0
 exact ⟨J.hb,J.mod.trans ((Mod.refl b w).alloc _),by rw [up_other L (by decide)];exact hkb,ui J.cm3,ui J.cm5,ui J.cm8,ui J.cm10,ui J.cm12,ui J.cm14,ui J.cm16,ui J.cm18,ui J.cm21,ui J.cm24,ui J.cv3,ui J.cv5,fun h=>(J.a2 (ud h)).keep hk,fun h=>(J.a4 (ud h)).keep hk,fun _=>⟨w.heap.size,#[],0,rfl,J.mod.size,blk_new _ _,MapIs.empty.congr (fun x=>by rw [fT_up 1 (by decide)];unfold fT;simp only [n3,n5,n8,n10,n12,n14,n16,n18,n21,n24];split <;> rfl)⟩,fun h=>absurd (J.m25 (ud h)).2.1 (by rw [h0];decide),fun h=>J.m26 (ud h),fun h=>J.m27 (ud h),ui J.m28⟩
theorem JT.s2 (J:JT t b W mv1 L u29 u30 u31 u43 u44 u45 w) (h0:L 2=false):JT t b W mv1 (up L 2) u29 (.func (.func 185) #[] #[.pointer (some ⟨w.heap.size,0,none⟩)]) u31 u43 u44 u45 (w.alloc (.cells #[.bool true] 4)):=by
 have hk:∀ k cs ty,W.heap.size≤k→w.heap[k]?=some (.cells cs ty)→(w.alloc (.cells #[.bool true] 4)).heap[k]?=some (.cells cs ty):=fun k cs ty _ h=>blk_alloc h
 have hkm:∀ (m:Nat) (es:Array MapEntry) (c:Nat),w.heap[m]?=some (Obj.map es c)→(w.alloc (.cells #[.bool true] 4)).heap[m]?=some (Obj.map es c):=fun m es c h=>blk_alloc h
 have hkb:(w.alloc (.cells #[.bool true] 4)).heap[b]?=some (rdObj t mv1 (if L 28 then u43 else Value.map none)):=blk_alloc J.rd
 have hn:L 3=false:=nf J.cv3 h0
 have hsz:=J.mod.size
 exact ⟨J.hb,J.mod.trans ((Mod.refl b w).alloc _),by rw [up_other L (by decide)];exact hkb,ui J.cm3,ui J.cm5,ui J.cm8,ui J.cm10,ui J.cm12,ui J.cm14,ui J.cm16,ui J.cm18,ui J.cm21,ui J.cm24,ui J.cv3,ui J.cv5,fun _=>⟨w.heap.size,rfl,hsz,blk_new _ _⟩,fun h=>(J.a4 (ud h)).keep hk,fun h=>by obtain ⟨m,es,c,h3,h4,h5,h6⟩:=J.mp (ud h);exact ⟨m,es,c,h3,h4,hkm m _ _ h5,h6.congr (fun x=>by rw [fT_up 2 (by decide)];unfold fT;simp only [hn,Bool.false_eq_true,if_false])⟩,fun h=>J.m25u (ud h),fun h=>J.m26 (ud h),fun h=>J.m27 (ud h),ui J.m28⟩
theorem JT.s4 (J:JT t b W mv1 L u29 u30 u31 u43 u44 u45 w) (h0:L 4=false):JT t b W mv1 (up L 4) u29 u30 (.func (.func 185) #[] #[.pointer (some ⟨w.heap.size,0,none⟩)]) u43 u44 u45 (w.alloc (.cells #[.bool false] 4)):=by
 have hk:∀ k cs ty,W.heap.size≤k→w.heap[k]?=some (.cells cs ty)→(w.alloc (.cells #[.bool false] 4)).heap[k]?=some (.cells cs ty):=fun k cs ty _ h=>blk_alloc h
 have hkm:∀ (m:Nat) (es:Array MapEntry) (c:Nat),w.heap[m]?=some (Obj.map es c)→(w.alloc (.cells #[.bool false] 4)).heap[m]?=some (Obj.map es c):=fun m es c h=>blk_alloc h
 have hkb:(w.alloc (.cells #[.bool false] 4)).heap[b]?=some (rdObj t mv1 (if L 28 then u43 else Value.map none)):=blk_alloc J.rd
 have hn:L 5=false:=nf J.cv5 h0
 have hsz:=J.mod.size
 exact ⟨J.hb,J.mod.trans ((Mod.refl b w).alloc _),by rw [up_other L (by decide)];exact hkb,ui J.cm3,ui J.cm5,ui J.cm8,ui J.cm10,ui J.cm12,ui J.cm14,ui J.cm16,ui J.cm18,ui J.cm21,ui J.cm24,ui J.cv3,ui J.cv5,fun h=>(J.a2 (ud h)).keep hk,fun _=>⟨w.heap.size,rfl,hsz,blk_new _ _⟩,fun h=>by obtain ⟨m,es,c,h3,h4,h5,h6⟩:=J.mp (ud h);exact ⟨m,es,c,h3,h4,hkm m _ _ h5,h6.congr (fun x=>by rw [fT_up 4 (by decide)];unfold fT;simp only [hn,Bool.false_eq_true,if_false])⟩,fun h=>J.m25u (ud h),fun h=>J.m26 (ud h),fun h=>J.m27 (ud h),ui J.m28⟩
theorem JT.s3 (J:JT t b W mv1 L u29 u30 u31 u43 u44 u45 w) (h0:L 3=false) (h1:L 1=true) (h2:L 2=true):∃ m es c,u29=.map (some m)∧w.heap[m]?=some (.map es c)∧MapIs es (fT b L u30 u31)∧fT b L u30 u31 kTrue=none∧JT t b W mv1 (up L 3) u29 u30 u31 u43 u44 u45 (mapSet w m (.map (es.push ⟨.string (strA kTrue),u30,c⟩) (c+1))):=by
 obtain ⟨m,es,c,h3,h4,h5,h6⟩:=J.mp h1
 have hn:fT b L u30 u31 kTrue=none:=by unfold fT;rw [show whichL testNames kTrue=1 from by decide];simp only [h0];rfl
 have hx:fT b (up L 3) u30 u31 kTrue=some (u30):=by unfold fT;rw [show whichL testNames kTrue=1 from by decide];simp only [up_same];rfl
 have hg:∀ z,z≠kTrue→fT b (up L 3) u30 u31 z=fT b L u30 u31 z:=fun z hz=>by
  have hw:whichL testNames z≠1:=fun e=>hz (by have:=whichL_get testNames z 0 e;simpa [testNames] using this.symm)
  unfold fT
  split <;> first | (rename_i e;exact absurd e hw) | simp only [up_other L (by decide)] | rfl
 have hmb:m≠b:=by have:=J.hb;omega
 have hk:∀ k cs ty,W.heap.size≤k→w.heap[k]?=some (.cells cs ty)→(mapSet w m (.map (es.push ⟨.string (strA kTrue),u30,c⟩) (c+1))).heap[k]?=some (.cells cs ty):=fun k cs ty _ h=>by
  rw [mapSet_other (fun e=>by rw [e,h5] at h;cases h)];exact h
 have hkb:(mapSet w m (.map (es.push ⟨.string (strA kTrue),u30,c⟩) (c+1))).heap[b]?=some (rdObj t mv1 (if L 28 then u43 else Value.map none)):=by rw [mapSet_other (Ne.symm hmb)];exact J.rd
 refine ⟨m,es,c,h3,h5,h6,hn,?_⟩
 exact ⟨J.hb,mod_mapSet J.mod h4,by rw [up_other L (by decide)];exact hkb,fun _=>up_old _ h1,ui J.cm5,ui J.cm8,ui J.cm10,ui J.cm12,ui J.cm14,ui J.cm16,ui J.cm18,ui J.cm21,ui J.cm24,fun _=>up_old _ h2,ui J.cv5,fun h=>(J.a2 (ud h)).keep hk,fun h=>(J.a4 (ud h)).keep hk,fun _=>⟨m,_,_,h3,h4,mapSet_same h5,h6.push hn hx hg⟩,fun h=>J.m25u (ud h),fun h=>J.m26 (ud h),fun h=>J.m27 (ud h),ui J.m28⟩
theorem JT.s5 (J:JT t b W mv1 L u29 u30 u31 u43 u44 u45 w) (h0:L 5=false) (h1:L 1=true) (h2:L 4=true):∃ m es c,u29=.map (some m)∧w.heap[m]?=some (.map es c)∧MapIs es (fT b L u30 u31)∧fT b L u30 u31 kFalse=none∧JT t b W mv1 (up L 5) u29 u30 u31 u43 u44 u45 (mapSet w m (.map (es.push ⟨.string (strA kFalse),u31,c⟩) (c+1))):=by
 obtain ⟨m,es,c,h3,h4,h5,h6⟩:=J.mp h1
 have hn:fT b L u30 u31 kFalse=none:=by unfold fT;rw [show whichL testNames kFalse=2 from by decide];simp only [h0];rfl
 have hx:fT b (up L 5) u30 u31 kFalse=some (u31):=by unfold fT;rw [show whichL testNames kFalse=2 from by decide];simp only [up_same];rfl
 have hg:∀ z,z≠kFalse→fT b (up L 5) u30 u31 z=fT b L u30 u31 z:=fun z hz=>by
  have hw:whichL testNames z≠2:=fun e=>hz (by have:=whichL_get testNames z 1 e;simpa [testNames] using this.symm)
  unfold fT
  split <;> first | (rename_i e;exact absurd e hw) | simp only [up_other L (by decide)] | rfl
 have hmb:m≠b:=by have:=J.hb;omega
 have hk:∀ k cs ty,W.heap.size≤k→w.heap[k]?=some (.cells cs ty)→(mapSet w m (.map (es.push ⟨.string (strA kFalse),u31,c⟩) (c+1))).heap[k]?=some (.cells cs ty):=fun k cs ty _ h=>by
  rw [mapSet_other (fun e=>by rw [e,h5] at h;cases h)];exact h
 have hkb:(mapSet w m (.map (es.push ⟨.string (strA kFalse),u31,c⟩) (c+1))).heap[b]?=some (rdObj t mv1 (if L 28 then u43 else Value.map none)):=by rw [mapSet_other (Ne.symm hmb)];exact J.rd
 refine ⟨m,es,c,h3,h5,h6,hn,?_⟩
 exact ⟨J.hb,mod_mapSet J.mod h4,by rw [up_other L (by decide)];exact hkb,ui J.cm3,fun _=>up_old _ h1,ui J.cm8,ui J.cm10,ui J.cm12,ui J.cm14,ui J.cm16,ui J.cm18,ui J.cm21,ui J.cm24,ui J.cv3,fun _=>up_old _ h2,fun h=>(J.a2 (ud h)).keep hk,fun h=>(J.a4 (ud h)).keep hk,fun _=>⟨m,_,_,h3,h4,mapSet_same h5,h6.push hn hx hg⟩,fun h=>J.m25u (ud h),fun h=>J.m26 (ud h),fun h=>J.m27 (ud h),ui J.m28⟩
theorem JT.s8 (J:JT t b W mv1 L u29 u30 u31 u43 u44 u45 w) (h0:L 8=false) (h1:L 1=true):∃ m es c,u29=.map (some m)∧w.heap[m]?=some (.map es c)∧MapIs es (fT b L u30 u31)∧fT b L u30 u31 kNot=none∧JT t b W mv1 (up L 8) u29 u30 u31 u43 u44 u45 (mapSet w m (.map (es.push ⟨.string (strA kNot),.func (.func 128) #[.pointer (some ⟨b,0,none⟩)] #[],c⟩) (c+1))):=by
 obtain ⟨m,es,c,h3,h4,h5,h6⟩:=J.mp h1
 have hn:fT b L u30 u31 kNot=none:=by unfold fT;rw [show whichL testNames kNot=3 from by decide];simp only [h0];rfl
 have hx:fT b (up L 8) u30 u31 kNot=some (.func (.func 128) #[.pointer (some ⟨b,0,none⟩)] #[]):=by unfold fT;rw [show whichL testNames kNot=3 from by decide];simp only [up_same];rfl
 have hg:∀ z,z≠kNot→fT b (up L 8) u30 u31 z=fT b L u30 u31 z:=fun z hz=>by
  have hw:whichL testNames z≠3:=fun e=>hz (by have:=whichL_get testNames z 2 e;simpa [testNames] using this.symm)
  unfold fT
  split <;> first | (rename_i e;exact absurd e hw) | simp only [up_other L (by decide)] | rfl
 have hmb:m≠b:=by have:=J.hb;omega
 have hk:∀ k cs ty,W.heap.size≤k→w.heap[k]?=some (.cells cs ty)→(mapSet w m (.map (es.push ⟨.string (strA kNot),.func (.func 128) #[.pointer (some ⟨b,0,none⟩)] #[],c⟩) (c+1))).heap[k]?=some (.cells cs ty):=fun k cs ty _ h=>by
  rw [mapSet_other (fun e=>by rw [e,h5] at h;cases h)];exact h
 have hkb:(mapSet w m (.map (es.push ⟨.string (strA kNot),.func (.func 128) #[.pointer (some ⟨b,0,none⟩)] #[],c⟩) (c+1))).heap[b]?=some (rdObj t mv1 (if L 28 then u43 else Value.map none)):=by rw [mapSet_other (Ne.symm hmb)];exact J.rd
 refine ⟨m,es,c,h3,h5,h6,hn,?_⟩
 exact ⟨J.hb,mod_mapSet J.mod h4,by rw [up_other L (by decide)];exact hkb,ui J.cm3,ui J.cm5,fun _=>up_old _ h1,ui J.cm10,ui J.cm12,ui J.cm14,ui J.cm16,ui J.cm18,ui J.cm21,ui J.cm24,ui J.cv3,ui J.cv5,fun h=>(J.a2 (ud h)).keep hk,fun h=>(J.a4 (ud h)).keep hk,fun _=>⟨m,_,_,h3,h4,mapSet_same h5,h6.push hn hx hg⟩,fun h=>J.m25u (ud h),fun h=>J.m26 (ud h),fun h=>J.m27 (ud h),ui J.m28⟩
theorem JT.s10 (J:JT t b W mv1 L u29 u30 u31 u43 u44 u45 w) (h0:L 10=false) (h1:L 1=true):∃ m es c,u29=.map (some m)∧w.heap[m]?=some (.map es c)∧MapIs es (fT b L u30 u31)∧fT b L u30 u31 kAllof=none∧JT t b W mv1 (up L 10) u29 u30 u31 u43 u44 u45 (mapSet w m (.map (es.push ⟨.string (strA kAllof),.func (.func 129) #[] #[.pointer (some ⟨b+1,0,none⟩)],c⟩) (c+1))):=by
 obtain ⟨m,es,c,h3,h4,h5,h6⟩:=J.mp h1
 have hn:fT b L u30 u31 kAllof=none:=by unfold fT;rw [show whichL testNames kAllof=4 from by decide];simp only [h0];rfl
 have hx:fT b (up L 10) u30 u31 kAllof=some (.func (.func 129) #[] #[.pointer (some ⟨b+1,0,none⟩)]):=by unfold fT;rw [show whichL testNames kAllof=4 from by decide];simp only [up_same];rfl
 have hg:∀ z,z≠kAllof→fT b (up L 10) u30 u31 z=fT b L u30 u31 z:=fun z hz=>by
  have hw:whichL testNames z≠4:=fun e=>hz (by have:=whichL_get testNames z 3 e;simpa [testNames] using this.symm)
  unfold fT
  split <;> first | (rename_i e;exact absurd e hw) | simp only [up_other L (by decide)] | rfl
 have hmb:m≠b:=by have:=J.hb;omega
 have hk:∀ k cs ty,W.heap.size≤k→w.heap[k]?=some (.cells cs ty)→(mapSet w m (.map (es.push ⟨.string (strA kAllof),.func (.func 129) #[] #[.pointer (some ⟨b+1,0,none⟩)],c⟩) (c+1))).heap[k]?=some (.cells cs ty):=fun k cs ty _ h=>by
  rw [mapSet_other (fun e=>by rw [e,h5] at h;cases h)];exact h
 have hkb:(mapSet w m (.map (es.push ⟨.string (strA kAllof),.func (.func 129) #[] #[.pointer (some ⟨b+1,0,none⟩)],c⟩) (c+1))).heap[b]?=some (rdObj t mv1 (if L 28 then u43 else Value.map none)):=by rw [mapSet_other (Ne.symm hmb)];exact J.rd
 refine ⟨m,es,c,h3,h5,h6,hn,?_⟩
 exact ⟨J.hb,mod_mapSet J.mod h4,by rw [up_other L (by decide)];exact hkb,ui J.cm3,ui J.cm5,ui J.cm8,fun _=>up_old _ h1,ui J.cm12,ui J.cm14,ui J.cm16,ui J.cm18,ui J.cm21,ui J.cm24,ui J.cv3,ui J.cv5,fun h=>(J.a2 (ud h)).keep hk,fun h=>(J.a4 (ud h)).keep hk,fun _=>⟨m,_,_,h3,h4,mapSet_same h5,h6.push hn hx hg⟩,fun h=>J.m25u (ud h),fun h=>J.m26 (ud h),fun h=>J.m27 (ud h),ui J.m28⟩
theorem JT.s12 (J:JT t b W mv1 L u29 u30 u31 u43 u44 u45 w) (h0:L 12=false) (h1:L 1=true):∃ m es c,u29=.map (some m)∧w.heap[m]?=some (.map es c)∧MapIs es (fT b L u30 u31)∧fT b L u30 u31 kAnyof=none∧JT t b W mv1 (up L 12) u29 u30 u31 u43 u44 u45 (mapSet w m (.map (es.push ⟨.string (strA kAnyof),.func (.func 131) #[] #[.pointer (some ⟨b+1,0,none⟩)],c⟩) (c+1))):=by
 obtain ⟨m,es,c,h3,h4,h5,h6⟩:=J.mp h1
 have hn:fT b L u30 u31 kAnyof=none:=by unfold fT;rw [show whichL testNames kAnyof=5 from by decide];simp only [h0];rfl
 have hx:fT b (up L 12) u30 u31 kAnyof=some (.func (.func 131) #[] #[.pointer (some ⟨b+1,0,none⟩)]):=by unfold fT;rw [show whichL testNames kAnyof=5 from by decide];simp only [up_same];rfl
 have hg:∀ z,z≠kAnyof→fT b (up L 12) u30 u31 z=fT b L u30 u31 z:=fun z hz=>by
  have hw:whichL testNames z≠5:=fun e=>hz (by have:=whichL_get testNames z 4 e;simpa [testNames] using this.symm)
  unfold fT
  split <;> first | (rename_i e;exact absurd e hw) | simp only [up_other L (by decide)] | rfl
 have hmb:m≠b:=by have:=J.hb;omega
 have hk:∀ k cs ty,W.heap.size≤k→w.heap[k]?=some (.cells cs ty)→(mapSet w m (.map (es.push ⟨.string (strA kAnyof),.func (.func 131) #[] #[.pointer (some ⟨b+1,0,none⟩)],c⟩) (c+1))).heap[k]?=some (.cells cs ty):=fun k cs ty _ h=>by
  rw [mapSet_other (fun e=>by rw [e,h5] at h;cases h)];exact h
 have hkb:(mapSet w m (.map (es.push ⟨.string (strA kAnyof),.func (.func 131) #[] #[.pointer (some ⟨b+1,0,none⟩)],c⟩) (c+1))).heap[b]?=some (rdObj t mv1 (if L 28 then u43 else Value.map none)):=by rw [mapSet_other (Ne.symm hmb)];exact J.rd
 refine ⟨m,es,c,h3,h5,h6,hn,?_⟩
 exact ⟨J.hb,mod_mapSet J.mod h4,by rw [up_other L (by decide)];exact hkb,ui J.cm3,ui J.cm5,ui J.cm8,ui J.cm10,fun _=>up_old _ h1,ui J.cm14,ui J.cm16,ui J.cm18,ui J.cm21,ui J.cm24,ui J.cv3,ui J.cv5,fun h=>(J.a2 (ud h)).keep hk,fun h=>(J.a4 (ud h)).keep hk,fun _=>⟨m,_,_,h3,h4,mapSet_same h5,h6.push hn hx hg⟩,fun h=>J.m25u (ud h),fun h=>J.m26 (ud h),fun h=>J.m27 (ud h),ui J.m28⟩
theorem JT.s14 (J:JT t b W mv1 L u29 u30 u31 u43 u44 u45 w) (h0:L 14=false) (h1:L 1=true):∃ m es c,u29=.map (some m)∧w.heap[m]?=some (.map es c)∧MapIs es (fT b L u30 u31)∧fT b L u30 u31 kHeader=none∧JT t b W mv1 (up L 14) u29 u30 u31 u43 u44 u45 (mapSet w m (.map (es.push ⟨.string (strA kHeader),.func (.func 132) #[] #[.pointer (some ⟨b+1,0,none⟩)],c⟩) (c+1))):=by
 obtain ⟨m,es,c,h3,h4,h5,h6⟩:=J.mp h1
 have hn:fT b L u30 u31 kHeader=none:=by unfold fT;rw [show whichL testNames kHeader=6 from by decide];simp only [h0];rfl
 have hx:fT b (up L 14) u30 u31 kHeader=some (.func (.func 132) #[] #[.pointer (some ⟨b+1,0,none⟩)]):=by unfold fT;rw [show whichL testNames kHeader=6 from by decide];simp only [up_same];rfl
 have hg:∀ z,z≠kHeader→fT b (up L 14) u30 u31 z=fT b L u30 u31 z:=fun z hz=>by
  have hw:whichL testNames z≠6:=fun e=>hz (by have:=whichL_get testNames z 5 e;simpa [testNames] using this.symm)
  unfold fT
  split <;> first | (rename_i e;exact absurd e hw) | simp only [up_other L (by decide)] | rfl
 have hmb:m≠b:=by have:=J.hb;omega
 have hk:∀ k cs ty,W.heap.size≤k→w.heap[k]?=some (.cells cs ty)→(mapSet w m (.map (es.push ⟨.string (strA kHeader),.func (.func 132) #[] #[.pointer (some ⟨b+1,0,none⟩)],c⟩) (c+1))).heap[k]?=some (.cells cs ty):=fun k cs ty _ h=>by
  rw [mapSet_other (fun e=>by rw [e,h5] at h;cases h)];exact h
 have hkb:(mapSet w m (.map (es.push ⟨.string (strA kHeader),.func (.func 132) #[] #[.pointer (some ⟨b+1,0,none⟩)],c⟩) (c+1))).heap[b]?=some (rdObj t mv1 (if L 28 then u43 else Value.map none)):=by rw [mapSet_other (Ne.symm hmb)];exact J.rd
 refine ⟨m,es,c,h3,h5,h6,hn,?_⟩
 exact ⟨J.hb,mod_mapSet J.mod h4,by rw [up_other L (by decide)];exact hkb,ui J.cm3,ui J.cm5,ui J.cm8,ui J.cm10,ui J.cm12,fun _=>up_old _ h1,ui J.cm16,ui J.cm18,ui J.cm21,ui J.cm24,ui J.cv3,ui J.cv5,fun h=>(J.a2 (ud h)).keep hk,fun h=>(J.a4 (ud h)).keep hk,fun _=>⟨m,_,_,h3,h4,mapSet_same h5,h6.push hn hx hg⟩,fun h=>J.m25u (ud h),fun h=>J.m26 (ud h),fun h=>J.m27 (ud h),ui J.m28⟩
theorem JT.s16 (J:JT t b W mv1 L u29 u30 u31 u43 u44 u45 w) (h0:L 16=false) (h1:L 1=true):∃ m es c,u29=.map (some m)∧w.heap[m]?=some (.map es c)∧MapIs es (fT b L u30 u31)∧fT b L u30 u31 kEnvelope=none∧JT t b W mv1 (up L 16) u29 u30 u31 u43 u44 u45 (mapSet w m (.map (es.push ⟨.string (strA kEnvelope),.func (.func 135) #[] #[.pointer (some ⟨b+1,0,none⟩)],c⟩) (c+1))):=by
 obtain ⟨m,es,c,h3,h4,h5,h6⟩:=J.mp h1
 have hn:fT b L u30 u31 kEnvelope=none:=by unfold fT;rw [show whichL testNames kEnvelope=7 from by decide];simp only [h0];rfl
 have hx:fT b (up L 16) u30 u31 kEnvelope=some (.func (.func 135) #[] #[.pointer (some ⟨b+1,0,none⟩)]):=by unfold fT;rw [show whichL testNames kEnvelope=7 from by decide];simp only [up_same];rfl
 have hg:∀ z,z≠kEnvelope→fT b (up L 16) u30 u31 z=fT b L u30 u31 z:=fun z hz=>by
  have hw:whichL testNames z≠7:=fun e=>hz (by have:=whichL_get testNames z 6 e;simpa [testNames] using this.symm)
  unfold fT
  split <;> first | (rename_i e;exact absurd e hw) | simp only [up_other L (by decide)] | rfl
 have hmb:m≠b:=by have:=J.hb;omega
 have hk:∀ k cs ty,W.heap.size≤k→w.heap[k]?=some (.cells cs ty)→(mapSet w m (.map (es.push ⟨.string (strA kEnvelope),.func (.func 135) #[] #[.pointer (some ⟨b+1,0,none⟩)],c⟩) (c+1))).heap[k]?=some (.cells cs ty):=fun k cs ty _ h=>by
  rw [mapSet_other (fun e=>by rw [e,h5] at h;cases h)];exact h
 have hkb:(mapSet w m (.map (es.push ⟨.string (strA kEnvelope),.func (.func 135) #[] #[.pointer (some ⟨b+1,0,none⟩)],c⟩) (c+1))).heap[b]?=some (rdObj t mv1 (if L 28 then u43 else Value.map none)):=by rw [mapSet_other (Ne.symm hmb)];exact J.rd
 refine ⟨m,es,c,h3,h5,h6,hn,?_⟩
 exact ⟨J.hb,mod_mapSet J.mod h4,by rw [up_other L (by decide)];exact hkb,ui J.cm3,ui J.cm5,ui J.cm8,ui J.cm10,ui J.cm12,ui J.cm14,fun _=>up_old _ h1,ui J.cm18,ui J.cm21,ui J.cm24,ui J.cv3,ui J.cv5,fun h=>(J.a2 (ud h)).keep hk,fun h=>(J.a4 (ud h)).keep hk,fun _=>⟨m,_,_,h3,h4,mapSet_same h5,h6.push hn hx hg⟩,fun h=>J.m25u (ud h),fun h=>J.m26 (ud h),fun h=>J.m27 (ud h),ui J.m28⟩
theorem JT.s18 (J:JT t b W mv1 L u29 u30 u31 u43 u44 u45 w) (h0:L 18=false) (h1:L 1=true):∃ m es c,u29=.map (some m)∧w.heap[m]?=some (.map es c)∧MapIs es (fT b L u30 u31)∧fT b L u30 u31 kString=none∧JT t b W mv1 (up L 18) u29 u30 u31 u43 u44 u45 (mapSet w m (.map (es.push ⟨.string (strA kString),.func (.func 138) #[] #[.pointer (some ⟨b+1,0,none⟩)],c⟩) (c+1))):=by
 obtain ⟨m,es,c,h3,h4,h5,h6⟩:=J.mp h1
 have hn:fT b L u30 u31 kString=none:=by unfold fT;rw [show whichL testNames kString=8 from by decide];simp only [h0];rfl
 have hx:fT b (up L 18) u30 u31 kString=some (.func (.func 138) #[] #[.pointer (some ⟨b+1,0,none⟩)]):=by unfold fT;rw [show whichL testNames kString=8 from by decide];simp only [up_same];rfl
 have hg:∀ z,z≠kString→fT b (up L 18) u30 u31 z=fT b L u30 u31 z:=fun z hz=>by
  have hw:whichL testNames z≠8:=fun e=>hz (by have:=whichL_get testNames z 7 e;simpa [testNames] using this.symm)
  unfold fT
  split <;> first | (rename_i e;exact absurd e hw) | simp only [up_other L (by decide)] | rfl
 have hmb:m≠b:=by have:=J.hb;omega
 have hk:∀ k cs ty,W.heap.size≤k→w.heap[k]?=some (.cells cs ty)→(mapSet w m (.map (es.push ⟨.string (strA kString),.func (.func 138) #[] #[.pointer (some ⟨b+1,0,none⟩)],c⟩) (c+1))).heap[k]?=some (.cells cs ty):=fun k cs ty _ h=>by
  rw [mapSet_other (fun e=>by rw [e,h5] at h;cases h)];exact h
 have hkb:(mapSet w m (.map (es.push ⟨.string (strA kString),.func (.func 138) #[] #[.pointer (some ⟨b+1,0,none⟩)],c⟩) (c+1))).heap[b]?=some (rdObj t mv1 (if L 28 then u43 else Value.map none)):=by rw [mapSet_other (Ne.symm hmb)];exact J.rd
 refine ⟨m,es,c,h3,h5,h6,hn,?_⟩
 exact ⟨J.hb,mod_mapSet J.mod h4,by rw [up_other L (by decide)];exact hkb,ui J.cm3,ui J.cm5,ui J.cm8,ui J.cm10,ui J.cm12,ui J.cm14,ui J.cm16,fun _=>up_old _ h1,ui J.cm21,ui J.cm24,ui J.cv3,ui J.cv5,fun h=>(J.a2 (ud h)).keep hk,fun h=>(J.a4 (ud h)).keep hk,fun _=>⟨m,_,_,h3,h4,mapSet_same h5,h6.push hn hx hg⟩,fun h=>J.m25u (ud h),fun h=>J.m26 (ud h),fun h=>J.m27 (ud h),ui J.m28⟩
theorem JT.s21 (J:JT t b W mv1 L u29 u30 u31 u43 u44 u45 w) (h0:L 21=false) (h1:L 1=true):∃ m es c,u29=.map (some m)∧w.heap[m]?=some (.map es c)∧MapIs es (fT b L u30 u31)∧fT b L u30 u31 kExists=none∧JT t b W mv1 (up L 21) u29 u30 u31 u43 u44 u45 (mapSet w m (.map (es.push ⟨.string (strA kExists),.func (.func 139) #[.pointer (some ⟨b,0,none⟩)] #[],c⟩) (c+1))):=by
 obtain ⟨m,es,c,h3,h4,h5,h6⟩:=J.mp h1
 have hn:fT b L u30 u31 kExists=none:=by unfold fT;rw [show whichL testNames kExists=9 from by decide];simp only [h0];rfl
 have hx:fT b (up L 21) u30 u31 kExists=some (.func (.func 139) #[.pointer (some ⟨b,0,none⟩)] #[]):=by unfold fT;rw [show whichL testNames kExists=9 from by decide];simp only [up_same];rfl
 have hg:∀ z,z≠kExists→fT b (up L 21) u30 u31 z=fT b L u30 u31 z:=fun z hz=>by
  have hw:whichL testNames z≠9:=fun e=>hz (by have:=whichL_get testNames z 8 e;simpa [testNames] using this.symm)
  unfold fT
  split <;> first | (rename_i e;exact absurd e hw) | simp only [up_other L (by decide)] | rfl
 have hmb:m≠b:=by have:=J.hb;omega
 have hk:∀ k cs ty,W.heap.size≤k→w.heap[k]?=some (.cells cs ty)→(mapSet w m (.map (es.push ⟨.string (strA kExists),.func (.func 139) #[.pointer (some ⟨b,0,none⟩)] #[],c⟩) (c+1))).heap[k]?=some (.cells cs ty):=fun k cs ty _ h=>by
  rw [mapSet_other (fun e=>by rw [e,h5] at h;cases h)];exact h
 have hkb:(mapSet w m (.map (es.push ⟨.string (strA kExists),.func (.func 139) #[.pointer (some ⟨b,0,none⟩)] #[],c⟩) (c+1))).heap[b]?=some (rdObj t mv1 (if L 28 then u43 else Value.map none)):=by rw [mapSet_other (Ne.symm hmb)];exact J.rd
 refine ⟨m,es,c,h3,h5,h6,hn,?_⟩
 exact ⟨J.hb,mod_mapSet J.mod h4,by rw [up_other L (by decide)];exact hkb,ui J.cm3,ui J.cm5,ui J.cm8,ui J.cm10,ui J.cm12,ui J.cm14,ui J.cm16,ui J.cm18,fun _=>up_old _ h1,ui J.cm24,ui J.cv3,ui J.cv5,fun h=>(J.a2 (ud h)).keep hk,fun h=>(J.a4 (ud h)).keep hk,fun _=>⟨m,_,_,h3,h4,mapSet_same h5,h6.push hn hx hg⟩,fun h=>J.m25u (ud h),fun h=>J.m26 (ud h),fun h=>J.m27 (ud h),ui J.m28⟩
theorem JT.s24 (J:JT t b W mv1 L u29 u30 u31 u43 u44 u45 w) (h0:L 24=false) (h1:L 1=true):∃ m es c,u29=.map (some m)∧w.heap[m]?=some (.map es c)∧MapIs es (fT b L u30 u31)∧fT b L u30 u31 kSize=none∧JT t b W mv1 (up L 24) u29 u30 u31 u43 u44 u45 (mapSet w m (.map (es.push ⟨.string (strA kSize),.func (.func 140) #[.pointer (some ⟨b,0,none⟩)] #[],c⟩) (c+1))):=by
 obtain ⟨m,es,c,h3,h4,h5,h6⟩:=J.mp h1
 have hn:fT b L u30 u31 kSize=none:=by unfold fT;rw [show whichL testNames kSize=10 from by decide];simp only [h0];rfl
 have hx:fT b (up L 24) u30 u31 kSize=some (.func (.func 140) #[.pointer (some ⟨b,0,none⟩)] #[]):=by unfold fT;rw [show whichL testNames kSize=10 from by decide];simp only [up_same];rfl
 have hg:∀ z,z≠kSize→fT b (up L 24) u30 u31 z=fT b L u30 u31 z:=fun z hz=>by
  have hw:whichL testNames z≠10:=fun e=>hz (by have:=whichL_get testNames z 9 e;simpa [testNames] using this.symm)
  unfold fT
  split <;> first | (rename_i e;exact absurd e hw) | simp only [up_other L (by decide)] | rfl
 have hmb:m≠b:=by have:=J.hb;omega
 have hk:∀ k cs ty,W.heap.size≤k→w.heap[k]?=some (.cells cs ty)→(mapSet w m (.map (es.push ⟨.string (strA kSize),.func (.func 140) #[.pointer (some ⟨b,0,none⟩)] #[],c⟩) (c+1))).heap[k]?=some (.cells cs ty):=fun k cs ty _ h=>by
  rw [mapSet_other (fun e=>by rw [e,h5] at h;cases h)];exact h
 have hkb:(mapSet w m (.map (es.push ⟨.string (strA kSize),.func (.func 140) #[.pointer (some ⟨b,0,none⟩)] #[],c⟩) (c+1))).heap[b]?=some (rdObj t mv1 (if L 28 then u43 else Value.map none)):=by rw [mapSet_other (Ne.symm hmb)];exact J.rd
 refine ⟨m,es,c,h3,h5,h6,hn,?_⟩
 exact ⟨J.hb,mod_mapSet J.mod h4,by rw [up_other L (by decide)];exact hkb,ui J.cm3,ui J.cm5,ui J.cm8,ui J.cm10,ui J.cm12,ui J.cm14,ui J.cm16,ui J.cm18,ui J.cm21,fun _=>up_old _ h1,ui J.cv3,ui J.cv5,fun h=>(J.a2 (ud h)).keep hk,fun h=>(J.a4 (ud h)).keep hk,fun _=>⟨m,_,_,h3,h4,mapSet_same h5,h6.push hn hx hg⟩,fun h=>J.m25u (ud h),fun h=>J.m26 (ud h),fun h=>J.m27 (ud h),ui J.m28⟩
theorem JT.s25 (J:JT t b W mv1 L u29 u30 u31 u43 u44 u45 w) (h0:L 25=false) (h1:L 1=true) (hi3:L 3=true) (hi5:L 5=true) (hi8:L 8=true) (hi10:L 10=true) (hi12:L 12=true) (hi14:L 14=true) (hi16:L 16=true) (hi18:L 18=true) (hi21:L 21=true) (hi24:L 24=true):JT t b W mv1 (up L 25) u29 u30 u31 u29 u44 u45 w:=by
 have n28:L 28=false:=nf J.m28 h0
 have hk:∀ k cs ty,W.heap.size≤k→w.heap[k]?=some (.cells cs ty)→w.heap[k]?=some (.cells cs ty):=fun k cs ty _ h=>h
 have hkm:∀ (m:Nat) (es:Array MapEntry) (c:Nat),w.heap[m]?=some (Obj.map es c)→w.heap[m]?=some (Obj.map es c):=fun m es c h=>h
 exact ⟨J.hb,J.mod,by have:=J.rd;rw [n28] at this;rw [up_other L (by decide),n28];exact this,ui J.cm3,ui J.cm5,ui J.cm8,ui J.cm10,ui J.cm12,ui J.cm14,ui J.cm16,ui J.cm18,ui J.cm21,ui J.cm24,ui J.cv3,ui J.cv5,fun h=>(J.a2 (ud h)).keep hk,fun h=>(J.a4 (ud h)).keep hk,fun h=>by obtain ⟨m,es,c,h3,h4,h5,h6⟩:=J.mp (ud h);exact ⟨m,es,c,h3,h4,hkm m _ _ h5,h6.congr (fun x=>(fT_up 25 (by decide) x).symm)⟩,fun _=>⟨rfl,up_old _ h1,up_old _ hi3,up_old _ hi5,up_old _ hi8,up_old _ hi10,up_old _ hi12,up_old _ hi14,up_old _ hi16,up_old _ hi18,up_old _ hi21,up_old _ hi24⟩,fun h=>J.m26 (ud h),fun h=>J.m27 (ud h),ui J.m28⟩
theorem JT.s26 (J:JT t b W mv1 L u29 u30 u31 u43 u44 u45 w) (h0:L 26=false):JT t b W mv1 (up L 26) u29 u30 u31 u43 (.pointer (some ⟨b,0,none⟩)) u45 w:=by
 have hk:∀ k cs ty,W.heap.size≤k→w.heap[k]?=some (.cells cs ty)→w.heap[k]?=some (.cells cs ty):=fun k cs ty _ h=>h
 have hkm:∀ (m:Nat) (es:Array MapEntry) (c:Nat),w.heap[m]?=some (Obj.map es c)→w.heap[m]?=some (Obj.map es c):=fun m es c h=>h
 exact ⟨J.hb,J.mod,by rw [up_other L (by decide)];exact J.rd,ui J.cm3,ui J.cm5,ui J.cm8,ui J.cm10,ui J.cm12,ui J.cm14,ui J.cm16,ui J.cm18,ui J.cm21,ui J.cm24,ui J.cv3,ui J.cv5,fun h=>(J.a2 (ud h)).keep hk,fun h=>(J.a4 (ud h)).keep hk,fun h=>by obtain ⟨m,es,c,h3,h4,h5,h6⟩:=J.mp (ud h);exact ⟨m,es,c,h3,h4,hkm m _ _ h5,h6.congr (fun x=>(fT_up 26 (by decide) x).symm)⟩,fun h=>J.m25u (ud h),fun _=>rfl,fun h=>J.m27 (ud h),ui J.m28⟩
theorem JT.s27 (J:JT t b W mv1 L u29 u30 u31 u43 u44 u45 w) (h0:L 27=false):JT t b W mv1 (up L 27) u29 u30 u31 u43 u44 (.pointer (some ⟨b,9,none⟩)) w:=by
 have hk:∀ k cs ty,W.heap.size≤k→w.heap[k]?=some (.cells cs ty)→w.heap[k]?=some (.cells cs ty):=fun k cs ty _ h=>h
 have hkm:∀ (m:Nat) (es:Array MapEntry) (c:Nat),w.heap[m]?=some (Obj.map es c)→w.heap[m]?=some (Obj.map es c):=fun m es c h=>h
 exact ⟨J.hb,J.mod,by rw [up_other L (by decide)];exact J.rd,ui J.cm3,ui J.cm5,ui J.cm8,ui J.cm10,ui J.cm12,ui J.cm14,ui J.cm16,ui J.cm18,ui J.cm21,ui J.cm24,ui J.cv3,ui J.cv5,fun h=>(J.a2 (ud h)).keep hk,fun h=>(J.a4 (ud h)).keep hk,fun h=>by obtain ⟨m,es,c,h3,h4,h5,h6⟩:=J.mp (ud h);exact ⟨m,es,c,h3,h4,hkm m _ _ h5,h6.congr (fun x=>(fT_up 27 (by decide) x).symm)⟩,fun h=>J.m25u (ud h),fun h=>J.m26 (ud h),fun _=>rfl,ui J.m28⟩
theorem JT.s28 (J:JT t b W mv1 L u29 u30 u31 u43 u44 u45 w) (h0:L 28=false) (h25:L 25=true):JT t b W mv1 (up L 28) u29 u30 u31 u43 u44 u45 (w.setCell ⟨b,9,none⟩ u43):=by
 have hb:=J.hb
 have hk:∀ k cs ty,W.heap.size≤k→w.heap[k]?=some (.cells cs ty)→(w.setCell ⟨b,9,none⟩ u43).heap[k]?=some (.cells cs ty):=fun k cs ty hk h=>by rw [Below.heap_setCell _ _ _ _ (show k≠b by omega)];exact h
 have hkm:∀ (m:Nat) (es:Array MapEntry) (c:Nat),w.heap[m]?=some (Obj.map es c)→(w.setCell ⟨b,9,none⟩ u43).heap[m]?=some (Obj.map es c):=fun m es c h=>by
  have hr:=J.rd
  rw [Below.heap_setCell _ _ _ _ (show m≠b from fun e=>by rw [e,hr] at h;cases h)];exact h
 exact ⟨J.hb,J.mod.setCell 9 u43,by rw [up_same];exact heap_setCell_at _ _ _ _ _ _ J.rd,ui J.cm3,ui J.cm5,ui J.cm8,ui J.cm10,ui J.cm12,ui J.cm14,ui J.cm16,ui J.cm18,ui J.cm21,ui J.cm24,ui J.cv3,ui J.cv5,fun h=>(J.a2 (ud h)).keep hk,fun h=>(J.a4 (ud h)).keep hk,fun h=>by obtain ⟨m,es,c,h3,h4,h5,h6⟩:=J.mp (ud h);exact ⟨m,es,c,h3,h4,hkm m _ _ h5,h6.congr (fun x=>(fT_up 28 (by decide) x).symm)⟩,fun h=>J.m25u (ud h),fun h=>J.m26 (ud h),fun h=>J.m27 (ud h),fun _=>up_old _ h25⟩
theorem JT.done (J:JT t b W mv1 L u29 u30 u31 u43 u44 u45 w) (hall:∀ i,i < 29→L i=true) (hpr:PrAt W (b+1) b):∃ m pt pf,w.heap[b]?=some (rdObj t mv1 (.map (some m)))∧TMap w b m (b+1) pt pf∧Mod b W w∧W.heap.size≤m:=by
 obtain ⟨m,es,c,h3,h4,h5,h6⟩:=J.mp (hall 1 (by decide))
 obtain ⟨pt,e1,hp1,hp1'⟩:=J.a2 (hall 2 (by decide))
 obtain ⟨pf,e2,hp2,hp2'⟩:=J.a4 (hall 4 (by decide))
 have hb:=J.hb
 have hr:=J.rd
 rw [hall 28 (by decide),if_pos rfl,(J.m25 (hall 25 (by decide))).1,h3] at hr
 have hf:MapIs es (testFn b (b+1) pt pf):=h6.congr (fun x=>by
  subst e1 e2
  unfold fT testFn
  simp only [hall 3 (by decide),hall 5 (by decide),hall 8 (by decide),hall 10 (by decide),hall 12 (by decide),hall 14 (by decide),hall 16 (by decide),hall 18 (by decide),hall 21 (by decide),hall 24 (by decide),if_true]
  generalize whichL testNames x=i
  match i with
  | 0 | 1 | 2 | 3 | 4 | 5 | 6 | 7 | 8 | 9 | 10=>rfl
  | n+11=>rfl)
 exact ⟨m,pt,pf,hr,⟨lookOk_of (K:=9) (E:=213) Tryz.underlying208 Tryz.underlying9 zeroFnT h5 hf,hpr.mod J.mod,blk_cell hp1' 0,blk_cell hp2' 0,by omega,by omega,by omega,blk_lt h5⟩,J.mod,h4⟩
end
end
section
open Go.RowKit
attribute [local go_sem ↓] Go.wp_at_zero Go.wp_at_succ
def CmdIH (req:List (List UInt8)) (n:Nat):Prop:=
 ∀ (X:Nat→Prop) (x:CmdT n) (i:List UInt8) (w:World) (v:Value),CmdV n X x w v→allC (WfT req) (WfC req) n x→Tab w→(cmdTxt n x i).length≤4294967200→
  Calls Tryz.prog 99 #[v,.string (strA i)] w fun e w'=>e=.returned (.string (strA (cmdTxt n x i)))∧Below w.heap.size w w'
theorem lines_any {req:List (List UInt8)} {n:Nat} (ih:CmdIH req n) (X:Nat→Prop) (cs:List (CmdT n)) (i:List UInt8) (w:World) (v:Value) (h:blX X (CmdV n) cs w v) (ha:∀ c∈cs,allC (WfT req) (WfC req) n c) (ht:Tab w) (hl:(linesL (cmdTxt n) cs i).length≤4294967200):LTxtOk w v i (linesL (cmdTxt n) cs i):=fun W hW=>by
 rw [linesL_T] at hl ⊢
 rcases h with ⟨rfl,rfl⟩ | ⟨hne,g,c,rfl,hg,hx⟩
 ·exact lines_nil i W
 ·have hlen:(cs.map fun c=>cmdTxt n c i).length=cs.length:=by simp
  rw [← hlen]
  refine lines_some i g c _ W (by simpa using hne) (by omega) (fun j hj=>?_)
  rw [hlen] at hj
  obtain ⟨u,hcu,hvu⟩:=hx j hj
  obtain ⟨ty,y,rfl⟩:=(cmdV_tree n).form _ _ _ _ hvu
  refine ⟨ty,y,by rw [hW.cell (p:=⟨g,j,none⟩) (cell_lt hcu)];exact hcu,?_⟩
  have hmem:cs[j]∈cs:=List.getElem_mem hj
  have hd:(cs.map fun c=>cmdTxt n c i).getD j []=cmdTxt n cs[j] i:=by
   rw [List.getD_eq_getElem?_getD,List.getElem?_map,List.getElem?_eq_getElem hj];rfl
  rw [hd]
  intro W2 hW2
  have hWW:=hW.trans (hW2.mono hW.size)
  exact ih X cs[j] i W2 _ ((cmdV_tree n).keep _ _ _ _ _ hvu (fun k _ hk=>hWW.block k hk)) (ha _ hmem) (ht.below hWW) (Nat.le_trans (linesT_mem i (cs.map fun c=>cmdTxt n c i) _ (List.mem_map_of_mem (f:=fun c=>cmdTxt n c i) hmem)) hl)
theorem cmdText_any (req:List (List UInt8)):∀ n,CmdIH req n
 | 0=>fun X x i w v h ha _ _=>ha.elim
 | n+1=>fun X x i w v h ha ht hlen=>by
  have ih:=cmdText_any req n
  obtain ⟨hw,harms,hels⟩:=ha
  have h:cnode X (TestV n) (CmdV n) x w v:=h
  have hlen:(cmdNode x.1 i (x.2.1.map fun a=>(testTxt n a.1,linesL (cmdTxt n) a.2 (i++[32,32]))) (linesL (cmdTxt n) x.2.2 (i++[32,32]))).length≤4294967200:=hlen
  show Calls Tryz.prog 99 #[v,.string (strA i)] w fun e w'=>e=.returned (.string (strA (cmdNode x.1 i (x.2.1.map fun a=>(testTxt n a.1,linesL (cmdTxt n) a.2 (i++[32,32]))) (linesL (cmdTxt n) x.2.2 (i++[32,32])))))∧Below w.heap.size w w'
  generalize hal:(x.2.1.map fun a=>(testTxt n a.1,linesL (cmdTxt n) a.2 (i++[32,32])))=al at hlen
  generalize heb:linesL (cmdTxt n) x.2.2 (i++[32,32])=eb at hlen
  unfold cnode at h
  split at h
  ·rename_i e
   subst h
   have et:cmdNode x.1 i al eb=kKeep++[59]:=by unfold cmdNode;rw [e];rfl
   rw [et]
   exact cmdText_keep kKeep i [] _ w (by decide)
  ·rename_i e
   subst h
   have et:cmdNode x.1 i al eb=kDiscard++[59]:=by unfold cmdNode;rw [e];rfl
   rw [et]
   exact cmdText_discard kDiscard i _ w (by decide)
  ·rename_i e
   subst h
   have et:cmdNode x.1 i al eb=kStop++[59]:=by unfold cmdNode;rw [e];rfl
   rw [et]
   exact cmdText_stop kStop i _ w (by decide)
  ·rename_i e
   subst h
   have et:cmdNode x.1 i al eb=phraseL [kFileinto,quotedL x.1.arg]++[59]:=by unfold cmdNode;rw [e];rfl
   rw [et] at hlen ⊢
   rw [List.length_append] at hlen
   exact cmdText_act kFileinto i _ _ 2 w (by omega) (by omega) (by omega)
  ·rename_i e
   subst h
   have et:cmdNode x.1 i al eb=phraseL [kRedirect,quotedL x.1.arg]++[59]:=by unfold cmdNode;rw [e];rfl
   rw [et] at hlen ⊢
   rw [List.length_append] at hlen
   exact cmdText_act kRedirect i _ _ 3 w (by omega) (by omega) (by omega)
  ·rename_i e
   subst h
   have et:cmdNode x.1 i al eb=phraseL [kReject,quotedL x.1.arg]++[59]:=by unfold cmdNode;rw [e];rfl
   rw [et] at hlen ⊢
   rw [List.length_append] at hlen
   exact cmdText_act kReject i _ _ 4 w (by omega) (by omega) (by omega)
  ·rename_i e
   subst h
   have et:cmdNode x.1 i al eb=phraseL [kSet,tagTextL x.1.tag [tLower,tUpper,tLength],quotedL x.1.var,quotedL x.1.arg]++[59]:=by unfold cmdNode;rw [e];rfl
   rw [et] at hlen ⊢
   rw [List.length_append] at hlen
   exact cmdText_set kSet i _ _ _ _ w hw.tag (by omega)
  ·rename_i h0 h1 h2 h3 h4 h5 h6
   obtain ⟨av,ev,rfl,hav,hne,hev⟩:=h
   have e:x.1.kind=7:=by
    have a0:x.1.kind≠0:=h0
    have a1:x.1.kind≠1:=h1
    have a2:x.1.kind≠2:=h2
    have a3:x.1.kind≠3:=h3
    have a4:x.1.kind≠4:=h4
    have a5:x.1.kind≠5:=h5
    have a6:x.1.kind≠6:=h6
    have:=hw.kind
    omega
   have et:cmdNode x.1 i al eb=armsTxt i kIf al++(if x.1.els then elseB++eb++i else [])++[125]:=by unfold cmdNode;rw [e];rfl
   rw [et] at hlen ⊢
   obtain ⟨g,c,rfl,hg,hx⟩:=hav
   obtain ⟨ea,en,ec,rfl⟩:=hev.form
   have hall:al.length=x.2.1.length:=by rw [← hal];simp
   have hl1:(armsTxt i kIf al).length≤4294967200:=by rw [List.length_append,List.length_append] at hlen;omega
   rw [← hall]
   refine cmdText_if kIf i _ _ g _ c _ ea en ec w (fun W hW=>?_)
   refine choiceText_any i _ g c x.1.els ea en ec al eb W (by rw [← hal];simpa using hne) (fun j hj=>?_) (fun he=>?_) (by omega)
   ·have hj':j < x.2.1.length:=by rw [← hall];exact hj
    obtain ⟨u,bv,hu,hb,hp,hq⟩:=hx j hj'
    obtain ⟨ty,y,rfl⟩:=(testV_tree n).form _ _ _ _ hp
    obtain ⟨a,m,c',rfl⟩:=hq.form
    have hmem:x.2.1[j]∈x.2.1:=List.getElem_mem hj'
    have hget:al[j]=(testTxt n x.2.1[j].1,linesL (cmdTxt n) x.2.1[j].2 (i++[32,32])):=by
     simp only [← hal,List.getElem_map]
    have hmm:=armsTxt_mem i al kIf al[j] (List.getElem_mem hj)
    rw [hget] at hmm ⊢
    obtain ⟨m1,m2⟩:=hmm
    have hT:=harms _ hmem
    refine ⟨ty,y,a,m,c',by rw [hW.cell (p:=⟨g,2*j,none⟩) (cell_lt hu)];exact hu,by rw [hW.cell (p:=⟨g,2*j+1,none⟩) (cell_lt hb)];exact hb,fun W2 hW2=>?_,?_⟩
    ·have hWW:=hW.trans (hW2.mono hW.size)
     exact testText_any n X _ W2 _ ((testV_tree n).keep _ _ _ _ _ hp (fun k _ hk=>hWW.block k hk)) hT.1 (ht.below hWW) (by dsimp only at m1;omega)
    ·exact (lines_any ih X _ _ w _ hq hT.2 ht (by dsimp only at m2;omega)).below hW
   ·have hl2:eb.length≤4294967200:=by
     rw [he] at hlen
     simp only [if_true,List.length_append] at hlen
     omega
    rw [← heb] at hl2 ⊢
    exact (lines_any ih X _ _ w _ hev hels ht hl2).below hW
theorem treeText_any (y:List (List UInt8)×List (CmdT 7)) (rv lv:Value) (w:World) (X:Nat→Prop) (hr:reqX X y.1 w rv) (hb:blX X (CmdV 7) y.2 w lv) (ht:Tab w) (ha:∀ c∈y.2,allC (WfT y.1) (WfC y.1) 7 c) (hl:(textL y).length≤4294967200) :
 Calls Tryz.prog 39 #[.agg #[rv,lv]] w fun e w'=>e=.returned (.string (strA (textL y)))∧Below w.heap.size w w':=by
 have hln:=lines_any (cmdText_any y.1 7) X y.2 [] w lv hb ha ht (by unfold textL at hl;rw [List.length_append] at hl;omega)
 have HX:Hid (textL y=requireTxt y.1++linesL (cmdTxt 7) y.2 []):=rfl
 have hl':(requireTxt y.1).length+(linesL (cmdTxt 7) y.2 []).length≤4294967200:=by unfold textL at hl;rw [List.length_append] at hl;exact hl
 obtain ⟨la,ln,lc,rfl⟩:=hb.form
 generalize linesL (cmdTxt 7) y.2 []=L at HX hln hl'
 have HLN:=hide hln
 clear hln hb ha
 have hB0:∀ o,Below w.heap.size w (w.alloc o):=fun o=>(Below.refl _ _).alloc (Nat.le_refl _) o
 have HB0:=hide hB0
 have hsA:∀ x:List UInt8,(strA x).size=x.length:=strA_size
 clear hB0
 rcases hr with ⟨h0,rfl⟩ | ⟨gr,cr,rfl,hgr,htr,hnr⟩
 ·have hR:requireTxt y.1=[]:=by unfold requireTxt;rw [if_pos h0]
  rw [hR,List.nil_append] at HX
  have HX':Hid (textL y=L):=HX.out
  clear HX hl
  have q1:¬ 9223372036854775807 < L.length:=by omega
  have hap1:(⟨#[]⟩:ByteArray)++strA L=strA L:=strA_app [] L
  go_enter Tryz.func39,Tryz.ntmps39
  go_wp2_with fail
  refine (HLN.out _ (HB0.out _)).mono ?_
  rintro e w1 ⟨rfl,hB1⟩
  have HB1:=hide ((HB0.out _).trans (hB1.mono (by simp)))
  clear hB1
  go_wp2
  go_ret
  exact ⟨by rw [HX'.out];rfl,HB1.out⟩
 ·have hR:requireTxt y.1=kRequire++[32]++quotesL y.1++[59,10]:=by unfold requireTxt;rw [if_neg hnr]
  have hrl:(requireTxt y.1).length=10+(quotesL y.1).length:=by
   rw [hR];simp only [List.length_append,List.length_cons,List.length_nil,show kRequire.length=7 from rfl];omega
  have hql:(quotesL y.1).length≤4294967280:=by omega
  have hpos:(0:Int) < (y.1.length:Int):=by have:=List.length_pos_iff.2 hnr;omega
  have HTR:Hid (∀ o,TxtAt (w.alloc o) gr y.1):=fun o=>htr.alloc o
  generalize hQ:quotesL y.1=Q at hR hrl hql
  obtain ⟨A,hA⟩:∃ A,kRequire++[32]++Q=A:=⟨_,rfl⟩
  rw [hA] at hR
  have hAl:A.length=8+Q.length:=by rw [← hA];simp only [List.length_append,List.length_cons,List.length_nil,show kRequire.length=7 from rfl]
  generalize requireTxt y.1=R at HX hR hrl hl'
  obtain ⟨Z,hZ⟩:∃ Z,R++L=Z:=⟨_,rfl⟩
  have HX':Hid (textL y=Z):=by rw [← hZ];exact HX.out
  have hap1:(⟨#[114,101,113,117,105,114,101,32]⟩:ByteArray)++strA Q=strA A:=by rw [← hA];exact strA_app (kRequire++[32]) Q
  have hap2:strA A++(⟨#[59,10]⟩:ByteArray)=strA R:=by rw [hR];exact strA_app A [59,10]
  have hap3:strA R++strA L=strA Z:=by rw [← hZ];exact strA_app R L
  have q1:¬ 9223372036854775807 < 8+Q.length:=by omega
  have q2:¬ 9223372036854775807 < A.length+2:=by omega
  have q3:¬ 9223372036854775807 < R.length+L.length:=by omega
  have HQ:=hide hQ
  have HQL:Hid ((quotesL y.1).length≤4294967280):=by show (quotesL y.1).length≤_;rw [hQ];exact hql
  clear HX hl hQ hA hR hrl hAl hZ hl' htr hql
  generalize hyn:y.1.length=yn at hpos
  have HYN:=hide hyn
  clear hyn
  go_enter Tryz.func39,Tryz.ntmps39
  go_wp2_with fail
  refine (quotes_any y.1 gr yn cr _ (HTR.out _) HYN.out.symm hnr HQL.out).mono ?_
  rintro e w1 ⟨rfl,hB1⟩
  rw [HQ.out]
  have HB1:=hide ((HB0.out _).trans (hB1.mono (by simp)))
  have hblk:=blk_below (blk_new w (.cells #[.slice (some ⟨gr,0,none⟩) yn cr,.slice la ln lc] 91)) hB1
  have c1:w1.cell? ⟨w.heap.size,1,none⟩=some (.slice la ln lc):=blk_cell hblk 1
  have h1s:=HB1.out.size
  clear hB1 hblk
  go_wp2_with fail
  refine (HLN.out _ HB1.out).mono ?_
  rintro e w2 ⟨rfl,hB2⟩
  have HB2:=hide (HB1.out.trans (hB2.mono h1s))
  clear hB2
  go_wp2
  go_ret
  exact ⟨by rw [HX'.out];rfl,HB2.out⟩
theorem scriptText_any (g:Nat) (y:List (List UInt8)×List (CmdT 7)) (rv lv:Value) (w:World) (X:Nat→Prop) (h:w.heap[g]?=some (.cells #[rv,lv] 124)) (hr:reqX X y.1 w rv) (hb:blX X (CmdV 7) y.2 w lv) (ht:Tab w) (ha:∀ c∈y.2,allC (WfT y.1) (WfC y.1) 7 c) (hl:(textL y).length≤4294967200) :
 Calls Tryz.prog 20 #[.pointer (some ⟨g,0,none⟩)] w fun e w'=>e=.returned (.string (strA (textL y)))∧Below w.heap.size w w':=by
 obtain ⟨a1,n1,c1,rfl⟩:∃ a n c,rv=.slice a n c:=by
  rcases hr with ⟨_,rfl⟩ | ⟨g',c',rfl,_⟩
  ·exact ⟨_,_,_,rfl⟩
  ·exact ⟨_,_,_,rfl⟩
 obtain ⟨a2,n2,c2,rfl⟩:=hb.form
 have H:=hide h
 have HR:=hide hr
 have HBB:=hide hb
 have HT:=hide ht
 clear h hr hb ht
 go_enter Tryz.func20,Tryz.ntmps20
 go_wp2_with fail
 refine (said_any g a1 a2 n1 c1 n2 c2 w H.out).mono ?_
 rintro e w1 ⟨rfl,hB1⟩
 have HB1:=hide hB1
 have h1s:=hB1.size
 have HR1:=hide (HR.out.keep (fun k _ hk=>hB1.block k hk))
 have HBB1:=hide (HBB.out.keep (cmdV_tree 7) (fun k _ hk=>hB1.block k hk))
 have HT1:=hide (HT.out.below hB1)
 clear hB1
 go_wp2_with fail
 refine (treeText_any y _ _ _ X HR1.out HBB1.out HT1.out ha hl).mono ?_
 rintro e w2 ⟨rfl,hB2⟩
 have HB2:=hide (HB1.out.trans (hB2.mono h1s))
 clear hB2
 go_wp2
 go_ret
 exact ⟨rfl,HB2.out⟩
end
end Go.Proofs.YtgnkjijocdmniaaGreatDoor
