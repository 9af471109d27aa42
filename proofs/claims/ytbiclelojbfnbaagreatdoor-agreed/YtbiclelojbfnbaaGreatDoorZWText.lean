import Derived.Test.YtbiclelojbfnbaaGreatDoorBeginC
import Derived.Test.YtbiclelojbfnbaaGreatDoorZWChoice
namespace Go.Proofs.YtbiclelojbfnbaaGreatDoor
set_option linter.unusedVariables false
set_option linter.unusedSimpArgs false
set_option maxRecDepth 100000
set_option maxHeartbeats 4000000
section
open Go.RowKit
attribute [local go_sem ↓] Go.wp_at_zero Go.wp_at_succ
theorem more_len {l:List UInt8} {chk:List UInt8→Nat}:∀ (f:Nat) (acc:List (List UInt8)) (s:PS),Gd l s→∀ y,moreL l chk f acc s=.ok y→2*y.1.length+mu l.length y.2≤2*acc.length+mu l.length s
 | 0,acc,s,h=>fun y e=>by cases e;exact Nat.le_refl _
 | f+1,acc,s,h=>fun y e=>by
  rw [moreL] at e
  cases hp:passL l [[44],[93]] s with
  | error g=>rw [hp] at e;cases e
  | ok z=>
   rw [hp] at e
   obtain ⟨h1,h2⟩:=pass_dn (zs:=[[44],[93]]) h (by decide) z hp
   dsimp only at e
   split at e
   ·cases hs:stringL l chk z.2 with
    | error g=>rw [hs] at e;cases e
    | ok x=>
     rw [hs] at e
     obtain ⟨h3,h4⟩:=string_dn h1 x hs
     have h6:=more_len f _ x.2 h3 y e
     simp only [List.length_append,List.length_cons,List.length_nil] at h6
     omega
   ·cases e;dsimp only;omega
theorem strings_len {l:List UInt8} {chk:List UInt8→Nat} {F:Nat} {s:PS} (h:Gd l s):∀ y,stringsL l chk F s=.ok y→2*y.1.length+mu l.length y.2≤mu l.length s+1:=fun y e=>by
 unfold stringsL at e
 cases hm:mayL l [[91]] s with
 | error g=>rw [hm] at e;cases e
 | ok z=>
  rw [hm] at e
  obtain ⟨h1,h2⟩:=may_dn (zs:=[[91]]) h (by decide) z hm
  dsimp only at e
  cases hs:stringL l chk z.2 with
  | error g=>rw [hs] at e;cases e
  | ok x=>
   rw [hs] at e
   obtain ⟨h3,h4⟩:=string_dn h1 x hs
   dsimp only at e
   split at e
   ·cases e;simp only [List.length_cons,List.length_nil];omega
   ·have h6:=more_len F _ x.2 h3 y e
    simp only [List.length_cons,List.length_nil] at h6
    omega
theorem addReq_length (req:List (List UInt8)) (x:List UInt8):(addReq req x).length≤req.length+1:=by
 unfold addReq;split <;> simp
theorem foldReq_length:∀ (xs req:List (List UInt8)),(xs.foldl addReq req).length≤req.length+xs.length
 | [],req=>by simp
 | x :: r,req=>by
  have h1:=foldReq_length r (addReq req x)
  have h2:=addReq_length req x
  rw [List.foldl_cons,List.length_cons]
  omega
theorem reqV_owns {w:World} {base b:Nat} {rv:Value} {req:List (List UInt8)} (h:w.ownsRow base 9 1 rv req.length (tcells req)) (hnil:req=[]→rv=.slice none 0 0) (hb:b < base) (hl:req.length≤1000):ReqV w b rv req:=by
 by_cases hr:req=[]
 ·exact Or.inl ⟨hnil hr,hr⟩
 ·obtain ⟨g,c,hv,hg,ht,hx⟩:=slB.of_owns h rfl hr
  exact Or.inr ⟨g,c,hv,by omega,ht,hx,hl⟩
theorem OneAt.mod {w w':World} {p1 p2 g n c er b:Nat} {zs:List (List UInt8)} (h:OneAt w p1 p2 g n c er zs) (hm:Mod b w w') (h1:p1≠b) (h2:p2≠b) (h3:g≠b):OneAt w' p1 p2 g n c er zs:=
 ⟨cell_mod h.1 hm h1,cell_mod h.2.1 hm h2,fun j hj=>cell_mod (h.2.2.1 j hj) hm h3,h.2.2.2.1,h.2.2.2.2⟩
def reqNames:List (List UInt8):=[kEnvelope,kFileinto,kReject,kVariables]
theorem RC.setReq {w:World} {b:Nat} {t:ByteArray} {s:PS} {rv:Value} {mc mt:Nat} (h:RC w b t s rv mc mt) (v:Value):RC (w.setCell ⟨b,7,none⟩ v) b t s v mc mt:=
 h.step ((Mod.refl b w).setCell 7 v) (heap_setCell_at w b 7 v _ _ h.at_) h.le h.sz h.e0 h.nm
def ReqPost (r:Except Flt (List (List UInt8)×PS)) (b:Nat) (t:ByteArray) (mc mt:Nat) (w:World) (e:Ending) (w':World):Prop:=
 Mod b w w'∧((∃ y rv,r=.ok y∧e=.returned (.tuple #[])∧RC w' b t y.2 rv mc mt∧ReqV w' b rv y.1∧∀ k,rv.ownBlock=some k→w.heap.size≤k)∨(∃ f,r=.error f∧Threw f w e w'))
theorem require_any (b F:Nat) (t:ByteArray) (s:PS) (mc mt:Nat) (w:World) (h:RC w b t s (.slice none 0 0) mc mt) (hF:2*t.size+1 < F) :
  Calls Tryz.prog 173 #[.pointer (some ⟨b,0,none⟩)] w (ReqPost (reqMore t.data.toList F F [] s) b t mc mt w):=by
 have H:=hide h
 have hlt:=h.at_.lt
 have hmuL:=h.mu_le
 have hmuF:=h.mu_lt hF
 clear h
 obtain ⟨i0,hi,hz0,hz1,hz2⟩:=info_parts Tryz.infoStr
 go_enter Tryz.func173,Tryz.ntmps173
 go_wp2_with fail
 go_loopw [] (fun wr=>∃ (s':PS) (req:List (List UInt8)) (rv:Value) (f:Nat),RC wr b t s' rv mc mt∧wr.ownsRow w.heap.size 9 1 rv req.length (tcells req)∧(req=[]→rv=.slice none 0 0)∧Mod b w wr∧mu t.size s' < f∧2*req.length+mu t.size s'≤1300∧reqMore t.data.toList F F [] s=reqMore t.data.toList F f req s') (fun wr=>muW wr b t.size)
 case atStart=>exact ⟨s,[],.slice none 0 0,F,H.out,World.ownsRow_nil _ _ _ _,fun _=>rfl,Mod.refl _ _,hmuF,by simp;omega,rfl⟩
 case round=>
  obtain ⟨s',req,rv,f,hrc,hown,hnil,hmod,hf,hbd,hsp⟩:=hrel
  obtain ⟨f,rfl⟩:∃ g,f=g+1:=⟨f - 1,by omega⟩
  have hmuR:=hrc.muEq
  have hszR:wr.heap.size=wr.heap.size:=rfl
  generalize hMR:muW wr b t.size=MR at *
  have HR:=hide hrc
  have HMr:=hide hmod
  have HSP:=hide hsp
  have HOW:=hide hown
  have HNL:=hide hnil
  have hwr:w.heap.size≤wr.heap.size:=hmod.size
  clear hrc hmod hsp hown hnil hmuL hmuF
  go_wp2_with fail
  refine (may_any b wr.heap.size 1 1 [kRequire] t s' rv mc mt _ (HR.out.alloc _) (txt_alloc wr [kRequire] _ _ rfl) rfl (by decide)).mono ?_
  intro e w3 h3
  rcases h3.cases with ⟨y3,v3,hy3,rfl,hv3,hc3,hm3⟩ | ⟨f3,hf3,⟨bb,hz,rfl,hcc⟩,hm3⟩
  rotate_left
  ·exact ⟨rfl,⟨(HMr.out.alloc _).trans hm3,Or.inr ⟨f3,HSP.out.trans (thenL_err hf3),⟨bb,by simp at hz;omega,rfl,hcc⟩⟩⟩⟩
  have hmu3:=mayL_mu (l:=t.data.toList) (by simpa using HR.out.le) HR.out.e0 (by decide) hy3
  rw [bal] at hmu3
  have hmu3':=hmu3.2.1
  replace hmu3:=hmu3.1
  have hA3:=((Mod.refl b wr).alloc (.cells #[.string (strA kRequire)] 9)).trans hm3
  have HM3:=hide (HMr.out.trans hA3)
  have HY3:=hide hy3
  have HC3:=hide hc3
  have HO3:=hide (ownsRow_mod (b:=b) HOW.out hA3 (by omega))
  unfold numV at hv3
  subst hv3
  clear h3 hy3 hc3 hm3 hA3
  by_cases h1:y3.1=0
  ·have h1':¬ (0:Int) < (y3.1:Int):=by omega
   have H1:=hide h1
   clear h1
   go_wp2
   go_end0
   exact ⟨HM3.out,Or.inl ⟨(req,y3.2),rv,HSP.out.trans ((thenL_ok HY3.out).trans (if_pos H1.out)),rfl,HC3.out,reqV_owns HO3.out HNL.out (by omega) (show req.length≤1000 by omega),fun k hk=>(HO3.out.lt k hk).1⟩⟩
  have h1':(0:Int) < (y3.1:Int):=by omega
  have hmu3'':=hmu3' h1
  have H1:=hide h1
  clear h1 hmu3'
  go_wp2_with (go_at_call 168;refine (oneOf_any _ _ _ _ _).mono ?_;rintro e w' ⟨rfl,rfl⟩)
  obtain ⟨U,hU⟩:∃ U,U=((w3.alloc (.cells #[.string ⟨#[101,110,118,101,108,111,112,101]⟩,.string ⟨#[102,105,108,101,105,110,116,111]⟩,.string ⟨#[114,101,106,101,99,116]⟩,.string ⟨#[118,97,114,105,97,98,108,101,115]⟩] 9)).alloc (.cells #[.int .i64 6] 39)).alloc (.cells #[.slice (some ⟨w3.heap.size,0,none⟩) 4 4] 60):=⟨_,rfl⟩
  have hw3:w.heap.size≤w3.heap.size:=HM3.out.size
  have HOU:Hid (OneAt U (w3.heap.size+1+1) (w3.heap.size+1) w3.heap.size 4 4 6 reqNames):=by
   rw [hU]
   refine ⟨?_,?_,?_,rfl,by decide⟩
   ·exact blk_cell (blk_newAt (by simp)) 0
   ·exact blk_cell (blk_alloc (blk_newAt (by simp))) 0
   ·exact ((txt_alloc w3 reqNames _ _ rfl).below ((Below.refl _ _).alloc (Nat.le_refl _) _)).below ((Below.refl _ _).alloc (Nat.le_refl _) _)
  have HRU:Hid (RC U b t y3.2 rv mc mt):=by rw [hU];exact ((HC3.out.alloc _).alloc _).alloc _
  have hMU':Mod b w3 U:=by rw [hU];exact (((Mod.refl b w3).alloc _).alloc _).alloc _
  have HMU:=hide (HM3.out.trans hMU')
  have HOW4:=hide (ownsRow_mod (b:=b) HO3.out hMU' (by omega))
  have hzU:U.heap.size=w3.heap.size+1+1+1:=by rw [hU];simp
  rw [← hU]
  clear hU hMU'
  refine (strings_any (.func (.func 256) #[] #[.pointer (some ⟨w3.heap.size+1+1,0,none⟩),.pointer (some ⟨w3.heap.size+1,0,none⟩)]) (chkOne 6 reqNames) b F t y3.2 rv mc mt _ HRU.out (fun W s hm hc=>string_oneOf _ _ _ 4 4 6 reqNames b t s rv mc mt W hc (HOU.out.mod hm (by omega) (by omega) (by omega))) (by have:=HRU.out.mu_lt hF;exact this)).mono ?_
  intro e w5 h5
  rcases h5.cases with ⟨y5,v5,hy5,rfl,hv5,hc5,hm5⟩ | ⟨f5,hf5,⟨bb,hz,rfl,hcc⟩,hm5⟩
  rotate_left
  ·exact ⟨rfl,⟨HMU.out.trans hm5,Or.inr ⟨f5,HSP.out.trans ((thenL_ok HY3.out).trans ((if_neg H1.out).trans (thenL_err hf5))),⟨bb,Nat.le_trans HMU.out.size hz,rfl,hcc⟩⟩⟩⟩
  have hlen5:=strings_len (l:=t.data.toList) ⟨by simpa using HRU.out.le,HRU.out.e0⟩ y5 hy5
  rw [bal] at hlen5
  obtain ⟨xg,xc,rfl,hxg,hxt,hxne⟩:=hv5
  have HX5:=hide hxt
  have HM5:=hide (HMU.out.trans hm5)
  have HY5:=hide hy5
  have HC5:=hide hc5
  have HO5:=hide (ownsRow_mod (b:=b) HOW4.out hm5 (by omega))
  have hrvx:∀ k,rv.ownBlock=some k→k < U.heap.size:=fun k hk=>(HOW4.out.lt k hk).2
  clear h5 hy5 hc5 hm5 hxt
  go_wp2_with fail
  go_loopw [13] (fun i wi=>∃ (k:Nat) (rv':Value),i=.int .i64 k∧k≤y5.1.length∧RC wi b t y5.2 rv' mc mt∧wi.ownsRow w.heap.size 9 1 rv' ((y5.1.take k).foldl addReq req).length (tcells ((y5.1.take k).foldl addReq req))∧((y5.1.take k).foldl addReq req=[]→rv'=.slice none 0 0)∧Mod b w wi∧TxtAt wi xg y5.1∧(∀ g,rv'.ownBlock=some g→g≠xg)∧muW wi b t.size=mu t.size y5.2∧xg < wi.heap.size) (fun i _=>y5.1.length - (intOf i).toNat)
  case atStart=>exact ⟨0,rv,rfl,Nat.zero_le _,HC5.out,HO5.out,HNL.out,HM5.out,HX5.out,fun k hk e=>by have:=hrvx k hk;omega,HC5.out.muEq,cell_lt (HX5.out 0 (List.length_pos_iff.2 hxne))⟩
  case round=>
   obtain ⟨k,rv',rfl,hk,hrc,hown,hnil,hmod,hxt,hrx,hmuw,hxl⟩:=hrel
   have hfl:=foldReq_length (y5.1.take k) req
   have htk:(y5.1.take k).length=k:=by rw [List.length_take];omega
   have HRi:=hide hrc
   have HOi:=hide hown
   have HNi:=hide hnil
   have HMi:=hide hmod
   have HXi:=hide hxt
   have hwi:w.heap.size≤wr.heap.size:=hmod.size
   clear hrc hown hnil hmod hxt HC5 HO5 HM5 HX5 HR HOW HNL HMr HO3 HC3 HM3
   by_cases hkl:k < y5.1.length
   ·have hx:(y5.1.take (k+1)).foldl addReq req=addReq ((y5.1.take k).foldl addReq req) (y5.1.getD k []):=by
     rw [List.take_add_one,List.foldl_append,List.getElem?_eq_getElem hkl,List.getD_eq_getElem?_getD,List.getElem?_eq_getElem hkl]
     rfl
    have HXX:=hide hx
    have hck:wr.cell? ⟨xg,k,none⟩=some (.string (strA (y5.1.getD k []))):=HXi.out k hkl
    have h7:wr.cell? ⟨b,7,none⟩=some rv':=HRi.out.at_.cell 7
    generalize hR:(y5.1.take k).foldl addReq req=R at *
    generalize y5.1.getD k []=x at *
    have HCN:=hide (contains_req wr b rv' R x (reqV_owns HOi.out HNi.out (by omega) (by omega)))
    obtain ⟨ra,rn,rc,hrv⟩:∃ a n c,rv'=.slice a n c:=by
     obtain ⟨_,h2⟩:=HOi.out
     rcases h2 with ⟨h,_⟩ | ⟨g,cap,cur,h,_⟩
     ·exact ⟨_,_,_,h⟩
     ·exact ⟨_,_,_,h⟩
    subst hrv
    clear hx hR
    by_cases hw0:0 < whichL R x
    ·rw [decide_eq_true hw0] at HCN
     have HA:Hid (addReq R x=R):=by show _=_;unfold addReq;rw [if_pos hw0]
     clear hw0
     go_wp2_with (go_at_call 79;refine HCN.out.mono ?_;rintro e w' ⟨rfl,hww⟩;subst w')
     go_roundw
     case rel=>exact ⟨k+1,_,by go_num,by omega,HRi.out,by rw [HXX.out,HA.out];exact HOi.out,fun hh=>HNi.out (by rw [HXX.out,HA.out] at hh;exact hh),HMi.out,HXi.out,hrx,hmuw,hxl⟩
     case measure=>simp [intOf];omega
    ·rw [decide_eq_false hw0] at HCN
     have HA:Hid (addReq R x=R++[x]):=by show _=_;unfold addReq;rw [if_neg hw0]
     clear hw0
     have hfz:wr.frozen? ⟨b,7,none⟩=false:=HRi.out.at_.frozen 7
     go_wp2_with (first | (go_at_call 79;refine HCN.out.mono ?_;rintro e w' ⟨rfl,hww⟩;subst w') | (at_builtin;refine wpList_append_own_at _ rfl _ _ 60 rfl w.heap.size 9 i0 (.string ⟨#[]⟩) 1 16 Tryz.underlying60 hi hz0 hz1 hz2 rfl (by decide) _ _ _ rfl (HOi.out.alloc _) ⟨wr.heap.size,0,none⟩ 1 1 [.string (strA x)] rfl rfl ?c1 ?c2 ?c3 ?c4 ?c5 ?_))
     case c1=>exact cell_one_new _ _ _
     case c2=>intro u hu;simp at hu;subst hu;rfl
     case c3=>unfold maxLen;omega
     case c4=>omega
     case c5=>simp;omega
     ·intro v' w6 hown6 hgrow _ hat
      have hl1:R.length+1=(R++[x]).length:=by simp
      rw [show tcells R++[.string (strA x)]=tcells (R++[x]) from tcells_snoc R x,hl1] at hown6
      obtain ⟨g',c',rfl,hg',_,_⟩:=slB.of_owns hown6 rfl (by simp)
      obtain ⟨nn,hnn⟩:∃ n,n=(R++[x]).length:=⟨_,rfl⟩
      rw [← hnn] at hown6 hat ⊢
      have hrow:∀ k,(Value.slice ra rn rc).ownBlock=some k→w.heap.size≤k:=fun k hk=>(HOi.out.lt k hk).1
      have hx6:TxtAt w6 xg y5.1:=fun j hj=>by
       rw [World.cell?_of_block (w:=wr) (a:=⟨xg,j,none⟩) (by
        rw [hgrow.block xg (by simp;omega) (fun e=>hrx xg e.symm rfl)]
        exact Below.heap_alloc _ _ _ hxl)]
       exact HXi.out j hj
      have hgx:g'≠xg:=by
       rcases hat with h | h
       ·exact hrx g' (by rw [← h];rfl)
       ·simp [Value.ownBlock] at h;omega
      have hR6:=(HRi.out.alloc (Obj.cells #[.string (strA x)] 9)).grown hgrow (fun k hk=>by have:=hrow k hk;omega)
      have hM6:=(HMi.out.alloc (Obj.cells #[.string (strA x)] 9)).grown hgrow (fun k hk=>hrow k hk)
      have h76:w6.cell? ⟨b,7,none⟩=some (.slice ra rn rc):=hR6.at_.cell 7
      have hfz6:w6.frozen? ⟨b,7,none⟩=false:=hR6.at_.frozen 7
      have hxl6:xg < w6.heap.size:=by have:=hgrow.size;simp at this;omega
      have HR7:=hide (hR6.setReq (.slice (some ⟨g',0,none⟩) nn c'))
      have HM7:=hide (hM6.setCell 7 (.slice (some ⟨g',0,none⟩) nn c'))
      have HO7:=hide (ownsRow_set (T:=b) (o:=7) (x:=.slice (some ⟨g',0,none⟩) nn c') hown6 (fun k hk=>by simp [Value.ownBlock] at hk;omega))
      have HX7:Hid (TxtAt (w6.setCell ⟨b,7,none⟩ (.slice (some ⟨g',0,none⟩) nn c')) xg y5.1):=fun j hj=>by
       rw [World.cell?_setCell_other _ _ _ _ (by simp;try omega)]
       exact hx6 j hj
      have hzz:(w6.setCell ⟨b,7,none⟩ (.slice (some ⟨g',0,none⟩) nn c')).heap.size=w6.heap.size:=by simp [World.setCell]
      have HNN:=hide hnn
      clear hnn hown6 hgrow hat hrow hx6 hR6 hM6
      go_wp2
      go_roundw
      case rel=>exact ⟨k+1,_,by go_num,by omega,HR7.out,by rw [HXX.out,HA.out,← HNN.out];exact HO7.out,fun hh=>by rw [HXX.out,HA.out] at hh;simp at hh,HM7.out,HX7.out,fun g hg=>by simp [Value.ownBlock] at hg;omega,HR7.out.muEq,by rw [hzz];exact hxl6⟩
      case measure=>simp [intOf];omega
   ·have hke:k=y5.1.length:=by omega
    subst hke
    have htt:y5.1.take y5.1.length=y5.1:=List.take_length
    rw [htt] at HOi HNi hfl
    go_wp2_with fail
    have HP:=hide (pass_any b wr.heap.size 1 1 [[59]] t y5.2 rv' mc mt _ (HRi.out.alloc (.cells (tcells [[59]]).toArray 9)) (txt_newAt _ _ rfl) rfl (by decide))
    refine HP.out.mono ?_
    intro e w8 h8
    rcases h8.cases with ⟨y8,v8,hy8,rfl,hv8,hc8,hm8⟩ | ⟨f8,hf8,⟨bb,hz,rfl,hcc⟩,hm8⟩
    rotate_left
    ·exact ⟨rfl,⟨(HMi.out.alloc _).trans hm8,Or.inr ⟨f8,HSP.out.trans ((thenL_ok HY3.out).trans ((if_neg H1.out).trans ((thenL_ok HY5.out).trans (thenL_err hf8)))),⟨bb,Nat.le_trans (HMi.out.alloc _).size hz,rfl,hcc⟩⟩⟩⟩
    have hmu8:=passL_mu (l:=t.data.toList) (by simpa using HRi.out.le) HRi.out.e0 (by decide) hy8
    rw [bal] at hmu8
    replace hmu8:=hmu8.1
    have hA8:=((Mod.refl b wr).alloc (.cells (tcells [[59]]).toArray 9)).trans hm8
    have HM8:=hide (HMi.out.trans hA8)
    have HO8:=hide (ownsRow_mod (b:=b) HOi.out hA8 (by omega))
    have HC8:=hide hc8
    have HY8:=hide hy8
    unfold numV at hv8
    subst hv8
    clear h8 hy8 hc8 hm8 hA8 HP
    have HMW:Hid (muW w8 b t.size < MR):=by
     show _ < _
     rw [HC8.out.muEq]
     omega
    go_wp2
    go_roundw
    case rel=>exact ⟨y8.2,y5.1.foldl addReq req,rv',f,HC8.out,HO8.out,HNi.out,HM8.out,by omega,by omega,HSP.out.trans ((thenL_ok HY3.out).trans ((if_neg H1.out).trans ((thenL_ok HY5.out).trans (thenL_ok HY8.out))))⟩
    case measure=>exact HMW.out
end
section
open Go.RowKit
attribute [local go_sem ↓] Go.wp_at_zero Go.wp_at_succ
def ps0:PS:=(⟨0,0,[],[],0⟩,0)
def reqX (X:Nat→Prop) (req:List (List UInt8)) (w:World) (v:Value):Prop:=
 (req=[]∧v=.slice none 0 0)∨slX X req w v
def treeX (X:Nat→Prop) (y:List (List UInt8)×List (CmdT 7)) (w:World) (v:Value):Prop:=
 ∃ rv lv,v=.agg #[rv,lv]∧reqX X y.1 w rv∧blX X (CmdV 7) y.2 w lv
theorem reqX.keep {X:Nat→Prop} {req:List (List UInt8)} {w w':World} {v:Value} (h:reqX X req w v) (hk:AbvX X w w'):reqX X req w' v:=by
 rcases h with h | h
 ·exact Or.inl h
 ·exact Or.inr (h.keep hk)
theorem reqX.weak {X Y:Nat→Prop} {req:List (List UInt8)} {w:World} {v:Value} (h:reqX X req w v) (hB:∀ k,X k→k < w.heap.size→Y k):reqX Y req w v:=by
 rcases h with h | h
 ·exact Or.inl h
 ·exact Or.inr (h.weak hB)
theorem reqX.of {w:World} {b B:Nat} {rv:Value} {req:List (List UInt8)} (h:ReqV w b rv req) (hB:∀ k,rv.ownBlock=some k→B≤k):reqX (fromB B) req w rv:=by
 rcases h with ⟨h1,h2⟩ | ⟨g,c,hv,_,ht,hne,_⟩
 ·exact Or.inl ⟨h2,h1⟩
 ·exact Or.inr ⟨g,c,hv,hB g (by rw [hv];rfl),ht,hne⟩
theorem reqX.form {X:Nat→Prop} {req:List (List UInt8)} {w:World} {v:Value} (h:reqX X req w v):∃ a n c,v=.slice a n c:=by
 rcases h with ⟨_,h⟩ | ⟨g,c,h,_⟩
 ·exact ⟨_,_,_,h⟩
 ·exact ⟨_,_,_,h⟩
def SPost (r:Except Flt (List (List UInt8)×List (CmdT 7))) (b:Nat) (w:World) (e:Ending) (w':World):Prop:=
 Mod b w w'∧((∃ y v,r=.ok y∧e=.returned v∧treeX (fromB w.heap.size) y w' v)∨(∃ f,r=.error f∧Threw f w e w'))
theorem parseL_nextErr {l:List UInt8} {f:Flt} (h:nextL l 0=.error f):parseL l=.error f:=by unfold parseL;rw [h]
theorem parseL_reqErr {l:List UInt8} {s:PS} {f:Flt} (h:nextL l 0=.ok s) (h2:reqMore l (2*l.length+10) (2*l.length+10) [] s=.error f):parseL l=.error f:=by unfold parseL;rw [h];dsimp only;rw [h2]
theorem parseL_cmdErr {l:List UInt8} {s:PS} {y:List (List UInt8)×PS} {f:Flt} (h:nextL l 0=.ok s) (h2:reqMore l (2*l.length+10) (2*l.length+10) [] s=.ok y) (h3:cmdsMore (cmdL l y.1 (2*l.length+10) 7) (2*l.length+10) [] y.2=.error f):parseL l=.error f:=by unfold parseL;rw [h];dsimp only;rw [h2];dsimp only;rw [h3]
theorem parseL_ok {l:List UInt8} {s:PS} {y:List (List UInt8)×PS} {cs:List (CmdT 7)} (h:nextL l 0=.ok s) (h2:reqMore l (2*l.length+10) (2*l.length+10) [] s=.ok y) (h3:cmdsMore (cmdL l y.1 (2*l.length+10) 7) (2*l.length+10) [] y.2=.ok cs):parseL l=.ok (y.1,cs):=by unfold parseL;rw [h];dsimp only;rw [h2];dsimp only;rw [h3]
theorem cmdsMore_end {α:Type} {sub:PS→Except Flt (α×PS)} {f:Nat} {acc:List α} {s:PS} (h:s.1.kind=0):cmdsMore sub (f+1) acc s=.ok acc:=by rw [cmdsMore,if_pos h]
theorem cmdsMore_err {α:Type} {sub:PS→Except Flt (α×PS)} {f:Nat} {acc:List α} {s:PS} {e:Flt} (h:¬ s.1.kind=0) (h2:sub s=.error e):cmdsMore sub (f+1) acc s=.error e:=by rw [cmdsMore,if_neg h,h2]
theorem cmdsMore_go {α:Type} {sub:PS→Except Flt (α×PS)} {f:Nat} {acc:List α} {s:PS} {y:α×PS} (h:¬ s.1.kind=0) (h2:sub s=.ok y):cmdsMore sub (f+1) acc s=cmdsMore sub f (acc++[y.1]) y.2:=by rw [cmdsMore,if_neg h,h2]
theorem script_any (b:Nat) (t:ByteArray) (mc mt pr pt pf p1 k1 p2 k2 p3 k3:Nat) (w:World) (h:RC w b t ps0 (.slice none 0 0) mc mt) (ht:TMap w b mt pr pt pf) (hcm:CMap w b mc p1 k1 p2 k2 p3 k3) :
  Calls Tryz.prog 105 #[.pointer (some ⟨b,0,none⟩)] w (SPost (parseL t.data.toList) b w):=by
 have H:=hide h
 have HT:=hide ht
 have HCM:=hide hcm
 have hlt:=h.at_.lt
 have hFF:2*t.size+1 < 2*t.data.toList.length+10:=by rw [bal];omega
 generalize hFe:2*t.data.toList.length+10=F at hFF
 clear h ht hcm
 obtain ⟨i0,hi,hz0,hz1,hz2⟩:=info_parts Tryz.infoCommand
 go_enter Tryz.func105,Tryz.ntmps105
 go_wp2_with fail
 have HM0:=hide ((Mod.refl b w).alloc (.cells #[.slice none 0 0,.slice none 0 0] 97))
 have HB0:=hide (blk_new w (.cells #[.slice none 0 0,.slice none 0 0] 97))
 refine (next_rc b t ps0 _ mc mt _ (H.out.alloc _)).mono ?_
 rintro e w1 (⟨y,hy,rfl,hc,hm⟩ | ⟨f2,hf2,⟨bb,hz,rfl,hcc⟩,hm⟩)
 rotate_left
 ·exact ⟨rfl,HM0.out.trans hm,Or.inr ⟨f2,parseL_nextErr hf2,⟨bb,by simp at hz;omega,rfl,hcc⟩⟩⟩
 have HY:=hide hy
 have HC:=hide hc
 have HM:=hide (HM0.out.trans hm)
 have HB1:=hide (blk_mod HB0.out hm (by omega))
 clear hy hc hm
 go_wp2_with fail
 refine (require_any b F t y mc mt _ HC.out hFF).mono ?_
 rintro e w2 ⟨hm2,⟨y2,rv,hy2,rfl,hc2,hr2,hrb⟩ | ⟨f2,hf2,⟨bb,hz,rfl,hcc⟩⟩⟩
 rotate_left
 ·exact ⟨rfl,HM.out.trans hm2,Or.inr ⟨f2,parseL_reqErr HY.out (by rw [hFe];exact hf2),⟨bb,Nat.le_trans HM.out.size hz,rfl,hcc⟩⟩⟩
 have hz1':=blk_lt HB1.out
 have HY2:=hide hy2
 have HC2:=hide hc2
 have HM2:=hide (HM.out.trans hm2)
 have HB2:=hide (blk_mod HB1.out hm2 (by omega))
 have HR2:=hide hr2
 have HRB:Hid (∀ k,rv.ownBlock=some k→w.heap.size+1≤k):=fun k hk=>by have:=hrb k hk;omega
 have HO:=hide (command_any y2.1 b F t rv mc mt pr pt pf p1 k1 p2 k2 p3 k3 hFF 7 (Nat.le_refl _) w2 (HT.out.mod HM2.out) (HCM.out.mod HM2.out) hr2)
 rw [show (7:Int) - ((7:Nat):Int)=0 from rfl] at HO
 have hmuL:=hc2.mu_le
 have hmuF:=hc2.mu_lt hFF
 have hz2':=blk_lt HB2.out
 clear hy2 hc2 hm2 hr2 hrb
 go_wp2_with fail
 go_loopw [3] (fun v wr=>∃ (s':PS) (acc:List (CmdT 7)) (vs:List Value) (f:Nat),wr.ownsRow w2.heap.size 201 1 v acc.length vs∧RowP (fun a u=>Gath (CmdV 7) w2.heap.size wr v a u) acc vs∧(acc=[]→v=.slice none 0 0)∧RC wr b t s' rv mc mt∧Mod b w2 wr∧mu t.size s' < f∧acc.length+mu t.size s'≤1300∧cmdsMore (cmdL t.data.toList y2.1 F 7) F [] y2.2=cmdsMore (cmdL t.data.toList y2.1 F 7) f acc s') (fun _ wr=>muW wr b t.size)
 case atStart=>
  exact ⟨y2.2,[],[],F,World.ownsRow_nil _ _ _ _,trivial,fun _=>rfl,HC2.out,Mod.refl _ _,hmuF,by simp;omega,rfl⟩
 case round=>
  obtain ⟨s',acc,vs,f,hown,hrow,hnil,hrc,hmod,hf,hbd,hsp⟩:=hrel
  obtain ⟨f,rfl⟩:∃ g,f=g+1:=⟨f - 1,by omega⟩
  have HR:=hide hrc
  have HMr:=hide hmod
  have HSP:=hide hsp
  have HOW:=hide hown
  have HRW:=hide hrow
  have HNL:=hide hnil
  have HBr:=hide (blk_mod HB2.out hmod (by omega))
  have hzr:=blk_lt HBr.out
  have hk1:wr.cell? ⟨b,1,none⟩=some (.int .i64 s'.1.kind):=hrc.at_.cell 1
  clear hrc hmod hsp hown hrow hnil HC2 hmuL hmuF
  by_cases h1:s'.1.kind=0
  ·have h1':((s'.1.kind:Int) != 0)=false:=by simp;omega
   have H1:=hide h1
   have HTb:=hide (blX.of_owns (cmdV_tree 7) HOW.out rfl HNL.out HRW.out)
   obtain ⟨la,ln,lc,rfl⟩:=HTb.out.form
   have HRQ:=hide (reqX.of (HR2.out.mod HMr.out) HRB.out)
   obtain ⟨ra,rn,rc,rfl⟩:=HRQ.out.form
   have h7:wr.cell? ⟨b,7,none⟩=some (.slice ra rn rc):=HR.out.at_.cell 7
   have r0:wr.cell? ⟨w.heap.size,0,none⟩=some (.slice none 0 0):=blk_cell HBr.out 0
   have r1:wr.cell? ⟨w.heap.size,1,none⟩=some (.slice none 0 0):=blk_cell HBr.out 1
   have rf:=blk_frozen HBr.out
   clear h1
   go_wp2
   have hq:¬ fromB (w.heap.size+1) w.heap.size:=by unfold fromB;omega
   have hwk:∀ k,fromB (w.heap.size+1) k→k < ((wr.setCell ⟨w.heap.size,0,none⟩ (.slice ra rn rc)).setCell ⟨w.heap.size,1,none⟩ (.slice la ln lc)).heap.size→fromB w.heap.size k:=fun k hk _=>by unfold fromB at *;omega
   refine bodyPost_ret (v:=.agg #[.slice ra rn rc,.slice la ln lc]) (by simp [results,Tryz.results105,go_sem,r0,r1]) rfl ⟨((HM2.out.trans HMr.out).setNew (Nat.le_refl _) _ _).setNew (Nat.le_refl _) _ _,Or.inl ⟨(y2.1,acc),_,parseL_ok HY.out (by rw [hFe];exact HY2.out) (by rw [hFe,HSP.out];exact cmdsMore_end H1.out),rfl,⟨_,_,rfl,?_,?_⟩⟩⟩
   ·exact ((HRQ.out.keep (AbvX.set hq _ _)).keep (AbvX.set hq _ _)).weak hwk
   ·have hq:¬ fromB w2.heap.size w.heap.size:=by unfold fromB;omega
    refine blX.weak (cmdV_tree 7) ((HTb.out.keep (cmdV_tree 7) (AbvX.set hq _ _)).keep (cmdV_tree 7) (AbvX.set hq _ _)) (fun k hk _=>by unfold fromB at *;omega)
  have h1':((s'.1.kind:Int) != 0)=true:=by simp;omega
  have H1:=hide h1
  clear h1
  go_wp2_with fail
  refine (HO.out _ s' HMr.out HR.out).mono ?_
  intro e w4 h4
  rcases h4.cases with ⟨z4,v4,hy4,rfl,hv4,hc4,hm4⟩ | ⟨f4,hf4,⟨bb,hz,rfl,hcc⟩,hm4⟩
  rotate_left
  ·exact ⟨rfl,(HM2.out.trans HMr.out).trans hm4,Or.inr ⟨f4,parseL_cmdErr HY.out (by rw [hFe];exact HY2.out) (by rw [hFe,HSP.out];exact cmdsMore_err H1.out hf4),⟨bb,Nat.le_trans (HM2.out.trans HMr.out).size hz,rfl,hcc⟩⟩⟩
  have hmu4:=cmd_mu t y2.1 F 7 s' z4 HR.out.le HR.out.e0 hy4
  have HV4:=hide hv4
  obtain ⟨ty4,x4,rfl⟩:=(cmdV_tree 7).form _ _ _ _ hv4
  have HM4:=hide (HMr.out.trans hm4)
  have HY4:=hide hy4
  have HC4:=hide hc4
  have hown4:=ownsRow_mod (b:=b) HOW.out hm4 (by omega)
  have HW4:=hide (HRW.out.imp (fun a u hu=>Gath.mod (cmdV_tree 7) (b:=b) (w':=w4) hu hm4 (by omega)))
  have hlt3:=hide (fun k hk=>(HOW.out.lt k hk).2)
  have HG4:=hide (Gath.new (cmdV_tree 7) (base:=w2.heap.size) HV4.out HMr.out.size hlt3.out)
  have hz4:w2.heap.size≤w4.heap.size:=HM4.out.size
  clear h4 hy4 hc4 hm4 hv4
  go_wp2_with (at_builtin;refine wpList_append_own_at _ rfl _ _ 95 rfl w2.heap.size 201 i0 .nilIface 1 16 Tryz.underlying95 hi hz0 hz1 hz2 rfl (by decide) _ _ _ rfl (hown4.alloc _) ⟨w4.heap.size,0,none⟩ 1 1 [.iface ty4 x4] rfl rfl ?c1 ?c2 ?c3 ?c4 ?c5 ?_)
  case c1=>exact cell_one_new _ _ _
  case c2=>intro u hu;simp at hu;subst hu;rfl
  case c3=>unfold maxLen;omega
  case c4=>omega
  case c5=>simp;omega
  ·intro v' w5 hown5 hgrow _ hat
   have hrow:∀ k,(u3).ownBlock=some k→w2.heap.size≤k:=fun k hk=>(hown4.lt k hk).1
   have HM5:=hide ((HM4.out.alloc (Obj.cells #[.iface ty4 x4] 201)).grown hgrow (fun k hk=>hrow k hk))
   have HC5:=hide ((HC4.out.alloc (Obj.cells #[.iface ty4 x4] 201)).grown hgrow (fun k hk=>by have:=hrow k hk;omega))
   have HO5:=hide hown5
   have HR5:=hide (RowP.snoc (P:=fun a u=>Gath (CmdV 7) w2.heap.size w5 v' a u) (HG4.out.grown (cmdV_tree 7) hgrow hat) (HW4.out.imp (fun a u hu=>Gath.grown (cmdV_tree 7) hu hgrow hat)))
   have hmw:muW w5 b t.size < muW wr b t.size:=by rw [HC5.out.muEq,HR.out.muEq];omega
   have HMW:=hide hmw
   clear hown5 hgrow hmw hown4 hrow hat
   go_wp2
   go_roundw
   case rel=>exact ⟨z4.2,acc++[z4.1],vs++[.iface ty4 x4],f,by simpa using HO5.out,HR5.out,fun hh=>absurd hh (by simp),HC5.out,HM5.out,by omega,by simp;omega,HSP.out.trans (cmdsMore_go H1.out HY4.out)⟩
   case measure=>exact HMW.out
end
section
open Go.RowKit
attribute [local go_sem ↓] Go.wp_at_zero Go.wp_at_succ
theorem linesT_mem (i:List UInt8):∀ (ts:List (List UInt8)) (t:List UInt8),t∈ts→t.length≤(linesT i ts).length
 | [],t,h=>by cases h
 | u :: ts,t,h=>by
  unfold linesT
  rw [List.flatMap_cons]
  simp only [List.length_append,List.length_cons,List.length_nil]
  rcases List.mem_cons.1 h with h | h
  ·subst h;omega
  ·have:=linesT_mem i ts t h
   unfold linesT at this
   simp only [List.append_assoc] at *
   omega
theorem armsTxt_mem (i:List UInt8):∀ (al:List (List UInt8×List UInt8)) (word:List UInt8) (a:List UInt8×List UInt8),a∈al→a.1.length≤(armsTxt i word al).length∧a.2.length≤(armsTxt i word al).length
 | [],word,a,h=>by cases h
 | u :: al,word,a,h=>by
  show a.1.length≤(armTxt word i u.1 u.2++armsTxt i kElsifB al).length∧a.2.length≤(armTxt word i u.1 u.2++armsTxt i kElsifB al).length
  rw [List.length_append]
  rcases List.mem_cons.1 h with h | h
  ·subst h
   have h1:=phraseL_mem (ps:=[word,a.1,openB]) (p:=a.1) (by simp)
   unfold armTxt
   rw [List.length_append,List.length_append]
   omega
  ·have:=armsTxt_mem i al kElsifB a h
   omega
theorem said_any (g:Nat) (a1 a2:Option Addr) (n1 c1 n2 c2:Nat) (w:World) (h:w.heap[g]?=some (.cells #[.slice a1 n1 c1,.slice a2 n2 c2] 139)) :
  Calls Tryz.prog 45 #[.pointer (some ⟨g,0,none⟩)] w fun e w'=>e=.returned (.agg #[.slice a1 n1 c1,.slice a2 n2 c2])∧Below w.heap.size w w':=by
 have d0:∀ o,(w.alloc o).cell? ⟨g,0,none⟩=some (.slice a1 n1 c1):=fun o=>blk_cell (blk_alloc h) 0
 have d1:∀ o,(w.alloc o).cell? ⟨g,1,none⟩=some (.slice a2 n2 c2):=fun o=>blk_cell (blk_alloc h) 1
 clear h
 go_enter Tryz.func45,Tryz.ntmps45
 go_wp2
 refine bodyPost_ret (v:=.agg #[.slice a1 n1 c1,.slice a2 n2 c2]) (by simp [results,Tryz.results45,go_sem]) rfl ?_
 exact ⟨rfl,((Below.refl _ _).alloc (Nat.le_refl _) _)⟩
end
end Go.Proofs.YtbiclelojbfnbaaGreatDoor
