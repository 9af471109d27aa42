import Derived.Test.YtenahlandohgaaaGreatDoorEFiles
import Derived.Test.YtenahlandohgaaaGreatDoorZEOut
import Derived.Test.YtenahlandohgaaaGreatDoorZEPut
namespace Go.Proofs.YtenahlandohgaaaGreatDoor
set_option linter.unusedVariables false
set_option linter.unusedSimpArgs false
set_option maxRecDepth 100000
set_option maxHeartbeats 4000000
open Go.RowKit
attribute [local go_sem ↓] Go.wp_at_zero Go.wp_at_succ
def RFPost (r:Except Nat (List Fl)) (w:World) (e:Ending) (w':World):Prop:=
 Below w.heap.size w w'∧((∃ fs v,r=.ok fs∧e=.returned (.tuple #[v,.int .i64 0])∧w'.ownsRow w.heap.size 86 2 v fs.length (fcells fs))∨∃ k,r=.error k∧e=.returned (.tuple #[.slice none 0 0,.int .i64 ((k:Nat):Int)]))
theorem idR_at (s:List UInt8) (k:Nat) (h:k < s.length):(s.drop k).all idB=(idB s[k] && (s.drop (k+1)).all idB):=by
 rw [List.drop_eq_getElem_cons h,List.all_cons]
theorem rfiles_any (id text:List UInt8) (acts:List (Int×List UInt8)) (av:Value) (w:World) (ha:ActG w av acts) (h1:id.length≤2000000) (h2:text.length≤2000000) (h3:∀ a∈acts,a.2.length≤2000000) (h4:acts.length≤2000000) :
 Calls Tryz.prog 18 #[.string (strA id),av,.string (strA text)] w (RFPost (filesL id acts text) w):=by
 obtain ⟨a,c,rfl,hac⟩:=ha
 have HAC:=hide hac
 have H3:=hide h3
 have hz1:=strA_size id
 have hz2:=strA_size text
 obtain ⟨i0,hi,hz0,hz1',hz2'⟩:=info_parts Tryz.infoFile
 clear hac h3
 by_cases hl8:id.length < 1∨8 < id.length
 ·have HR:Hid (filesL id acts text=.error 13):=by
   have:isIDL id=false:=by
    unfold isIDL
    rcases hl8 with h | h
    ·have:id=[]:=List.eq_nil_of_length_eq_zero (by omega)
     subst this;rfl
    ·rw [decide_eq_false (by omega)];simp
   show (if isIDL id=true then _ else _)=_
   rw [this];rfl
  go_enter Tryz.func18,Tryz.ntmps18
  rcases hl8 with hl | hl
  ·have hl':(id.length:Int) < 1:=by omega
   go_wp2
   go_ret2
   exact ⟨Below.refl _ _,Or.inr ⟨13,HR.out,rfl⟩⟩
  ·have hl':(8:Int) < (id.length:Int):=by omega
   have hl'':¬ (id.length:Int) < 1:=by omega
   go_wp2
   go_ret2
   exact ⟨Below.refl _ _,Or.inr ⟨13,HR.out,rfl⟩⟩
 have hl1:¬ (id.length:Int) < 1:=by omega
 have hl2:¬ (8:Int) < (id.length:Int):=by omega
 have HID:Hid (isIDL id=(id.drop 0).all idB):=by
  show _=_
  unfold isIDL
  have h0:id.isEmpty=false:=by cases id with
   | nil=>simp at hl8
   | cons _ _=>rfl
  rw [h0,decide_eq_true (by omega),List.drop_zero];rfl
 go_enter Tryz.func18,Tryz.ntmps18
 go_wp2_with fail
 go_loopw [8] (fun i wr=>∃ k:Nat,k≤id.length∧i=.int .i64 (k:Int)∧isIDL id=(id.drop k).all idB∧wr=w) (fun i _=>id.length - (intOf i).toNat)
 case atStart=>exact ⟨0,Nat.zero_le _,by go_num,HID.out,rfl⟩
 case round=>
  obtain ⟨k,hk,rfl,hn,hwr⟩:=hrel
  subst hwr
  rename World=>w0
  have HN:=hide hn
  clear hn
  by_cases hlt:k < id.length
  ·have hlt':(k:Int) < (id.length:Int):=by omega
   have hks:k < (strA id).size:=by rw [hz1];exact hlt
   have HS:Hid ((id.drop k).all idB=((isLetN ((strA id)[k].toNat:Int) || isDigitN ((strA id)[k].toNat:Int)) && (id.drop (k+1)).all idB)):=idR_at id k hlt
   have HR13:Hid (isLetN ((strA id)[k].toNat:Int)=false→isDigitN ((strA id)[k].toNat:Int)=false→filesL id acts text=.error 13):=fun h1 h2=>by
    have hi:isIDL id=false:=by rw [HN.out,HS.out,h1,h2];rfl
    unfold filesL
    rw [hi]
    rfl
   cases hc:isLetN ((strA id)[k].toNat:Int) <;> cases hd:isDigitN ((strA id)[k].toNat:Int) <;>
   (go_wp2_with (first | (go_at_call 34;refine (rletter_any _ _).mono ?_;rintro e w' ⟨rfl,rfl⟩) | (go_at_call 35;refine (rdigit_any _ _).mono ?_;rintro e w' ⟨rfl,rfl⟩))
    first
     | (go_ret2;exact ⟨Below.refl _ _,Or.inr ⟨13,HR13.out hc hd,rfl⟩⟩)
     | exact ⟨⟨k+1,by omega,by go_num,by rw [HN.out,HS.out,hc,hd];rfl,(by first | rfl | trivial)⟩,by simp [intOf];omega⟩)
  ·have hlt':¬ (k:Int) < (id.length:Int):=by omega
   have HI:Hid (isIDL id=true):=by show _=_;rw [HN.out,List.drop_of_length_le (by omega)];rfl
   by_cases h6:6 < acts.length
   ·have HR:Hid (filesL id acts text=.error 11):=by show (if isIDL id=true then (if 6 < acts.length then _ else _) else _)=_;rw [HI.out,if_pos rfl,if_pos h6]
    have h6':(6:Int) < (acts.length:Int):=by omega
    go_wp2
    go_ret2
    exact ⟨Below.refl _ _,Or.inr ⟨11,HR.out,rfl⟩⟩
   have h6':¬ (6:Int) < (acts.length:Int):=by omega
   have HR:Hid (filesL id acts text=appR [] (filesTo id text 0 (acts.drop 0))):=by
    show (if isIDL id=true then (if 6 < acts.length then _ else _) else _)=_
    rw [HI.out,if_pos rfl,if_neg h6,appR_nil];rfl
   go_wp2_with fail
   go_loopw [11,12] (fun v i wq=>∃ (j:Nat) (fs:List Fl),j≤acts.length∧i=.int .i64 (j:Int)∧fs.length=j∧filesL id acts text=appR fs (filesTo id text j (acts.drop j))∧wq.ownsRow w0.heap.size 86 2 v fs.length (fcells fs)∧Below w0.heap.size w0 wq) (fun _ i _=>acts.length - (intOf i).toNat)
   case atStart=>exact ⟨0,[],Nat.zero_le _,by go_num,rfl,HR.out,World.ownsRow_nil _ _ _ _,Below.refl _ _⟩
   case round=>
    obtain ⟨j,fs,hj,rfl,hfl,hR,hrow,hB⟩:=hrel
    have HR2:=hide hR
    have HFL:=hide hfl
    have hf6:fs.length≤6:=by omega
    have HRW:=hide hrow
    have HB:=hide hB
    have hsz:=hB.size
    obtain ⟨va,vc,hvv⟩:=owns_len hrow
    subst hvv
    clear hfl hR hrow hB
    by_cases hjl:j < acts.length
    rotate_left
    ·have hz:¬ (j:Int) < (acts.length:Int):=by omega
     have HE:Hid (filesL id acts text=.ok fs):=by
      show _=_
      rw [HR2.out,List.drop_of_length_le (by omega)]
      simp [appR,filesTo]
     go_wp2
     go_ret2
     exact ⟨HB.out,Or.inl ⟨fs,_,HE.out,rfl,HRW.out⟩⟩
    have hjl':(j:Int) < (acts.length:Int):=by omega
    obtain ⟨b,off,rfl,hcc⟩:=HAC.out (fun e=>by rw [e] at hjl;exact absurd hjl (Nat.not_lt_zero _))
    have hat:=hcc j hjl
    have hgl:=cell_lt hat.1
    have e1:wr.cell? ⟨b,off+j*2,none⟩=some (.int .i64 acts[j].1):=(HB.out.cell (p:=⟨b,off+j*2,none⟩) hgl).trans hat.1
    have e2:wr.cell? ⟨b,off+j*2+1,none⟩=some (.string (strA acts[j].2)):=(HB.out.cell (p:=⟨b,off+j*2+1,none⟩) hgl).trans hat.2
    have h3k:=H3.out acts[j] (List.getElem_mem hjl)
    rw [List.drop_eq_getElem_cons hjl] at HR2
    generalize acts[j]=x at *
    obtain ⟨kind,arg⟩:=x
    dsimp only at e1 e2 h3k
    have hz3:=strA_size arg
    clear hat hcc
    obtain ⟨V,hV⟩:∃ V,V=wr.alloc (.cells #[.int .i64 kind,.string (strA arg)] 51):=⟨_,rfl⟩
    have hBV:Below wr.heap.size wr V:=by rw [hV];exact (Below.refl _ _).alloc (Nat.le_refl _) _
    have HBV:=hide (HB.out.trans (hBV.mono hsz))
    have HAV:Hid (V.heap[wr.heap.size]?=some (.cells #[.int .i64 kind,.string (strA arg)] 51)):=by rw [hV];exact blk_new _ _
    have HRV:Hid (V.ownsRow w0.heap.size 86 2 (.slice va fs.length vc) fs.length (fcells fs)):=owns_fr (P:=fun _ _=>False) HRW.out (Fr.of_below hBV) (fun _ _ h=>h)
    have HWV:=hide hV
    clear hV hBV
    go_wp2_with fail
    rw [← HWV.out]
    refine (number_small j V (by omega)).mono ?_
    rintro e w1 ⟨rfl,hb1⟩
    have HB1:=hide (HBV.out.trans (hb1.mono HBV.out.size))
    have ha1:=blk_below HAV.out hb1
    have g0:w1.cell? ⟨wr.heap.size,0,none⟩=some (.int .i64 kind):=blk_cell ha1 0
    have g1:w1.cell? ⟨wr.heap.size,1,none⟩=some (.string (strA arg)):=blk_cell ha1 1
    have HR1:Hid (w1.ownsRow w0.heap.size 86 2 (.slice va fs.length vc) fs.length (fcells fs)):=owns_fr (P:=fun _ _=>False) HRV.out (Fr.of_below hb1) (fun _ _ h=>h)
    have hw1:wr.heap.size < w1.heap.size:=blk_lt ha1
    have hil:=itoaL_len j (by omega)
    have hzi:=strA_size (itoaL j)
    have HT1:=hide (cat_inbox id)
    clear hb1 ha1 e1 e2
    have HC0:Hid (w0.heap.size≤w1.heap.size):=by have:=HB1.out.size;exact this
    by_cases k1:kind=1
    ·subst k1
     have HRK:fileL id text j (1,arg)=.ok (kInbox++id,text):=rfl
     obtain ⟨nm,hnm⟩:∃ nm,nm=kInbox++id:=⟨_,rfl⟩
     rw [← hnm] at HRK
     have HE:=hide (filesTo_ok (r:=acts.drop (j+1)) fs HRK)
     rw [HE.out] at HR2
     have a1:(⟨#[105,110,98,111,120,47]⟩:ByteArray)++strA id=strA nm:=by rw [hnm];exact cat_inbox id
     clear hnm HRK HE
     go_wp2_with (first | (at_builtin;refine wpList_append_own_at _ rfl _ _ 26 rfl w0.heap.size 86 i0 _ 2 32 Tryz.underlying26 hi hz0 hz1' hz2' rfl (by decide) _ _ _ rfl (World.ownsRow.alloc (World.ownsRow.alloc HR1.out _) _) ⟨w1.heap.size+1,0,none⟩ 1 1 (encF (nm,text)) rfl rfl (two_fl2 w1 _ (nm,text) _) (one_fl (nm,text)) (by unfold maxLen;omega) (by omega) (by simp;omega) ?_;intro v5 w5 ho5 hg5 _ hloc5;have HG5:Hid (((w1.alloc (.cells #[.string (strA nm),.string (strA text)] 86)).alloc (.cells #[.string (strA nm),.string (strA text)] 86)).grownBy w5 (Value.slice va fs.length vc).ownBlock):=hg5;have HO5:=hide ho5;clear ho5 hg5 hloc5))
     have hrl:=World.ownsRow.lt HR1.out
     have hB5:Below w0.heap.size w0 w5:=below_grown2 (HB1.out.alloc HB1.out.size _) (by simp;omega) HG5.out (fun k hk=>(hrl k hk).1)
     refine ⟨⟨j+1,fs++[(nm,text)],by omega,by go_num,by rw [List.length_append,HFL.out];rfl,HR2.out,?_,hB5⟩,by simp [intOf];omega⟩
     rw [List.length_append,← fcells_snoc]
     exact HO5.out
    by_cases k2:kind=2
    ·subst k2
     cases hb:isBoxL arg
     ·have HRK:fileL id text j (2,arg)=.error 8:=by
       show (if (2:Int)=1 then _ else if (2:Int)=2 then (if isBoxL arg=true then _ else _) else _)=_
       rw [if_neg (by decide),if_pos rfl,hb]
       rfl
      have HE:=hide (filesTo_err (r:=acts.drop (j+1)) fs HRK)
      rw [HE.out] at HR2
      clear HRK
      go_wp2_with (go_at_call 37;refine (rboxed_any (strA arg) _ (by rw [strA_size];omega)).mono ?_;rintro e w2 ⟨rfl,hww⟩;rw [hww];rw [show isBoxL (strA arg).data.toList=false from hb])
      go_ret2
      exact ⟨HB1.out.alloc HB1.out.size _,Or.inr ⟨8,HR2.out,rfl⟩⟩
     ·have HRK:fileL id text j (2,arg)=.ok (kBox++arg++[47]++id,text):=by
       show (if (2:Int)=1 then _ else if (2:Int)=2 then (if isBoxL arg=true then _ else _) else _)=_
       rw [if_neg (by decide),if_pos rfl,hb]
       rfl
      obtain ⟨nm,hnm⟩:∃ nm,nm=kBox++arg++[47]++id:=⟨_,rfl⟩
      rw [← hnm] at HRK
      have HE:=hide (filesTo_ok (r:=acts.drop (j+1)) fs HRK)
      rw [HE.out] at HR2
      have a1:(⟨#[98,111,120,47]⟩:ByteArray)++strA arg++(⟨#[47]⟩:ByteArray)++strA id=strA nm:=by rw [hnm];exact cat_box arg id
      clear hnm HRK HE
      go_wp2_with (first | (go_at_call 37;refine (rboxed_any (strA arg) _ (by rw [strA_size];omega)).mono ?_;rintro e w2 ⟨rfl,hww⟩;rw [hww];rw [show isBoxL (strA arg).data.toList=true from hb]) | (at_builtin;refine wpList_append_own_at _ rfl _ _ 26 rfl w0.heap.size 86 i0 _ 2 32 Tryz.underlying26 hi hz0 hz1' hz2' rfl (by decide) _ _ _ rfl (World.ownsRow.alloc (World.ownsRow.alloc HR1.out _) _) ⟨w1.heap.size+1,0,none⟩ 1 1 (encF (nm,text)) rfl rfl (two_fl2 w1 _ (nm,text) _) (one_fl (nm,text)) (by unfold maxLen;omega) (by omega) (by simp;omega) ?_;intro v5 w5 ho5 hg5 _ hloc5;have HG5:Hid (((w1.alloc (.cells #[.string (strA nm),.string (strA text)] 86)).alloc (.cells #[.string (strA nm),.string (strA text)] 86)).grownBy w5 (Value.slice va fs.length vc).ownBlock):=hg5;have HO5:=hide ho5;clear ho5 hg5 hloc5))
      have hrl:=World.ownsRow.lt HR1.out
      have hB5:Below w0.heap.size w0 w5:=below_grown2 (HB1.out.alloc HB1.out.size _) (by simp;omega) HG5.out (fun k hk=>(hrl k hk).1)
      refine ⟨⟨j+1,fs++[(nm,text)],by omega,by go_num,by rw [List.length_append,HFL.out];rfl,HR2.out,?_,hB5⟩,by simp [intOf];omega⟩
      rw [List.length_append,← fcells_snoc]
      exact HO5.out
    by_cases k3:kind=3
    ·subst k3
     clear k1 k2
     have HRK:fileL id text j (3,arg)=.ok ((outL id text j (kToB++arg)).1,(outL id text j (kToB++arg)).2):=rfl
     obtain ⟨nm,hnm⟩:∃ nm,nm=(outL id text j (kToB++arg)).1:=⟨_,rfl⟩
     obtain ⟨dt,hdt⟩:∃ dt,dt=(outL id text j (kToB++arg)).2:=⟨_,rfl⟩
     rw [← hnm,← hdt] at HRK
     have HE:=hide (filesTo_ok (r:=acts.drop (j+1)) fs HRK)
     rw [HE.out] at HR2
     have a1:(⟨#[111,117,116,47]⟩:ByteArray)++strA id++(⟨#[46]⟩:ByteArray)++strA (itoaL j)=strA nm:=by rw [hnm];exact cat_out1 id text j (kToB++arg)
     have a2:(⟨#[116,111,32]⟩:ByteArray)++strA arg++(⟨#[10]⟩:ByteArray)++strA text=strA dt:=by rw [hdt];exact by rw [cat_to];exact cat_out2 id text j (kToB++arg)
     clear hnm HRK HE hdt
     go_wp2_with (first | (at_builtin;refine wpList_append_own_at _ rfl _ _ 26 rfl w0.heap.size 86 i0 _ 2 32 Tryz.underlying26 hi hz0 hz1' hz2' rfl (by decide) _ _ _ rfl (World.ownsRow.alloc (World.ownsRow.alloc HR1.out _) _) ⟨w1.heap.size+1,0,none⟩ 1 1 (encF (nm,dt)) rfl rfl (two_fl2 w1 _ (nm,dt) _) (one_fl (nm,dt)) (by unfold maxLen;omega) (by omega) (by simp;omega) ?_;intro v5 w5 ho5 hg5 _ hloc5;have HG5:Hid (((w1.alloc (.cells #[.string (strA nm),.string (strA dt)] 86)).alloc (.cells #[.string (strA nm),.string (strA dt)] 86)).grownBy w5 (Value.slice va fs.length vc).ownBlock):=hg5;have HO5:=hide ho5;clear ho5 hg5 hloc5))
     have hrl:=World.ownsRow.lt HR1.out
     have hB5:Below w0.heap.size w0 w5:=below_grown2 (HB1.out.alloc HB1.out.size _) (by simp;omega) HG5.out (fun k hk=>(hrl k hk).1)
     refine ⟨⟨j+1,fs++[(nm,dt)],by omega,by go_num,by rw [List.length_append,HFL.out];rfl,HR2.out,?_,hB5⟩,by simp [intOf];omega⟩
     rw [List.length_append,← fcells_snoc]
     exact HO5.out
    by_cases k4:kind=4
    ·subst k4
     clear k1 k2 k3
     have HRK:fileL id text j (4,arg)=.ok ((outL id text j (kRejectB++arg)).1,(outL id text j (kRejectB++arg)).2):=rfl
     obtain ⟨nm,hnm⟩:∃ nm,nm=(outL id text j (kRejectB++arg)).1:=⟨_,rfl⟩
     obtain ⟨dt,hdt⟩:∃ dt,dt=(outL id text j (kRejectB++arg)).2:=⟨_,rfl⟩
     rw [← hnm,← hdt] at HRK
     have HE:=hide (filesTo_ok (r:=acts.drop (j+1)) fs HRK)
     rw [HE.out] at HR2
     have a1:(⟨#[111,117,116,47]⟩:ByteArray)++strA id++(⟨#[46]⟩:ByteArray)++strA (itoaL j)=strA nm:=by rw [hnm];exact cat_out1 id text j (kRejectB++arg)
     have a2:(⟨#[114,101,106,101,99,116,32]⟩:ByteArray)++strA arg++(⟨#[10]⟩:ByteArray)++strA text=strA dt:=by rw [hdt];exact by rw [cat_rej];exact cat_out2 id text j (kRejectB++arg)
     clear hnm HRK HE hdt
     go_wp2_with (first | (at_builtin;refine wpList_append_own_at _ rfl _ _ 26 rfl w0.heap.size 86 i0 _ 2 32 Tryz.underlying26 hi hz0 hz1' hz2' rfl (by decide) _ _ _ rfl (World.ownsRow.alloc (World.ownsRow.alloc HR1.out _) _) ⟨w1.heap.size+1,0,none⟩ 1 1 (encF (nm,dt)) rfl rfl (two_fl2 w1 _ (nm,dt) _) (one_fl (nm,dt)) (by unfold maxLen;omega) (by omega) (by simp;omega) ?_;intro v5 w5 ho5 hg5 _ hloc5;have HG5:Hid (((w1.alloc (.cells #[.string (strA nm),.string (strA dt)] 86)).alloc (.cells #[.string (strA nm),.string (strA dt)] 86)).grownBy w5 (Value.slice va fs.length vc).ownBlock):=hg5;have HO5:=hide ho5;clear ho5 hg5 hloc5))
     have hrl:=World.ownsRow.lt HR1.out
     have hB5:Below w0.heap.size w0 w5:=below_grown2 (HB1.out.alloc HB1.out.size _) (by simp;omega) HG5.out (fun k hk=>(hrl k hk).1)
     refine ⟨⟨j+1,fs++[(nm,dt)],by omega,by go_num,by rw [List.length_append,HFL.out];rfl,HR2.out,?_,hB5⟩,by simp [intOf];omega⟩
     rw [List.length_append,← fcells_snoc]
     exact HO5.out
    have HRK:fileL id text j (kind,arg)=.error 7:=by
     show (if kind=1 then _ else if kind=2 then _ else if kind=3 then _ else if kind=4 then _ else _)=_
     rw [if_neg k1,if_neg k2,if_neg k3,if_neg k4]
    have e1:(kind == 1)=false:=by simp [k1]
    have e2:(kind == 2)=false:=by simp [k2]
    have e3:(kind == 3)=false:=by simp [k3]
    have e4:(kind == 4)=false:=by simp [k4]
    have HE:=hide (filesTo_err (r:=acts.drop (j+1)) fs HRK)
    rw [HE.out] at HR2
    clear HRK
    go_wp2
    go_ret2
    exact ⟨HB1.out.alloc HB1.out.size _,Or.inr ⟨7,HR2.out,rfl⟩⟩
end Go.Proofs.YtenahlandohgaaaGreatDoor
