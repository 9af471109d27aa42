import Derived.Test.YtenahlandohgaaaGreatDoorDList
import Derived.Test.YtenahlandohgaaaGreatDoorEOne
namespace Go.Proofs.YtenahlandohgaaaGreatDoor
set_option linter.unusedVariables false
set_option linter.unusedSimpArgs false
set_option maxRecDepth 100000
set_option maxHeartbeats 4000000
open Go.RowKit
attribute [local go_sem ↓] Go.wp_at_zero Go.wp_at_succ
theorem two_fl2 (w:World) (o:Obj) (f:Fl) (t:TypeId):∀ j u,(encF f)[j]?=some u→((w.alloc o).alloc (.cells #[.string (strA f.1),.string (strA f.2)] t)).cell? ((⟨w.heap.size+1,0,none⟩:Addr).add j)=some u:=by
 have h:=two_fl (w.alloc o) f t
 rw [show (w.alloc o).heap.size=w.heap.size+1 by simp] at h
 exact h
def FilesPost (r:Except Nat (List Fl)) (w w':World) (e:Ending):Prop:=
 Below w.heap.size w w'∧((∃ fs v,r=.ok fs∧e=.returned (.tuple #[v,.nilIface])∧w'.ownsRow w.heap.size 86 2 v fs.length (fcells fs))∨∃ k,r=.error k∧e=.returned (.tuple #[.slice none 0 0,.iface 40 (.int .i64 ((k:Nat):Int))]))
theorem dvfiles_any (id text:List UInt8) (acts:List (Int×List UInt8)) (av:Value) (w:World) (ht:Tab w) (ha:ActG w av acts) (h1:id.length≤2000000) (h2:text.length≤2000000) (h3:∀ a∈acts,a.2.length≤2000000) (h4:acts.length≤2000000) :
 Calls Tryz.prog 78 #[.agg #[.string (strA id),av,.string (strA text)]] w fun e w'=>FilesPost (filesL id acts text) w w' e:=by
 obtain ⟨a,c,rfl,hac⟩:=ha
 have HAC:=hide hac
 have HT:=hide ht
 have H3:=hide h3
 have hz1:=strA_size id
 obtain ⟨W,hW⟩:∃ W,W=w.alloc (.cells #[.string (strA id),.slice a acts.length c,.string (strA text)] 159):=⟨_,rfl⟩
 have HWB:Hid (Below w.heap.size w W):=by rw [hW];exact (Below.refl _ _).alloc (Nat.le_refl _) _
 have HWD:Hid (W.heap[w.heap.size]?=some (.cells #[.string (strA id),.slice a acts.length c,.string (strA text)] 159)):=by rw [hW];exact blk_new _ _
 have HWW:=hide hW
 have d1:W.cell? ⟨w.heap.size,1,none⟩=some (.slice a acts.length c):=blk_cell HWD.out 1
 obtain ⟨i0,hi,hz0,hz1',hz2⟩:=info_parts Tryz.infoFile
 clear hac ht h3 hW
 go_enter Tryz.func78,Tryz.ntmps78
 go_wp2_with fail
 rw [← HWW.out]
 refine (isID_any (strA id) W (by rw [strA_size];omega)).mono ?_
 rintro e w0 ⟨rfl,hw0⟩
 rw [hw0,show isIDL (strA id).data.toList=isIDL id from rfl]
 clear hw0
 cases hid:isIDL id
 ·have HR:Hid (filesL id acts text=.error 13):=by show (if isIDL id=true then _ else _)=_;rw [hid];rfl
  go_wp2
  go_ret2
  exact ⟨HWB.out,Or.inr ⟨13,HR.out,rfl⟩⟩
 by_cases h6:6 < acts.length
 ·have HR:Hid (filesL id acts text=.error 11):=by show (if isIDL id=true then (if 6 < acts.length then _ else _) else _)=_;rw [hid,if_pos rfl,if_pos h6]
  have h6':(6:Int) < (acts.length:Int):=by omega
  go_wp2
  go_ret2
  exact ⟨HWB.out,Or.inr ⟨11,HR.out,rfl⟩⟩
 have h6':¬ (6:Int) < (acts.length:Int):=by omega
 have HR:Hid (filesL id acts text=appR [] (filesTo id text 0 (acts.drop 0))):=by
  show (if isIDL id=true then (if 6 < acts.length then _ else _) else _)=_
  rw [hid,if_pos rfl,if_neg h6,appR_nil];rfl
 go_wp2
 go_loopw [4,5,6,7,8,22] (fun v _ _ _ _ i wr=>∃ (k:Nat) (fs:List Fl),k≤acts.length∧i=.int .i64 k∧fs.length=k∧filesL id acts text=appR fs (filesTo id text k (acts.drop k))∧wr.ownsRow w.heap.size 86 2 v fs.length (fcells fs)∧Below w.heap.size w wr∧wr.heap[w.heap.size]?=some (.cells #[.string (strA id),.slice a acts.length c,.string (strA text)] 159)) (fun _ _ _ _ _ i _=>acts.length - (intOf i).toNat)
 case atStart=>exact ⟨0,[],Nat.zero_le _,rfl,rfl,HR.out,World.ownsRow_nil _ _ _ _,HWB.out,HWD.out⟩
 case round=>
  obtain ⟨k,fs,hk,rfl,hfl,hR,hrow,hB,hD⟩:=hrel
  have HR2:=hide hR
  have HFL:=hide hfl
  have hf6:fs.length≤6:=by omega
  clear hfl
  have HRW:=hide hrow
  have HB:=hide hB
  have HD:=hide hD
  have hwr:=hB.size
  have hDl:=blk_lt hD
  obtain ⟨va,vc,hvv⟩:=owns_len hrow
  subst hvv
  have g0:wr.cell? ⟨w.heap.size,0,none⟩=some (.string (strA id)):=blk_cell hD 0
  have g1:wr.cell? ⟨w.heap.size,1,none⟩=some (.slice a acts.length c):=blk_cell hD 1
  have g2:wr.cell? ⟨w.heap.size,2,none⟩=some (.string (strA text)):=blk_cell hD 2
  clear hR hrow hB hD d1
  by_cases hlt:k < acts.length
  rotate_left
  ·have hz:¬ (k:Int) < (acts.length:Int):=by omega
   have HE:Hid (filesL id acts text=.ok fs):=by
    show _=_
    rw [HR2.out,List.drop_of_length_le (by omega)]
    simp [appR,filesTo]
   go_wp2
   go_ret2
   exact ⟨HB.out,Or.inl ⟨fs,_,HE.out,rfl,HRW.out⟩⟩
  have hlt':(k:Int) < (acts.length:Int):=by omega
  obtain ⟨b,off,rfl,hcc⟩:=HAC.out (fun e=>by rw [e] at hlt;exact absurd hlt (Nat.not_lt_zero _))
  have hat:=hcc k hlt
  have hgl:=cell_lt hat.1
  have e1:wr.cell? ⟨b,off+k*2,none⟩=some (.int .i64 acts[k].1):=(HB.out.cell (p:=⟨b,off+k*2,none⟩) hgl).trans hat.1
  have e2:wr.cell? ⟨b,off+k*2+1,none⟩=some (.string (strA acts[k].2)):=(HB.out.cell (p:=⟨b,off+k*2+1,none⟩) hgl).trans hat.2
  have h3k:=H3.out acts[k] (List.getElem_mem hlt)
  rw [List.drop_eq_getElem_cons hlt] at HR2
  generalize acts[k]=x at *
  obtain ⟨kind,arg⟩:=x
  dsimp only at e1 e2 h3k
  obtain ⟨V,hV⟩:∃ V,V=wr.alloc (.cells #[.int .i64 kind,.string (strA arg)] 51):=⟨_,rfl⟩
  have hBV:Below wr.heap.size wr V:=by rw [hV];exact (Below.refl _ _).alloc (Nat.le_refl _) _
  have HBV:=hide (HB.out.trans (hBV.mono hwr))
  have HDV:=hide (blk_below HD.out hBV)
  have HRV:Hid (V.ownsRow w.heap.size 86 2 (.slice va fs.length vc) fs.length (fcells fs)):=owns_fr (P:=fun _ _=>False) HRW.out (Fr.of_below hBV) (fun _ _ h=>h)
  have HWV:=hide hV
  have HTV:Hid (Tab V):=HT.out.below HBV.out
  clear hV hBV hat hcc
  go_wp2_with fail
  rw [← HWV.out]
  refine (file_any id text arg kind k _ acts.length c V HTV.out (by omega) h1 h2 h3k).mono ?_
  rintro e w1 ⟨rfl,hb1⟩
  have HB1:=hide (HBV.out.trans (hb1.mono HBV.out.size))
  have HD1:=hide (blk_below HDV.out hb1)
  have HR1:Hid (w1.ownsRow w.heap.size 86 2 (.slice va fs.length vc) fs.length (fcells fs)):=owns_fr (P:=fun _ _=>False) HRV.out (Fr.of_below hb1) (fun _ _ h=>h)
  have hw1:w.heap.size < w1.heap.size:=blk_lt HD1.out
  clear hb1 e1 e2 g0 g1 g2
  cases hf:fileL id text k (kind,arg) with
  | error e=>
   have HE:=hide (filesTo_err (r:=acts.drop (k+1)) fs hf)
   rw [HE.out] at HR2
   unfold fileV
   dsimp only
   go_wp2
   go_ret2
   exact ⟨HB1.out.alloc HB1.out.size _,Or.inr ⟨e,HR2.out,rfl⟩⟩
  | ok f=>
   have HE:=hide (filesTo_ok (r:=acts.drop (k+1)) fs hf)
   rw [HE.out] at HR2
   unfold fileV
   dsimp only
   go_wp2_with (at_builtin;refine wpList_append_own_at _ rfl _ _ 26 rfl w.heap.size 86 i0 _ 2 32 Tryz.underlying26 hi hz0 hz1' hz2 rfl (by decide) _ _ _ rfl (World.ownsRow.alloc (World.ownsRow.alloc HR1.out _) _) ⟨w1.heap.size+1,0,none⟩ 1 1 (encF f) rfl rfl (two_fl2 w1 _ f _) (one_fl f) (by unfold maxLen;omega) (by omega) (by simp;omega) ?_;intro v5 w5 ho5 hg5 _ hloc5;have HG5:Hid (((w1.alloc (.cells #[.string (strA f.1),.string (strA f.2)] 86)).alloc (.cells #[.string (strA f.1),.string (strA f.2)] 86)).grownBy w5 (Value.slice va fs.length vc).ownBlock):=hg5;have HO5:=hide ho5;clear ho5 hg5 hloc5)
   have hrl:=World.ownsRow.lt HR1.out
   have hB5:Below w.heap.size w w5:=below_grown2 (HB1.out.alloc HB1.out.size _) (by simp;omega) HG5.out (fun k hk=>(hrl k hk).1)
   refine ⟨⟨k+1,fs++[f],by omega,by go_num,by rw [List.length_append,HFL.out];rfl,HR2.out,?_,hB5,?_⟩,by simp [intOf];omega⟩
   ·rw [List.length_append,← fcells_snoc]
    exact HO5.out
   ·rw [HG5.out.block w.heap.size (by simp;omega) (fun e=>by
     obtain ⟨_,cs,hcs⟩:=owns_blk HR1.out _ _ e.symm HD1.out
     injection hcs with e1 e2
     exact absurd e2 (by decide))]
    exact blk_alloc (blk_alloc HD1.out)
end Go.Proofs.YtenahlandohgaaaGreatDoor
