import Derived.Test.YtenahlandohgaaaGreatDoorZEDeliver
import Derived.Test.YtenahlandohgaaaGreatDoorZGFmt
import Derived.Test.YtenahlandohgaaaGreatDoorZGSum
namespace Go.Proofs.YtenahlandohgaaaGreatDoor
set_option linter.unusedVariables false
set_option linter.unusedSimpArgs false
set_option maxRecDepth 100000
set_option maxHeartbeats 4000000
open Go.RowKit
attribute [local go_sem ↓] Go.wp_at_zero Go.wp_at_succ
def sealedL (name body:List UInt8):List UInt8:=itoaL body.length++[32]++hexL (fnvL [name,[10],body])++[10]++body
def jouL (id text:List UInt8) (acts:List (Int×List UInt8)):List UInt8:=sealedL kJournal (joinedL (jparts id text acts))
theorem gsealed_any (name body:List UInt8) (w:World) (ht:Tab w) (hz:Tz w) (hn:name.length≤1000) (hb:body.length≤90000000) :
 Calls Tryz.prog 210 #[.string (strA name),.string (strA body)] w fun e w'=>e=.returned (.string (strA (sealedL name body)))∧Below w.heap.size w w':=by
 have HT:=hide ht
 have HZ:=hide hz
 clear ht hz
 have hbz:=strA_size body
 go_enter Tryz.func210,Tryz.ntmps210
 go_wp2_with fail
 refine (itoa_any body.length (by omega) w HT.out).mono ?_
 rintro e w1 ⟨rfl,hb1⟩
 have HB1:=hide hb1
 have HZ1:=hide (HZ.out.below hb1)
 have hil:=itoaL_len body.length (by omega)
 have hzi:=strA_size (itoaL body.length)
 have k1:¬ 9223372036854775807 < (itoaL body.length).length+1:=by omega
 clear hb1
 have HS1:Hid (SlT (w1.alloc (.cells #[.string (strA name),.string ⟨#[10]⟩,.string (strA body)] 9)) (.slice (some ⟨w1.heap.size,0,none⟩) 3 3) [name,[10],body]):=SlT.new w1 [name,[10],body]
 have HZ2:Hid (Tz (w1.alloc (.cells #[.string (strA name),.string ⟨#[10]⟩,.string (strA body)] 9))):=HZ1.out.below ((Below.refl _ _).alloc (Nat.le_refl _) _)
 have HB2:Hid (Below w.heap.size w (w1.alloc (.cells #[.string (strA name),.string ⟨#[10]⟩,.string (strA body)] 9))):=below_alloc HB1.out (Nat.le_refl _) _
 have hs2:=HB2.out.size
 go_wp2_with fail
 refine (gsum_any [name,[10],body] _ _ HS1.out (by intro p hp;simp at hp;rcases hp with rfl | rfl | rfl <;> first | omega | simp) (by simp)).mono ?_
 rintro e w2 ⟨rfl,h2⟩
 rw [h2]
 clear h2
 have hn64:=fnvL_lt [name,[10],body]
 have HSD:Hid (sealedL name body=itoaL body.length++[32]++hexL (fnvL [name,[10],body])++[10]++body):=rfl
 generalize fnvL [name,[10],body]=n at *
 go_wp2_with fail
 refine (gformatUint_any n hn64 _ HZ2.out).mono ?_
 rintro e w3 ⟨rfl,hb3⟩
 have hs:=hexL_len n
 generalize hexL n=s at *
 have HB3:=hide (HB2.out.trans (hb3.mono hs2))
 have hzs:=strA_size s
 have k2:¬ 9223372036854775807 < (itoaL body.length).length+1+s.length:=by omega
 have k3:¬ 9223372036854775807 < (itoaL body.length).length+1+s.length+1:=by omega
 have k4:¬ 9223372036854775807 < (itoaL body.length).length+1+s.length+1+body.length:=by omega
 clear hb3
 go_wp2
 go_ret
 have hJ:strA (itoaL body.length)++(⟨#[32]⟩:ByteArray)++strA s++(⟨#[10]⟩:ByteArray)++strA body=strA (itoaL body.length++[32]++s++[10]++body):=by
  rw [← strA_app,← strA_app,← strA_app,← strA_app];rfl
 refine ⟨?_,HB3.out⟩
 show Ending.returned (.string _)=_
 rw [hJ,HSD.out]
theorem gjournal_any (id text name:List UInt8) (acts:List (Int×List UInt8)) (av:Value) (w:World) (ht:Tab w) (hz:Tz w) (ha:ActG w av acts) (h1:id.length≤2000000) (h2:text.length≤2000000) (h3:∀ a∈acts,a.2.length≤2000000∧0≤a.1∧a.1≤2147483647) (h4:acts.length≤20) (h5:name.length≤1000) :
 Calls Tryz.prog 144 #[.agg #[.string (strA id),av,.string (strA text)],.string (strA name)] w fun e w'=>e=.returned (.string (strA (sealedL name (joinedL (jparts id text acts)))))∧Below w.heap.size w w':=by
 obtain ⟨a,c,rfl,hac⟩:=ha
 have HAC:=hide hac
 have HT:=hide ht
 have HZ:=hide hz
 have H3:=hide h3
 obtain ⟨i0,hi,hz0,hz1,hz2⟩:=info_parts Tryz.infoStr
 clear hac ht hz h3
 go_enter Tryz.func144,Tryz.ntmps144
 go_wp2_with fail
 go_loopw [5,7,16] (fun v _ i wr=>∃ k:Nat,k≤acts.length∧i=.int .i64 k∧wr.ownsRow w.heap.size 9 1 v (2+2*k) (tcells (jparts id text (acts.take k)))∧Below w.heap.size w wr∧w.heap.size < wr.heap.size) (fun _ _ i _=>acts.length - (intOf i).toNat)
 case atStart=>
  refine ⟨0,Nat.zero_le _,rfl,⟨rfl,Or.inr ⟨w.heap.size+1,2,_,rfl,by omega,blk_newAt (by simp),by omega,by decide,rfl,rfl⟩⟩,((Below.refl _ _).alloc (Nat.le_refl _) _).alloc (by simp) _,by simp;omega⟩
 case round=>
  obtain ⟨k,hk,rfl,hrow,hB,hlw⟩:=hrel
  have HRW:=hide hrow
  have HB:=hide hB
  obtain ⟨va,vc,hvv⟩:=owns_len hrow
  subst hvv
  clear hrow hB
  have HTR:Hid (Tab wr):=HT.out.below HB.out
  by_cases hlt:k < acts.length
  rotate_left
  ·have hz:¬ (k:Int) < (acts.length:Int):=by omega
   have HE:Hid (acts.take k=acts):=List.take_of_length_le (by omega)
   rw [HE.out] at HRW
   have HSL:Hid (SlT wr (.slice va (2+2*k) vc) (jparts id text acts)):=SlT.of_owns HRW.out (by rw [jparts_len];omega)
   have hsum:=jparts_sum id text acts h1 h2 H3.out
   have hjl:=jparts_len id text acts
   have HZR:Hid (Tz wr):=HZ.out.below HB.out
   go_wp2_with fail
   refine (joined_any (jparts id text acts) _ wr HTR.out HSL.out (by omega) (by omega)).mono ?_
   rintro e w1 ⟨rfl,hb1⟩
   have hjj:=joined_len (jparts id text acts) (fun p hp=>by have:=sumP_le p hp;omega)
   have HT1:=hide (HTR.out.below hb1)
   have HZ1:=hide (HZR.out.below hb1)
   have HB1:=hide (HB.out.trans (hb1.mono (by omega)))
   clear hb1
   obtain ⟨J0,hJ0⟩:∃ J,J=joinedL (jparts id text acts):=⟨_,rfl⟩
   rw [← hJ0] at hjj ⊢
   have HJJ:=hide hJ0
   clear hJ0
   go_wp2_with fail
   refine (gsealed_any name J0 w1 HT1.out HZ1.out h5 (by omega)).mono ?_
   rintro e w2 ⟨rfl,hb2⟩
   have HB2:=hide (HB1.out.trans (hb2.mono HB1.out.size))
   clear hb2
   go_wp2
   go_ret
   exact ⟨by rw [← HJJ.out];rfl,HB2.out⟩
  have hlt':(k:Int) < (acts.length:Int):=by omega
  obtain ⟨b,off,rfl,hcc⟩:=HAC.out (fun e=>by rw [e] at hlt;exact absurd hlt (Nat.not_lt_zero _))
  have hat:=hcc k hlt
  have hgl:=cell_lt hat.1
  have e1:wr.cell? ⟨b,off+k*2,none⟩=some (.int .i64 acts[k].1):=(HB.out.cell (p:=⟨b,off+k*2,none⟩) hgl).trans hat.1
  have e2:wr.cell? ⟨b,off+k*2+1,none⟩=some (.string (strA acts[k].2)):=(HB.out.cell (p:=⟨b,off+k*2+1,none⟩) hgl).trans hat.2
  obtain ⟨h3k,hk0,hk1⟩:=H3.out acts[k] (List.getElem_mem hlt)
  have HSN:=hide (jparts_snoc id text acts k hlt)
  generalize acts[k]=x at *
  obtain ⟨kind,arg⟩:=x
  dsimp only at e1 e2 h3k hk0 hk1 HSN
  obtain ⟨kn,rfl⟩:∃ kn:Nat,kind=(kn:Int):=⟨kind.toNat,by omega⟩
  rw [Int.toNat_natCast] at HSN
  clear hat hcc
  go_wp2_with fail
  have HV:Hid ((wr.alloc (.cells #[.int .i64 (kn:Int),.string (strA arg)] 51)).heap[wr.heap.size]?=some (.cells #[.int .i64 (kn:Int),.string (strA arg)] 51)):=blk_new _ _
  have HBV:Hid (Below wr.heap.size wr (wr.alloc (.cells #[.int .i64 (kn:Int),.string (strA arg)] 51))):=(Below.refl _ _).alloc (Nat.le_refl _) _
  generalize wr.alloc (.cells #[.int .i64 (kn:Int),.string (strA arg)] 51)=V at *
  have HSJ:Hid (∀ W:World,W.heap[wr.heap.size]?=some (.cells #[.int .i64 (kn:Int),.string (strA arg)] 51)→W.cell? ⟨wr.heap.size,0,none⟩=some (.int .i64 (kn:Int))∧W.cell? ⟨wr.heap.size,1,none⟩=some (.string (strA arg))):=fun W hv=>⟨blk_cell hv 0,blk_cell hv 1⟩
  have HRV:Hid (V.ownsRow w.heap.size 9 1 (.slice va (2+2*k) vc) (2+2*k) (tcells (jparts id text (acts.take k)))):=owns_fr (P:=fun _ _=>False) HRW.out (Fr.of_below HBV.out) (fun _ _ h=>h)
  have HBW:Hid (Below w.heap.size w V):=HB.out.trans (HBV.out.mono (by omega))
  have HTV:Hid (Tab V):=HT.out.below HBW.out
  clear e1 e2
  refine wp_region_held (S:=fun w'=>w'.cell? ⟨wr.heap.size,0,none⟩=some (.int .i64 (kn:Int))∧w'.cell? ⟨wr.heap.size,1,none⟩=some (.string (strA arg))) (by kernel_rfl) ?_
  have hS:=HSJ.out V.drew HV.out
  refine takeH 0 20 (.slice va (2+2*k) vc) rfl hS (fun w' ⟨s1,s2⟩=>by go_simp) ?_
  simp only [pt,sz,sc]
  refine takeH 1 21 (.pointer (some ⟨wr.heap.size,0,none⟩)) rfl hS (fun w' ⟨s1,s2⟩=>by go_simp) ?_
  simp only [pt,sz,sc]
  refine takeH 2 22 (.int .i64 (kn:Int)) rfl hS (fun w' ⟨s1,s2⟩=>by go_simp) ?_
  simp only [pt,sz,sc]
  refine takeH 4 24 (.pointer (some ⟨wr.heap.size,1,none⟩)) rfl hS (fun w' ⟨s1,s2⟩=>by go_simp) ?_
  simp only [pt,sz,sc]
  refine takeH 5 25 (.string (strA arg)) rfl hS (fun w' ⟨s1,s2⟩=>by go_simp) ?_
  simp only [pt,sz,sc]
  refine wpAnyH_all (rs:=[3]) (by kernel_rfl) (by decide) (fun j hj=>?_)
  simp only [List.mem_singleton] at hj
  subst hj
  refine wpOpE rfl (by rfl) ?_
  clear hS
  go_simp
  refine (itoa_any kn (by omega) V.drew HTV.out).mono ?_
  rintro e w1 ⟨rfl,hb1'⟩
  have hb1:=below_drew hb1'
  have HV1:=hide (blk_below HV.out hb1)
  have HB1:=hide (HBW.out.trans (hb1.mono HBW.out.size))
  have HR1:Hid (w1.ownsRow w.heap.size 9 1 (.slice va (2+2*k) vc) (2+2*k) (tcells (jparts id text (acts.take k)))):=owns_fr (P:=fun _ _=>False) HRV.out (Fr.of_below hb1) (fun _ _ h=>h)
  clear hb1 hb1'
  refine ⟨HSJ.out w1 HV1.out,?_⟩
  try simp only [Act.put,List.setIfInBounds_toArray,List.set_cons_zero,List.set_cons_succ]
  have hS:=HSJ.out w1 HV1.out
  refine wpAnyH_all (rs:=[6]) (by kernel_rfl) (by decide) (fun j hj=>?_)
  simp only [List.mem_singleton] at hj
  subst hj
  refine wpOpE rfl (by rfl) ?_
  clear hS
  go_simp
  refine ⟨HSJ.out _ (blk_alloc HV1.out),?_⟩
  try simp only [Act.put,List.setIfInBounds_toArray,List.set_cons_zero,List.set_cons_succ]
  have hS:=HSJ.out (w1.alloc (.cells #[.string (strA (itoaL kn)),.string (strA arg)] 9)) (blk_alloc HV1.out)
  refine wpAnyH_all (rs:=[7]) (by kernel_rfl) (by decide) (fun j hj=>?_)
  simp only [List.mem_singleton] at hj
  subst hj
  refine wpOpE rfl (by rfl) ?_
  clear hS
  refine wpOper_append (P:=Tryz.prog) _ _ 72 rfl w.heap.size 9 i0 _ 1 16 Tryz.underlying72 hi hz0 hz1 hz2 rfl (by decide) _ _ _ rfl (World.ownsRow.alloc HR1.out _) ⟨w1.heap.size,0,none⟩ 2 2 [.string (strA (itoaL kn)),.string (strA arg)] rfl rfl (two_s w1 _ _ _) (twoS _ _) (by unfold maxLen;omega) (by omega) (by have:=HB1.out.size;simp;omega) 27 rfl ?_
  intro v5 w5 ho5 hg5
  have HG5:Hid ((w1.alloc (.cells #[.string (strA (itoaL kn)),.string (strA arg)] 9)).grownBy w5 (Value.slice va (2+2*k) vc).ownBlock):=hg5
  have HO5:=hide ho5
  clear ho5 hg5
  have hw1:=blk_lt HV1.out
  have HV5:Hid (w5.heap[wr.heap.size]?=some (.cells #[.int .i64 (kn:Int),.string (strA arg)] 51)):=by
   show _=_
   rw [HG5.out.block wr.heap.size (by simp;omega) (fun e=>by
    obtain ⟨_,cs,hcs⟩:=owns_blk HR1.out _ _ e.symm HV1.out
    injection hcs with e1 e2
    exact absurd e2 (by decide))]
   exact blk_alloc HV1.out
  have HB5:Hid (Below w.heap.size w w5):=below_grown2 HB1.out HB1.out.size HG5.out (fun k hk=>(World.ownsRow.lt HR1.out k hk).1)
  have hw5:=blk_lt HV5.out
  refine ⟨HSJ.out w5 HV5.out,?_⟩
  simp only [pt,sz,sc]
  have hS:=HSJ.out w5 HV5.out
  refine takeH 8 5 v5 rfl hS (fun w' ⟨s1,s2⟩=>by go_simp) ?_
  simp only [pt,sz,sc]
  refine wpAnyH_done (by kernel_rfl) ?_ _
  try simp only [Act.put,List.setIfInBounds_toArray,List.set_cons_zero,List.set_cons_succ]
  clear hS
  try simp only [Exit.then]
  go_wp2
  refine ⟨⟨k+1,by omega,by go_num,?_,HB5.out,by omega⟩,by simp [intOf];omega⟩
  rw [HSN.out,show 2+2*(k+1)=2+2*k+2 by omega]
  have:=HO5.out
  unfold tcells at this ⊢
  rw [List.map_append]
  exact this
end Go.Proofs.YtenahlandohgaaaGreatDoor
