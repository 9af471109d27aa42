import Derived.Test.YtenahlandohgaaaGreatDoorZGPart
namespace Go.Proofs.YtenahlandohgaaaGreatDoor
set_option linter.unusedVariables false
set_option linter.unusedSimpArgs false
set_option maxRecDepth 100000
set_option maxHeartbeats 4000000
open Go.RowKit
attribute [local go_sem ↓] Go.wp_at_zero Go.wp_at_succ
theorem errV_ne {k:Nat} (h:k≠0):errV k=.iface 40 (.int .i64 (k:Int)):=by unfold errV;rw [if_neg h]
theorem aRun_more {o:Dop} {l r:List Dop} {A:AD} (h:(aRun l A).1=0) (h2:(aDo o (aRun l A).2).1≠0):aRun (l++(o :: r)) A=aDo o (aRun l A).2:=by
 rw [aRun_app,if_pos h,aRun_n0 h2]
theorem gwstep_any (B db bd bn n fb xb:Nat) (A:AD) (fs:List Fl) (fv:Value) (w:World) (h:AbsD w B db bd bn n A) (hf:w.heap[fb]?=some (.cells #[fv] 26)) (hx:w.heap[xb]?=some (.cells #[dskV db] 113)) (hl:FilE w fv fs)
 (hn:n+fs.length≤480000) (hp:A.p.length+fs.length≤100000) (hs:∀ f∈fs,f.1.length≤1000∧f.2.length≤100000000) :
 Calls Tryz.prog 208 #[.pointer (some ⟨fb,0,none⟩),.pointer (some ⟨xb,0,none⟩)] w fun e w'=>e=.returned (errV (aRun (fs.map wOp) A).1)∧AbsD w' B db bd bn (n+fs.length) (aRun (fs.map wOp) A).2∧Fr (PDk B) w w':=by
 obtain ⟨a,c,rfl,hcl⟩:=hl
 have HD:=hide h
 have HF:=hide hf
 have HX:=hide hx
 have HCL:=hide hcl
 have HS:=hide hs
 have f0:w.cell? ⟨fb,0,none⟩=some (.slice a fs.length c):=blk_cell hf 0
 have x0:w.cell? ⟨xb,0,none⟩=some (dskV db):=blk_cell hx 0
 clear h hf hx hcl hs
 go_enter Tryz.func208,Tryz.ntmps208
 go_wp2
 go_loopw [4,5,8] (fun _ _ i wr=>∃ k:Nat,k≤fs.length∧i=.int .i64 k∧(aRun ((fs.take k).map wOp) A).1=0∧AbsD wr B db bd bn (n+k) (aRun ((fs.take k).map wOp) A).2∧Fr (PDk B) w wr) (fun _ _ i _=>fs.length - (intOf i).toNat)
 case atStart=>exact ⟨0,Nat.zero_le _,rfl,rfl,HD.out,Fr.refl _ _⟩
 case round=>
  obtain ⟨k,hk,rfl,h0,hD,hF⟩:=hrel
  have HH0:=hide h0
  have HF1:=hide hF
  by_cases hlt:k < fs.length
  rotate_left
  ·have hz:¬ (k:Int) < (fs.length:Int):=by omega
   have hke:k=fs.length:=by omega
   have HKE:=hide hke
   have HD1:=hide hD
   clear hke h0 hD hF
   go_wp2
   go_ret
   have h1:=HD1.out
   have h2:=HH0.out
   rw [HKE.out,List.take_length] at h1 h2
   exact ⟨by rw [h2];rfl,h1,HF1.out⟩
  obtain ⟨pv1,hD⟩:=hD
  have HD1:=hide hD
  clear h0 hD hF
  have hlt':(k:Int) < (fs.length:Int):=by omega
  obtain ⟨g,cs,rfl,hgb,hcc⟩:=HCL.out (fun e=>by rw [e] at hlt;exact absurd hlt (Nat.not_lt_zero _))
  have hat:=hcc k hlt
  have hgb':=HF1.out.block _ _ hgb PDk.notFile
  have hxb':=HF1.out.block _ _ HX.out PDk.notDisk
  have e1:wr.cell? ⟨g,k*2,none⟩=some (.string (strA fs[k].1)):=by rw [World.cell?_of_block (a:=⟨g,k*2,none⟩) (hgb'.trans hgb.symm)];exact hat.1
  have e2:wr.cell? ⟨g,k*2+1,none⟩=some (.string (strA fs[k].2)):=by rw [World.cell?_of_block (a:=⟨g,k*2+1,none⟩) (hgb'.trans hgb.symm)];exact hat.2
  have x1:∀ o,(wr.alloc o).cell? ⟨xb,0,none⟩=some (dskV db):=fun o=>blk_cell (blk_alloc hxb') 0
  have hsk:=HS.out fs[k] (List.getElem_mem hlt)
  have HTK:Hid ((fs.take (k+1)).map wOp=(fs.take k).map wOp++[wOp fs[k]]∧fs.map wOp=(fs.take k).map wOp++(wOp fs[k] :: (fs.drop (k+1)).map wOp)):=by
   show _∧_
   refine ⟨by rw [List.take_succ_eq_append_getElem hlt,List.map_append];rfl,?_⟩
   conv=>lhs;rw [← List.take_append_drop k fs,List.drop_eq_getElem_cons hlt]
   rw [List.map_append]
   rfl
  have HLP:Hid ((aRun ((fs.take k).map wOp) A).2.p.length≤100000):=by
   have:=aRun_len ((fs.take k).map wOp) A
   rw [List.length_map,List.length_take] at this
   show _≤_
   omega
  have HPX:Hid ((fs.take k).map wOp=(fs.take k).map wOp):=rfl
  generalize hA1:(aRun ((fs.take k).map wOp) A).2=A1 at *
  have HA1:=hide hA1
  clear hA1
  generalize fs[k]=f at *
  obtain ⟨x,s⟩:=f
  dsimp only at e1 e2 hsk
  obtain ⟨V,hV⟩:∃ V,V=wr.alloc (.cells #[.string (strA x),.string (strA s)] 86):=⟨_,rfl⟩
  have hBV:Below wr.heap.size wr V:=by rw [hV];exact (Below.refl _ _).alloc (Nat.le_refl _) _
  have hVs:V.heap.size=wr.heap.size+1:=by rw [hV];simp
  have hcv:=Lib.run_convert_string_bytes (P:=Tryz.prog) V 9 111 5 (strA s) (u:=.string) Tryz.underlying9 Tryz.underlying111 Tryz.underlying5
  have hB1:=Lib.bytesWorld_below V 5 (strA s)
  have hcell:∀ j (hj:j < s.length),(Lib.bytesWorld V 5 (strA s)).cell? ⟨V.heap.size,j,none⟩=some (.int .u8 (s[j].toNat:Int)):=fun j hj=>by
   rw [Lib.bytesWorld_cell V 5 (strA s) j (by rw [strA_size];exact hj)]
   rw [show (strA s).data.toList=s from rfl,List.getD_eq_getElem?_getD,List.getElem?_eq_getElem hj];rfl
  have hfz:∀ j,j < s.length→(Lib.bytesWorld V 5 (strA s)).frozen? ⟨V.heap.size,j,none⟩=false:=fun j hj=>by
   unfold World.frozen?;rw [Lib.bytesWorld_at_new];simp [Lib.bytesCells,strA_size];omega
  have hnew:=Lib.bytesWorld_at_new V 5 (strA s)
  have hzs:=strA_size s
  rw [hzs] at hcv
  rw [hV] at hcv
  generalize hbw:Lib.bytesWorld V 5 (strA s)=W1 at hB1 hcell hfz hnew
  rw [← hV,hbw,hVs] at hcv
  rw [hV] at hcv
  rw [hVs] at hcell hfz hnew
  have HBI:Hid (BI W1 (wr.heap.size+1) s.length):=⟨⟨_,_,hnew⟩,fun j hj=>⟨_,hcell j hj⟩,hfz⟩
  have HCE:=hide hcell
  have HBW:=hide (hBV.trans (hB1.mono (by omega)))
  have HDW:=hide (HD1.out.below HBW.out)
  have HXW:=hide (blk_below hxb' HBW.out)
  have x2:W1.cell? ⟨xb,0,none⟩=some (dskV db):=blk_cell HXW.out 0
  generalize grownCap (wr.alloc (.cells #[.string (strA x),.string (strA s)] 86)) s.length 0 5=cap at hcv
  have hmt:=mth_Write db
  clear hat hcc hgb' hxb' hgb f0 x0 hB1 hcell hfz hnew hbw hBV hV
  go_wp2_with fail
  refine (gwrite_any B db bd bn (n+k) (wr.heap.size+1) cap A1.D A1.N A1.p A1.lf pv1 x s W1 HDW.out (by omega) (by have:=HLP.out;omega) (by omega) HBI.out HCE.out (by omega)).mono ?_
  rintro e w2 ⟨hF2,⟨hk0,rfl,pv2,hD2⟩ | ⟨hk0,rfl,pv2,hD2⟩ | ⟨hk0,rfl,pv2,hD2⟩⟩
  ·have HF2:=hide (Fr.dropNew (HF1.out.trans (Fr.of_below HBW.out)) hF2 (by have:=HF1.out.size;omega))
   have HD2:=hide hD2
   have HR:=hide (aDo_w0 x s hk0)
   clear hD2 hF2 hcv x1 x2 e1 e2 hk0
   go_wp2
   have hrun:aRun ((fs.take (k+1)).map wOp) A=aDo ⟨1,x,s⟩ A1:=by
    rw [HTK.out.1,aRun_snoc _ _ _ HH0.out,HA1.out];rfl
   exact ⟨⟨k+1,by omega,by go_num,by rw [hrun,HR.out],(by rw [hrun,HR.out];exact ⟨pv2,HD2.out⟩),HF2.out⟩,by simp [intOf];omega⟩
  ·have HF2:=hide (Fr.dropNew (HF1.out.trans (Fr.of_below HBW.out)) hF2 (by have:=HF1.out.size;omega))
   have HD2:=hide (hD2.mono (show n+k≤n+fs.length by omega))
   have HR:=hide (aDo_w15 x s hk0)
   rw [errV_ne (by decide:(15:Nat)≠0)]
   clear hD2 hF2 hcv x1 x2 e1 e2 hk0
   go_wp2
   go_ret
   have hrun:aRun (fs.map wOp) A=aDo ⟨1,x,s⟩ A1:=by
    have h9:(aDo (wOp (x,s)) (aRun ((fs.take k).map wOp) A).2).1≠0:=by rw [HA1.out];show (aDo ⟨1,x,s⟩ A1).1≠0;rw [HR.out];exact (by decide:(15:Nat)≠0)
    rw [HTK.out.2,aRun_more HH0.out h9,HA1.out];rfl
   rw [hrun,HR.out]
   exact ⟨rfl,⟨pv2,HD2.out⟩,HF2.out⟩
  ·have HF2:=hide (Fr.dropNew (HF1.out.trans (Fr.of_below HBW.out)) hF2 (by have:=HF1.out.size;omega))
   have HD2:=hide (hD2.mono (show n+k≤n+fs.length by omega))
   have HR:=hide (aDo_w16 x s hk0)
   rw [errV_ne (by decide:(16:Nat)≠0)]
   clear hD2 hF2 hcv x1 x2 e1 e2 hk0
   go_wp2
   go_ret
   have hrun:aRun (fs.map wOp) A=aDo ⟨1,x,s⟩ A1:=by
    have h9:(aDo (wOp (x,s)) (aRun ((fs.take k).map wOp) A).2).1≠0:=by rw [HA1.out];show (aDo ⟨1,x,s⟩ A1).1≠0;rw [HR.out];exact (by decide:(16:Nat)≠0)
    rw [HTK.out.2,aRun_more HH0.out h9,HA1.out];rfl
   rw [hrun,HR.out]
   exact ⟨rfl,⟨pv2,HD2.out⟩,HF2.out⟩
theorem gsyncA_any (B db bd bn n:Nat) (A:AD) (w:World) (h:AbsD w B db bd bn n A) (hn:n≤490000) (hp:A.p.length≤100000) (hops:OpsOk A.p) :
 Calls Tryz.prog 340 #[.pointer (some ⟨db,0,none⟩)] w fun e w'=>e=.returned (errV (aDo sOp A).1)∧AbsD w' B db bd bn (n+A.p.length) (aDo sOp A).2∧Fr (PDk B) w w':=by
 obtain ⟨pv,h⟩:=h
 refine (gsync_any B db bd bn n A.D A.N A.p A.lf pv w h (by omega) (by omega) hops).mono ?_
 rintro e w1 ⟨hF1,⟨hk,rfl,hD1⟩ | ⟨hk,rfl,hD1⟩⟩
 ·rw [aDo_s0 hk]
  exact ⟨rfl,⟨_,hD1⟩,hF1⟩
 ·rw [aDo_ne (A:=A) (o:=sOp) (by decide) hk]
  exact ⟨rfl,⟨_,hD1.mono (Nat.le_add_right _ _)⟩,hF1⟩
end Go.Proofs.YtenahlandohgaaaGreatDoor
