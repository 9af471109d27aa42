import Derived.Test.YthkibedbcbgajaaGreatDoorDWrite
namespace Go.Proofs.YthkibedbcbgajaaGreatDoor
set_option linter.unusedVariables false
set_option linter.unusedSimpArgs false
set_option maxRecDepth 100000
set_option maxHeartbeats 4000000
open Go.RowKit
attribute [local go_sem ↓] Go.wp_at_zero Go.wp_at_succ
def OpsOk (p:List Dop):Prop:=∀ o∈p,(o.kind=1∨o.kind=3)∧o.name.length≤1000000
theorem ocells_at (l:List Dop) (j:Nat) (hj:j < l.length):(ocells l)[j*4]?=some (.int .i64 l[j].kind)∧(ocells l)[j*4+1]?=some (.string (strA l[j].name))∧(ocells l)[j*4+2]?=some (.string ⟨#[]⟩)∧(ocells l)[j*4+3]?=some (.string (strA l[j].data)):=by
 induction l generalizing j with
 | nil=>exact absurd hj (Nat.not_lt_zero _)
 | cons a r ih=>
  have e:ocells (a :: r)=.int .i64 a.kind :: .string (strA a.name) :: .string ⟨#[]⟩ :: .string (strA a.data) :: ocells r:=rfl
  rw [e]
  cases j with
  | zero=>exact ⟨rfl,rfl,rfl,rfl⟩
  | succ j=>
   have h:=ih j (by simpa using hj)
   have e1:(j+1)*4=j*4+4:=by omega
   rw [e1]
   exact h
theorem ops_nil (w:World) (B:Nat):w.ownsRow B 84 4 (.slice none 0 0) ([]:List Dop).length (ocells []):=⟨rfl,Or.inl ⟨rfl,rfl⟩⟩
theorem ddo_any (b n:Nat) (F:Fs) (o:Dop) (w:World) (h:MapF w b n F) (hn:n≤1000000) (hk:o.kind=1∨o.kind=3) (hx:o.name.length≤1000000) :
 Calls Tryz.prog 32 #[.map (some b),.agg #[.int .i64 o.kind,.string (strA o.name),.string ⟨#[]⟩,.string (strA o.data)]] w fun e w'=>e=.returned (.tuple #[])∧MapF w' b (n+1) (doF F o)∧Fr (PMap b) w w':=by
 obtain ⟨k,x,s⟩:=o
 rcases hk with hk | hk
 ·cases hk
  exact do_put b n F x s w h hn hx
 ·cases hk
  exact (do_del b n F x s w h hx).mono fun e w' ⟨h1,h2,h3⟩=>⟨h1,h2.mono (Nat.le_succ _),h3⟩
theorem sync_any (B db bd bn n:Nat) (D N:Fs) (p:List Dop) (q:Int) (pv:Value) (w:World) (h:DI w B db bd bn n D N p q pv) (hq0:-1000000≤q) (hq1:q≤-1) (hn:n≤500000) (hp:p.length≤400000) (hops:OpsOk p) :
 Calls Tryz.prog 315 #[.pointer (some ⟨db,0,none⟩)] w fun e w'=>e=.returned .nilIface∧DI w' B db bd bn (n+p.length) (p.foldl doF D) N [] (q - 1) (.slice none 0 0)∧Fr (PDk B) w w':=by
 obtain ⟨la,lc,rfl⟩:=owns_len h.row
 have HD:=hide h
 have HO:=hide hops
 clear h hops
 go_enter Tryz.func315,Tryz.ntmps315
 go_wp2_with fail
 refine (writes_any B db bd bn n D N p q _ w HD.out hq0 hq1).mono ?_
 rintro e w1 ⟨rfl,hD1,hF1⟩
 have HD1:=hide hD1
 have HF1:=hide (hF1.mono (fun k o hk=>hk.toK HD.out.bb.1))
 have d2:w1.cell? ⟨db,2,none⟩=some (.slice la p.length lc):=blk_cell hD1.blk 2
 clear hD1 hF1
 go_wp2
 go_loopw [16] (fun i wr=>∃ k:Nat,k≤p.length∧i=.int .i64 k∧DI wr B db bd bn (n+k) ((p.take k).foldl doF D) N p (q - 1) (.slice la p.length lc)∧Fr (PDk B) w wr) (fun i _=>p.length - (intOf i).toNat)
 case atStart=>exact ⟨0,by omega,rfl,HD1.out,HF1.out⟩
 case round=>
  obtain ⟨k,hk,rfl,hD,hF⟩:=hrel
  have HD2:=hide hD
  have HF2:=hide hF
  clear hF d2
  by_cases hlt:k < p.length
  ·have hlt':(k:Int) < (p.length:Int):=by omega
   obtain ⟨g,c1,hv1,_,hgl,hcells⟩:=owns_get hD.row (by omega)
   injection hv1 with hv1 _ hv3
   subst hv1
   have hat:=ocells_at p k hlt
   have e1:wr.cell? ⟨g,k*4,none⟩=some (.int .i64 p[k].kind):=hcells _ _ hat.1
   have e2:wr.cell? ⟨g,k*4+1,none⟩=some (.string (strA p[k].name)):=hcells _ _ hat.2.1
   have e3:wr.cell? ⟨g,k*4+2,none⟩=some (.string ⟨#[]⟩):=hcells _ _ hat.2.2.1
   have e4:wr.cell? ⟨g,k*4+3,none⟩=some (.string (strA p[k].data)):=hcells _ _ hat.2.2.2
   have hok:=HO.out p[k] (List.getElem_mem hlt)
   have HTK:Hid ((p.take (k+1)).foldl doF D=doF ((p.take k).foldl doF D) p[k]):=by
    show _=_
    rw [List.take_succ_eq_append_getElem hlt,List.foldl_append];rfl
   generalize p[k]=o at *
   have HOK:=hide hok
   clear hcells hat hv3 hD hok
   go_wp2_with fail
   obtain ⟨V,hV⟩:∃ V,V=wr.alloc (.cells #[.int .i64 o.kind,.string (strA o.name),.string ⟨#[]⟩,.string (strA o.data)] 84):=⟨_,rfl⟩
   have hBV:Below wr.heap.size wr V:=by rw [hV];exact (Below.refl _ _).alloc (Nat.le_refl _) _
   have hVo:V.heap[wr.heap.size]?=some (.cells #[.int .i64 o.kind,.string (strA o.name),.string ⟨#[]⟩,.string (strA o.data)] 84):=by rw [hV];exact blk_new _ _
   have HDV:=hide (HD2.out.below hBV)
   have HVO:=hide hVo
   have HFV:=hide (HF2.out.trans (Fr.of_below hBV))
   rw [← hV]
   have v0:V.cell? ⟨db,0,none⟩=some (.map (some bd)):=blk_cell HDV.out.blk 0
   have o0:V.cell? ⟨wr.heap.size,0,none⟩=some (.int .i64 o.kind):=blk_cell hVo 0
   have o1:V.cell? ⟨wr.heap.size,1,none⟩=some (.string (strA o.name)):=blk_cell hVo 1
   have o2:V.cell? ⟨wr.heap.size,2,none⟩=some (.string ⟨#[]⟩):=blk_cell hVo 2
   have o3:V.cell? ⟨wr.heap.size,3,none⟩=some (.string (strA o.data)):=blk_cell hVo 3
   clear hV hBV hVo
   go_region_held3 (fun w'=>w'.cell? ⟨db,0,none⟩=some (.map (some bd))∧w'.cell? ⟨wr.heap.size,0,none⟩=some (.int .i64 o.kind)∧w'.cell? ⟨wr.heap.size,1,none⟩=some (.string (strA o.name))∧w'.cell? ⟨wr.heap.size,2,none⟩=some (.string ⟨#[]⟩)∧w'.cell? ⟨wr.heap.size,3,none⟩=some (.string (strA o.data))) (first | go_keep | exact ⟨q1,q2,q3,q4,q5⟩) (first | (go_at_call 32;refine (ddo_any bd (n+k) ((p.take k).foldl doF D) o V.drew HDV.out.md (by omega) HOK.out.1 HOK.out.2).mono ?_;rintro e w2 ⟨rfl,hm2,hf2'⟩;have hf2:=hf2'.undrew;have hD2:=HDV.out.durTurn hf2 hm2;have HD3:=hide hD2;have hO2:=hf2.block _ _ HVO.out (fun ⟨_,es,c,e⟩=>by cases e);have q1:w2.cell? ⟨db,0,none⟩=some (.map (some bd)):=blk_cell hD2.blk 0;have q2:w2.cell? ⟨wr.heap.size,0,none⟩=some (.int .i64 o.kind):=blk_cell hO2 0;have q3:w2.cell? ⟨wr.heap.size,1,none⟩=some (.string (strA o.name)):=blk_cell hO2 1;have q4:w2.cell? ⟨wr.heap.size,2,none⟩=some (.string ⟨#[]⟩):=blk_cell hO2 2;have q5:w2.cell? ⟨wr.heap.size,3,none⟩=some (.string (strA o.data)):=blk_cell hO2 3;have HF3:=hide (HFV.out.trans (hf2.mono (fun k o hk=>hk.toK HDV.out.bb.2.1)));clear hm2 hf2 hf2' hD2 hO2;skip))
   all_goals go_wp2
   all_goals exact ⟨⟨k+1,by omega,by go_num,by rw [HTK.out];exact HD3.out,HF3.out⟩,by simp [intOf];omega⟩
  ·have hk':k=p.length:=by omega
   subst hk'
   have hz:¬ (p.length:Int) < (p.length:Int):=by omega
   have f2:∀ j,wr.frozen? ⟨db,j,none⟩=false:=fun j=>blk_frozen hD.blk j
   have d2:wr.cell? ⟨db,2,none⟩=some (.slice la p.length lc):=blk_cell hD.blk 2
   clear hD
   go_wp2
   go_ret
   have hfin:=HD2.out.rowTurn (w5:=wr) (p':=[]) (v':=.slice none 0 0) (Fr.refl _ wr) (ops_nil _ _)
   rw [List.take_length] at hfin
   exact ⟨rfl,hfin.1,HF2.out.trans hfin.2⟩
end Go.Proofs.YthkibedbcbgajaaGreatDoor
