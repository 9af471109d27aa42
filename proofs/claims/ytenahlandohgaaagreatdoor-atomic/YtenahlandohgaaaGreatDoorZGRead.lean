import Derived.Lib.ConvBytes
import Derived.Test.YtenahlandohgaaaGreatDoorZDUp
import Derived.Test.YtenahlandohgaaaGreatDoorZGTell
namespace Go.Proofs.YtenahlandohgaaaGreatDoor
set_option linter.unusedVariables false
set_option linter.unusedSimpArgs false
set_option maxRecDepth 100000
set_option maxHeartbeats 4000000
section
open Go.RowKit
attribute [local go_sem ↓] Go.wp_at_zero Go.wp_at_succ
theorem aWr_cases (a:Lf):(aWr a).1=0∨(aWr a).1=15∨(aWr a).1=16:=by
 unfold aWr
 split
 ·exact Or.inr (Or.inr rfl)
 ·split
  ·exact Or.inr (Or.inl rfl)
  ·exact Or.inl rfl
theorem DJ.by {w w':World} {B db bd bn n gb:Nat} {D N:Fs} {p:List Dop} {ql qf:Int} {dn:Bool} {pv:Value} (h:DJ w B db bd bn n D N p ql qf dn pv) (hf:Fr (PBy gb) w w'):DJ w' B db bd bn n D N p ql qf dn pv:=
 h.fr hf (fun k cs ⟨_,cs',fr,e⟩=>by injection e with e1 e2;exact absurd e2 (by decide)) (fun k es c ⟨_,cs',fr,e⟩=>by cases e) (fun k cs ⟨_,cs',fr,e⟩=>by injection e with e1 e2;exact absurd e2 (by decide)) (fun k cs ⟨_,cs',fr,e⟩=>by injection e with e1 e2;exact absurd e2 (by decide))
def GWPost (B db bd bn n gb:Nat) (D N:Fs) (p:List Dop) (a:Lf) (x s:List UInt8) (w:World) (e:Ending) (w':World):Prop:=
 Fr (fun k o=>PDk B k o∨PBy gb k o) w w'∧(((aWr a).1=0∧e=.returned .nilIface∧∃ pv',DJ w' B db bd bn (n+1) D (putF N x s) (p++[⟨1,x,s⟩]) (aWr a).2.left (aWr a).2.full (aWr a).2.down pv')∨
  ((aWr a).1=15∧e=.returned (errV 15)∧∃ pv',DJ w' B db bd bn n D N p (aWr a).2.left (aWr a).2.full (aWr a).2.down pv')∨
  ((aWr a).1=16∧e=.returned (errV 16)∧∃ pv',DJ w' B db bd bn n D N (p++[⟨1,x,s⟩]) (aWr a).2.left (aWr a).2.full (aWr a).2.down pv'))
theorem gwrite_any (B db bd bn n gb c:Nat) (D N:Fs) (p:List Dop) (a:Lf) (pv:Value) (x s:List UInt8) (w:World) (h:DJ w B db bd bn n D N p a.left a.full a.down pv) (hn:n≤1000000) (hp:p.length≤1000000) (hx:x.length≤1000000) (hg:BI w gb s.length) (hc:∀ j (hj:j < s.length),w.cell? ⟨gb,j,none⟩=some (.int .u8 (s[j].toNat:Int))) (hs:s.length≤140737488355328) :
 Calls Tryz.prog 341 #[.pointer (some ⟨db,0,none⟩),.string (strA x),.slice (some ⟨gb,0,none⟩) s.length c] w (GWPost B db bd bn n gb D N p a x s w):=by
 have hgl:gb < w.heap.size:=by obtain ⟨cs,fr,hb⟩:=hg.blk;exact blk_lt hb
 have hcv:(convert 111 9 (.slice (some ⟨gb,0,none⟩) s.length c)).run Tryz.prog w=.ok (.string (strA s)) w:=run_convert_bytes_back (P:=Tryz.prog) w 111 9 5 ⟨gb,0,none⟩ c s Tryz.underlying111 Tryz.underlying5 Tryz.underlying9 (fun j hj=>by
  rw [addr_add0];exact hc j hj)
 obtain ⟨V,hV⟩:∃ V,V=w.alloc (.cells #[.int .i64 1,.string (strA x),.string ⟨#[]⟩,.string (strA s)] 116):=⟨_,rfl⟩
 have HVB:Hid (Below w.heap.size w V):=by rw [hV];exact (Below.refl _ _).alloc (Nat.le_refl _) _
 have HD:=hide (h.below HVB.out)
 have HG:=hide (hg.fr (P:=fun _ _=>False) (Fr.of_below HVB.out) (fun _ _ _ h=>h))
 have HWW:=hide hV
 have HVO:Hid (V.heap[w.heap.size]?=some (.cells #[.int .i64 1,.string (strA x),.string ⟨#[]⟩,.string (strA s)] 116)):=by rw [hV];exact blk_new _ _
 clear h hg hc hV
 go_enter Tryz.func341,Tryz.ntmps341
 go_wp2_with fail
 rw [← HWW.out]
 refine (gtell_put B db bd bn n D N p a pv x s V HD.out hn hp hx).mono ?_
 rintro e w1 ⟨hF1,⟨hk,rfl,pv1,hD1⟩ | ⟨hk,rfl,hD1,hFB⟩⟩
 ·have HD1:=hide hD1
  have HK:=hide hk
  have HG1:=hide (HG.out.fr hF1 (fun k cs fr=>PDk.notBy))
  have HF1:=hide (((Fr.of_below (P:=PDk B) HVB.out).trans hF1).mono (Q:=fun k o=>PDk B k o∨PBy gb k o) (fun k o h=>Or.inl h))
  clear hD1 hF1 hcv hk
  have hne:∀ W,(binOp .eql 67 .nilIface (.iface 40 (.int .i64 16))).run Tryz.prog W=.ok (.bool false) W:=fun W=>by kernel_rfl
  go_wp2
  clear hne
  go_loopw [9,32] (fun _ i wr=>∃ k:Nat,k≤s.length∧i=.int .i64 k∧BI wr gb s.length∧DJ wr B db bd bn (n+1) D (putF N x s) (p++[⟨1,x,s⟩]) (aWr a).2.left (aWr a).2.full (aWr a).2.down pv1∧Fr (fun k o=>PDk B k o∨PBy gb k o) w wr) (fun _ i _=>s.length - (intOf i).toNat)
  case atStart=>exact ⟨0,by omega,rfl,HG1.out,HD1.out,HF1.out⟩
  case round=>
   obtain ⟨k,hk,rfl,hG,hD,hF⟩:=hrel
   have HG2:=hide hG
   have HD2:=hide hD
   have HF2:=hide hF
   by_cases hlt:k < s.length
   ·obtain ⟨u,hu⟩:=hG.cel k hlt
    have hfz:=hG.frz k hlt
    clear hG hD hF
    go_wp2
    have hset:=PBy.set HG2.out k (.int .u8 33)
    exact ⟨⟨k+1,by omega,by go_num,HG2.out.set k _,HD2.out.by hset,HF2.out.trans (hset.mono (fun k o h=>Or.inr h))⟩,by simp [intOf];omega⟩
   ·have hk':k=s.length:=by omega
    subst hk'
    clear hG hD hF
    go_wp2
    go_ret
    exact ⟨HF2.out,Or.inl ⟨HK.out,rfl,_,HD2.out⟩⟩
 rcases aWr_cases a with h0 | h15 | h16
 ·exact absurd h0 hk
 ·have HD1:=hide hD1
  have HK:=hide h15
  have HG1:=hide (HG.out.fr hF1 (fun k cs fr=>PDk.notBy))
  have HF1:=hide (((Fr.of_below (P:=PDk B) HVB.out).trans hF1).mono (Q:=fun k o=>PDk B k o∨PBy gb k o) (fun k o h=>Or.inl h))
  rw [h15,show errV 15=.iface 40 (.int .i64 15) from rfl]
  clear hD1 hF1 hcv hk h15
  have hne:∀ W,(binOp .eql 67 (.iface 40 (.int .i64 15)) (.iface 40 (.int .i64 16))).run Tryz.prog W=.ok (.bool false) W:=fun W=>by kernel_rfl
  go_wp2
  clear hne
  go_loopw [9,32] (fun _ i wr=>∃ k:Nat,k≤s.length∧i=.int .i64 k∧BI wr gb s.length∧DJ wr B db bd bn n D N p (aWr a).2.left (aWr a).2.full (aWr a).2.down pv∧Fr (fun k o=>PDk B k o∨PBy gb k o) w wr) (fun _ i _=>s.length - (intOf i).toNat)
  case atStart=>exact ⟨0,by omega,rfl,HG1.out,HD1.out,HF1.out⟩
  case round=>
   obtain ⟨k,hk,rfl,hG,hD,hF⟩:=hrel
   have HG2:=hide hG
   have HD2:=hide hD
   have HF2:=hide hF
   by_cases hlt:k < s.length
   ·obtain ⟨u,hu⟩:=hG.cel k hlt
    have hfz:=hG.frz k hlt
    clear hG hD hF
    go_wp2
    have hset:=PBy.set HG2.out k (.int .u8 33)
    exact ⟨⟨k+1,by omega,by go_num,HG2.out.set k _,HD2.out.by hset,HF2.out.trans (hset.mono (fun k o h=>Or.inr h))⟩,by simp [intOf];omega⟩
   ·have hk':k=s.length:=by omega
    subst hk'
    clear hG hD hF
    go_wp2
    go_ret
    exact ⟨HF2.out,Or.inr (Or.inl ⟨HK.out,rfl,_,HD2.out⟩)⟩
 ·have HDK:=hide hD1
  have HK:=hide h16
  have HGK:=hide (HG.out.fr hF1 (fun k cs fr=>PDk.notBy))
  have HFK:=hide ((Fr.of_below (P:=PDk B) HVB.out).trans hF1)
  have hO2:=hFB.block _ _ HVO.out (fun ⟨_,cs,e⟩=>by injection e with e1 e2;exact absurd e2 (by decide))
  have HO2:=hide hO2
  rw [h16,show errV 16=.iface 40 (.int .i64 16) from rfl]
  clear hD1 hF1 hcv hk h16
  have hne:∀ W,(binOp .eql 67 (.iface 40 (.int .i64 16)) (.iface 40 (.int .i64 16))).run Tryz.prog W=.ok (.bool true) W:=fun W=>by kernel_rfl
  obtain ⟨la,lc,hla⟩:=owns_len HDK.out.row
  subst hla
  have q2:w1.cell? ⟨w.heap.size,0,none⟩=some (.int .i64 1):=blk_cell hO2 0
  have q3:w1.cell? ⟨w.heap.size,1,none⟩=some (.string (strA x)):=blk_cell hO2 1
  have q4:w1.cell? ⟨w.heap.size,2,none⟩=some (.string ⟨#[]⟩):=blk_cell hO2 2
  have q5:w1.cell? ⟨w.heap.size,3,none⟩=some (.string (strA s)):=blk_cell hO2 3
  have s2:w1.cell? ⟨db,2,none⟩=some (.slice la p.length lc):=blk_cell HDK.out.blk 2
  have hdl2:=blk_lt HDK.out.blk
  have hBd:=HDK.out.bb.1
  have hB2:B≤w1.heap.size:=by omega
  have HROW:=hide HDK.out.rowNe
  obtain ⟨i0,hi,hz0,hz1,hz2⟩:=info_parts Tryz.infoOp
  clear hO2 hFB
  go_wp2_with fail
  go_region_law (refine step_append_lies _ rfl (.tmp 24) (.tmp 26) 82 rfl B 116 i0 (.agg #[.int .i64 0,.string ⟨#[]⟩,.string ⟨#[]⟩,.string ⟨#[]⟩]) 4 56 Tryz.underlying82 hi hz0 hz1 hz2 rfl (by decide) (.slice la p.length lc) p.length (ocells p) (by simp [Act.eval,Act.put]) (HDK.out.row.alloc _) ⟨w1.heap.size,0,none⟩ 1 1 (ocell ⟨1,x,s⟩) (by simp [Act.eval,Act.put]) rfl (four_op _ ⟨1,x,s⟩ _) (one_op ⟨1,x,s⟩) (by decide) (by unfold maxLen;omega) (by omega) (by simp;omega) _ rfl ?_;intro g' cap' w5 hown5 hgrow hat hlt5;have HO5:=hide hown5;have HG5:=hide hgrow;have t2:w5.cell? ⟨db,2,none⟩=some (.slice la p.length lc):=hgrow.cell (a:=⟨db,2,none⟩) ((World.cell?_of_block (a:=⟨db,2,none⟩) (w:=w1) (Below.heap_alloc _ _ _ hdl2)).trans s2) (fun e=>HROW.out e.symm);have hft:∀ j,w5.frozen? ⟨db,j,none⟩=false:=fun j=>(World.frozen?_of_block (a:=⟨db,j,none⟩) (w:=w1) ((hgrow.block db (by simp;omega) (fun e=>HROW.out e.symm)).trans (Below.heap_alloc _ _ _ hdl2))).trans (blk_frozen HDK.out.blk j);clear hown5 hgrow;skip)
  all_goals go_wp2
  all_goals have hfin:=HDK.out.rowTurn (p':=p++[⟨1,x,s⟩]) ((((Fr.refl _ w1).alloc _).drew).grown HG5.out (fun k o e _=>e)) (v':=.slice (some ⟨g',0,none⟩) (p.length+1) cap') (by rw [List.length_append,← ocells_snoc];exact HO5.out)
  all_goals have HD1:=hide hfin.1
  all_goals have HG1:=hide (HGK.out.fr hfin.2 (fun k cs fr=>PDk.notBy))
  all_goals have HF1:=hide ((HFK.out.trans hfin.2).mono (Q:=fun k o=>PDk B k o∨PBy gb k o) (fun k o h=>Or.inl h))
  all_goals clear hfin t2 hft HO5 HG5
  all_goals generalize w5.setCell ⟨db,2,none⟩ (.slice (some ⟨g',0,none⟩) (p.length+1) cap')=w6 at *
  all_goals
   go_loopw [9,32] (fun _ i wr=>∃ k:Nat,k≤s.length∧i=.int .i64 k∧BI wr gb s.length∧DJ wr B db bd bn n D N (p++[⟨1,x,s⟩]) (aWr a).2.left (aWr a).2.full (aWr a).2.down (.slice (some ⟨g',0,none⟩) (p.length+1) cap')∧Fr (fun k o=>PDk B k o∨PBy gb k o) w wr) (fun _ i _=>s.length - (intOf i).toNat)
   case atStart=>exact ⟨0,by omega,rfl,HG1.out,HD1.out,HF1.out⟩
   case round=>
    obtain ⟨k,hk,rfl,hG,hD,hF⟩:=hrel
    have HG2:=hide hG
    have HD2:=hide hD
    have HF2:=hide hF
    by_cases hlt:k < s.length
    ·obtain ⟨u,hu⟩:=hG.cel k hlt
     have hfz:=hG.frz k hlt
     clear hG hD hF
     go_wp2
     have hset:=PBy.set HG2.out k (.int .u8 33)
     exact ⟨⟨k+1,by omega,by go_num,HG2.out.set k _,HD2.out.by hset,HF2.out.trans (hset.mono (fun k o h=>Or.inr h))⟩,by simp [intOf];omega⟩
    ·have hk':k=s.length:=by omega
     subst hk'
     clear hG hD hF
     go_wp2
     go_ret
     exact ⟨HF2.out,Or.inr (Or.inr ⟨HK.out,rfl,_,HD2.out⟩)⟩
theorem gremove_any (B db bd bn n:Nat) (D N:Fs) (p:List Dop) (a:Lf) (pv:Value) (x:List UInt8) (w:World) (h:DJ w B db bd bn n D N p a.left a.full a.down pv) (hn:n≤1000000) (hp:p.length≤1000000) (hx:x.length≤1000000) (hh:(N x).isSome=true) :
 Calls Tryz.prog 339 #[.pointer (some ⟨db,0,none⟩),.string (strA x)] w fun e w'=>Fr (PDk B) w w'∧(((aWr a).1=0∧e=.returned .nilIface∧∃ pv',DJ w' B db bd bn (n+1) D (delF N x) (p++[⟨3,x,[]⟩]) (aWr a).2.left (aWr a).2.full (aWr a).2.down pv')∨((aWr a).1≠0∧e=.returned (errV (aWr a).1)∧∃ pv',DJ w' B db bd bn n D N p (aWr a).2.left (aWr a).2.full (aWr a).2.down pv')):=by
 have HD:=hide h
 have HH:=hide hh
 clear h hh
 have hev:(aWr a).1≠0→errV (aWr a).1=.iface 40 (.int .i64 (((aWr a).1:Nat):Int)):=fun h=>by unfold errV;rw [if_neg h]
 have HEV:=hide hev
 clear hev
 go_enter Tryz.func339,Tryz.ntmps339
 go_wp2_with fail
 refine (gtell_del B db bd bn n D N p a pv x [] _ HD.out hn hp hx HH.out).mono ?_
 rintro e w1 ⟨hF1,⟨hk,rfl,pv1,hD1⟩ | ⟨hk,rfl,hD1,hFB⟩⟩
 ·have HD1:=hide hD1
  have HF1:=hide hF1
  have HK:=hide hk
  clear hD1 hF1 hk
  go_wp2
  go_ret
  exact ⟨HF1.out,Or.inl ⟨HK.out,rfl,_,HD1.out⟩⟩
 ·have HD1:=hide hD1
  have HF1:=hide hF1
  have HK:=hide hk
  rw [HEV.out hk]
  clear hD1 hF1 hk
  go_wp2
  go_ret
  exact ⟨HF1.out,Or.inr ⟨HK.out,by rw [HEV.out HK.out];rfl,_,HD1.out⟩⟩
end
section
open Go.RowKit
attribute [local go_sem ↓] Go.wp_at_zero Go.wp_at_succ
theorem gsync_any (B db bd bn n:Nat) (D N:Fs) (p:List Dop) (a:Lf) (pv:Value) (w:World) (h:DJ w B db bd bn n D N p a.left a.full a.down pv) (hn:n≤500000) (hp:p.length≤400000) (hops:OpsOk p) :
 Calls Tryz.prog 340 #[.pointer (some ⟨db,0,none⟩)] w fun e w'=>Fr (PDk B) w w'∧(((aWr a).1=0∧e=.returned .nilIface∧DJ w' B db bd bn (n+p.length) (p.foldl doF D) N [] (aWr a).2.left (aWr a).2.full (aWr a).2.down (.slice none 0 0))∨((aWr a).1≠0∧e=.returned (errV (aWr a).1)∧DJ w' B db bd bn n D N p (aWr a).2.left (aWr a).2.full (aWr a).2.down pv)):=by
 obtain ⟨la,lc,rfl⟩:=owns_len h.row
 have HD:=hide h
 have HO:=hide hops
 clear h hops
 go_enter Tryz.func340,Tryz.ntmps340
 go_wp2_with fail
 refine (gwrites_any B db bd bn n D N p a _ w HD.out).mono ?_
 rintro e w1 ⟨rfl,hD1,hF1⟩
 by_cases hk0:(aWr a).1=0
 rotate_left
 ·have HF1:=hide (hF1.mono (fun k o hk=>hk.toK HD.out.bb.1))
  have HD1:=hide hD1
  have HK0:=hide hk0
  have he:errV (aWr a).1=.iface 40 (.int .i64 (((aWr a).1:Nat):Int)):=by unfold errV;rw [if_neg hk0]
  rw [he]
  have HEV:=hide he
  clear hD1 hF1 he hk0
  go_wp2
  go_ret
  exact ⟨HF1.out,Or.inr ⟨HK0.out,by rw [HEV.out];rfl,HD1.out⟩⟩
 have HK0:=hide hk0
 have he:errV (aWr a).1=.nilIface:=by unfold errV;rw [if_pos hk0]
 rw [he]
 clear he hk0
 have HD1:=hide hD1
 have HF1:=hide (hF1.mono (fun k o hk=>hk.toK HD.out.bb.1))
 have d2:w1.cell? ⟨db,2,none⟩=some (.slice la p.length lc):=blk_cell hD1.blk 2
 clear hD1 hF1
 go_wp2
 go_loopw [16] (fun i wr=>∃ k:Nat,k≤p.length∧i=.int .i64 k∧DJ wr B db bd bn (n+k) ((p.take k).foldl doF D) N p (aWr a).2.left (aWr a).2.full (aWr a).2.down (.slice la p.length lc)∧Fr (PDk B) w wr) (fun i _=>p.length - (intOf i).toNat)
 case atStart=>exact ⟨0,by omega,rfl,HD1.out,HF1.out⟩
 case round=>
  obtain ⟨k,hk,rfl,hD,hF⟩:=hrel
  have HD2:=hide hD
  have HF2:=hide hF
  clear hF d2
  by_cases hlt:k < p.length
  ·have hlt':(k:Int) < (p.length:Int):=by omega
   obtain ⟨g,c1,hv1,_,hgl,hcells⟩:=owns_get hD.row (by omega)
   injection hv1 with hv1 _ hv3
   subst hv1
   have hat:=ocells_at p k hlt
   have e1:wr.cell? ⟨g,k*4,none⟩=some (.int .i64 p[k].kind):=hcells _ _ hat.1
   have e2:wr.cell? ⟨g,k*4+1,none⟩=some (.string (strA p[k].name)):=hcells _ _ hat.2.1
   have e3:wr.cell? ⟨g,k*4+2,none⟩=some (.string ⟨#[]⟩):=hcells _ _ hat.2.2.1
   have e4:wr.cell? ⟨g,k*4+3,none⟩=some (.string (strA p[k].data)):=hcells _ _ hat.2.2.2
   have hok:=HO.out p[k] (List.getElem_mem hlt)
   have HTK:Hid ((p.take (k+1)).foldl doF D=doF ((p.take k).foldl doF D) p[k]):=by
    show _=_
    rw [List.take_succ_eq_append_getElem hlt,List.foldl_append];rfl
   generalize p[k]=o at *
   have HOK:=hide hok
   clear hcells hat hv3 hD hok
   go_wp2_with fail
   obtain ⟨V,hV⟩:∃ V,V=wr.alloc (.cells #[.int .i64 o.kind,.string (strA o.name),.string ⟨#[]⟩,.string (strA o.data)] 116):=⟨_,rfl⟩
   have hBV:Below wr.heap.size wr V:=by rw [hV];exact (Below.refl _ _).alloc (Nat.le_refl _) _
   have hVo:V.heap[wr.heap.size]?=some (.cells #[.int .i64 o.kind,.string (strA o.name),.string ⟨#[]⟩,.string (strA o.data)] 116):=by rw [hV];exact blk_new _ _
   have HDV:=hide (HD2.out.below hBV)
   have HVO:=hide hVo
   have HFV:=hide (HF2.out.trans (Fr.of_below hBV))
   rw [← hV]
   have v0:V.cell? ⟨db,0,none⟩=some (.map (some bd)):=blk_cell HDV.out.blk 0
   have o0:V.cell? ⟨wr.heap.size,0,none⟩=some (.int .i64 o.kind):=blk_cell hVo 0
   have o1:V.cell? ⟨wr.heap.size,1,none⟩=some (.string (strA o.name)):=blk_cell hVo 1
   have o2:V.cell? ⟨wr.heap.size,2,none⟩=some (.string ⟨#[]⟩):=blk_cell hVo 2
   have o3:V.cell? ⟨wr.heap.size,3,none⟩=some (.string (strA o.data)):=blk_cell hVo 3
   clear hV hBV hVo
   go_region_held3 (fun w'=>w'.cell? ⟨db,0,none⟩=some (.map (some bd))∧w'.cell? ⟨wr.heap.size,0,none⟩=some (.int .i64 o.kind)∧w'.cell? ⟨wr.heap.size,1,none⟩=some (.string (strA o.name))∧w'.cell? ⟨wr.heap.size,2,none⟩=some (.string ⟨#[]⟩)∧w'.cell? ⟨wr.heap.size,3,none⟩=some (.string (strA o.data))) (first | go_keep | exact ⟨q1,q2,q3,q4,q5⟩) (first | (go_at_call 52;refine (ddo_any bd (n+k) ((p.take k).foldl doF D) o V.drew HDV.out.md (by omega) HOK.out.1 HOK.out.2).mono ?_;rintro e w2 ⟨rfl,hm2,hf2'⟩;have hf2:=hf2'.undrew;have hD2:=HDV.out.durTurn hf2 hm2;have HD3:=hide hD2;have hO2:=hf2.block _ _ HVO.out (fun ⟨_,es,c,e⟩=>by cases e);have q1:w2.cell? ⟨db,0,none⟩=some (.map (some bd)):=blk_cell hD2.blk 0;have q2:w2.cell? ⟨wr.heap.size,0,none⟩=some (.int .i64 o.kind):=blk_cell hO2 0;have q3:w2.cell? ⟨wr.heap.size,1,none⟩=some (.string (strA o.name)):=blk_cell hO2 1;have q4:w2.cell? ⟨wr.heap.size,2,none⟩=some (.string ⟨#[]⟩):=blk_cell hO2 2;have q5:w2.cell? ⟨wr.heap.size,3,none⟩=some (.string (strA o.data)):=blk_cell hO2 3;have HF3:=hide (HFV.out.trans (hf2.mono (fun k o hk=>hk.toK HDV.out.bb.2.1)));clear hm2 hf2 hf2' hD2 hO2;skip))
   all_goals go_wp2
   all_goals exact ⟨⟨k+1,by omega,by go_num,by rw [HTK.out];exact HD3.out,HF3.out⟩,by simp [intOf];omega⟩
  ·have hk':k=p.length:=by omega
   subst hk'
   have hz:¬ (p.length:Int) < (p.length:Int):=by omega
   have f2:∀ j,wr.frozen? ⟨db,j,none⟩=false:=fun j=>blk_frozen hD.blk j
   have d2:wr.cell? ⟨db,2,none⟩=some (.slice la p.length lc):=blk_cell hD.blk 2
   clear hD
   go_wp2
   go_ret
   have hfin:=HD2.out.rowTurn (w5:=wr) (p':=[]) (v':=.slice none 0 0) (Fr.refl _ wr) (ops_nil _ _)
   rw [List.take_length] at hfin
   exact ⟨HF2.out.trans hfin.2,Or.inl ⟨HK0.out,rfl,hfin.1⟩⟩
end
section
open Go.RowKit
attribute [local go_sem ↓] Go.wp_at_zero Go.wp_at_succ
theorem mapF_get {w:World} {b n:Nat} {F:Fs} {x s:List UInt8} (h:MapF w b n F) (hx:x.length≤1000000) (hs:F x=some s) :
 ∃ k,w.heap[k]?=some (.cells #[.string (strA s)] 9)∧(Instr.lookup 81 (.map (some b)) (.string (strA x)) true).run Tryz.prog w=.ok (.tuple #[.pointer (some ⟨k,0,none⟩),.bool true]) w:=by
 obtain ⟨D,⟨es,c,hb,hF,hss,rfl⟩,h2⟩:=h
 have hz:(zeroValue 87).run Tryz.prog w=.ok (.pointer none) w:=by kernel_rfl
 obtain ⟨j,h3,h4⟩:=h2.2 x s hs
 rcases Maps.fit_look true strK mapT hz hb hF (keyS hx) with ⟨hrun,_,hat⟩ | ⟨e0,y,_,_,hrun,hRv,hat,_⟩
 ·have h0:=Maps.has_false_of_atKey hat
  rw [Maps.has_true_of_atKey h3] at h0
  cases h0
 ·obtain ⟨k,hk1,hk2⟩:=ptrR_inv hRv
  have hy:=(hat .nil).symm.trans (h3 .nil)
  rw [hk2] at hy
  have hkj:k=j:=by
   injection hy with hy
   injection hy with _ hy
   exact Int.ofNat_inj.1 hy
  subst hkj
  refine ⟨k,h4,?_⟩
  rw [hrun,hk1]
  rfl
theorem gread_any (B db bd bn n:Nat) (D N:Fs) (p:List Dop) (ql qf:Int) (pv:Value) (x s:List UInt8) (w:World) (h:DJ w B db bd bn n D N p ql qf false pv) (hx:x.length≤1000000) (hs:N x=some s) (hsl:s.length≤1000000000) :
 Calls Tryz.prog 338 #[.pointer (some ⟨db,0,none⟩),.string (strA x)] w fun e w'=>Below w.heap.size w w'∧∃ gb c,e=.returned (.tuple #[.slice (some ⟨gb,0,none⟩) s.length c,.nilIface])∧∀ j (hj:j < s.length),w'.cell? ⟨gb,j,none⟩=some (.int .u8 (s[j].toNat:Int)):=by
 have HD:=hide h
 have d1:w.cell? ⟨db,1,none⟩=some (.map (some bn)):=blk_cell h.blk 1
 have d5:w.cell? ⟨db,5,none⟩=some (.bool false):=blk_cell h.blk 5
 obtain ⟨k,hk,hlk⟩:=mapF_get h.mn hx hs
 have k0:w.cell? ⟨k,0,none⟩=some (.string (strA s)):=blk_cell hk 0
 have hcv:=Lib.run_convert_string_bytes (P:=Tryz.prog) w 9 111 5 (strA s) (u:=.string) Tryz.underlying9 Tryz.underlying111 Tryz.underlying5
 have hB1:=Lib.bytesWorld_below w 5 (strA s)
 have hcell:∀ j (hj:j < s.length),(Lib.bytesWorld w 5 (strA s)).cell? ⟨w.heap.size,j,none⟩=some (.int .u8 (s[j].toNat:Int)):=fun j hj=>by
  rw [Lib.bytesWorld_cell w 5 (strA s) j (by rw [strA_size];exact hj)]
  rw [show (strA s).data.toList=s from rfl,List.getD_eq_getElem?_getD,List.getElem?_eq_getElem hj];rfl
 have hzs:=strA_size s
 rw [hzs] at hcv
 generalize hbw:Lib.bytesWorld w 5 (strA s)=W1 at hB1 hcell hcv
 have HB1:=hide hB1
 have HCE:=hide hcell
 generalize grownCap w s.length 0 5=cap at hcv
 clear h hk hB1 hcell hbw
 go_enter Tryz.func338,Tryz.ntmps338
 go_wp2
 go_ret2
 exact ⟨HB1.out,_,_,rfl,HCE.out⟩
end
end Go.Proofs.YtenahlandohgaaaGreatDoor
