import Derived.Test.YtenahlandohgaaaGreatDoorEStep
namespace Go.Proofs.YtenahlandohgaaaGreatDoor
set_option linter.unusedVariables false
set_option linter.unusedSimpArgs false
set_option maxRecDepth 100000
set_option maxHeartbeats 4000000
open Go.RowKit
attribute [local go_sem ↓] Go.wp_at_zero Go.wp_at_succ
abbrev wrF (fb xb:Nat):Value:=.func (.func 208) #[] #[.pointer (some ⟨fb,0,none⟩),.pointer (some ⟨xb,0,none⟩)]
abbrev rmF (xb nb:Nat):Value:=.func (.func 212) #[] #[.pointer (some ⟨xb,0,none⟩),.pointer (some ⟨nb,0,none⟩)]
abbrev syF (db:Nat):Value:=.func (.method "Sync") #[dskV db] #[]
theorem foldW (F:Fs) (fs:List Fl):(fs.map wOp).foldl doF F=putFs F fs:=by
 unfold putFs
 rw [List.foldl_map]
 rfl
theorem opsW (fs:List Fl) (hs:∀ f∈fs,f.1.length≤1000∧f.2.length≤100000000):OpsOk (fs.map wOp):=fun o ho=>by
 obtain ⟨f,hf,rfl⟩:=List.mem_map.1 ho
 exact ⟨Or.inl rfl,by have:=(hs f hf).1;show f.1.length≤_;omega⟩
theorem PDk.notT {B k:Nat} {cs:Array Value} {t:TypeId} (h1:t≠84) (h2:t≠116):¬ PDk B k (.cells cs t):=by
 rintro ⟨_,⟨cs',e⟩ | ⟨es,c,e⟩ | ⟨cs',e⟩⟩
 ·injection e with e1 e2;exact h1 e2
 ·cases e
 ·injection e with e1 e2;exact h2 e2
theorem FilE.fr {P:Nat→Obj→Prop} {w w':World} {v:Value} {l:List Fl} (h:FilE w v l) (hf:Fr P w w') (hp:∀ k cs,¬ P k (.cells cs 86)):FilE w' v l:=by
 obtain ⟨a,c,hv,hc⟩:=h
 refine ⟨a,c,hv,fun hne=>?_⟩
 obtain ⟨g,cs,ha,hb,hcc⟩:=hc hne
 have hb':=hf.block _ _ hb (hp _ _)
 refine ⟨g,cs,ha,hb',fun j hj=>?_⟩
 rw [World.cell?_of_block (a:=⟨g,j*2,none⟩) (hb'.trans hb.symm),World.cell?_of_block (a:=⟨g,j*2+1,none⟩) (hb'.trans hb.symm)]
 exact hcc j hj
def StI (B db bd bn n:Nat) (F:Fs) (q:Int) (j J:List UInt8) (fs:List Fl) (k:Nat) (w:World):Prop:=
 match k with
 | 0=>∃ pv,DI w B db bd bn n F F [] q pv
 | 1=>∃ pv,DI w B db bd bn (n+1) F (putF F j J) [⟨1,j,J⟩] (q - 1) pv
 | 2=>∃ pv,DI w B db bd bn (n+2) (putF F j J) (putF F j J) [] (q - 2) pv
 | 3=>∃ pv,DI w B db bd bn (n+2+fs.length) (putF F j J) (putFs (putF F j J) fs) (fs.map wOp) (q - 2 - fs.length) pv
 | 4=>∃ pv,DI w B db bd bn (n+2+fs.length+fs.length) (putFs (putF F j J) fs) (putFs (putF F j J) fs) [] (q - 3 - fs.length) pv
 | 5=>∃ pv,DI w B db bd bn (n+2+fs.length+fs.length+1) (putFs (putF F j J) fs) (delF (putFs (putF F j J) fs) j) [⟨3,j,[]⟩] (q - 4 - fs.length) pv
 | _=>∃ pv,DI w B db bd bn (n+2+fs.length+fs.length+2) (delF (putFs (putF F j J) fs) j) (delF (putFs (putF F j J) fs) j) [] (q - 5 - fs.length) pv
theorem inTurn_any (B db bd bn n sb f1 x1 f2 x2 x3 n3 c:Nat) (F:Fs) (q:Int) (j J:List UInt8) (jv fv:Value) (fs:List Fl) (w:World) (h:StI B db bd bn n F q j J fs 0 w)
 (hb:w.heap[sb]?=some (.cells #[wrF f1 x1,syF db,wrF f2 x2,syF db,rmF x3 n3,syF db] 164))
 (hf1:w.heap[f1]?=some (.cells #[jv] 26)) (hx1:w.heap[x1]?=some (.cells #[dskV db] 113)) (hl1:FilE w jv [(j,J)])
 (hf2:w.heap[f2]?=some (.cells #[fv] 26)) (hx2:w.heap[x2]?=some (.cells #[dskV db] 113)) (hl2:FilE w fv fs)
 (hx3:w.heap[x3]?=some (.cells #[dskV db] 113)) (hn3:w.heap[n3]?=some (.cells #[.string (strA j)] 9))
 (hn:n+fs.length≤460000) (hq:-20000≤q - fs.length) (hq1:q≤-1) (hj:j.length≤1000) (hJ:J.length≤100000000) (hs:∀ f∈fs,f.1.length≤1000∧f.2.length≤100000000) (hjn:(putFs (putF F j J) fs j).isSome=true) :
 Calls Tryz.prog 142 #[.slice (some ⟨sb,0,none⟩) 6 c] w fun e w'=>e=.returned .nilIface∧StI B db bd bn n F q j J fs 6 w'∧Fr (PDk B) w w':=by
 have HS0:=hide h
 have HB:=hide hb
 have H1:=hide (And.intro hf1 (And.intro hx1 hl1))
 have H2:=hide (And.intro hf2 (And.intro hx2 hl2))
 have H3:=hide (And.intro hx3 hn3)
 have HS:=hide hs
 have HJN:=hide hjn
 have hmt:=mth_Sync db
 clear h hb hf1 hx1 hl1 hf2 hx2 hl2 hx3 hn3 hs hjn
 go_enter Tryz.func142,Tryz.ntmps142
 go_wp2
 go_loopw [4,5,8] (fun _ _ i wr=>∃ k:Nat,k≤6∧i=.int .i64 k∧StI B db bd bn n F q j J fs k wr∧Fr (PDk B) w wr) (fun _ _ i _=>6 - (intOf i).toNat)
 case atStart=>exact ⟨0,by omega,rfl,HS0.out,Fr.refl _ _⟩
 case round=>
  obtain ⟨k,hk,rfl,hS,hF⟩:=hrel
  have HF:=hide hF
  have hsb:=hF.block _ _ HB.out (PDk.notT (by decide) (by decide))
  by_cases h6:k=6
  ·subst h6
   have HS6:=hide hS
   clear hS hF hsb
   go_wp2
   go_ret
   exact ⟨rfl,HS6.out,HF.out⟩
  rcases (by omega:k=0∨k=1∨k=2∨k=3∨k=4∨k=5) with h | h | h | h | h | h
  ·subst h
   obtain ⟨pv,hD⟩:=hS
   have HD:=hide hD
   have s0:wr.cell? ⟨sb,0,none⟩=some (wrF f1 x1):=blk_cell hsb 0
   have HF1:=hide (hF.block _ _ H1.out.1 (PDk.notT (by decide) (by decide)))
   have HX1:=hide (hF.block _ _ H1.out.2.1 (PDk.notT (by decide) (by decide)))
   have HL1:=hide (H1.out.2.2.fr hF (fun _ _=>PDk.notT (by decide) (by decide)))
   clear hD hF hsb h6
   go_wp2_with (go_at_call 208;refine (wstep_any B db bd bn n f1 x1 F F [] q pv [(j,J)] jv wr HD.out HF1.out HX1.out HL1.out (by simp;omega) (by simp) (by simp;omega) hq1 (fun f hf=>by rw [List.mem_singleton.1 hf];exact ⟨hj,hJ⟩)).mono ?_;rintro e w1 ⟨rfl,hD1,hF1⟩;have HD1:=hide hD1;have HF2:=hide (HF.out.trans hF1);clear hD1 hF1)
   exact ⟨⟨1,by omega,by go_num,HD1.out,HF2.out⟩,by simp [intOf]⟩
  ·subst h
   obtain ⟨pv,hD⟩:=hS
   have HD:=hide hD
   have s0:wr.cell? ⟨sb,1,none⟩=some (syF db):=blk_cell hsb 1
   clear hD hF hsb h6
   go_wp2_with (go_at_call 340;refine (sync_any B db bd bn _ _ _ _ _ pv wr HD.out (by omega) (by omega) (by omega) (by simp) (fun o ho=>by rw [List.mem_singleton.1 ho];exact ⟨Or.inl rfl,by show j.length≤_;omega⟩)).mono ?_;rintro e w1 ⟨rfl,hD1,hF1⟩;have HD1:=hide hD1;have HF2:=hide (HF.out.trans hF1);clear hD1 hF1)
   have h1:=HD1.out
   rw [show q - 1 - 1=q - 2 by omega] at h1
   exact ⟨⟨2,by omega,by go_num,⟨_,h1⟩,HF2.out⟩,by simp [intOf]⟩
  ·subst h
   obtain ⟨pv,hD⟩:=hS
   have HD:=hide hD
   have s0:wr.cell? ⟨sb,2,none⟩=some (wrF f2 x2):=blk_cell hsb 2
   have HF1:=hide (hF.block _ _ H2.out.1 (PDk.notT (by decide) (by decide)))
   have HX1:=hide (hF.block _ _ H2.out.2.1 (PDk.notT (by decide) (by decide)))
   have HL1:=hide (H2.out.2.2.fr hF (fun _ _=>PDk.notT (by decide) (by decide)))
   clear hD hF hsb h6
   go_wp2_with (go_at_call 208;refine (wstep_any B db bd bn _ f2 x2 _ _ [] _ pv fs fv wr HD.out HF1.out HX1.out HL1.out (by omega) (by simp;omega) (by omega) (by omega) HS.out).mono ?_;rintro e w1 ⟨rfl,hD1,hF1⟩;have HD1:=hide hD1;have HF2:=hide (HF.out.trans hF1);clear hD1 hF1)
   obtain ⟨pv1,h1⟩:=HD1.out
   rw [List.nil_append] at h1
   exact ⟨⟨3,by omega,by go_num,⟨_,h1⟩,HF2.out⟩,by simp [intOf]⟩
  ·subst h
   obtain ⟨pv,hD⟩:=hS
   have HD:=hide hD
   have s0:wr.cell? ⟨sb,3,none⟩=some (syF db):=blk_cell hsb 3
   clear hD hF hsb h6
   go_wp2_with (go_at_call 340;refine (sync_any B db bd bn _ _ _ _ _ pv wr HD.out (by omega) (by omega) (by omega) (by rw [List.length_map];omega) (opsW fs HS.out)).mono ?_;rintro e w1 ⟨rfl,hD1,hF1⟩;have HD1:=hide hD1;have HF2:=hide (HF.out.trans hF1);clear hD1 hF1)
   have h1:=HD1.out
   rw [foldW,List.length_map,show q - 2 - (fs.length:Int) - 1=q - 3 - (fs.length:Int) by omega] at h1
   exact ⟨⟨4,by omega,by go_num,⟨_,h1⟩,HF2.out⟩,by simp [intOf]⟩
  ·subst h
   obtain ⟨pv,hD⟩:=hS
   have HD:=hide hD
   have s0:wr.cell? ⟨sb,4,none⟩=some (rmF x3 n3):=blk_cell hsb 4
   have HX1:=hide (hF.block _ _ H3.out.1 (PDk.notT (by decide) (by decide)))
   have HN1:=hide (hF.block _ _ H3.out.2 (PDk.notT (by decide) (by decide)))
   clear hD hF hsb h6
   go_wp2_with (go_at_call 212;refine (rstep_any B db bd bn _ n3 x3 _ _ [] _ pv j wr HD.out HN1.out HX1.out (by omega) (by simp) (by omega) (by omega) hj HJN.out).mono ?_;rintro e w1 ⟨rfl,hD1,hF1⟩;have HD1:=hide hD1;have HF2:=hide (HF.out.trans hF1);clear hD1 hF1)
   obtain ⟨pv1,h1⟩:=HD1.out
   rw [List.nil_append,show q - 3 - (fs.length:Int) - 1=q - 4 - (fs.length:Int) by omega] at h1
   exact ⟨⟨5,by omega,by go_num,⟨_,h1⟩,HF2.out⟩,by simp [intOf]⟩
  ·subst h
   obtain ⟨pv,hD⟩:=hS
   have HD:=hide hD
   have s0:wr.cell? ⟨sb,5,none⟩=some (syF db):=blk_cell hsb 5
   clear hD hF hsb h6
   go_wp2_with (go_at_call 340;refine (sync_any B db bd bn _ _ _ _ _ pv wr HD.out (by omega) (by omega) (by omega) (by simp) (fun o ho=>by rw [List.mem_singleton.1 ho];exact ⟨Or.inr rfl,by show j.length≤_;omega⟩)).mono ?_;rintro e w1 ⟨rfl,hD1,hF1⟩;have HD1:=hide hD1;have HF2:=hide (HF.out.trans hF1);clear hD1 hF1)
   have h1:=HD1.out
   rw [show q - 4 - (fs.length:Int) - 1=q - 5 - (fs.length:Int) by omega] at h1
   exact ⟨⟨6,by omega,by go_num,⟨_,h1⟩,HF2.out⟩,by simp [intOf]⟩
end Go.Proofs.YtenahlandohgaaaGreatDoor
