import Derived.Test.YtenahlandohgaaaGreatDoorDList
import Derived.Test.YtenahlandohgaaaGreatDoorEBox
import Derived.Test.YtenahlandohgaaaGreatDoorELeave
import Derived.Test.YtenahlandohgaaaGreatDoorGCrash
import Derived.Test.YtenahlandohgaaaGreatDoorZGSDel
namespace Go.Proofs.YtenahlandohgaaaGreatDoor
set_option linter.unusedVariables false
set_option linter.unusedSimpArgs false
set_option maxRecDepth 100000
set_option maxHeartbeats 4000000
section
open Go.RowKit
attribute [local go_sem ↓] Go.wp_at_zero Go.wp_at_succ
theorem newBox_any (l:List (List UInt8×List UInt8)) (fv:Value) (w:World) (hl:FilG w fv l) (hn:l.length≤400000) (hx:∀ f∈l,f.1.length≤1000000) :
 Calls Tryz.prog 7 #[fv] w fun e w'=>Below w.heap.size w w'∧∃ bb bn,e=.returned (.pointer (some ⟨bb,0,none⟩))∧w'.heap[bb]?=some (.cells #[.pointer (some ⟨w.heap.size+1,0,none⟩)] 55)∧DI w' w.heap.size (w.heap.size+1) w.heap.size bn l.length (putFs noF l) (putFs noF l) [] (-1) (.slice none 0 0):=by
 have HL:=hide (newDisk_any l fv w hl hn hx)
 obtain ⟨a,c,hfv,_⟩:=hl
 subst hfv
 clear hx
 go_enter Tryz.func7,Tryz.ntmps7
 go_wp2_with fail
 refine HL.out.mono ?_
 rintro e w1 ⟨hb1,bn,rfl,h1⟩
 have HB1:=hide hb1
 have H1:=hide h1
 clear hb1 h1
 go_wp2
 go_ret
 exact ⟨HB1.out.alloc HB1.out.size _,w1.heap.size,bn,rfl,blk_new _ _,H1.out.below ((Below.refl _ _).alloc (Nat.le_refl _) _)⟩
end
section
open Go.RowKit
structure EnvD (w:World):Prop where
 tab:Tab w
 tz:Tz w
 err:ErrT w
theorem EnvD.below {w w':World} (h:EnvD w) (hb:Below w.heap.size w w'):EnvD w':=
 ⟨h.tab.below hb,h.tz.below hb,(hb.cell (p:=⟨0,0,none⟩) (cell_lt (a:=⟨0,0,none⟩) h.err)).trans h.err⟩
theorem Fr.lowB {B:Nat} {u w w':World} (h:Below u.heap.size u w) (hf:Fr (PDk B) w w') (hB:u.heap.size≤B):Below u.heap.size u w':=
 h.trans (hf.below (fun _ _ hp=>Nat.le_trans hB hp.1) h.size)
theorem own_jou {F:Fs} (hF:∀ x,(F x).isSome=true→Lib.hasPrefix x [46]=false):F kJournal=none:=by
 cases h:F kJournal with
 | none=>rfl
 | some s=>have:=hF kJournal (by rw [h];rfl);cases this
theorem filesL_len {id text:List UInt8} {acts:List (Int×List UInt8)} {fs:List Fl} (h:filesL id acts text=.ok fs):fs.length=acts.length:=by
 unfold filesL at h
 split at h
 ·split at h
  ·cases h
  ·exact filesTo_len _ _ _ h
 ·cases h
theorem PDk.notFil {B k:Nat} {cs:Array Value}:¬ PDk B k (.cells cs 86):=by
 rintro ⟨_,⟨cs',e⟩ | ⟨es,c,e⟩ | ⟨cs',e⟩⟩
 ·injection e with e1 e2;exact absurd e2 (by decide)
 ·cases e
 ·injection e with e1 e2;exact absurd e2 (by decide)
end
section
open Go.RowKit
attribute [local go_sem ↓] Go.wp_at_zero Go.wp_at_succ
theorem DJ.aim {w:World} {B db bd bn n:Nat} {D N:Fs} {p:List Dop} {ql qf:Int} {dn:Bool} {pv:Value} (h:DJ w B db bd bn n D N p ql qf dn pv) (l f:Int) :
 DJ ((w.setCell ⟨db,3,none⟩ (.int .i64 l)).setCell ⟨db,4,none⟩ (.int .i64 f)).drew B db bd bn n D N p l f dn pv∧Fr (PDb db) w ((w.setCell ⟨db,3,none⟩ (.int .i64 l)).setCell ⟨db,4,none⟩ (.int .i64 f)).drew:=by
 have h1:=heap_setCell_at w db 3 (.int .i64 l) _ _ h.blk
 have h2:=heap_setCell_at _ db 4 (.int .i64 f) _ _ h1
 have hf:Fr (PDb db) w ((w.setCell ⟨db,3,none⟩ (.int .i64 l)).setCell ⟨db,4,none⟩ (.int .i64 f)).drew:=(((Fr.refl _ w).set h.blk ⟨rfl,_,rfl⟩ 3 _).set h1 ⟨rfl,_,rfl⟩ 4 _).drew
 exact ⟨h.turn hf h2,hf⟩
theorem told_errV (k:Nat) (w:World) (hg:ErrT w) :
 Calls Tryz.prog 27 #[errV k] w fun e w'=>e=.returned (.tuple #[.int .i64 (k:Int),.int .i64 (-1)])∧Below w.heap.size w w':=by
 by_cases h:k=0
 ·subst h
  exact told_nil w
 ·rw [errV_ne h]
  exact told_errno (k:Int) w hg
theorem OwnIs.kept {w w':World} {N:Fs} {own:Option (List Fl)} {B:Nat} (h:OwnIs w N own) (hf:Fr (PDk B) w w') (hB:6 < B):OwnIs w' N own:=by
 cases own with
 | none=>exact h
 | some fs=>
  obtain ⟨h1,h2,h3,h4,s,h5,h6,h7⟩:=h
  exact ⟨h1,h2,h3,h4,s,h5,h6,fun B' W hB' hf'=>h7 (min B B') W (by omega) ((hf.mono (fun k o hk=>⟨by have:=hk.1;omega,hk.2⟩)).trans (hf'.mono (fun k o hk=>⟨by have:=hk.1;omega,hk.2⟩)))⟩
def BoxEnd (R:AD) (D' N':Fs) (p':List Dop):Prop:=(R.lf.down=false∧D'=R.D∧N'=R.N∧p'=R.p)∨(R.lf.down=true∧CrashOf R.D R.p D'∧N'=D'∧p'=[])
theorem gbrecover_any (B bb db bd bn n:Nat) (D N:Fs) (p:List Dop) (l f kp pt:Int) (own:Option (List Fl)) (R:Nat×AD) (w:World) (hb:w.heap[bb]?=some (.cells #[.pointer (some ⟨db,0,none⟩)] 55)) (h:AbsD w B db bd bn n ⟨D,N,p,⟨-1,-1,false⟩⟩) (hB:6 < B) (ht:Tab w) (hg:ErrT w) (hown:OwnIs w N own) (hn:n≤450000) (hp:p.length≤50) (hops:OpsOk p)
 (hR:R=aRun (recOps own) ⟨D,N,p,⟨l,f,false⟩⟩) (hR1:R.2.p.length≤100) (hR2:OpsOk R.2.p) (hR3:∀ o∈R.2.p,o.data.length≤100000000) (hl0:-9223372036854775808≤pt) (hl1:pt≤9223372036854775807) :
 Calls Tryz.prog 24 #[.pointer (some ⟨bb,0,none⟩),.int .i64 l,.int .i64 f,.int .i64 kp,.int .i64 pt] w fun e w'=>e=.returned (.int .i64 (R.1:Int))∧Fr (PDk B) w w'∧∃ bn' D' N' p',BoxEnd R.2 D' N' p'∧AbsD w' B db bd bn' (n+1400) ⟨D',N',p',⟨-1,-1,false⟩⟩:=by
 obtain ⟨pv,h⟩:=h
 have h':DJ w B db bd bn n D N p (-1) (-1) false pv:=h
 have HD:=hide h'
 have HT:=hide ht
 have HG:=hide hg
 have HOW:=hide hown
 have HBX:=hide hb
 have HR:=hide hR
 have HR1:=hide hR1
 have HR2:=hide hR2
 have HR3:=hide hR3
 have HOP:=hide hops
 have b0:w.cell? ⟨bb,0,none⟩=some (.pointer (some ⟨db,0,none⟩)):=blk_cell hb 0
 have d3:w.cell? ⟨db,3,none⟩=some (.int .i64 (-1)):=blk_cell h'.blk 3
 have d4:w.cell? ⟨db,4,none⟩=some (.int .i64 (-1)):=blk_cell h'.blk 4
 have z0:∀ j,w.frozen? ⟨db,j,none⟩=false:=blk_frozen h'.blk
 clear h h' hown hb ht hg hops hR hR1 hR2 hR3
 go_enter Tryz.func24,Tryz.ntmps24
 go_wp2_with fail
 refine wp_region_noPanic ?_
 go_region
 refine NoPanic.normal ?_
 obtain ⟨W,hW⟩:∃ W,W=((w.setCell ⟨db,3,none⟩ (.int .i64 l)).setCell ⟨db,4,none⟩ (.int .i64 f)).drew:=⟨_,rfl⟩
 obtain ⟨hDW,hFW⟩:=HD.out.aim l f
 rw [← hW] at hDW hFW
 rw [← hW]
 have HFW:Hid (Fr (PDk B) w W):=hFW.mono (fun _ _ h=>h.toK HD.out.bb.1)
 have HBW:=hide (hFW.block _ _ HBX.out (fun ⟨_,cs,e⟩=>by injection e with e1 e2;exact absurd e2 (by decide)))
 have b5:W.cell? ⟨bb,0,none⟩=some (.pointer (some ⟨db,0,none⟩)):=blk_cell HBW.out 0
 have HL:=hide (gmrecover_any B db bd bn n ⟨D,N,p,⟨l,f,false⟩⟩ own W ⟨pv,hDW⟩ hB (HT.out.keep HFW.out hB) (OwnIs.kept HOW.out HFW.out hB) hn hp HOP.out)
 unfold RvPost at HL
 rw [← HR.out] at HL
 unfold dskV at HL
 clear hW hDW hFW b0 d3 d4 z0
 go_wp2_with fail
 refine HL.out.mono ?_
 rintro e w6 ⟨he6,⟨pv6,hD6⟩,hF6⟩
 obtain ⟨ev,hev⟩:∃ ev,ev=errV R.1:=⟨_,rfl⟩
 rw [← hev] at he6
 subst he6
 have HF6:=hide (HFW.out.trans hF6)
 have HX6:=hide (hF6.block _ _ HBW.out PDk.notBox)
 have HD6:=hide hD6
 have HTO:Hid (Calls Tryz.prog 27 #[ev] w6 fun e w'=>e=.returned (.tuple #[.int .i64 (R.1:Int),.int .i64 (-1)])∧Below w6.heap.size w6 w'):=by rw [hev];exact told_errV R.1 w6 (HF6.out.lowCell (a:=⟨0,0,none⟩) (by show 0 < B;omega) HG.out)
 clear hF6 b5 hD6 hev HL
 go_wp2_with fail
 refine HTO.out.mono ?_
 rintro e w7 ⟨rfl,hb7⟩
 have HD7:=hide (HD6.out.below hb7)
 have HF7:Hid (Fr (PDk B) w w7):=HF6.out.trans (Fr.of_below hb7)
 have hX7:=blk_below HX6.out hb7
 have b0:w7.cell? ⟨bb,0,none⟩=some (.pointer (some ⟨db,0,none⟩)):=blk_cell hX7 0
 have d3:w7.cell? ⟨db,3,none⟩=some (.int .i64 R.2.lf.left):=blk_cell HD7.out.blk 3
 have d4:w7.cell? ⟨db,4,none⟩=some (.int .i64 R.2.lf.full):=blk_cell HD7.out.blk 4
 have d5:w7.cell? ⟨db,5,none⟩=some (.bool R.2.lf.down):=blk_cell HD7.out.blk 5
 have z0:∀ j,w7.frozen? ⟨db,j,none⟩=false:=blk_frozen HD7.out.blk
 have HX7:=hide hX7
 have HAIM:=hide (HD7.out.aim (-1) (-1))
 clear hb7 hX7 HTO
 generalize hdn:R.2.lf.down=dn at *
 have HDN:=hide hdn
 clear hdn
 cases dn with
 | false=>
  go_wp2_with fail
  refine wp_region_noPanic ?_
  go_region
  refine NoPanic.normal ?_
  go_wp2
  go_ret
  obtain ⟨h8,h9⟩:=HAIM.out
  exact ⟨rfl,HF7.out.trans (h9.mono (fun _ _ h=>h.toK HD7.out.bb.1)),bn,R.2.D,R.2.N,R.2.p,Or.inl ⟨HDN.out,rfl,rfl,rfl⟩,AbsD.mono ⟨_,h8⟩ (by omega)⟩
 | true=>
  have HCR:=hide (gcrash_any B db bd bn (n+1300) R.2 kp pt w7 ⟨_,by rw [HDN.out];exact HD7.out⟩ (by omega) (by have:=HR1.out;omega) HR2.out HR3.out hl0 hl1)
  clear HAIM d3 d4 z0
  go_wp2_with fail
  refine HCR.out.mono ?_
  rintro e w8 ⟨rfl,hF8,bn',D',hcr,pv8,hD8⟩
  have hD8':DJ w8 B db bd bn' (n+1300+R.2.p.length) D' D' [] (-1) (-1) false pv8:=hD8
  have HD8:=hide hD8'
  have hX8:=hF8.block _ _ HX7.out PDk.notBox
  have b8:w8.cell? ⟨bb,0,none⟩=some (.pointer (some ⟨db,0,none⟩)):=blk_cell hX8 0
  have e3:w8.cell? ⟨db,3,none⟩=some (.int .i64 (-1)):=blk_cell hD8'.blk 3
  have e4:w8.cell? ⟨db,4,none⟩=some (.int .i64 (-1)):=blk_cell hD8'.blk 4
  have y0:∀ j,w8.frozen? ⟨db,j,none⟩=false:=blk_frozen hD8'.blk
  have HAIM:=hide (hD8'.aim (-1) (-1))
  have HF8:=hide (HF7.out.trans hF8)
  have HCC:=hide hcr
  clear hD8 hD8' hX8 hF8 hcr b0 d5
  go_wp2_with fail
  refine wp_region_noPanic ?_
  go_region
  refine NoPanic.normal ?_
  go_wp2
  go_ret
  obtain ⟨h8,h9⟩:=HAIM.out
  exact ⟨rfl,HF8.out.trans (h9.mono (fun _ _ h=>h.toK HD8.out.bb.1)),bn',D',D',[],Or.inr ⟨HDN.out,HCC.out,rfl,rfl⟩,AbsD.mono ⟨_,h8⟩ (by have:=HR1.out;omega)⟩
end
end Go.Proofs.YtenahlandohgaaaGreatDoor
