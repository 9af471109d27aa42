import Derived.Test.YtenahlandohgaaaGreatDoorZGOwn
import Derived.Test.YtenahlandohgaaaGreatDoorGSettle
namespace Go.Proofs.YtenahlandohgaaaGreatDoor
set_option linter.unusedVariables false
set_option linter.unusedSimpArgs false
set_option maxRecDepth 100000
set_option maxHeartbeats 4000000
open Go.RowKit
attribute [local go_sem ↓] Go.wp_at_zero Go.wp_at_succ
def ownOps (own:Option (List Fl)):List Dop:=match own with | none=>[] | some fs=>settleOps kJournal fs
def recOps (own:Option (List Fl)):List Dop:=sOp :: ownOps own
theorem aSync_ok {A:AD} (h:(aDo sOp A).1=0):(aDo sOp A).2.N=A.N∧(aDo sOp A).2.p=[]∧(aDo sOp A).2.lf.down=false:=by
 have h0:(aWr A.lf).1=0:=by
  unfold aDo at h
  by_cases h0:(aWr A.lf).1=0
  ·exact h0
  ·rw [if_neg h0,if_neg (by rintro ⟨h1,_⟩;cases h1)] at h
   exact h
 have hd:(aWr A.lf).2.down=false:=by
  unfold aWr at h0 ⊢
  split
  ·rename_i hc;rw [if_pos hc] at h0;cases h0
  ·split <;> rfl
 unfold aDo
 rw [if_pos h0,if_neg (by decide),if_neg (by decide)]
 exact ⟨rfl,rfl,hd⟩
def OwnIs (w:World) (N:Fs) (own:Option (List Fl)):Prop:=
 match own with
 | none=>∀ x,(N x).isSome=true→dotB x=false
 | some fs=>(∀ x,(N x).isSome=true→x≠kJournal→dotB x=false)∧fs.length≤10∧(∀ f∈fs,f.1.length≤1000∧f.2.length≤100000000)∧(∀ f∈fs,f.1≠kJournal)∧∃ s,N kJournal=some s∧s.length≤90000000∧∀ B W,6 < B→Fr (PDk B) w W→Calls Tryz.prog 219 #[.string (strA kJournal),.string (strA s)] W (ToldP fs W)
theorem own_none {l:List (List UInt8)} (h:∀ x∈l,dotB x=false):l.filter dotB=[]:=by
 rw [List.filter_eq_nil_iff]
 intro x hx
 rw [h x hx]
 decide
theorem own_one {l:List (List UInt8)} (hn:l.Nodup) (hj:kJournal∈l) (h:∀ x∈l,x≠kJournal→dotB x=false):l.filter dotB=[kJournal]:=by
 have hd:dotB kJournal=true:=by decide
 have e:l.filter dotB=l.filter (fun x=>x == kJournal):=by
  apply List.filter_congr
  intro x hx
  by_cases hk:x=kJournal
  ·subst hk;rw [hd];simp
  ·rw [h x hx hk];simpa using hk
 rw [e,List.filter_beq,hn.count,if_pos hj]
 rfl
theorem gsettleAll_any (B db bd bn n:Nat) (A:AD) (own:Option (List Fl)) (w:World) (h:AbsD w B db bd bn n A) (hB:6 < B) (ht:Tab w) (hown:OwnIs w A.N own) (hn:n≤450000) (hp:A.p.length≤50) (hops:OpsOk A.p) :
 Calls Tryz.prog 87 #[dskV db] w fun e w'=>e=.returned (errV (aRun (recOps own) A).1)∧AbsD w' B db bd bn (n+1300) (aRun (recOps own) A).2∧Fr (PDk B) w w':=by
 have HA:=hide h
 have HT:=hide ht
 have HOW:=hide hown
 have HOP:=hide hops
 have hmt:=mth_Sync db
 have hmn:=mth_Names db
 have HRE:Hid (aRun (recOps own) A=if (aDo sOp A).1=0 then aRun (ownOps own) (aDo sOp A).2 else aDo sOp A):=rfl
 clear h ht hown hops
 unfold dskV
 go_enter Tryz.func87,Tryz.ntmps87
 go_wp2_with fail
 refine (gsyncA_any B db bd bn n A w HA.out (by omega) (by omega) HOP.out).mono ?_
 rintro e w1 ⟨rfl,hA1,hF1⟩
 have HA1:=hide hA1
 have HF1:=hide hF1
 clear hA1 hF1
 by_cases h0:(aDo sOp A).1=0
 rotate_left
 ·have HEV:=hide (errV_ne h0)
  rw [HEV.out]
  rw [if_neg h0] at HRE
  clear h0
  go_wp2
  go_ret
  rw [HRE.out]
  exact ⟨by rw [HEV.out];rfl,HA1.out.mono (by omega),HF1.out⟩
 rw [if_pos h0] at HRE
 have hev:errV (aDo sOp A).1=.nilIface:=by rw [h0];rfl
 rw [hev]
 obtain ⟨hN1,hp1,hd1⟩:=aSync_ok h0
 have HHP:=hide hp1
 have HHD:=hide hd1
 have HHN:=hide hN1
 clear hev h0 hN1 hp1 hd1
 generalize (aDo sOp A).2=A1 at *
 obtain ⟨pv,hdj⟩:=HA1.out
 rw [HHD.out] at hdj
 have HDJ:=hide hdj
 clear hdj
 go_wp2_with fail
 refine (gnames_nd B db bd bn _ A1.D A1.N A1.p A1.lf.left A1.lf.full pv w1 HDJ.out (by omega)).mono ?_
 rintro e w2 ⟨hB2,nv,l,rfl,hN2,hmem,hll,hnd⟩
 have HN2:=hide hN2
 obtain ⟨na,nc,hnv⟩:=owns_len hN2
 subst hnv
 have HB2:=hide hB2
 have HMEM:Hid (∀ x,x∈l↔(A.N x).isSome=true):=by rw [← HHN.out];exact hmem
 have HND:=hide hnd
 have hll2:l.length≤1000000:=by omega
 clear hB2 hN2 hmem hnd hll
 go_wp2_with fail
 refine (gownNames_any _ l _ w2 HN2.out hll2).mono ?_
 rintro e w3 ⟨ov,rfl,hO3,hB3⟩
 have HB3:=hide (HB2.out.trans (hB3.mono HB2.out.size))
 have HF3:=hide (HF1.out.trans (Fr.of_below HB3.out))
 have HA3:=hide (HA1.out.below HB3.out)
 clear hB3
 cases own with
 | none=>
  rw [own_none (fun x hx=>HOW.out x ((HMEM.out x).1 hx))] at hO3
  obtain ⟨oa,oc,hoo⟩:=owns_len hO3
  subst hoo
  clear hO3
  dsimp only [List.length_nil]
  go_wp2_with fail
  go_loopw [7,8,25] (fun _ _ i wr=>i=.int .i64 0∧wr=w3) (fun _ _ _ _=>0)
  case atStart=>exact ⟨rfl,rfl⟩
  case round=>
   obtain ⟨hi,hw⟩:=hrel
   subst hi hw
   go_wp2
   go_ret
   rw [HRE.out]
   exact ⟨rfl,HA3.out.mono (by omega),HF3.out⟩
 | some fs=>
  obtain ⟨hdot,hf10,hfs,hjf,s,hs,hsl,hto⟩:=HOW.out
  rw [own_one HND.out ((HMEM.out _).2 (by rw [hs];rfl)) (fun x hx=>hdot x ((HMEM.out x).1 hx))] at hO3
  obtain ⟨oa,oc,hoo⟩:=owns_len hO3
  subst hoo
  obtain ⟨g,hla,hgl,hc⟩:=namV_get hO3 0 (by simp)
  subst hla
  have hc0:w3.cell? ⟨g,0,none⟩=some (.string (strA kJournal)):=hc
  have HSET:=hide (gsettle_any B db bd bn (n+A.p.length) A1 kJournal s w3 HA3.out HHD.out (by decide) (by rw [HHN.out];exact hs) hsl (HT.out.keep HF3.out hB) fs (fun W hW=>hto B W hB (HF3.out.trans (Fr.of_below hW))) hf10 hfs hjf (by omega) (by rw [HHP.out];simp) (by rw [HHP.out];intro o ho;cases ho))
  clear hO3 hc hdot hfs hjf hs hsl hto
  dsimp only [List.length_singleton]
  go_wp2_with fail
  go_loopw [7,8,25] (fun _ _ i wr=>(i=.int .i64 0∧wr=w3)∨(i=.int .i64 1∧(aRun (settleOps kJournal fs) A1).1=0∧AbsD wr B db bd bn (n+A.p.length+1200) (aRun (settleOps kJournal fs) A1).2∧Fr (PDk B) w wr)) (fun _ _ i _=>1 - (intOf i).toNat)
  case atStart=>exact Or.inl ⟨rfl,rfl⟩
  case round=>
   rcases hrel with ⟨hi,hw⟩ | ⟨hi,hz,hAz,hFz⟩
   ·subst hi hw
    go_wp2_with fail
    refine HSET.out.mono ?_
    rintro e w4 ⟨rfl,hA4,hF4⟩
    have HA4:=hide hA4
    have HF4:=hide (HF3.out.trans hF4)
    clear hA4 hF4
    by_cases h4:(aRun (settleOps kJournal fs) A1).1=0
    ·have hev:errV (aRun (settleOps kJournal fs) A1).1=.nilIface:=by rw [h4];rfl
     rw [hev]
     have H4:=hide h4
     clear hev h4
     go_wp2_with fail
     exact ⟨Or.inr ⟨rfl,H4.out,HA4.out,HF4.out⟩,by simp [intOf]⟩
    ·have HEV:=hide (errV_ne h4)
     rw [HEV.out]
     clear h4
     go_wp2
     go_ret
     rw [HRE.out]
     exact ⟨by show _=Ending.returned (errV (aRun (settleOps kJournal fs) A1).1);rw [HEV.out];rfl,HA4.out.mono (by omega),HF4.out⟩
   ·subst hi
    have HZ:=hide hz
    have HAZ:=hide hAz
    have HFZ:=hide hFz
    clear hz hAz hFz
    go_wp2
    go_ret
    rw [HRE.out]
    exact ⟨by show _=Ending.returned (errV (aRun (settleOps kJournal fs) A1).1);rw [HZ.out];rfl,HAZ.out.mono (by omega),HFZ.out⟩
end Go.Proofs.YtenahlandohgaaaGreatDoor
