import Derived.Test.YtenahlandohgaaaGreatDoorETurn
import Derived.Test.YtenahlandohgaaaGreatDoorGStep
namespace Go.Proofs.YtenahlandohgaaaGreatDoor
set_option linter.unusedVariables false
set_option linter.unusedSimpArgs false
set_option maxRecDepth 100000
set_option maxHeartbeats 4000000
open Go.RowKit
attribute [local go_sem ↓] Go.wp_at_zero Go.wp_at_succ
structure St where
 kind:Nat
 a:Nat
 b:Nat
 fs:List Fl
 fv:Value
 x:List UInt8
def stV (db:Nat) (s:St):Value:=if s.kind=0 then syF db else if s.kind=1 then wrF s.a s.b else rmF s.a s.b
def stOps (s:St):List Dop:=if s.kind=0 then [sOp] else if s.kind=1 then s.fs.map wOp else [rOp s.x]
def opsOf (ks:List St):List Dop:=ks.flatMap stOps
def StW (db:Nat) (w:World) (s:St):Prop:=
 s.kind=0∨(s.kind=1∧w.heap[s.a]?=some (.cells #[s.fv] 26)∧w.heap[s.b]?=some (.cells #[dskV db] 113)∧FilE w s.fv s.fs∧s.fs.length≤10∧∀ f∈s.fs,f.1.length≤1000∧f.2.length≤100000000)∨
  (s.kind=2∧w.heap[s.a]?=some (.cells #[dskV db] 113)∧w.heap[s.b]?=some (.cells #[.string (strA s.x)] 9)∧s.x.length≤1000)
theorem StW.fr {db B:Nat} {w w':World} {s:St} (h:StW db w s) (hf:Fr (PDk B) w w'):StW db w' s:=by
 rcases h with h | ⟨h,h1,h2,h3,h4⟩ | ⟨h,h1,h2,h3⟩
 ·exact Or.inl h
 ·exact Or.inr (Or.inl ⟨h,hf.block _ _ h1 (PDk.notT (by decide) (by decide)),hf.block _ _ h2 (PDk.notT (by decide) (by decide)),h3.fr hf (fun _ _=>PDk.notT (by decide) (by decide)),h4⟩)
 ·exact Or.inr (Or.inr ⟨h,hf.block _ _ h1 (PDk.notT (by decide) (by decide)),hf.block _ _ h2 (PDk.notT (by decide) (by decide)),h3⟩)
theorem opsOf_take (ks:List St) (k:Nat) (hk:k < ks.length):opsOf (ks.take (k+1))=opsOf (ks.take k)++stOps ks[k]:=by
 unfold opsOf
 rw [List.take_succ_eq_append_getElem hk,List.flatMap_append]
 simp
theorem opsOf_all (ks:List St) (k:Nat) (hk:k < ks.length):opsOf ks=(opsOf (ks.take k)++stOps ks[k])++opsOf (ks.drop (k+1)):=by
 rw [← opsOf_take ks k hk]
 unfold opsOf
 rw [← List.flatMap_append,List.take_append_drop]
theorem aRun_stop {l r:List Dop} {A:AD} (h:(aRun l A).1≠0):aRun (l++r) A=aRun l A:=by rw [aRun_app,if_neg h]
theorem stOps_len {db:Nat} {w:World} {s:St} (h:StW db w s):(stOps s).length≤10:=by
 unfold stOps
 rcases h with h | ⟨h,_,_,_,h4,_⟩ | ⟨h,_⟩
 ·rw [if_pos h];simp
 ·rw [if_neg (by omega),if_pos h,List.length_map];exact h4
 ·rw [if_neg (by omega),if_neg (by omega)];simp
theorem opsOf_len {db:Nat} {w:World}:∀ (ks:List St),(∀ s∈ks,StW db w s)→(opsOf ks).length≤10*ks.length
 | [],_=>by simp [opsOf]
 | s :: r,h=>by
  have h1:=stOps_len (h s (by simp))
  have h2:=opsOf_len r (fun s hs=>h s (by simp [hs]))
  unfold opsOf at h2 ⊢
  simp only [List.flatMap_cons,List.length_append,List.length_cons]
  omega
theorem stOps_ok {db:Nat} {w:World} {s:St} (h:StW db w s):∀ o∈stOps s,o.kind=1∨o.kind=3→OpsOk [o]:=by
 intro o ho hk
 unfold stOps at ho
 have one:o.name.length≤1000000→OpsOk [o]:=fun hl x hx=>by rw [List.mem_singleton.1 hx];exact ⟨hk,hl⟩
 rcases h with h | ⟨h,_,_,_,h4,h5⟩ | ⟨h,_,_,h3⟩
 ·rw [if_pos h] at ho
  rw [List.mem_singleton.1 ho] at hk
  exact absurd hk (by decide)
 ·rw [if_neg (by omega),if_pos h] at ho
  obtain ⟨f,hf,rfl⟩:=List.mem_map.1 ho
  exact one (by have:=(h5 f hf).1;show f.1.length≤_;omega)
 ·rw [if_neg (by omega),if_neg (by omega)] at ho
  rw [List.mem_singleton.1 ho]
  exact fun x hx=>by rw [List.mem_singleton.1 hx];exact ⟨Or.inr rfl,by show s.x.length≤_;omega⟩
theorem opsOf_ok {db:Nat} {w:World} (ks:List St) (h:∀ s∈ks,StW db w s):∀ o∈opsOf ks,o.kind=1∨o.kind=3→OpsOk [o]:=by
 intro o ho
 unfold opsOf at ho
 obtain ⟨s,hs,ho⟩:=List.mem_flatMap.1 ho
 exact stOps_ok (h s hs) o ho
theorem ginTurn_any (B db bd bn n sb c:Nat) (A:AD) (ks:List St) (cs:Array Value) (w:World) (h:AbsD w B db bd bn n A)
 (hb:w.heap[sb]?=some (.cells cs 164)) (hcs:∀ k (hk:k < ks.length),w.cell? ⟨sb,k,none⟩=some (stV db ks[k])) (hw:∀ s∈ks,StW db w s) (hl:ks.length≤6) (hn:n≤470000) (hp:A.p.length≤50) (hops:OpsOk A.p)
 (hthere:∀ k (hk:k < ks.length),ks[k].kind=2→(aRun (opsOf (ks.take k)) A).1=0→((aRun (opsOf (ks.take k)) A).2.N ks[k].x).isSome=true) :
 Calls Tryz.prog 142 #[.slice (some ⟨sb,0,none⟩) ks.length c] w fun e w'=>e=.returned (errV (aRun (opsOf ks) A).1)∧AbsD w' B db bd bn (n+1200) (aRun (opsOf ks) A).2∧Fr (PDk B) w w':=by
 have HA:=hide h
 have HB:=hide hb
 have HCS:=hide hcs
 have HW:=hide hw
 have HOP:=hide hops
 have HTH:=hide hthere
 have hmt:=mth_Sync db
 clear h hb hcs hw hops hthere
 go_enter Tryz.func142,Tryz.ntmps142
 go_wp2_with fail
 go_loopw [4,5,8] (fun _ _ i wr=>∃ k:Nat,k≤ks.length∧i=.int .i64 k∧(aRun (opsOf (ks.take k)) A).1=0∧AbsD wr B db bd bn (n+200*k) (aRun (opsOf (ks.take k)) A).2∧Fr (PDk B) w wr) (fun _ _ i _=>ks.length - (intOf i).toNat)
 case atStart=>exact ⟨0,Nat.zero_le _,rfl,rfl,HA.out,Fr.refl _ _⟩
 case round=>
  obtain ⟨k,hk,rfl,h0,hD,hF⟩:=hrel
  have HH0:=hide h0
  have HF:=hide hF
  by_cases hlt:k < ks.length
  rotate_left
  ·have hz:¬ (k:Int) < (ks.length:Int):=by omega
   have hke:k=ks.length:=by omega
   have HKE:=hide hke
   have HD1:=hide (hD.mono (show n+200*k≤n+1200 by omega))
   clear hke h0 hD hF
   go_wp2
   go_ret
   have h1:=HD1.out
   have h2:=HH0.out
   rw [HKE.out,List.take_length] at h1 h2
   exact ⟨by rw [h2];rfl,h1,HF.out⟩
  have hlt':(k:Int) < (ks.length:Int):=by omega
  have hsb:=hF.block _ _ HB.out (PDk.notT (by decide) (by decide))
  have s0:wr.cell? ⟨sb,k,none⟩=some (stV db ks[k]):=by rw [World.cell?_of_block (a:=⟨sb,k,none⟩) (hsb.trans HB.out.symm)];exact HCS.out k hlt
  have HWK:=hide ((HW.out ks[k] (List.getElem_mem hlt)).fr hF)
  have HTK:=hide (And.intro (opsOf_take ks k hlt) (opsOf_all ks k hlt))
  have HTX:=hide (HTH.out k hlt)
  have HLP:Hid ((aRun (opsOf (ks.take k)) A).2.p.length≤110):=by
   have h1:=aRun_len (opsOf (ks.take k)) A
   have h2:=opsOf_len (ks.take k) (fun s hs=>HW.out s (List.mem_of_mem_take hs))
   rw [List.length_take] at h2
   show _≤_
   omega
  have HOK:=hide (aRun_ops (opsOf (ks.take k)) A HOP.out (opsOf_ok (ks.take k) (fun s hs=>HW.out s (List.mem_of_mem_take hs))))
  generalize ks[k]=s at *
  obtain ⟨A1,hA1⟩:∃ A1,A1=(aRun (opsOf (ks.take k)) A).2:=⟨_,rfl⟩
  rw [← hA1] at hD HTX HLP HOK
  have HA1:=hide hA1
  have HD:=hide hD
  have HNX:Hid ((aRun (stOps s) A1).1=0→(aRun (opsOf (ks.take (k+1))) A).1=0∧(aRun (opsOf (ks.take (k+1))) A).2=(aRun (stOps s) A1).2):=fun h=>by
   rw [HTK.out.1,aRun_app,if_pos HH0.out,← HA1.out]
   exact ⟨h,rfl⟩
  have HST:Hid ((aRun (stOps s) A1).1≠0→aRun (opsOf ks) A=aRun (stOps s) A1):=fun h=>by
   have h9:aRun (opsOf (ks.take k)++stOps s) A=aRun (stOps s) A1:=by rw [aRun_app,if_pos HH0.out,← HA1.out]
   rw [HTK.out.2,aRun_stop (by rw [h9];exact h),h9]
  clear h0 hD hF hsb hA1
  rcases HWK.out with h | ⟨h,hw1,hw2,hw3,hw4,hw5⟩ | ⟨h,hw1,hw2,hw3⟩
  ·have hso:stOps s=[sOp]:=by unfold stOps;rw [if_pos h]
   have hsv:stV db s=syF db:=by unfold stV;rw [if_pos h]
   have hone:aRun [sOp] A1=aDo sOp A1:=by
    have:=aRun_snoc [] sOp A1 rfl
    exact this
   rw [hso,hone] at HNX HST
   rw [hsv] at s0
   have HCALL:=hide (gsyncA_any B db bd bn (n+200*k) A1 wr HD.out (by omega) (by have:=HLP.out;omega) HOK.out)
   clear hso hsv hone h HWK HTX
   go_wp2_with fail
   refine HCALL.out.mono ?_
   rintro e w1 ⟨rfl,hD1,hF1⟩
   have HD1:=hide hD1
   have HF2:=hide (HF.out.trans hF1)
   clear hD1 hF1
   by_cases hz:(aDo sOp A1).1=0
   ·obtain ⟨g1,g2⟩:=HNX.out hz
    have HG:=hide (And.intro g1 g2)
    rw [hz,show errV 0=.nilIface from rfl]
    clear g1 g2 hz
    go_wp2
    exact ⟨⟨k+1,by omega,by go_num,HG.out.1,(by rw [HG.out.2];exact HD1.out.mono (by have:=HLP.out;omega)),HF2.out⟩,by simp [intOf];omega⟩
   ·have HG:=hide (HST.out hz)
    have HZ:=hide hz
    rw [errV_ne hz]
    clear hz
    go_wp2
    go_ret
    rw [HG.out,errV_ne HZ.out]
    exact ⟨rfl,HD1.out.mono (by have:=HLP.out;omega),HF2.out⟩
  ·have hso:stOps s=s.fs.map wOp:=by unfold stOps;rw [if_neg (by omega),if_pos h]
   have hsv:stV db s=wrF s.a s.b:=by unfold stV;rw [if_neg (by omega),if_pos h]
   rw [hso] at HNX HST
   rw [hsv] at s0
   have HCALL:=hide (gwstep_any B db bd bn (n+200*k) s.a s.b A1 s.fs s.fv wr HD.out hw1 hw2 hw3 (by omega) (by have:=HLP.out;omega) hw5)
   have hw4':s.fs.length≤10:=hw4
   clear hso hsv h HWK HTX hw1 hw2 hw3 hw5
   go_wp2_with fail
   refine HCALL.out.mono ?_
   rintro e w1 ⟨rfl,hD1,hF1⟩
   have HD1:=hide hD1
   have HF2:=hide (HF.out.trans hF1)
   clear hD1 hF1
   by_cases hz:(aRun (s.fs.map wOp) A1).1=0
   ·obtain ⟨g1,g2⟩:=HNX.out hz
    have HG:=hide (And.intro g1 g2)
    rw [hz,show errV 0=.nilIface from rfl]
    clear g1 g2 hz
    go_wp2
    exact ⟨⟨k+1,by omega,by go_num,HG.out.1,(by rw [HG.out.2];exact HD1.out.mono (by omega)),HF2.out⟩,by simp [intOf];omega⟩
   ·have HG:=hide (HST.out hz)
    have HZ:=hide hz
    rw [errV_ne hz]
    clear hz
    go_wp2
    go_ret
    rw [HG.out,errV_ne HZ.out]
    exact ⟨rfl,HD1.out.mono (by omega),HF2.out⟩
  ·have hso:stOps s=[rOp s.x]:=by unfold stOps;rw [if_neg (by omega),if_neg (by omega)]
   have hsv:stV db s=rmF s.a s.b:=by unfold stV;rw [if_neg (by omega),if_neg (by omega)]
   have hone:aRun [rOp s.x] A1=aDo (rOp s.x) A1:=aRun_snoc [] (rOp s.x) A1 rfl
   rw [hso,hone] at HNX HST
   rw [hsv] at s0
   have HCALL:=hide (grstep_any B db bd bn (n+200*k) s.b s.a A1 s.x wr HD.out hw2 hw1 (by omega) (by have:=HLP.out;omega) hw3 (HTX.out h HH0.out))
   clear hso hsv hone h HWK HTX hw1 hw2
   go_wp2_with fail
   refine HCALL.out.mono ?_
   rintro e w1 ⟨rfl,hD1,hF1⟩
   have HD1:=hide hD1
   have HF2:=hide (HF.out.trans hF1)
   clear hD1 hF1
   by_cases hz:(aDo (rOp s.x) A1).1=0
   ·obtain ⟨g1,g2⟩:=HNX.out hz
    have HG:=hide (And.intro g1 g2)
    rw [hz,show errV 0=.nilIface from rfl]
    clear g1 g2 hz
    go_wp2
    exact ⟨⟨k+1,by omega,by go_num,HG.out.1,(by rw [HG.out.2];exact HD1.out.mono (by omega)),HF2.out⟩,by simp [intOf];omega⟩
   ·have HG:=hide (HST.out hz)
    have HZ:=hide hz
    rw [errV_ne hz]
    clear hz
    go_wp2
    go_ret
    rw [HG.out,errV_ne HZ.out]
    exact ⟨rfl,HD1.out.mono (by omega),HF2.out⟩
end Go.Proofs.YtenahlandohgaaaGreatDoor
