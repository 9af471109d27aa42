import Derived.Lib.ConvBytes
import Derived.Lib.AtoiErrMem
import Derived.Test.YtenahlandohgaaaGreatDoorDTell
import Derived.Test.YtenahlandohgaaaGreatDoorLeaf
namespace Go.Proofs.YtenahlandohgaaaGreatDoor
set_option linter.unusedVariables false
set_option linter.unusedSimpArgs false
set_option maxRecDepth 100000
set_option maxHeartbeats 4000000
open Go.RowKit
attribute [local go_sem ↓] Go.wp_at_zero Go.wp_at_succ
theorem heap_setCell_fr (w:World) (b o:Nat) (v:Value) (cs:Array Value) (ty:TypeId) (fr:Nat×Nat) (h:w.heap[b]?=some (.cells cs ty fr)):(w.setCell ⟨b,o,none⟩ v).heap[b]?=some (.cells (cs.setIfInBounds o v) ty fr):=by
 have hb:=blk_lt h
 simp [World.setCell,Array.getElem?_modify,h]
def PBy (gb:Nat) (k:Nat) (o:Obj):Prop:=k=gb∧∃ cs fr,o=.cells cs 5 fr
structure BI (w:World) (gb n:Nat):Prop where
 blk:∃ cs fr,w.heap[gb]?=some (.cells cs 5 fr)
 cel:∀ j,j < n→∃ v,w.cell? ⟨gb,j,none⟩=some v
 frz:∀ j,j < n→w.frozen? ⟨gb,j,none⟩=false
theorem BI.fr {P:Nat→Obj→Prop} {w w':World} {gb n:Nat} (h:BI w gb n) (hf:Fr P w w') (hp:∀ k cs fr,¬ P k (.cells cs 5 fr)):BI w' gb n:=by
 obtain ⟨cs,fr,hb⟩:=h.blk
 have hb':=hf.block _ _ hb (hp _ _ _)
 refine ⟨⟨cs,fr,hb'⟩,fun j hj=>?_,fun j hj=>?_⟩
 ·obtain ⟨v,hv⟩:=h.cel j hj
  exact ⟨v,by rw [World.cell?_of_block (a:=⟨gb,j,none⟩) (hb'.trans hb.symm)];exact hv⟩
 ·rw [World.frozen?_of_block (a:=⟨gb,j,none⟩) (hb'.trans hb.symm)];exact h.frz j hj
theorem BI.set {w:World} {gb n:Nat} (h:BI w gb n) (k:Nat) (v:Value):BI (w.setCell ⟨gb,k,none⟩ v) gb n:=by
 obtain ⟨cs,fr,hb⟩:=h.blk
 refine ⟨⟨_,_,heap_setCell_fr _ _ _ _ _ _ _ hb⟩,fun j hj=>?_,fun j hj=>?_⟩
 ·obtain ⟨u,hu⟩:=h.cel j hj
  by_cases e:j=k
  ·subst e;exact ⟨_,World.cell?_setCell_same _ _ _ hu⟩
  ·exact ⟨u,by rw [World.cell?_setCell_other _ _ _ _ (by simp [e])];exact hu⟩
 ·rw [World.frozen?_setCell];exact h.frz j hj
theorem PBy.set {w:World} {gb n:Nat} (h:BI w gb n) (k:Nat) (v:Value):Fr (PBy gb) w (w.setCell ⟨gb,k,none⟩ v):=by
 obtain ⟨cs,fr,hb⟩:=h.blk
 exact (Fr.refl _ w).set hb ⟨rfl,_,_,rfl⟩ k v
theorem DI.by {w w':World} {B db bd bn n gb:Nat} {D N:Fs} {p:List Dop} {q:Int} {pv:Value} (h:DI w B db bd bn n D N p q pv) (hf:Fr (PBy gb) w w'):DI w' B db bd bn n D N p q pv:=
 h.fr hf (fun k cs ⟨_,cs',fr,e⟩=>by injection e with e1 e2;exact absurd e2 (by decide)) (fun k es c ⟨_,cs',fr,e⟩=>by cases e) (fun k cs ⟨_,cs',fr,e⟩=>by injection e with e1 e2;exact absurd e2 (by decide)) (fun k cs ⟨_,cs',fr,e⟩=>by injection e with e1 e2;exact absurd e2 (by decide))
theorem PDk.notBy {B k:Nat} {cs:Array Value} {fr:Nat×Nat}:¬ PDk B k (.cells cs 5 fr):=by
 rintro ⟨_,⟨cs',e⟩ | ⟨es,c,e⟩ | ⟨cs',e⟩⟩
 ·injection e with e1 e2;exact absurd e2 (by decide)
 ·cases e
 ·injection e with e1 e2;exact absurd e2 (by decide)
theorem write_any (B db bd bn n gb c:Nat) (D N:Fs) (p:List Dop) (q:Int) (pv:Value) (x s:List UInt8) (w:World) (h:DI w B db bd bn n D N p q pv) (hq0:-1000000≤q) (hq1:q≤-1) (hn:n≤1000000) (hp:p.length≤1000000) (hx:x.length≤1000000) (hg:BI w gb s.length) (hc:∀ j (hj:j < s.length),w.cell? ⟨gb,j,none⟩=some (.int .u8 (s[j].toNat:Int))) (hs:s.length≤140737488355328) :
 Calls Tryz.prog 341 #[.pointer (some ⟨db,0,none⟩),.string (strA x),.slice (some ⟨gb,0,none⟩) s.length c] w fun e w'=>e=.returned .nilIface∧(∃ pv',DI w' B db bd bn (n+1) D (putF N x s) (p++[⟨1,x,s⟩]) (q - 1) pv')∧Fr (fun k o=>PDk B k o∨PBy gb k o) w w':=by
 have hgl:gb < w.heap.size:=by obtain ⟨cs,fr,hb⟩:=hg.blk;exact blk_lt hb
 have hcv:(convert 111 9 (.slice (some ⟨gb,0,none⟩) s.length c)).run Tryz.prog w=.ok (.string (strA s)) w:=run_convert_bytes_back (P:=Tryz.prog) w 111 9 5 ⟨gb,0,none⟩ c s Tryz.underlying111 Tryz.underlying5 Tryz.underlying9 (fun j hj=>by
  rw [addr_add0];exact hc j hj)
 obtain ⟨V,hV⟩:∃ V,V=w.alloc (.cells #[.int .i64 1,.string (strA x),.string ⟨#[]⟩,.string (strA s)] 116):=⟨_,rfl⟩
 have HVB:Hid (Below w.heap.size w V):=by rw [hV];exact (Below.refl _ _).alloc (Nat.le_refl _) _
 have HD:=hide (h.below HVB.out)
 have HG:=hide (hg.fr (P:=fun _ _=>False) (Fr.of_below HVB.out) (fun _ _ _ h=>h))
 have HWW:=hide hV
 clear h hg hc hV
 go_enter Tryz.func341,Tryz.ntmps341
 go_wp2_with fail
 rw [← HWW.out]
 refine (tell_put B db bd bn n D N p q pv x s V HD.out hq0 hq1 hn hp hx).mono ?_
 rintro e w1 ⟨rfl,⟨pv1,hD1⟩,hF1⟩
 have HD1:=hide hD1
 have HG1:=hide (HG.out.fr hF1 (fun k cs fr=>PDk.notBy))
 have HF1:=hide (((Fr.of_below (P:=PDk B) HVB.out).trans hF1).mono (Q:=fun k o=>PDk B k o∨PBy gb k o) (fun k o h=>Or.inl h))
 clear hD1 hF1 hcv
 have hne:∀ W,(binOp .eql 67 .nilIface (.iface 40 (.int .i64 16))).run Tryz.prog W=.ok (.bool false) W:=fun W=>by kernel_rfl
 go_wp2
 clear hne
 go_loopw [9,32] (fun _ i wr=>∃ k:Nat,k≤s.length∧i=.int .i64 k∧BI wr gb s.length∧DI wr B db bd bn (n+1) D (putF N x s) (p++[⟨1,x,s⟩]) (q - 1) pv1∧Fr (fun k o=>PDk B k o∨PBy gb k o) w wr) (fun _ i _=>s.length - (intOf i).toNat)
 case atStart=>exact ⟨0,by omega,rfl,HG1.out,HD1.out,HF1.out⟩
 case round=>
  obtain ⟨k,hk,rfl,hG,hD,hF⟩:=hrel
  have HG2:=hide hG
  have HD2:=hide hD
  have HF2:=hide hF
  by_cases hlt:k < s.length
  ·obtain ⟨u,hu⟩:=hG.cel k hlt
   have hfz:=hG.frz k hlt
   clear hG hD hF
   go_wp2
   have hset:=PBy.set HG2.out k (.int .u8 33)
   exact ⟨⟨k+1,by omega,by go_num,HG2.out.set k _,HD2.out.by hset,HF2.out.trans (hset.mono (fun k o h=>Or.inr h))⟩,by simp [intOf];omega⟩
  ·have hk':k=s.length:=by omega
   subst hk'
   clear hG hD hF
   go_wp2
   go_ret
   exact ⟨rfl,⟨_,HD2.out⟩,HF2.out⟩
theorem remove_any (B db bd bn n:Nat) (D N:Fs) (p:List Dop) (q:Int) (pv:Value) (x:List UInt8) (w:World) (h:DI w B db bd bn n D N p q pv) (hq0:-1000000≤q) (hq1:q≤-1) (hn:n≤1000000) (hp:p.length≤1000000) (hx:x.length≤1000000) (hh:(N x).isSome=true) :
 Calls Tryz.prog 339 #[.pointer (some ⟨db,0,none⟩),.string (strA x)] w fun e w'=>e=.returned .nilIface∧(∃ pv',DI w' B db bd bn (n+1) D (delF N x) (p++[⟨3,x,[]⟩]) (q - 1) pv')∧Fr (PDk B) w w':=by
 have HD:=hide h
 have HH:=hide hh
 clear h hh
 go_enter Tryz.func339,Tryz.ntmps339
 go_wp2_with (go_at_call 343;refine (tell_del B db bd bn n D N p q pv x [] _ HD.out hq0 hq1 hn hp hx HH.out).mono ?_;rintro e w1 ⟨rfl,hD1,hF1⟩;have HD1:=hide hD1;have HF1:=hide hF1;clear hD1 hF1)
 go_ret
 exact ⟨rfl,HD1.out,HF1.out⟩
end Go.Proofs.YtenahlandohgaaaGreatDoor
