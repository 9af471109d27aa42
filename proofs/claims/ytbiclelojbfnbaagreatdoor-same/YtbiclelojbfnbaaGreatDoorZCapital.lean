import Derived.Lib.ConvBytes
import Derived.Lib.AtoiErrMem
import Derived.Test.YtbiclelojbfnbaaGreatDoorZPlainParse
import Derived.Test.YtbiclelojbfnbaaGreatDoorShelf
import Derived.Test.YtbiclelojbfnbaaGreatDoorZTake
namespace Go.Proofs.YtbiclelojbfnbaaGreatDoor
set_option linter.unusedVariables false
set_option linter.unusedSimpArgs false
set_option maxRecDepth 100000
set_option maxHeartbeats 4000000
section
open Go.RowKit
def QcU (s:ByteArray) (k j:Nat):UInt8:=if j < k then smallB (s.data.toList.getD j 0) else s.data.toList.getD j 0
theorem QqF (c:UInt8) (h:Qco (c.toNat:Int)=true):((smallB c).toNat:Int)=(c.toNat:Int) - 65+97:=by
 have hc:=h
 unfold Qco at hc
 simp at hc
 have e:smallB c=c - 65+97:=by unfold smallB;rw [if_pos h]
 rw [e,UInt8.toNat_add,UInt8.toNat_sub]
 simp
 omega
theorem QpI (c:UInt8) (h:Qco (c.toNat:Int)=false):smallB c=c:=by
 unfold smallB;rw [if_neg (by rw [h];decide)]
theorem Ql9 (s:ByteArray) (k j:Nat) (h:Qco ((s.data.toList.getD k 0).toNat:Int)=false):QcU s k j=QcU s (k+1) j:=by
 unfold QcU
 by_cases e:j=k
 ·subst e;rw [if_neg (by omega),if_pos (by omega),QpI _ h]
 ·by_cases l:j < k
  ·rw [if_pos l,if_pos (by omega)]
  ·rw [if_neg l,if_neg (by omega)]
theorem Qk0 (s:ByteArray) (k j:Nat) (e:¬ j=k):QcU s k j=QcU s (k+1) j:=by
 unfold QcU
 by_cases l:j < k
 ·rw [if_pos l,if_pos (by omega)]
 ·rw [if_neg l,if_neg (by omega)]
theorem Qmq (s:ByteArray) (k:Nat):QcU s (k+1) k=smallB (s.data.toList.getD k 0):=by
 unfold QcU;rw [if_pos (by omega)]
theorem Qe8 (s:ByteArray) (w:World) (hs:s.size≤140737488355328) :
 Calls Tryz.prog 247 #[.string s] w fun e w'=>e=.returned (.string ⟨(smallL s.data.toList).toArray⟩)∧Below w.heap.size w w':=by
 have hcv:=Lib.run_convert_string_bytes (P:=Tryz.prog) w 9 172 5 s (u:=.string) Tryz.underlying9 Tryz.underlying172 Tryz.underlying5
 have hB:=Lib.bytesWorld_below w 5 s
 have hcell:∀ j,j < s.size→(Lib.bytesWorld w 5 s).cell? ⟨w.heap.size,j,none⟩=some (.int .u8 (QcU s 0 j).toNat):=fun j hj=>by
  rw [Lib.bytesWorld_cell w 5 s j hj];simp [QcU]
 have hfz:∀ j,j < s.size→(Lib.bytesWorld w 5 s).frozen? ⟨w.heap.size,j,none⟩=false:=fun j hj=>by
  unfold World.frozen?;rw [Lib.bytesWorld_at_new];simp [Lib.bytesCells];omega
 have hsz:=Lib.bytesWorld_size w 5 s
 generalize Lib.bytesWorld w 5 s=W1 at hcv hB hcell hfz hsz
 have hlist:∀ (wr:World),(∀ j,j < s.size→wr.cell? ⟨w.heap.size,j,none⟩=some (.int .u8 (QcU s s.size j).toNat))→
  ∀ C,(convert 172 9 (.slice (some ⟨w.heap.size,0,none⟩) s.size C)).run Tryz.prog wr=.ok (.string ⟨(smallL s.data.toList).toArray⟩) wr:=fun wr hw C=>by
  have hl:(smallL s.data.toList).length=s.size:=by simp [smallL]
  have:=run_convert_bytes_back (P:=Tryz.prog) wr 172 9 5 ⟨w.heap.size,0,none⟩ C (smallL s.data.toList) Tryz.underlying172 Tryz.underlying5 Tryz.underlying9 (fun j hj=>by
   rw [Qcs,hw j (by omega)]
   have hj':j < s.data.toList.length:=by simp [smallL] at hj;simpa using hj
   simp only [QcU,smallL,List.getElem_map]
   rw [if_pos (by omega),List.getD_eq_getElem?_getD,List.getElem?_eq_getElem hj'];rfl)
  rw [hl] at this
  exact this
 have HL:=Qab hlist
 clear hlist
 go_enter Tryz.func247,Tryz.ntmps247
 go_wp2_with fail
 generalize grownCap w s.size 0 5=C at *
 go_loopw [4,5,10] (fun _ _ i wr=>∃ k:Nat,k≤s.size∧i=.int .i64 k∧Below w.heap.size w wr∧(∀ j,j < s.size→wr.cell? ⟨w.heap.size,j,none⟩=some (.int .u8 (QcU s k j).toNat))∧(∀ j,j < s.size→wr.frozen? ⟨w.heap.size,j,none⟩=false)∧wr.heap.size=w.heap.size+1) (fun _ _ i _=>s.size - (intOf i).toNat)
 case atStart=>exact ⟨0,by omega,rfl,hB,hcell,hfz,hsz⟩
 case round=>
  obtain ⟨k,hk,rfl,hB',hcell',hfz',hsz'⟩:=hrel
  clear hB hcell hfz hsz hcv
  by_cases hlt:k < s.size
  ·have hck:=hcell' k hlt
   have hfk:=hfz' k hlt
   simp only [QcU] at hck
   rw [if_neg (by omega)] at hck
   generalize hcd:s.data.toList.getD k 0=c at hck
   have HCD:=Qab hcd
   clear hcd
   have hb:=UInt8.toNat_lt c
   have HC:=Qab hcell'
   have HF:=Qab hfz'
   clear hcell' hfz'
   cases hc:Qco (c.toNat:Int)
   ·go_wp2_with (go_at_call 304;refine (Qeu _ _).mono ?_;rintro e w' ⟨rfl,rfl⟩)
    refine ⟨⟨k+1,by omega,by go_num,hB',fun j hj=>?_,HF.out,hsz'⟩,by simp [intOf];omega⟩
    rw [HC.out j hj,Ql9 s k j (by rw [HCD.out];exact hc)]
   ·have hv:=Qab (QqF c hc)
    have hc1:65≤(c.toNat:Int)∧(c.toNat:Int)≤90:=by unfold Qco at hc;simpa using hc
    obtain ⟨hc1,hc2⟩:=hc1
    go_wp2_with (go_at_call 304;refine (Qeu _ _).mono ?_;rintro e w' ⟨rfl,rfl⟩)
    refine ⟨⟨k+1,by omega,by go_num,?_,fun j hj=>?_,fun j hj=>?_,?_⟩,by simp [intOf];omega⟩
    ·exact hB'.setCell (Nat.le_refl _) _
    ·by_cases e:j=k
     ·subst e
      rw [World.cell?_setCell_same _ _ _ hck,Qmq,HCD.out]
      rw [hv.out]
     ·rw [World.cell?_setCell_other _ _ _ _ (by simp [e]),HC.out j hj,Qk0 s k j e]
    ·rw [World.frozen?_setCell];exact HF.out j hj
    ·simpa using hsz'
  ·have hk':k=s.size:=by omega
   subst hk'
   have hr:=HL.out wr hcell' C
   go_wp2
   go_ret
   exact ⟨rfl,hB'⟩
end
section
open Go.RowKit
def Qc6 (f:Flt) (w:World) (e:Ending) (w':World):Prop:=
 ∃ b,w.heap.size≤b∧e=.panicked [{ v:=.iface 140 (.pointer (some ⟨b,0,none⟩)),recovered:=false }]∧
  w'.heap[b]?=some (.cells #[.int .i64 f.err,.int .i64 f.pos] 145)
theorem QaB (er at_:Int) (w:World) :
 Calls Tryz.prog 118 #[.int .i64 er,.int .i64 at_] w fun e w'=>e=.returned (.pointer (some ⟨w.heap.size,0,none⟩))∧w'=w.alloc (.cells #[.int .i64 er,.int .i64 at_] 145):=by
 go_enter Tryz.func118,Tryz.ntmps118
 go_wp2
 go_ret
 exact ⟨rfl,rfl⟩
theorem QpT (l:List UInt8) (h:Lib.indexByte l 10 < 0):(lineLen l:Int)=l.length:=by unfold lineLen;rw [if_pos h]
theorem QqT (l:List UInt8) (h:¬ Lib.indexByte l 10 < 0):(lineLen l:Int)=Lib.indexByte l 10+1:=by unfold lineLen;rw [if_neg h];omega
theorem Qjt (s:ByteArray) (w:World) (hs:s.size≤140737488355328) :
 Calls Tryz.prog 314 #[.string s] w fun e w'=>e=.returned (.int .i64 (lineLen s.data.toList))∧w'=w:=by
 have hle:=Qht s.data.toList 10
 have hge:=Lib.indexByte_ge s.data.toList 10
 have h1:=Qab (QpT s.data.toList)
 have h2:=Qab (QqT s.data.toList)
 have hl:(s.data.toList.length:Int)=s.size:=by simp
 rw [hl] at hle
 have e10:(Int.toNat 10).toUInt8=(10:UInt8):=rfl
 by_cases hn:Lib.indexByte s.data.toList 10 < 0
 ·go_enter Tryz.func314,Tryz.ntmps314
  go_wp2_with (go_at_call 312;refine (Tryz.strings_IndexByte _ _ _).mono ?_;rintro e w' ⟨rfl,rfl⟩)
  go_ret
  exact ⟨Qct (by rw [h1.out hn,hl]),rfl⟩
 ·go_enter Tryz.func314,Tryz.ntmps314
  go_wp2_with (go_at_call 312;refine (Tryz.strings_IndexByte _ _ _).mono ?_;rintro e w' ⟨rfl,rfl⟩)
  go_ret
  exact ⟨Qct (by rw [h2.out (by omega)]),rfl⟩
end
section
open Go.RowKit
def Qgb (s:ByteArray) (k j:Nat):UInt8:=if j < k then QtX (s.data.toList.getD j 0) else s.data.toList.getD j 0
theorem Qth (c:UInt8) (h:Qix (c.toNat:Int)=true):((QtX c).toNat:Int)=(c.toNat:Int) - 97+65:=by
 have hc:=h
 unfold Qix at hc
 simp at hc
 have e:QtX c=c - 97+65:=by unfold QtX;rw [if_pos h]
 rw [e,UInt8.toNat_add,UInt8.toNat_sub]
 simp
 omega
theorem QsT (c:UInt8) (h:Qix (c.toNat:Int)=false):QtX c=c:=by
 unfold QtX;rw [if_neg (by rw [h];decide)]
theorem QqY (s:ByteArray) (k j:Nat) (h:Qix ((s.data.toList.getD k 0).toNat:Int)=false):Qgb s k j=Qgb s (k+1) j:=by
 unfold Qgb
 by_cases e:j=k
 ·subst e;rw [if_neg (by omega),if_pos (by omega),QsT _ h]
 ·by_cases l:j < k
  ·rw [if_pos l,if_pos (by omega)]
  ·rw [if_neg l,if_neg (by omega)]
theorem Qof (s:ByteArray) (k j:Nat) (e:¬ j=k):Qgb s k j=Qgb s (k+1) j:=by
 unfold Qgb
 by_cases l:j < k
 ·rw [if_pos l,if_pos (by omega)]
 ·rw [if_neg l,if_neg (by omega)]
theorem QqJ (s:ByteArray) (k:Nat):Qgb s (k+1) k=QtX (s.data.toList.getD k 0):=by
 unfold Qgb;rw [if_pos (by omega)]
theorem QnL (s:ByteArray) (w:World) (hs:s.size≤140737488355328) :
 Calls Tryz.prog 333 #[.string s] w fun e w'=>e=.returned (.string ⟨(capL s.data.toList).toArray⟩)∧Below w.heap.size w w':=by
 have hcv:=Lib.run_convert_string_bytes (P:=Tryz.prog) w 9 172 5 s (u:=.string) Tryz.underlying9 Tryz.underlying172 Tryz.underlying5
 have hB:=Lib.bytesWorld_below w 5 s
 have hcell:∀ j,j < s.size→(Lib.bytesWorld w 5 s).cell? ⟨w.heap.size,j,none⟩=some (.int .u8 (Qgb s 0 j).toNat):=fun j hj=>by
  rw [Lib.bytesWorld_cell w 5 s j hj];simp [Qgb]
 have hfz:∀ j,j < s.size→(Lib.bytesWorld w 5 s).frozen? ⟨w.heap.size,j,none⟩=false:=fun j hj=>by
  unfold World.frozen?;rw [Lib.bytesWorld_at_new];simp [Lib.bytesCells];omega
 have hsz:=Lib.bytesWorld_size w 5 s
 generalize Lib.bytesWorld w 5 s=W1 at hcv hB hcell hfz hsz
 have hlist:∀ (wr:World),(∀ j,j < s.size→wr.cell? ⟨w.heap.size,j,none⟩=some (.int .u8 (Qgb s s.size j).toNat))→
  ∀ C,(convert 172 9 (.slice (some ⟨w.heap.size,0,none⟩) s.size C)).run Tryz.prog wr=.ok (.string ⟨(capL s.data.toList).toArray⟩) wr:=fun wr hw C=>by
  have hl:(capL s.data.toList).length=s.size:=by simp [capL]
  have:=run_convert_bytes_back (P:=Tryz.prog) wr 172 9 5 ⟨w.heap.size,0,none⟩ C (capL s.data.toList) Tryz.underlying172 Tryz.underlying5 Tryz.underlying9 (fun j hj=>by
   rw [Qcs,hw j (by omega)]
   have hj':j < s.data.toList.length:=by simp [capL] at hj;simpa using hj
   simp only [Qgb,capL,List.getElem_map]
   rw [if_pos (by omega),List.getD_eq_getElem?_getD,List.getElem?_eq_getElem hj'];rfl)
  rw [hl] at this
  exact this
 have HL:=Qab hlist
 clear hlist
 go_enter Tryz.func333,Tryz.ntmps333
 go_wp2_with fail
 generalize grownCap w s.size 0 5=C at *
 go_loopw [4,5,10] (fun _ _ i wr=>∃ k:Nat,k≤s.size∧i=.int .i64 k∧Below w.heap.size w wr∧(∀ j,j < s.size→wr.cell? ⟨w.heap.size,j,none⟩=some (.int .u8 (Qgb s k j).toNat))∧(∀ j,j < s.size→wr.frozen? ⟨w.heap.size,j,none⟩=false)∧wr.heap.size=w.heap.size+1) (fun _ _ i _=>s.size - (intOf i).toNat)
 case atStart=>exact ⟨0,by omega,rfl,hB,hcell,hfz,hsz⟩
 case round=>
  obtain ⟨k,hk,rfl,hB',hcell',hfz',hsz'⟩:=hrel
  clear hB hcell hfz hsz hcv
  by_cases hlt:k < s.size
  ·have hck:=hcell' k hlt
   have hfk:=hfz' k hlt
   simp only [Qgb] at hck
   rw [if_neg (by omega)] at hck
   generalize hcd:s.data.toList.getD k 0=c at hck
   have HCD:=Qab hcd
   clear hcd
   have hb:=UInt8.toNat_lt c
   have HC:=Qab hcell'
   have HF:=Qab hfz'
   clear hcell' hfz'
   cases hc:Qix (c.toNat:Int)
   ·go_wp2_with (go_at_call 341;refine (QfW _ _).mono ?_;rintro e w' ⟨rfl,rfl⟩)
    refine ⟨⟨k+1,by omega,by go_num,hB',fun j hj=>?_,HF.out,hsz'⟩,by simp [intOf];omega⟩
    rw [HC.out j hj,QqY s k j (by rw [HCD.out];exact hc)]
   ·have hv:=Qab (Qth c hc)
    have hc1:97≤(c.toNat:Int)∧(c.toNat:Int)≤122:=by unfold Qix at hc;simpa using hc
    obtain ⟨hc1,hc2⟩:=hc1
    go_wp2_with (go_at_call 341;refine (QfW _ _).mono ?_;rintro e w' ⟨rfl,rfl⟩)
    refine ⟨⟨k+1,by omega,by go_num,?_,fun j hj=>?_,fun j hj=>?_,?_⟩,by simp [intOf];omega⟩
    ·exact hB'.setCell (Nat.le_refl _) _
    ·by_cases e:j=k
     ·subst e
      rw [World.cell?_setCell_same _ _ _ hck,QqJ,HCD.out]
      rw [hv.out]
     ·rw [World.cell?_setCell_other _ _ _ _ (by simp [e]),HC.out j hj,Qof s k j e]
    ·rw [World.frozen?_setCell];exact HF.out j hj
    ·simpa using hsz'
  ·have hk':k=s.size:=by omega
   subst hk'
   have hr:=HL.out wr hcell' C
   go_wp2
   go_ret
   exact ⟨rfl,hB'⟩
end
end Go.Proofs.YtbiclelojbfnbaaGreatDoor
