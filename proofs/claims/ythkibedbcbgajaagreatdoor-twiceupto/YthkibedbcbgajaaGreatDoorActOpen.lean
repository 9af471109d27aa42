import Derived.Lib.SmallJoins
import Derived.Deep.Slices
import Derived.Carry
import Derived.SizedLaws
import Derived.Test.YthkibedbcbgajaaGreatDoorEFiles
import Derived.Test.YthkibedbcbgajaaGreatDoorRowsC
namespace Go.Proofs.YthkibedbcbgajaaGreatDoor
set_option linter.unusedVariables false
set_option linter.unusedSimpArgs false
set_option maxRecDepth 100000
set_option maxHeartbeats 4000000
open Go.ChangeShapes Go.WideShapes Go.ChangeAt Go.WideMaps Go.WideElems Go.RowKit Go.Joins Go.Deep
theorem Tryz.cellsAct:Tryz.prog.cellsOf 34=2:=by kernel_rfl
theorem Tryz.cellsStrE:Tryz.prog.cellsOf 9=1:=by kernel_rfl
theorem strA_backE (s:ByteArray):strA s.data.toList=s:=by
 cases s
 rfl
theorem Tryz.cellsInt:Tryz.prog.cellsOf 3=1:=by kernel_rfl
theorem bulkOne {H:Type} (d:DataW H):1≤Rows.uptoBulk d:=by
 cases d with
 | lit l=>cases l <;> simp [Rows.uptoBulk]
 | nil=>simp [Rows.uptoBulk]
 | ptr d=>simp [Rows.uptoBulk]
 | slice elems spare=>simp [Rows.uptoBulk]
 | agg parts=>simp [Rows.uptoBulk]
 | iface t d=>simp [Rows.uptoBulk]
 | map entries=>simp [Rows.uptoBulk]
 | held h=>simp [Rows.uptoBulk]
theorem bulkPart {H:Type} {d:DataW H} {l:List (DataW H)} (h:d∈l):Rows.uptoBulk d≤Rows.uptoBulkAll l:=by
 induction l with
 | nil=>cases h
 | cons x r ih=>
  simp only [Rows.uptoBulkAll]
  cases List.mem_cons.1 h with
  | inl e=>subst e;omega
  | inr e=>have:=ih e;omega
theorem bulkLen {H:Type} (l:List (DataW H)):l.length≤Rows.uptoBulkAll l:=by
 induction l with
 | nil=>simp [Rows.uptoBulkAll]
 | cons x r ih=>have:=bulkOne x;simp only [Rows.uptoBulkAll,List.length_cons];omega
theorem open_act {H:Type} {enc:TypeId×Value→H} {W:World} {spare:Nat→Bool} {held:Bool} {n:Nat} {cs:List Value} {y:DataW H×List MemPlace} (h:DataW.trod enc Tryz.prog W 0 spare held n 34 cs=some y) :
 ∃ (k:Int) (b:ByteArray),cs=[.int .i64 k,.string b]∧y.1=.agg [.lit (.int .i64 k),.lit (.string b.data.toList)]:=by
 obtain ⟨y0,y1,m,hx,hl,h0,h1⟩:=trod_struct2 Tryz.underlying34 h
 rw [Tryz.cellsAct] at hl
 obtain ⟨c0,c1,rfl⟩:∃ c0 c1,cs=[c0,c1]:=by
  match cs,hl with
  | [c0,c1],_=>exact ⟨c0,c1,rfl⟩
 obtain ⟨a,e0,f0,_⟩:=DataW.trod_int Tryz.underlying3 h0
 obtain ⟨b,e1,f1,_⟩:=DataW.trod_string Tryz.underlying9 h1
 rw [Tryz.cellsStrE] at e1
 rw [Tryz.cellsInt] at e0
 have e0':[c0]=[Value.int .i64 a]:=e0
 have e1':[c1]=[Value.string b]:=e1
 injection e0' with e0'
 injection e1' with e1'
 subst e0' e1' f0 f1
 exact ⟨a,b,rfl,by rw [hx]⟩
theorem open_acts {H:Type} {enc:TypeId×Value→H} {W:World} {r:Reach} {b0:Nat} {v:Value} {d:DataW H} {p:List MemPlace} (hv:Value.okWide Tryz.prog W r b0 29 v) (h:DataW.Trod enc Tryz.prog W 0 (fun _=>true) true 29 v d p) :
 ∃ l:List (Int×List UInt8),ActG W v l∧l.length≤Rows.uptoBulk d∧∀ a∈l,a.2.length≤Rows.uptoBulk d:=by
 obtain ⟨fuel,hf⟩:=h
 obtain ⟨a0,len0,cap0,hv0⟩:∃ a n c,v=.slice a n c:=okWide_slice Tryz.underlying29 hv
 subst hv0
 have hf':DataW.trod enc Tryz.prog W 0 (fun _=>true) true fuel 29 [.slice a0 len0 cap0]=some (d,p):=hf
 rcases open_slice Tryz.underlying29 hf' with ⟨hcs,hx⟩ | ⟨a,len,cap,m,nn,D,Pl,hcs,_,hl,hm,hmm,hx,hel⟩
 ·injection hcs with hcs
  injection hcs with e1 e2 e3
  subst e1 e2 e3
  exact ⟨[],⟨none,0,rfl,fun h=>absurd rfl h⟩,Nat.zero_le _,fun a ha=>nomatch ha⟩
 ·injection hcs with hcs
  injection hcs with e1 e2 e3
  subst e1 e2 e3
  have hm':m=cap0:=by rw [hmm];rfl
  subst hm'
  injection hx with hx _
  rw [Tryz.cellsAct] at hel
  have hex:∀ i,i < len0→∃ x:Int×ByteArray,W.cell? (a.add (i*2))=some (.int .i64 x.1)∧W.cell? ((a.add (i*2)).add 1)=some (.string x.2)∧D i=.agg [.lit (.int .i64 x.1),.lit (.string x.2.data.toList)]:=fun i hi=>by
   obtain ⟨cs',hc,ht⟩:=hel i (by omega)
   obtain ⟨x,y,rfl,hd⟩:=open_act ht
   obtain ⟨_,_,hcell⟩:=World.cells?_some hc
   refine ⟨(x,y),?_,?_,hd⟩
   ·have:=hcell 0 (by omega)
    simpa [Addr.add] using this
   ·have:=hcell 1 (by omega)
    simpa using this
  obtain ⟨f,hf⟩:=choose_lt (α:=Int×ByteArray) hex
  obtain ⟨hs,hhs⟩:∃ hs:List (Int×List UInt8),hs=(List.range len0).map fun i=>((f i).1,(f i).2.data.toList):=⟨_,rfl⟩
  have hsl:hs.length=len0:=by rw [hhs];simp
  have hget:∀ j (hj:j < hs.length),hs[j]=((f j).1,(f j).2.data.toList):=fun j hj=>by simp [hhs]
  have hbd:Rows.uptoBulkAll ((List.range len0).map D)≤Rows.uptoBulk d:=by rw [hx];simp only [Rows.uptoBulk];omega
  refine ⟨hs,⟨some a,m,by rw [hsl],fun hne=>?_⟩,?_,fun x hx'=>?_⟩
  ·have hpos:0 < len0:=by rw [← hsl];exact List.length_pos_iff.2 hne
   obtain ⟨b,off,spot⟩:=a
   have hspot:spot=none:=by
    have:=World.cell?_spot (hf 0 hpos).1
    simpa [Addr.add] using this
   subst hspot
   refine ⟨b,off,rfl,fun j hj=>?_⟩
   have hjl:j < len0:=by rw [← hsl];exact hj
   obtain ⟨g1,g2,_⟩:=hf j hjl
   rw [Addr.add_lit] at g1
   rw [Addr.add_lit,Addr.add_lit] at g2
   have hg:=hget j hj
   rw [hg]
   dsimp only
   rw [strA_backE]
   exact ⟨g1,g2⟩
  ·have:=bulkLen ((List.range len0).map D)
   simp at this
   omega
  ·rw [hhs] at hx'
   obtain ⟨i,hi,rfl⟩:=List.mem_map.1 hx'
   have hil:i < len0:=List.mem_range.1 hi
   obtain ⟨_,_,hd⟩:=hf i hil
   have hmem:D i∈(List.range len0).map D:=List.mem_map.2 ⟨i,hi,rfl⟩
   have h1:=bulkPart hmem
   rw [hd] at h1
   simp only [Rows.uptoBulk,Rows.uptoBulkAll] at h1
   dsimp only
   omega
end Go.Proofs.YthkibedbcbgajaaGreatDoor
