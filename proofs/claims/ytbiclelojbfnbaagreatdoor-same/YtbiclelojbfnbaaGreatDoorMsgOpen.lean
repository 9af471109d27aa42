import Derived.Test.YtbiclelojbfnbaaGreatDoorMsgBase
namespace Go.Proofs.YtbiclelojbfnbaaGreatDoor
set_option linter.unusedVariables false
set_option linter.unusedSimpArgs false
set_option maxRecDepth 100000
set_option maxHeartbeats 4000000
open Go.ChangeShapes Go.WideShapes Go.ChangeAt Go.WideMaps Go.WideElems Go.RowKit Go.Joins Go.Deep
theorem Qtr {H:Type} {enc:TypeId×Value→H} {W:World} {spare:Nat→Bool} {held:Bool} {n:Nat} {cs:List Value} {y:DataW H×List MemPlace} (h:DataW.trod enc Tryz.prog W 0 spare held n 100 cs=some y) :
 ∃ a b:ByteArray,cs=[.string a,.string b]∧y.1=.agg [.lit (.string a.data.toList),.lit (.string b.data.toList)]:=by
 obtain ⟨y0,y1,m,hx,hl,h0,h1⟩:=trod_struct2 Tryz.underlying100 h
 rw [Tryz.cellsHdr] at hl
 obtain ⟨c0,c1,rfl⟩:∃ c0 c1,cs=[c0,c1]:=by
  match cs,hl with
  | [c0,c1],_=>exact ⟨c0,c1,rfl⟩
 obtain ⟨a,e0,f0,_⟩:=DataW.trod_string Tryz.underlying9 h0
 obtain ⟨b,e1,f1,_⟩:=DataW.trod_string Tryz.underlying9 h1
 rw [Tryz.cellsStr] at e0 e1
 have e0':[c0]=[Value.string a]:=e0
 have e1':[c1]=[Value.string b]:=e1
 injection e0' with e0'
 injection e1' with e1'
 subst e0' e1' f0 f1
 exact ⟨a,b,rfl,by rw [hx]⟩
theorem QtB {H:Type} {enc:TypeId×Value→H} {W:World} {r:Reach} {b0:Nat} {v:Value} {d:DataW H} {p:List MemPlace} (hv:Value.okWide Tryz.prog W r b0 48 v) (h:DataW.Trod enc Tryz.prog W 0 (fun _=>true) true 48 v d p)
 (hw:∀ k∈d.weights Tryz.prog 48,k≤reachBytes):∃ (M:Msg) (hv:Value),v=Qf0 M hv∧Qqz W hv M.hdrs∧Qvv M:=by
 obtain ⟨c0,c1,c2,c3,y0,y1,y2,y3,n,rfl,rfl,rfl,h0,h1,h2,h3⟩:=open_agg4 Tryz.underlying48 Tryz.oneMsg Tryz.cellsMsg hv h
 obtain ⟨fr,e0,f0,_⟩:=DataW.trod_string Tryz.underlying9 h0
 obtain ⟨to_,e1,f1,_⟩:=DataW.trod_string Tryz.underlying9 h1
 obtain ⟨sz,e2,f2,_⟩:=DataW.trod_int Tryz.underlying3 h2
 injection e0 with e0
 injection e1 with e1
 injection e2 with e2
 subst e0 e1 e2 f0 f1 f2
 have hwt:(DataW.agg [DataW.lit (Lit.string fr.data.toList),DataW.lit (Lit.string to_.data.toList),DataW.lit (Lit.int .i64 sz),y3.1]:DataW H).weights Tryz.prog 48=[fr.data.toList.length,to_.data.toList.length]++(y3.1.weights Tryz.prog 46):=by
  simp [DataW.weights,DataW.weightsEach,Tryz.underlying48]
 rw [hwt] at hw
 have hr:=QtA
 have w1:=hw fr.data.toList.length (by simp)
 have w2:=hw to_.data.toList.length (by simp)
 have w3:∀ k∈y3.1.weights Tryz.prog 46,k≤reachBytes:=fun k hk=>hw k (List.mem_append_right _ hk)
 clear hw hwt
 have hmk:∀ (hs:List (List UInt8×List UInt8)),(∀ x∈hs,x.1.length≤reachBytes∧x.2.length≤reachBytes)→hs.length≤reachBytes→Qvv ⟨fr.data.toList,to_.data.toList,sz,hs⟩:=fun hs h1 h2=>
  ⟨by show fr.data.toList.length≤_;omega,by show to_.data.toList.length≤_;omega,by show hs.length≤_;omega,fun x hx=>by have:=h1 x hx;omega⟩
 rcases open_slice Tryz.underlying46 h3 with ⟨hcs,hx⟩ | ⟨a,len,cap,m,nn,D,Pl,hcs,_,hl,hm,hmm,hx,hel⟩
 ·injection hcs with hcs
  subst hcs
  refine ⟨⟨fr.data.toList,to_.data.toList,sz,[]⟩,.slice none 0 0,?_,⟨none,0,rfl,fun h=>absurd rfl h⟩,hmk [] (fun x hx=>nomatch hx) (Nat.zero_le _)⟩
  unfold Qf0
  rw [Qec,Qec]
 ·injection hcs with hcs
  subst hcs
  have hm':m=cap:=by rw [hmm];rfl
  subst hm'
  rw [Tryz.cellsHdr] at hel
  have hex:∀ i,i < len→∃ x:ByteArray×ByteArray,W.cell? (a.add (i*2))=some (.string x.1)∧W.cell? ((a.add (i*2)).add 1)=some (.string x.2)∧D i=.agg [.lit (.string x.1.data.toList),.lit (.string x.2.data.toList)]:=fun i hi=>by
   obtain ⟨cs',hc,ht⟩:=hel i (by omega)
   obtain ⟨x,y,rfl,hd⟩:=Qtr ht
   obtain ⟨_,_,hcell⟩:=World.cells?_some hc
   refine ⟨(x,y),?_,?_,hd⟩
   ·have:=hcell 0 (by omega)
    simpa [Addr.add] using this
   ·have:=hcell 1 (by omega)
    simpa using this
  obtain ⟨f,hf⟩:=choose_lt (α:=ByteArray×ByteArray) hex
  have hs:∃ hs:List (List UInt8×List UInt8),hs=(List.range len).map fun i=>((f i).1.data.toList,(f i).2.data.toList):=⟨_,rfl⟩
  obtain ⟨hs,hhs⟩:=hs
  have hsl:hs.length=len:=by rw [hhs];simp
  have hget:∀ j (hj:j < hs.length),hs[j]=((f j).1.data.toList,(f j).2.data.toList):=fun j hj=>by simp [hhs]
  have hwy:∀ k∈DataW.weights Tryz.prog 46 (.slice ((List.range len).map D) ((List.range (m - len)).map fun j=>D (len+j))),k≤reachBytes:=fun k hk=>w3 k (by rw [hx];exact hk)
  have hlen:(len+(m - len))*32≤reachBytes:=hwy _ (by simp [DataW.weights,Tryz.underlying46,Tryz.bytesHdr])
  refine ⟨⟨fr.data.toList,to_.data.toList,sz,hs⟩,.slice (some a) len m,?_,⟨some a,m,by rw [hsl],fun hne=>?_⟩,hmk hs (fun x hx'=>?_) (by omega)⟩
  ·unfold Qf0
   rw [Qec,Qec]
  ·have hpos:0 < len:=by rw [← hsl];exact List.length_pos_iff.2 hne
   obtain ⟨b,off,spot⟩:=a
   have hspot:spot=none:=by
    have:=World.cell?_spot (hf 0 hpos).1
    simpa [Addr.add] using this
   subst hspot
   refine ⟨b,off,rfl,fun j hj=>?_⟩
   have hjl:j < len:=by rw [← hsl];exact hj
   obtain ⟨g1,g2,_⟩:=hf j hjl
   rw [Addr.add_lit] at g1
   rw [Addr.add_lit,Addr.add_lit] at g2
   have hg:=hget j hj
   show W.cell? ⟨b,off+j*2,none⟩=some (.string (Qad hs[j].1))∧W.cell? ⟨b,off+j*2+1,none⟩=some (.string (Qad hs[j].2))
   rw [hg]
   dsimp only
   rw [Qec,Qec]
   exact ⟨g1,g2⟩
  ·rw [hhs] at hx'
   obtain ⟨i,hi,rfl⟩:=List.mem_map.1 hx'
   have hil:i < len:=List.mem_range.1 hi
   obtain ⟨_,_,hd⟩:=hf i hil
   have hmem:D i∈(List.range len).map D:=List.mem_map.2 ⟨i,hi,rfl⟩
   have hall:∀ k∈(D i).weights Tryz.prog 100,k≤reachBytes:=fun k hk=>hwy k (by
    simp only [DataW.weights,Tryz.underlying46,List.mem_cons,List.mem_append]
    exact Or.inr (Or.inl (QfG hmem k hk)))
   rw [hd] at hall
   have hwd:(DataW.agg [DataW.lit (Lit.string (f i).1.data.toList),DataW.lit (Lit.string (f i).2.data.toList)]:DataW H).weights Tryz.prog 100=[(f i).1.data.toList.length,(f i).2.data.toList.length]:=by
    simp [DataW.weights,DataW.weightsEach,Tryz.underlying100]
   rw [hwd] at hall
   exact ⟨hall _ (by simp),hall _ (by simp)⟩
end Go.Proofs.YtbiclelojbfnbaaGreatDoor
