import Derived.Deep.RegionHeld3
import Derived.Test.YtbiclelojbfnbaaGreatDoorZChoice
import Derived.Test.YtbiclelojbfnbaaGreatDoorZPlainCodeLen
import Derived.Test.YtbiclelojbfnbaaGreatDoorZPlainLen
import Derived.Test.YtbiclelojbfnbaaGreatDoorZTests
namespace Go.Proofs.YtbiclelojbfnbaaGreatDoor
set_option linter.unusedVariables false
set_option linter.unusedSimpArgs false
set_option maxRecDepth 100000
set_option maxHeartbeats 4000000
section
open Go.RowKit
def QdW (s:ByteArray) (k:Nat):List UInt8:=34 :: (s.data.toList.take k).flatMap QbI
theorem QmT (s:ByteArray) (k:Nat):(QdW s k).length≤2*k+1:=by
 unfold QdW
 have:∀ x:List UInt8,(x.flatMap QbI).length≤2*x.length:=fun x=>by
  induction x with
  | nil=>simp
  | cons c r ih=>
   rw [List.flatMap_cons,List.length_append,List.length_cons]
   have:(QbI c).length≤2:=by unfold QbI;split <;> simp
   omega
 have h1:=this (s.data.toList.take k)
 have h2:(s.data.toList.take k).length≤k:=by rw [List.length_take];omega
 rw [List.length_cons]
 omega
theorem Qkt (s:ByteArray) (k:Nat) (h:k < s.size):QdW s (k+1)=QdW s k++QbI s[k]:=by
 unfold QdW
 have h':k < s.data.toList.length:=by simpa using h
 rw [List.take_succ_eq_append_getElem h',List.flatMap_append]
 simp
 rfl
theorem Qm5 (s:ByteArray):QdW s s.size++[34]=quotedL s.data.toList:=by
 unfold QdW quotedL
 rw [List.take_of_length_le (by simp)]
 rfl
theorem Qqh {c:UInt8} (h:(c.toNat:Int)=34∨(c.toNat:Int)=92):QbI c=[92,c]:=by
 unfold QbI
 rw [if_pos]
 rcases h with h | h
 ·left;exact UInt8.toNat_inj.1 (by have:(34:UInt8).toNat=34:=rfl;omega)
 ·right;exact UInt8.toNat_inj.1 (by have:(92:UInt8).toNat=92:=rfl;omega)
theorem QpX {c:UInt8} (h:¬ (c.toNat:Int)=34) (h':¬ (c.toNat:Int)=92):QbI c=[c]:=by
 unfold QbI
 rw [if_neg]
 rintro (e | e)
 ·subst e;exact h rfl
 ·subst e;exact h' rfl
theorem QdF (s:ByteArray) (w:World) (hs:s.size≤4294967280) :
 Calls Tryz.prog 112 #[.string s] w fun e w'=>e=.returned (.string (Qad (quotedL s.data.toList)))∧Below w.heap.size w w':=by
 obtain ⟨i0,hi,hz0,hz1,hz2⟩:=info_parts Tryz.infoU8
 go_enter Tryz.func112,Tryz.ntmps112
 go_wp2_with fail
 go_loopw [3,4,8] (fun v _ i wr=>∃ (k:Nat) (acc:List UInt8),k≤s.size∧i=.int .i64 k∧acc=QdW s k∧wr.ownsRow w.heap.size 5 1 v acc.length (Qei acc)∧Below w.heap.size w wr) (fun _ _ i _=>s.size - (intOf i).toNat)
 case atStart=>
  refine ⟨0,[34],by omega,by go_num,rfl,?_,(Below.refl _ _).alloc (Nat.le_refl _) _⟩
  exact World.ownsRow_lit w _ 1 (Nat.le_refl _) (by unfold maxLen;omega) rfl
 case round=>
  obtain ⟨k,acc,hk,rfl,hacc,hown,hB⟩:=hrel
  have hal:acc.length≤2*k+1:=by rw [hacc];exact QmT s k
  have HA:=Qab hacc
  clear hacc
  have hBs:=hB.size
  by_cases hlt:k < s.size
  ·have HS:=Qab (Qkt s k hlt)
   obtain ⟨c,hc⟩:∃ c,s[k]=c:=⟨_,rfl⟩
   rw [hc] at HS
   by_cases hq:(c.toNat:Int)=34∨(c.toNat:Int)=92
   ·have HQ:=Qab (Qqh hq)
    have hq':((c.toNat:Int) == 34)=true∨(((c.toNat:Int) == 34)=false∧((c.toNat:Int) == 92)=true):=by
     by_cases h34:(c.toNat:Int)=34
     ·exact Or.inl (by simpa using h34)
     ·exact Or.inr ⟨by simpa using h34,by rcases hq with h | h;exact absurd h h34;simpa using h⟩
    clear hq
    rcases hq' with h34 | ⟨h34,h92⟩
    all_goals
     go_wp2_with (at_builtin;refine wpList_append_own _ rfl _ _ 172 rfl w.heap.size 5 i0 (.int .u8 0) 1 1 Tryz.underlying172 hi hz0 hz1 hz2 rfl (by decide) _ _ _ rfl (hown.alloc _) ⟨wr.heap.size,0,none⟩ 1 1 [.int .u8 92] rfl rfl ?c1 ?c2 ?c3 ?c4 ?c5 ?_)
     case c1=>
      intro j u hj
      match j,hj with
      | 0,hj=>simp at hj;subst hj;simp [Addr.add]
     case c2=>intro u hu;simp at hu;subst hu;rfl
     case c3=>unfold maxLen;omega
     case c4=>omega
     case c5=>simp;omega
     intro v1 w1 hown1 hgrow1 _
     have hB1:=Below.grown (hB.alloc hBs (Obj.cells #[.int .u8 92] 5)) hgrow1 (by simp;omega) (fun k' hk'=>(hown.lt k' hk').1)
     have hB1s:=hB1.size
     have e92:(.int .u8 92:Value)=.int .u8 ((92:UInt8).toNat):=rfl
     rw [e92,Qca] at hown1
     have hl1:(acc++[92]).length=acc.length+1:=by simp
     rw [← hl1] at hown1
     clear hgrow1
     go_wp2_with (at_builtin;refine wpList_append_own _ rfl _ _ 172 rfl w.heap.size 5 i0 (.int .u8 0) 1 1 Tryz.underlying172 hi hz0 hz1 hz2 rfl (by decide) _ _ _ rfl (hown1.alloc _) ⟨w1.heap.size,0,none⟩ 1 1 [.int .u8 c.toNat] rfl rfl ?c1 ?c2 ?c3 ?c4 ?c5 ?_)
     case c1=>
      intro j u hj
      match j,hj with
      | 0,hj=>simp at hj;subst hj;simp [Addr.add]
     case c2=>intro u hu;simp at hu;subst hu;rfl
     case c3=>unfold maxLen;omega
     case c4=>omega
     case c5=>simp;omega
     intro v2 w2 hown2 hgrow2 _
     have hB2:=Below.grown (hB1.alloc hB1s (Obj.cells #[.int .u8 c.toNat] 5)) hgrow2 (by simp;omega) (fun k' hk'=>(hown1.lt k' hk').1)
     rw [Qca] at hown2
     clear hgrow2 hB hown hB1 hown1
     go_wp2
     go_roundw
     case rel=>exact ⟨k+1,acc++[92]++[c],by omega,by go_num,by rw [HS.out,HQ.out,← HA.out];simp,by simpa using hown2,hB2⟩
     case measure=>simp [intOf];omega
   ·have h34:((c.toNat:Int) == 34)=false:=by simp;exact fun e=>hq (Or.inl (by omega))
    have h92:((c.toNat:Int) == 92)=false:=by simp;exact fun e=>hq (Or.inr (by omega))
    have HQ:=Qab (QpX (fun e=>hq (Or.inl e)) (fun e=>hq (Or.inr e)))
    clear hq
    go_wp2_with (at_builtin;refine wpList_append_own _ rfl _ _ 172 rfl w.heap.size 5 i0 (.int .u8 0) 1 1 Tryz.underlying172 hi hz0 hz1 hz2 rfl (by decide) _ _ _ rfl (hown.alloc _) ⟨wr.heap.size,0,none⟩ 1 1 [.int .u8 c.toNat] rfl rfl ?c1 ?c2 ?c3 ?c4 ?c5 ?_)
    case c1=>
     intro j u hj
     match j,hj with
     | 0,hj=>simp at hj;subst hj;simp [Addr.add]
    case c2=>intro u hu;simp at hu;subst hu;rfl
    case c3=>unfold maxLen;omega
    case c4=>omega
    case c5=>simp;omega
    intro v1 w1 hown1 hgrow1 _
    have hB1:=Below.grown (hB.alloc hBs (Obj.cells #[.int .u8 c.toNat] 5)) hgrow1 (by simp;omega) (fun k' hk'=>(hown.lt k' hk').1)
    rw [Qca] at hown1
    clear hgrow1 hB hown
    go_wp2
    go_roundw
    case rel=>exact ⟨k+1,acc++[c],by omega,by go_num,by rw [HS.out,HQ.out,← HA.out],by simpa using hown1,hB1⟩
    case measure=>simp [intOf];omega
  ·have hk':k=s.size:=by omega
   subst hk'
   go_wp2_with (at_builtin;refine wpList_append_own _ rfl _ _ 172 rfl w.heap.size 5 i0 (.int .u8 0) 1 1 Tryz.underlying172 hi hz0 hz1 hz2 rfl (by decide) _ _ _ rfl (hown.alloc _) ⟨wr.heap.size,0,none⟩ 1 1 [.int .u8 34] rfl rfl ?c1 ?c2 ?c3 ?c4 ?c5 ?_)
   case c1=>
    intro j u hj
    match j,hj with
    | 0,hj=>simp at hj;subst hj;simp [Addr.add]
   case c2=>intro u hu;simp at hu;subst hu;rfl
   case c3=>unfold maxLen;omega
   case c4=>omega
   case c5=>simp;omega
   intro v1 w1 hown1 hgrow1 _
   have hB1:=Below.grown (hB.alloc hBs (Obj.cells #[.int .u8 34] 5)) hgrow1 (by simp;omega) (fun k' hk'=>(hown.lt k' hk').1)
   have e34:(.int .u8 34:Value)=.int .u8 ((34:UInt8).toNat):=rfl
   rw [e34,Qca] at hown1
   have hl1:(acc++[34]).length=acc.length+1:=by simp
   rw [← hl1] at hown1
   have hrun:=Qdz w1 _ _ (acc++[34]) hown1
   have HB:=Qab hB1
   have hfin:Hid (acc++[34]=quotedL s.data.toList):=by rw [HA.out];exact Qm5 s
   clear hgrow1 hB hown hB1
   go_wp2
   go_ret
   exact ⟨by rw [← hfin.out];rfl,HB.out⟩
end
section
open Go.RowKit
theorem Qgu {w w':World} {base:Nat} {e:TypeId} {size:Nat} {v:Value} {n:Nat} {xs:List Value} (h:w.ownsRow base e size v n xs) (hm:Below w.heap.size w w'):w'.ownsRow base e size v n xs:=by
 obtain ⟨h1,h2⟩:=h
 refine ⟨h1,?_⟩
 rcases h2 with h2 | ⟨g,cap,cur,hv,hg,hh,r⟩
 ·exact Or.inl h2
 ·have hlt:g < w.heap.size:=by
   rcases Nat.lt_or_ge g w.heap.size with h' | h'
   ·exact h'
   ·rw [Array.getElem?_eq_none h'] at hh;cases hh
  exact Or.inr ⟨g,cap,cur,hv,hg,by rw [hm.block g hlt];exact hh,r⟩
theorem QmI:∀ (xs:List (List UInt8)) (k:Nat) (hk:k < xs.length),xs.getD k []∈xs
 | x :: r,0,_=>by simp
 | x :: r,k+1,h=>by
  have:=QmI r k (by simpa using h)
  simp at this ⊢
  exact Or.inr this
theorem QfM {xs:List (List UInt8)} {x:List UInt8} (h:x∈xs):x.length≤(Qak xs).length∧(quotedL x).length≤(Qak xs).length:=by
 have h1:x.length≤(quotedL x).length:=by
  unfold quotedL
  rw [List.length_cons,List.length_append]
  have:x.length≤(x.flatMap QbI).length:=by
   clear h
   induction x with
   | nil=>simp
   | cons c r ih=>
    rw [List.flatMap_cons,List.length_append,List.length_cons]
    have:1≤(QbI c).length:=by unfold QbI;split <;> simp
    omega
  omega
 have h2:(quotedL x).length≤(Qak xs).length:=by
  unfold Qak
  split
  ·rw [List.mem_singleton.1 h];exact Nat.le_refl _
  ·have:=Qgo (xs.map quotedL) (quotedL x) (List.mem_map_of_mem h)
   simp only [List.length_append]
   omega
 omega
theorem Qsn (xs:List (List UInt8)):(Qcr [44,32] (xs.map quotedL)).length≤(Qak xs).length:=by
 unfold Qak
 split
 ·exact Nat.le_refl _
 ·simp only [List.length_append];omega
theorem Qvi (xs:List (List UInt8)):xs.length≤(Qak xs).length:=by
 have:∀ ys:List (List UInt8),ys.length≤(Qcr [44,32] (ys.map quotedL)).length:=fun ys=>by
  induction ys with
  | nil=>simp
  | cons y r ih=>
   cases r with
   | nil=>show 1≤(quotedL y).length;unfold quotedL;simp
   | cons z r=>
    simp only [List.map_cons,Qcr,List.length_append,List.length_cons,List.length_nil] at ih ⊢
    omega
 exact Nat.le_trans (this xs) (Qsn xs)
theorem Qck (xs:List (List UInt8)) (g n c:Nat) (w:World) (ht:TxtAt w g xs) (hn:n=xs.length) (hx:xs≠[]) (hlen:(Qak xs).length≤4294967280) :
 Calls Tryz.prog 77 #[.slice (some ⟨g,0,none⟩) n c] w fun e w'=>e=.returned (.string (Qad (Qak xs)))∧Below w.heap.size w w':=by
 obtain ⟨i0,hi,hz0,hz1,hz2⟩:=info_parts Tryz.infoStr
 subst hn
 have hgl:g < w.heap.size:=Qax (ht 0 (List.length_pos_iff.2 hx))
 have hxl:=Qvi xs
 have HT:=Qab ht
 have HL:=Qab hlen
 clear ht hlen
 have hxl':xs.length≤4294967280:=Nat.le_trans hxl HL.out
 clear hxl
 go_enter Tryz.func77,Tryz.ntmps77
 go_wp2_with fail
 go_loopw [3,5,8] (fun v _ i wr=>∃ (k:Nat),k≤xs.length∧i=.int .i64 k∧wr.ownsRow w.heap.size 9 1 v k (QaN ((xs.take k).map quotedL))∧Below w.heap.size w wr) (fun _ _ i _=>xs.length - (intOf i).toNat)
 case atStart=>
  exact ⟨0,Nat.zero_le _,by go_num,World.ownsRow_nil _ _ _ _,Below.refl _ _⟩
 case round=>
  obtain ⟨k,hk,rfl,hown,hB⟩:=hrel
  have hBs:=hB.size
  by_cases hlt:k < xs.length
  ·have hck:wr.cell? ⟨g,k,none⟩=some (.string (Qad (xs.getD k []))):=by
    rw [hB.cell (p:=⟨g,k,none⟩) hgl]
    exact HT.out k hlt
   have HS:Hid ((xs.take (k+1)).map quotedL=(xs.take k).map quotedL++[quotedL (xs.getD k [])]):=by
    rw [List.take_add_one,List.map_append,List.getElem?_eq_getElem hlt,List.getD_eq_getElem?_getD,List.getElem?_eq_getElem hlt]
    rfl
   have hm:=(QfM (QmI xs k hlt)).1
   generalize hx0:xs.getD k []=x at hck HS hm
   have hxs:(Qad x).size≤4294967280:=by
    show x.toArray.size≤_
    rw [List.size_toArray]
    exact Nat.le_trans hm HL.out
   obtain ⟨A,hA⟩:∃ A,(xs.take k).map quotedL=A:=⟨_,rfl⟩
   rw [hA] at hown HS
   have HOW:=Qab hown
   have HB:=Qab hB
   clear hown hB hx0 hm hA
   go_wp2_with fail
   refine (QdF (Qad x) _ hxs).mono ?_
   rintro e w1 ⟨rfl,hB1⟩
   have hq:(Qad x).data.toList=x:=rfl
   rw [hq]
   have hown1:=Qgu HOW.out hB1
   have hB2:Below w.heap.size w w1:=HB.out.trans (hB1.mono hBs)
   have hB2s:=hB2.size
   have HB1:=Qab hB1
   clear hB1
   go_wp2_with (at_builtin;refine wpList_append_own _ rfl _ _ 60 rfl w.heap.size 9 i0 (.string ⟨#[]⟩) 1 16 Tryz.underlying60 hi hz0 hz1 hz2 rfl (by decide) _ _ _ rfl (hown1.alloc _) ⟨w1.heap.size,0,none⟩ 1 1 [.string (Qad (quotedL x))] rfl rfl ?c1 ?c2 ?c3 ?c4 ?c5 ?_)
   case c1=>
    intro j u hj
    match j,hj with
    | 0,hj=>simp at hj;subst hj;simp [Addr.add]
   case c2=>intro u hu;simp at hu;subst hu;rfl
   case c3=>unfold maxLen;omega
   case c4=>omega
   case c5=>simp;omega
   intro v1 w2 hown2 hgrow _
   have hB3:=Below.grown (hB2.alloc hB2s (Obj.cells #[.string (Qad (quotedL x))] 9)) hgrow (by simp;omega) (fun k' hk'=>(hown1.lt k' hk').1)
   rw [Qcb,← HS.out] at hown2
   have HO2:=Qab hown2
   have HB3:=Qab hB3
   clear hgrow hown1 hB2 hown2 hB3
   go_wp2
   go_roundw
   case rel=>exact ⟨k+1,by omega,by go_num,HO2.out,HB3.out⟩
   case measure=>simp [intOf];omega
  ·have hk':k=xs.length:=by omega
   subst hk'
   rw [List.take_length] at hown
   by_cases h1:xs.length=1
   ·obtain ⟨x,rfl⟩:∃ x,xs=[x]:=by
     match xs,h1 with
     | [x],_=>exact ⟨x,rfl⟩
    obtain ⟨h3,h4 | ⟨g',cap,cur,hv,hg',hh⟩⟩:=hown
    ·cases h4.2
    ·subst hv
     have hcell:wr.cell? ⟨g',0,none⟩=some (.string (Qad (quotedL x))):=by
      have:=World.ownsRow.cells (w:=wr) (base:=w.heap.size) (e:=9) (size:=1) (v:=.slice (some ⟨g',0,none⟩) [x].length cap) (n:=[x].length) (xs:=QaN ([x].map quotedL)) ⟨h3,Or.inr ⟨g',cap,cur,rfl,hg',hh⟩⟩ (g:=g') rfl 0 _ rfl
      exact this
     have HB:=Qab hB
     clear hh h3 hB
     go_wp2
     go_ret
     exact ⟨rfl,HB.out⟩
   ·have h1':((xs.length:Int) == 1)=false:=by simp;omega
    have hq:Qak xs=[91]++Lib.join (xs.map quotedL) [44,32]++[93]:=by
     rw [← QhY]
     match xs,hx,h1 with
     | [x],_,h1=>exact absurd rfl h1
     | x :: y :: r,_,_=>rfl
    have hjl:(Lib.join (xs.map quotedL) [44,32]).length+2=(Qak xs).length:=by rw [hq];simp
    have hJ:(Lib.join (((xs.map quotedL).map Qad).map (·.data.toList)) [44,32])=Lib.join (xs.map quotedL) [44,32]:=by
     rw [List.map_map]
     congr 1
     rw [show ((fun x:ByteArray=>x.data.toList) ∘ Qad)=id from by funext x;rfl,List.map_id]
    obtain ⟨h3,h4 | ⟨g',cap,cur,hv,hg',hh⟩⟩:=hown
    ·exact absurd (List.eq_nil_of_length_eq_zero h4.2) hx
    ·subst hv
     have hcells:∀ (j:Nat) x,((xs.map quotedL).map Qad)[j]?=some x→wr.cell? ⟨g',0+j,none⟩=some (.string x):=fun j x hj=>by
      have:=World.ownsRow.cells (w:=wr) (base:=w.heap.size) (e:=9) (size:=1) (v:=.slice (some ⟨g',0,none⟩) xs.length cap) (n:=xs.length) (xs:=QaN (xs.map quotedL)) ⟨h3,Or.inr ⟨g',cap,cur,rfl,hg',hh⟩⟩ (g:=g') rfl j (.string x) (by
       unfold QaN
       rw [List.getElem?_map] at hj ⊢
       obtain ⟨y,hy,rfl⟩:=Option.map_eq_some_iff.1 hj
       rw [hy]
       rfl)
      rw [Qcs] at this
      rw [Nat.zero_add]
      exact this
     have hg'l:g' < wr.heap.size:=QaH hh.1
     have hcap:xs.length≤cap:=hh.2.1
     have hlenm:xs.length=((xs.map quotedL).map Qad).length:=by simp
     have HB:=Qab hB
     have HQ:=Qab hq
     have HJL:=Qab hjl
     have HJ:=Qab hJ
     have HCE:=Qab hcells
     have HLM:=Qab hlenm
     clear hh h3 hB hcells hq hjl hJ hlenm
     go_wp2_with fail
     rw [HLM.out]
     refine (Tryz.strings_Join g' 0 cap ((xs.map quotedL).map Qad) ⟨#[44,32]⟩ wr HCE.out hg'l (by rw [← HLM.out];omega) (by rw [← HLM.out];exact hcap) (by rw [show (ByteArray.mk #[44,32]).data.toList=[44,32] from rfl,HJ.out];have:=HJL.out;have:=HL.out;omega)).mono ?_
     rintro e w1 ⟨rfl,hB1⟩
     rw [show (ByteArray.mk #[44,32]).data.toList=[44,32] from rfl,HJ.out]
     have HB1:=Qab hB1
     clear hB1
     have hjl':(Lib.join (xs.map quotedL) [44,32]).length≤4294967280:=by have:=HJL.out;have:=HL.out;omega
     generalize Lib.join (xs.map quotedL) [44,32]=J at *
     have hJs:(ByteArray.mk J.toArray).size≤4294967280:=hjl'
     go_wp2
     go_ret
     refine ⟨?_,HB.out.trans (HB1.out.mono hBs)⟩
     rw [HQ.out]
     rfl
end
section
open Go.RowKit
attribute [local go_sem ↓] Go.wp_at_zero Go.wp_at_succ
theorem QnA (xs:List (List UInt8)) (k:Nat):(phraseL (xs.take k)).length≤(phraseL xs).length:=by
 have h:=QfR (xs.drop k) (phraseL (xs.take k))
 unfold phraseL at h ⊢
 rw [← List.foldl_append,List.take_append_drop] at h
 exact h
theorem QnB (xs:List (List UInt8)) (k:Nat) (h:k < xs.length):phraseL (xs.take (k+1))=QaJ (phraseL (xs.take k)) (xs.getD k []):=by
 unfold phraseL
 rw [List.take_add_one,List.foldl_append,List.getElem?_eq_getElem h,List.getD_eq_getElem?_getD,List.getElem?_eq_getElem h]
 rfl
theorem QiE (x:List UInt8):(Qad x).toList=x:=by
 rw [Lib.toList_data];rfl
theorem QbU (xs:List (List UInt8)) (g n c:Nat) (w:World) (ht:TxtAt w g xs) (hn:n=xs.length) (hx:xs.length≤100) (hlen:(phraseL xs).length≤4294967280) :
 Calls Tryz.prog 181 #[.slice (some ⟨g,0,none⟩) n c] w fun e w'=>e=.returned (.string (Qad (phraseL xs)))∧w'=w:=by
 subst hn
 have HT:=Qab ht
 have HL:=Qab hlen
 clear ht hlen
 go_enter Tryz.func181,Tryz.ntmps181
 go_wp2_with fail
 go_loop [3,5,8] (fun v _ i=>∃ (k:Nat) (t:List UInt8),k≤xs.length∧i=.int .i64 k∧v=.string (Qad t)∧t=phraseL (xs.take k)) (fun _ _ i=>xs.length - (intOf i).toNat)
 case atStart=>exact ⟨0,[],Nat.zero_le _,by go_num,rfl,rfl⟩
 case round=>
  obtain ⟨k,t,hk,rfl,rfl,hte⟩:=hrel
  by_cases hlt:k < xs.length
  ·have hck:w.cell? ⟨g,k,none⟩=some (.string (Qad (xs.getD k []))):=HT.out k hlt
   have HS:=Qab (QnB xs k hlt)
   have h1:=QnA xs (k+1)
   rw [HS.out,← hte] at h1
   rw [← hte] at HS
   have h2:=Nat.le_trans h1 HL.out
   clear h1 hte
   generalize xs.getD k []=p at hck HS h2
   have hpl:t.length+p.length≤4294967280:=by
    unfold QaJ at h2
    rw [List.length_append] at h2
    split at h2
    ·rw [List.length_append] at h2;omega
    ·exact h2
   have HA:=Qab (Qa3 t p)
   have HA2:=Qab (Qa3 (t++[32]) p)
   have HA3:Hid (Qad t++(⟨#[32]⟩:ByteArray)=Qad (t++[32])):=Qa3 t [32]
   have hs1:=Qat t
   have hs2:=Qat p
   have hs3:(Qad t++(⟨#[32]⟩:ByteArray)).size=t.length+1:=by rw [HA3.out,Qat];simp
   have HTT:Hid ((Qad t).toList=t):=QiE t
   have HPP:Hid ((Qad p).toList=p):=QiE p
   by_cases ht0:t=[]
   ·have hT':(Qad t).toList=[]:=HTT.out.trans ht0
    have HE:Hid (QaJ t p=t++p):=by show QaJ t p=_;unfold QaJ;rw [if_neg (fun h=>h.1 ht0)]
    clear ht0
    go_wp2
    refine ⟨⟨k+1,t++p,by omega,by go_num,?_,by rw [HS.out,HE.out]⟩,by simp [intOf];omega⟩
    rw [HA.out]
   ·have hT':¬ (Qad t).toList=[]:=fun e=>ht0 (HTT.out.symm.trans e)
    have hT2:(Qad t).toList.isEmpty=false:=by simpa using hT'
    by_cases hp0:p=[]
    ·have hP':(Qad p).toList=[]:=HPP.out.trans hp0
     have HE:Hid (QaJ t p=t++p):=by show QaJ t p=_;unfold QaJ;rw [if_neg (fun h=>h.2 hp0)]
     clear ht0 hp0
     go_wp2
     refine ⟨⟨k+1,t++p,by omega,by go_num,?_,by rw [HS.out,HE.out]⟩,by simp [intOf];omega⟩
     rw [HA.out]
    ·have hP':¬ (Qad p).toList=[]:=fun e=>hp0 (HPP.out.symm.trans e)
     have hP2:(Qad p).toList.isEmpty=false:=by simpa using hP'
     have HE:Hid (QaJ t p=t++[32]++p):=by show QaJ t p=_;unfold QaJ;rw [if_pos ⟨ht0,hp0⟩]
     clear ht0 hp0
     go_wp2
     refine ⟨⟨k+1,t++[32]++p,by omega,by go_num,?_,by rw [HS.out,HE.out]⟩,by simp [intOf];omega⟩
     rw [HA3.out,HA2.out]
  ·have hk':k=xs.length:=by omega
   subst hk'
   rw [List.take_length] at hte
   subst hte
   go_wp2
   go_ret
   exact ⟨rfl,rfl⟩
theorem Qex (tag g n c:Nat) (tags:List (List UInt8)) (w:World) (ht:TxtAt w g tags) (hn:n=tags.length) (hx:tags.length≤100) (h:tag≤tags.length) :
 Calls Tryz.prog 182 #[.int .i64 tag,.slice (some ⟨g,0,none⟩) n c] w fun e w'=>e=.returned (.string (Qad (tagTextL tag tags)))∧w'=w:=by
 subst hn
 by_cases h0:tag=0
 ·subst h0
  go_enter Tryz.func182,Tryz.ntmps182
  go_wp2
  go_ret
  exact ⟨rfl,rfl⟩
 ·have hck:=ht (tag - 1) (by omega)
  have HE:Hid (tagTextL tag tags=tags.getD (tag - 1) []):=by show tagTextL tag tags=_;unfold tagTextL;rw [if_neg h0]
  clear ht
  generalize tags.getD (tag - 1) []=z at hck HE
  obtain ⟨m,rfl⟩:∃ m,tag=m+1:=⟨tag - 1,by omega⟩
  have e1:m+1 - 1=m:=by omega
  rw [e1] at hck
  have h1:((m+1:Nat):Int)=(m:Int)+1:=by omega
  have h2:(((m:Int)+1) == 0)=false:=by simp;omega
  rw [h1]
  clear e1 h1
  go_enter Tryz.func182,Tryz.ntmps182
  go_wp2
  go_ret
  exact ⟨by rw [HE.out];rfl,rfl⟩
end
section
open Go.RowKit
def Qvz (hw:List UInt8) (x:QcT) (fv kv:Value):Obj:=.cells #[.string (Qad hw),.int .i64 x.pos,.int .i64 x.tag,.bool x.octet,fv,kv] 277
theorem Qeo (X:Nat→Prop) (hw:List UInt8) (x:QcT) (fv kv:Value) (w:World) (hf:slX X x.fr w fv) (hk:slX X x.keys w kv) (h1:1≤x.tag) (h3:x.tag≤3) (hlen:(Qa9 hw x).length≤4294967280) :
 Calls Tryz.prog 320 #[.agg #[.string (Qad hw),.int .i64 x.pos,.int .i64 x.tag,.bool x.octet,fv,kv]] w fun e w'=>e=.returned (.string (Qad (Qa9 hw x)))∧Below w.heap.size w w':=by
 obtain ⟨gf,cf,rfl,hgf,htf,hnf⟩:=hf
 obtain ⟨gk,ck,rfl,hgk,htk,hnk⟩:=hk
 obtain ⟨C,hC⟩:∃ C,(if x.octet then phraseL [Qar,quotedL Qbz] else [])=C:=⟨_,rfl⟩
 obtain ⟨T,hT⟩:∃ T,(if x.tag≠1 then tagTextL x.tag [tIs,Qas,QaA] else [])=T:=⟨_,rfl⟩
 have hM:Qa9 hw x=phraseL [hw,C,T,Qak x.fr,Qak x.keys]:=by unfold Qa9;rw [hC,hT]
 rw [hM] at hlen ⊢
 have hlf:(Qak x.fr).length≤4294967280:=Nat.le_trans (QbA (ps:=[hw,C,T,Qak x.fr,Qak x.keys]) (by simp)) hlen
 have hlk:(Qak x.keys).length≤4294967280:=Nat.le_trans (QbA (ps:=[hw,C,T,Qak x.fr,Qak x.keys]) (by simp)) hlen
 have HF:=Qab htf
 have HK:=Qab htk
 have HLF:=Qab hlf
 have HLK:=Qab hlk
 have HL:=Qab hlen
 have hgl:gf < w.heap.size:=Qax (htf 0 (List.length_pos_iff.2 hnf))
 have hblk:∀ b:Bool,b=x.octet→(w.alloc (.cells #[.string (Qad hw),.int .i64 x.pos,.int .i64 x.tag,.bool b,.slice (some ⟨gf,0,none⟩) x.fr.length cf,.slice (some ⟨gk,0,none⟩) x.keys.length ck] 277)).heap[w.heap.size]?=some (Qvz hw x (.slice (some ⟨gf,0,none⟩) x.fr.length cf) (.slice (some ⟨gk,0,none⟩) x.keys.length ck)):=fun b hb=>by subst hb;exact Qay _ _
 have HBLK:=Qab hblk
 have hB0:∀ o,Below w.heap.size w (w.alloc o):=fun o=>(Below.refl _ _).alloc (Nat.le_refl _) o
 have HB0:=Qab hB0
 clear htf htk hlf hlk hlen hM hblk hB0
 go_enter Tryz.func320,Tryz.ntmps320
 cases ho:x.octet
 ·rw [ho,if_neg (by decide)] at hC
  have HC:=Qab hC
  clear hC
  by_cases h1':x.tag=1
  ·have ht:((x.tag:Int) != 1)=false:=by simp;omega
   rw [if_neg (by omega)] at hT
   have HT:=Qab hT
   clear hT h1'
   have HO:=Qab ho
   clear ho
   go_wp2_with fail
   have HCT:Hid ((#[.string (Qad hw),.string ⟨#[]⟩,.string ⟨#[]⟩,.string (Qad (Qak x.fr)),.string (Qad (Qak x.keys))]:Array Value)=(QaN [hw,C,T,Qak x.fr,Qak x.keys]).toArray):=by
    rw [← HC.out,← HT.out];rfl
   refine Qb5 (P:=fun W=>Code.wp _ _ _ _ W) (HB0.out _) (HBLK.out false HO.out.symm) ?_
   intro W hWB hWb
   have c0:W.cell? ⟨w.heap.size,0,none⟩=some (.string (Qad hw)):=Qaa hWb 0
   have c4:W.cell? ⟨w.heap.size,4,none⟩=some (.slice (some ⟨gf,0,none⟩) x.fr.length cf):=Qaa hWb 4
   have c5:W.cell? ⟨w.heap.size,5,none⟩=some (.slice (some ⟨gk,0,none⟩) x.keys.length ck):=Qaa hWb 5
   have HFW:=Qab (HF.out.below hWB)
   have HKW:=Qab (HK.out.below hWB)
   have HWB:=Qab hWB
   have HWb:=Qab hWb
   have hWs:=hWB.size
   have hWl:=QaH hWb
   clear hWB hWb
   go_region_held3 (fun w'=>w'.cell? ⟨w.heap.size,0,none⟩=some (.string (Qad hw))∧w'.cell? ⟨w.heap.size,4,none⟩=some (.slice (some ⟨gf,0,none⟩) x.fr.length cf)∧w'.cell? ⟨w.heap.size,5,none⟩=some (.slice (some ⟨gk,0,none⟩) x.keys.length ck)) (first | go_keep | exact ⟨Qaa (Qac HW2.out) 0,Qaa (Qac HW2.out) 4,Qaa (Qac HW2.out) 5⟩) (first
    | (go_at_call 181;refine (QbU [hw,C,T,Qak x.fr,Qak x.keys] _ 5 5 _ (Qa8 w2 [hw,C,T,Qak x.fr,Qak x.keys] _ _ HCT.out) rfl (by simp) HL.out).mono ?_;rintro e w3 ⟨rfl,rfl⟩;skip)
    | (have gg:=HB1;go_at_call 77;refine (Qck x.keys gk x.keys.length ck _ (HKW1.out) rfl hnk HLK.out).mono ?_;rintro e w2 ⟨rfl,hB2⟩;have HB2:=Qab (HB1.out.trans (hB2.mono h1s));have HW2:=Qab (Qal HW1.out hB2);have e0:w2.cell? ⟨w.heap.size,0,none⟩=some (.string (Qad hw)):=Qaa HW2.out 0;have e4:w2.cell? ⟨w.heap.size,4,none⟩=some (.slice (some ⟨gf,0,none⟩) x.fr.length cf):=Qaa HW2.out 4;have e5:w2.cell? ⟨w.heap.size,5,none⟩=some (.slice (some ⟨gk,0,none⟩) x.keys.length ck):=Qaa HW2.out 5;clear hB2;skip)
    | (go_at_call 77;refine (Qck x.fr gf x.fr.length cf _ (HFW.out.drew) rfl hnf HLF.out).mono ?_;rintro e w1 ⟨rfl,hB1⟩;have HB1:=Qab (HWB.out.drew.trans (hB1.mono hWs));have HW1:=Qab (Qal (w:=W.drew) HWb.out hB1);have d0:w1.cell? ⟨w.heap.size,0,none⟩=some (.string (Qad hw)):=Qaa HW1.out 0;have d4:w1.cell? ⟨w.heap.size,4,none⟩=some (.slice (some ⟨gf,0,none⟩) x.fr.length cf):=Qaa HW1.out 4;have d5:w1.cell? ⟨w.heap.size,5,none⟩=some (.slice (some ⟨gk,0,none⟩) x.keys.length ck):=Qaa HW1.out 5;have h1s:=HB1.out.size;have HKW1:=Qab (HK.out.below HB1.out);clear hB1;skip))
   all_goals go_wp2
   all_goals go_ret
   all_goals exact ⟨rfl,Qba HB2.out (Nat.le_refl _) _⟩
  ·have ht:((x.tag:Int) != 1)=true:=by simp;omega
   rw [if_pos (by omega)] at hT
   have HT:=Qab hT
   clear hT h1'
   have HO:=Qab ho
   clear ho
   go_wp2_with fail
   have HCT:Hid ((#[.string (Qad hw),.string ⟨#[]⟩,.string (Qad (tagTextL x.tag [tIs,Qas,QaA])),.string (Qad (Qak x.fr)),.string (Qad (Qak x.keys))]:Array Value)=(QaN [hw,C,T,Qak x.fr,Qak x.keys]).toArray):=by
    rw [← HC.out,← HT.out];rfl
   refine Qb5 (P:=fun W=>Code.wp _ _ _ _ W) (HB0.out _) (HBLK.out false HO.out.symm) ?_
   intro W0 hW0B hW0b
   have b2:W0.cell? ⟨w.heap.size,2,none⟩=some (.int .i64 x.tag):=Qaa hW0b 2
   have HW0B:=Qab hW0B
   have HW0b:=Qab hW0b
   have hW0s:=hW0B.size
   clear hW0B hW0b
   go_region_held3 (fun w'=>w'.cell? ⟨w.heap.size,2,none⟩=some (.int .i64 x.tag)) (first | go_keep | exact Qaa (Qac HW0b.out) 2) (first
    | (go_at_call 307;refine (Qez _).mono ?_;rintro e w' ⟨rfl,rfl⟩;skip)
    | (go_at_call 182;refine (Qex x.tag _ 3 3 [tIs,Qas,QaA] _ ((QbK (w:=W0) (g:=W0.heap.size) [tIs,Qas,QaA] 9 rfl).drew) rfl (by decide) h3).mono ?_;rintro e w' ⟨rfl,rfl⟩;skip))
   all_goals go_wp2_with fail
   all_goals refine Qb5 (P:=fun W=>Code.wp _ _ _ _ W) (w:=w) (B:=w.heap.size) (o:=Qvz hw x (.slice (some ⟨gf,0,none⟩) x.fr.length cf) (.slice (some ⟨gk,0,none⟩) x.keys.length ck)) (by first | exact (Qba HW0B.out (Nat.le_refl _) _).drew | exact Qba HW0B.out.drew (Nat.le_refl _) _) (by exact Qac (w:=W0.drew) HW0b.out) ?_
   intro W hWB hWb
   have c0:W.cell? ⟨w.heap.size,0,none⟩=some (.string (Qad hw)):=Qaa hWb 0
   have c4:W.cell? ⟨w.heap.size,4,none⟩=some (.slice (some ⟨gf,0,none⟩) x.fr.length cf):=Qaa hWb 4
   have c5:W.cell? ⟨w.heap.size,5,none⟩=some (.slice (some ⟨gk,0,none⟩) x.keys.length ck):=Qaa hWb 5
   have HFW:=Qab (HF.out.below hWB)
   have HKW:=Qab (HK.out.below hWB)
   have HWB:=Qab hWB
   have HWb:=Qab hWb
   have hWs:=hWB.size
   have hWl:=QaH hWb
   clear hWB hWb
   go_region_held3 (fun w'=>w'.cell? ⟨w.heap.size,0,none⟩=some (.string (Qad hw))∧w'.cell? ⟨w.heap.size,4,none⟩=some (.slice (some ⟨gf,0,none⟩) x.fr.length cf)∧w'.cell? ⟨w.heap.size,5,none⟩=some (.slice (some ⟨gk,0,none⟩) x.keys.length ck)) (first | go_keep | exact ⟨Qaa (Qac HW2.out) 0,Qaa (Qac HW2.out) 4,Qaa (Qac HW2.out) 5⟩) (first
    | (go_at_call 181;refine (QbU [hw,C,T,Qak x.fr,Qak x.keys] _ 5 5 _ (Qa8 w2 [hw,C,T,Qak x.fr,Qak x.keys] _ _ HCT.out) rfl (by simp) HL.out).mono ?_;rintro e w3 ⟨rfl,rfl⟩;skip)
    | (have gg:=HB1;go_at_call 77;refine (Qck x.keys gk x.keys.length ck _ (HKW1.out) rfl hnk HLK.out).mono ?_;rintro e w2 ⟨rfl,hB2⟩;have HB2:=Qab (HB1.out.trans (hB2.mono h1s));have HW2:=Qab (Qal HW1.out hB2);have e0:w2.cell? ⟨w.heap.size,0,none⟩=some (.string (Qad hw)):=Qaa HW2.out 0;have e4:w2.cell? ⟨w.heap.size,4,none⟩=some (.slice (some ⟨gf,0,none⟩) x.fr.length cf):=Qaa HW2.out 4;have e5:w2.cell? ⟨w.heap.size,5,none⟩=some (.slice (some ⟨gk,0,none⟩) x.keys.length ck):=Qaa HW2.out 5;clear hB2;skip)
    | (go_at_call 77;refine (Qck x.fr gf x.fr.length cf _ (HFW.out.drew) rfl hnf HLF.out).mono ?_;rintro e w1 ⟨rfl,hB1⟩;have HB1:=Qab (HWB.out.drew.trans (hB1.mono hWs));have HW1:=Qab (Qal (w:=W.drew) HWb.out hB1);have d0:w1.cell? ⟨w.heap.size,0,none⟩=some (.string (Qad hw)):=Qaa HW1.out 0;have d4:w1.cell? ⟨w.heap.size,4,none⟩=some (.slice (some ⟨gf,0,none⟩) x.fr.length cf):=Qaa HW1.out 4;have d5:w1.cell? ⟨w.heap.size,5,none⟩=some (.slice (some ⟨gk,0,none⟩) x.keys.length ck):=Qaa HW1.out 5;have h1s:=HB1.out.size;have HKW1:=Qab (HK.out.below HB1.out);clear hB1;skip))
   all_goals go_wp2
   all_goals go_ret
   all_goals exact ⟨rfl,Qba HB2.out (Nat.le_refl _) _⟩
 ·rw [ho,if_pos rfl] at hC
  have HC:=Qab hC
  clear hC
  by_cases h1':x.tag=1
  ·have ht:((x.tag:Int) != 1)=false:=by simp;omega
   rw [if_neg (by omega)] at hT
   have HT:=Qab hT
   clear hT h1'
   have HO:=Qab ho
   clear ho
   go_wp2_with fail
   refine (QdF ⟨#[105,59,111,99,116,101,116]⟩ _ (by decide)).mono ?_
   rintro e wq ⟨rfl,hBq⟩
   have HBQ:=Qab ((HB0.out _).trans (hBq.mono (by simp)))
   have HWQ:=Qab (Qal (HBLK.out true HO.out.symm) hBq)
   have hwqs:=HBQ.out.size
   have q2:∀ o,(wq.alloc o).cell? ⟨w.heap.size,2,none⟩=some (.int .i64 x.tag):=fun o=>Qaa (Qac HWQ.out) 2
   clear hBq
   go_wp2_with fail
   refine (QbU [Qar,quotedL Qbz] _ 2 2 _ (Qa8 wq [Qar,quotedL Qbz] _ _ rfl) rfl (by decide) (by decide)).mono ?_
   rintro e wp' ⟨rfl,rfl⟩
   go_wp2_with fail
   have HCT:Hid ((#[.string (Qad hw),.string (Qad (phraseL [Qar,quotedL Qbz])),.string ⟨#[]⟩,.string (Qad (Qak x.fr)),.string (Qad (Qak x.keys))]:Array Value)=(QaN [hw,C,T,Qak x.fr,Qak x.keys]).toArray):=by
    rw [← HC.out,← HT.out];rfl
   refine Qb5 (P:=fun W=>Code.wp _ _ _ _ W) (Qba HBQ.out (Nat.le_refl _) _) (Qac HWQ.out) ?_
   intro W hWB hWb
   have c0:W.cell? ⟨w.heap.size,0,none⟩=some (.string (Qad hw)):=Qaa hWb 0
   have c4:W.cell? ⟨w.heap.size,4,none⟩=some (.slice (some ⟨gf,0,none⟩) x.fr.length cf):=Qaa hWb 4
   have c5:W.cell? ⟨w.heap.size,5,none⟩=some (.slice (some ⟨gk,0,none⟩) x.keys.length ck):=Qaa hWb 5
   have HFW:=Qab (HF.out.below hWB)
   have HKW:=Qab (HK.out.below hWB)
   have HWB:=Qab hWB
   have HWb:=Qab hWb
   have hWs:=hWB.size
   have hWl:=QaH hWb
   clear hWB hWb
   go_region_held3 (fun w'=>w'.cell? ⟨w.heap.size,0,none⟩=some (.string (Qad hw))∧w'.cell? ⟨w.heap.size,4,none⟩=some (.slice (some ⟨gf,0,none⟩) x.fr.length cf)∧w'.cell? ⟨w.heap.size,5,none⟩=some (.slice (some ⟨gk,0,none⟩) x.keys.length ck)) (first | go_keep | exact ⟨Qaa (Qac HW2.out) 0,Qaa (Qac HW2.out) 4,Qaa (Qac HW2.out) 5⟩) (first
    | (go_at_call 181;refine (QbU [hw,C,T,Qak x.fr,Qak x.keys] _ 5 5 _ (Qa8 w2 [hw,C,T,Qak x.fr,Qak x.keys] _ _ HCT.out) rfl (by simp) HL.out).mono ?_;rintro e w3 ⟨rfl,rfl⟩;skip)
    | (have gg:=HB1;go_at_call 77;refine (Qck x.keys gk x.keys.length ck _ (HKW1.out) rfl hnk HLK.out).mono ?_;rintro e w2 ⟨rfl,hB2⟩;have HB2:=Qab (HB1.out.trans (hB2.mono h1s));have HW2:=Qab (Qal HW1.out hB2);have e0:w2.cell? ⟨w.heap.size,0,none⟩=some (.string (Qad hw)):=Qaa HW2.out 0;have e4:w2.cell? ⟨w.heap.size,4,none⟩=some (.slice (some ⟨gf,0,none⟩) x.fr.length cf):=Qaa HW2.out 4;have e5:w2.cell? ⟨w.heap.size,5,none⟩=some (.slice (some ⟨gk,0,none⟩) x.keys.length ck):=Qaa HW2.out 5;clear hB2;skip)
    | (go_at_call 77;refine (Qck x.fr gf x.fr.length cf _ (HFW.out.drew) rfl hnf HLF.out).mono ?_;rintro e w1 ⟨rfl,hB1⟩;have HB1:=Qab (HWB.out.drew.trans (hB1.mono hWs));have HW1:=Qab (Qal (w:=W.drew) HWb.out hB1);have d0:w1.cell? ⟨w.heap.size,0,none⟩=some (.string (Qad hw)):=Qaa HW1.out 0;have d4:w1.cell? ⟨w.heap.size,4,none⟩=some (.slice (some ⟨gf,0,none⟩) x.fr.length cf):=Qaa HW1.out 4;have d5:w1.cell? ⟨w.heap.size,5,none⟩=some (.slice (some ⟨gk,0,none⟩) x.keys.length ck):=Qaa HW1.out 5;have h1s:=HB1.out.size;have HKW1:=Qab (HK.out.below HB1.out);clear hB1;skip))
   all_goals go_wp2
   all_goals go_ret
   all_goals exact ⟨rfl,Qba HB2.out (Nat.le_refl _) _⟩
  ·have ht:((x.tag:Int) != 1)=true:=by simp;omega
   rw [if_pos (by omega)] at hT
   have HT:=Qab hT
   clear hT h1'
   have HO:=Qab ho
   clear ho
   go_wp2_with fail
   refine (QdF ⟨#[105,59,111,99,116,101,116]⟩ _ (by decide)).mono ?_
   rintro e wq ⟨rfl,hBq⟩
   have HBQ:=Qab ((HB0.out _).trans (hBq.mono (by simp)))
   have HWQ:=Qab (Qal (HBLK.out true HO.out.symm) hBq)
   have hwqs:=HBQ.out.size
   have q2:∀ o,(wq.alloc o).cell? ⟨w.heap.size,2,none⟩=some (.int .i64 x.tag):=fun o=>Qaa (Qac HWQ.out) 2
   clear hBq
   go_wp2_with fail
   refine (QbU [Qar,quotedL Qbz] _ 2 2 _ (Qa8 wq [Qar,quotedL Qbz] _ _ rfl) rfl (by decide) (by decide)).mono ?_
   rintro e wp' ⟨rfl,rfl⟩
   go_wp2_with fail
   have HCT:Hid ((#[.string (Qad hw),.string (Qad (phraseL [Qar,quotedL Qbz])),.string (Qad (tagTextL x.tag [tIs,Qas,QaA])),.string (Qad (Qak x.fr)),.string (Qad (Qak x.keys))]:Array Value)=(QaN [hw,C,T,Qak x.fr,Qak x.keys]).toArray):=by
    rw [← HC.out,← HT.out];rfl
   refine Qb5 (P:=fun W=>Code.wp _ _ _ _ W) (Qba HBQ.out (Nat.le_refl _) _) (Qac HWQ.out) ?_
   intro W0 hW0B hW0b
   have b2:W0.cell? ⟨w.heap.size,2,none⟩=some (.int .i64 x.tag):=Qaa hW0b 2
   have HW0B:=Qab hW0B
   have HW0b:=Qab hW0b
   have hW0s:=hW0B.size
   clear hW0B hW0b
   go_region_held3 (fun w'=>w'.cell? ⟨w.heap.size,2,none⟩=some (.int .i64 x.tag)) (first | go_keep | exact Qaa (Qac HW0b.out) 2) (first
    | (go_at_call 307;refine (Qez _).mono ?_;rintro e w' ⟨rfl,rfl⟩;skip)
    | (go_at_call 182;refine (Qex x.tag _ 3 3 [tIs,Qas,QaA] _ ((QbK (w:=W0) (g:=W0.heap.size) [tIs,Qas,QaA] 9 rfl).drew) rfl (by decide) h3).mono ?_;rintro e w' ⟨rfl,rfl⟩;skip))
   all_goals go_wp2_with fail
   all_goals refine Qb5 (P:=fun W=>Code.wp _ _ _ _ W) (w:=w) (B:=w.heap.size) (o:=Qvz hw x (.slice (some ⟨gf,0,none⟩) x.fr.length cf) (.slice (some ⟨gk,0,none⟩) x.keys.length ck)) (by first | exact (Qba HW0B.out (Nat.le_refl _) _).drew | exact Qba HW0B.out.drew (Nat.le_refl _) _) (by exact Qac (w:=W0.drew) HW0b.out) ?_
   intro W hWB hWb
   have c0:W.cell? ⟨w.heap.size,0,none⟩=some (.string (Qad hw)):=Qaa hWb 0
   have c4:W.cell? ⟨w.heap.size,4,none⟩=some (.slice (some ⟨gf,0,none⟩) x.fr.length cf):=Qaa hWb 4
   have c5:W.cell? ⟨w.heap.size,5,none⟩=some (.slice (some ⟨gk,0,none⟩) x.keys.length ck):=Qaa hWb 5
   have HFW:=Qab (HF.out.below hWB)
   have HKW:=Qab (HK.out.below hWB)
   have HWB:=Qab hWB
   have HWb:=Qab hWb
   have hWs:=hWB.size
   have hWl:=QaH hWb
   clear hWB hWb
   go_region_held3 (fun w'=>w'.cell? ⟨w.heap.size,0,none⟩=some (.string (Qad hw))∧w'.cell? ⟨w.heap.size,4,none⟩=some (.slice (some ⟨gf,0,none⟩) x.fr.length cf)∧w'.cell? ⟨w.heap.size,5,none⟩=some (.slice (some ⟨gk,0,none⟩) x.keys.length ck)) (first | go_keep | exact ⟨Qaa (Qac HW2.out) 0,Qaa (Qac HW2.out) 4,Qaa (Qac HW2.out) 5⟩) (first
    | (go_at_call 181;refine (QbU [hw,C,T,Qak x.fr,Qak x.keys] _ 5 5 _ (Qa8 w2 [hw,C,T,Qak x.fr,Qak x.keys] _ _ HCT.out) rfl (by simp) HL.out).mono ?_;rintro e w3 ⟨rfl,rfl⟩;skip)
    | (have gg:=HB1;go_at_call 77;refine (Qck x.keys gk x.keys.length ck _ (HKW1.out) rfl hnk HLK.out).mono ?_;rintro e w2 ⟨rfl,hB2⟩;have HB2:=Qab (HB1.out.trans (hB2.mono h1s));have HW2:=Qab (Qal HW1.out hB2);have e0:w2.cell? ⟨w.heap.size,0,none⟩=some (.string (Qad hw)):=Qaa HW2.out 0;have e4:w2.cell? ⟨w.heap.size,4,none⟩=some (.slice (some ⟨gf,0,none⟩) x.fr.length cf):=Qaa HW2.out 4;have e5:w2.cell? ⟨w.heap.size,5,none⟩=some (.slice (some ⟨gk,0,none⟩) x.keys.length ck):=Qaa HW2.out 5;clear hB2;skip)
    | (go_at_call 77;refine (Qck x.fr gf x.fr.length cf _ (HFW.out.drew) rfl hnf HLF.out).mono ?_;rintro e w1 ⟨rfl,hB1⟩;have HB1:=Qab (HWB.out.drew.trans (hB1.mono hWs));have HW1:=Qab (Qal (w:=W.drew) HWb.out hB1);have d0:w1.cell? ⟨w.heap.size,0,none⟩=some (.string (Qad hw)):=Qaa HW1.out 0;have d4:w1.cell? ⟨w.heap.size,4,none⟩=some (.slice (some ⟨gf,0,none⟩) x.fr.length cf):=Qaa HW1.out 4;have d5:w1.cell? ⟨w.heap.size,5,none⟩=some (.slice (some ⟨gk,0,none⟩) x.keys.length ck):=Qaa HW1.out 5;have h1s:=HB1.out.size;have HKW1:=Qab (HK.out.below HB1.out);clear hB1;skip))
   all_goals go_wp2
   all_goals go_ret
   all_goals exact ⟨rfl,Qba HB2.out (Nat.le_refl _) _⟩
end
end Go.Proofs.YtbiclelojbfnbaaGreatDoor
