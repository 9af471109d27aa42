import Derived.Test.YtgnkjijocdmniaaGreatDoorZGroup
import Derived.Test.YtgnkjijocdmniaaGreatDoorZPlainBack2
import Derived.Test.YtgnkjijocdmniaaGreatDoorZQMatch
import Derived.Test.YtgnkjijocdmniaaGreatDoorZQQuoted
namespace Go.Proofs.YtgnkjijocdmniaaGreatDoor
set_option linter.unusedVariables false
set_option linter.unusedSimpArgs false
set_option maxRecDepth 100000
set_option maxHeartbeats 4000000
section
open Go.RowKit
def quotedTo (s:ByteArray) (k:Nat):List UInt8:=34 :: (s.data.toList.take k).flatMap quoteB
theorem quotedTo_len (s:ByteArray) (k:Nat):(quotedTo s k).length≤2*k+1:=by
 unfold quotedTo
 have:∀ x:List UInt8,(x.flatMap quoteB).length≤2*x.length:=fun x=>by
  induction x with
  | nil=>simp
  | cons c r ih=>
   rw [List.flatMap_cons,List.length_append,List.length_cons]
   have:(quoteB c).length≤2:=by unfold quoteB;split <;> simp
   omega
 have h1:=this (s.data.toList.take k)
 have h2:(s.data.toList.take k).length≤k:=by rw [List.length_take];omega
 rw [List.length_cons]
 omega
theorem quotedTo_succ (s:ByteArray) (k:Nat) (h:k < s.size):quotedTo s (k+1)=quotedTo s k++quoteB s[k]:=by
 unfold quotedTo
 have h':k < s.data.toList.length:=by simpa using h
 rw [List.take_succ_eq_append_getElem h',List.flatMap_append]
 simp
 rfl
theorem quotedTo_end (s:ByteArray):quotedTo s s.size++[34]=quotedL s.data.toList:=by
 unfold quotedTo quotedL
 rw [List.take_of_length_le (by simp)]
 rfl
theorem quoteB_pos {c:UInt8} (h:(c.toNat:Int)=34∨(c.toNat:Int)=92):quoteB c=[92,c]:=by
 unfold quoteB
 rw [if_pos]
 rcases h with h | h
 ·left;exact UInt8.toNat_inj.1 (by have:(34:UInt8).toNat=34:=rfl;omega)
 ·right;exact UInt8.toNat_inj.1 (by have:(92:UInt8).toNat=92:=rfl;omega)
theorem quoteB_neg {c:UInt8} (h:¬ (c.toNat:Int)=34) (h':¬ (c.toNat:Int)=92):quoteB c=[c]:=by
 unfold quoteB
 rw [if_neg]
 rintro (e | e)
 ·subst e;exact h rfl
 ·subst e;exact h' rfl
theorem quoted_any (s:ByteArray) (w:World) (hs:s.size≤4294967280) :
 Calls Tryz.prog 97 #[.string s] w fun e w'=>e=.returned (.string (strA (quotedL s.data.toList)))∧Below w.heap.size w w':=by
 obtain ⟨i0,hi,hz0,hz1,hz2⟩:=info_parts Tryz.infoU8
 go_enter Tryz.func97,Tryz.ntmps97
 go_wp2_with fail
 go_loopw [3,4,8] (fun v _ i wr=>∃ (k:Nat) (acc:List UInt8),k≤s.size∧i=.int .i64 k∧acc=quotedTo s k∧wr.ownsRow w.heap.size 5 1 v acc.length (bcells acc)∧Below w.heap.size w wr) (fun _ _ i _=>s.size - (intOf i).toNat)
 case atStart=>
  refine ⟨0,[34],by omega,by go_num,rfl,?_,(Below.refl _ _).alloc (Nat.le_refl _) _⟩
  exact World.ownsRow_lit w _ 1 (Nat.le_refl _) (by unfold maxLen;omega) rfl
 case round=>
  obtain ⟨k,acc,hk,rfl,hacc,hown,hB⟩:=hrel
  have hal:acc.length≤2*k+1:=by rw [hacc];exact quotedTo_len s k
  have HA:=hide hacc
  clear hacc
  have hBs:=hB.size
  by_cases hlt:k < s.size
  ·have HS:=hide (quotedTo_succ s k hlt)
   obtain ⟨c,hc⟩:∃ c,s[k]=c:=⟨_,rfl⟩
   rw [hc] at HS
   by_cases hq:(c.toNat:Int)=34∨(c.toNat:Int)=92
   ·have HQ:=hide (quoteB_pos hq)
    have hq':((c.toNat:Int) == 34)=true∨(((c.toNat:Int) == 34)=false∧((c.toNat:Int) == 92)=true):=by
     by_cases h34:(c.toNat:Int)=34
     ·exact Or.inl (by simpa using h34)
     ·exact Or.inr ⟨by simpa using h34,by rcases hq with h | h;exact absurd h h34;simpa using h⟩
    clear hq
    rcases hq' with h34 | ⟨h34,h92⟩
    all_goals
     go_wp2_with (at_builtin;refine wpList_append_own _ rfl _ _ 198 rfl w.heap.size 5 i0 (.int .u8 0) 1 1 Tryz.underlying198 hi hz0 hz1 hz2 rfl (by decide) _ _ _ rfl (hown.alloc _) ⟨wr.heap.size,0,none⟩ 1 1 [.int .u8 92] rfl rfl ?c1 ?c2 ?c3 ?c4 ?c5 ?_)
     case c1=>
      intro j u hj
      match j,hj with
      | 0,hj=>simp at hj;subst hj;simp [Addr.add]
     case c2=>intro u hu;simp at hu;subst hu;rfl
     case c3=>unfold maxLen;omega
     case c4=>omega
     case c5=>simp;omega
     intro v1 w1 hown1 hgrow1 _
     have hB1:=Below.grown (hB.alloc hBs (Obj.cells #[.int .u8 92] 5)) hgrow1 (by simp;omega) (fun k' hk'=>(hown.lt k' hk').1)
     have hB1s:=hB1.size
     have e92:(.int .u8 92:Value)=.int .u8 ((92:UInt8).toNat):=rfl
     rw [e92,bcells_append] at hown1
     have hl1:(acc++[92]).length=acc.length+1:=by simp
     rw [← hl1] at hown1
     clear hgrow1
     go_wp2_with (at_builtin;refine wpList_append_own _ rfl _ _ 198 rfl w.heap.size 5 i0 (.int .u8 0) 1 1 Tryz.underlying198 hi hz0 hz1 hz2 rfl (by decide) _ _ _ rfl (hown1.alloc _) ⟨w1.heap.size,0,none⟩ 1 1 [.int .u8 c.toNat] rfl rfl ?c1 ?c2 ?c3 ?c4 ?c5 ?_)
     case c1=>
      intro j u hj
      match j,hj with
      | 0,hj=>simp at hj;subst hj;simp [Addr.add]
     case c2=>intro u hu;simp at hu;subst hu;rfl
     case c3=>unfold maxLen;omega
     case c4=>omega
     case c5=>simp;omega
     intro v2 w2 hown2 hgrow2 _
     have hB2:=Below.grown (hB1.alloc hB1s (Obj.cells #[.int .u8 c.toNat] 5)) hgrow2 (by simp;omega) (fun k' hk'=>(hown1.lt k' hk').1)
     rw [bcells_append] at hown2
     clear hgrow2 hB hown hB1 hown1
     go_wp2
     go_roundw
     case rel=>exact ⟨k+1,acc++[92]++[c],by omega,by go_num,by rw [HS.out,HQ.out,← HA.out];simp,by simpa using hown2,hB2⟩
     case measure=>simp [intOf];omega
   ·have h34:((c.toNat:Int) == 34)=false:=by simp;exact fun e=>hq (Or.inl (by omega))
    have h92:((c.toNat:Int) == 92)=false:=by simp;exact fun e=>hq (Or.inr (by omega))
    have HQ:=hide (quoteB_neg (fun e=>hq (Or.inl e)) (fun e=>hq (Or.inr e)))
    clear hq
    go_wp2_with (at_builtin;refine wpList_append_own _ rfl _ _ 198 rfl w.heap.size 5 i0 (.int .u8 0) 1 1 Tryz.underlying198 hi hz0 hz1 hz2 rfl (by decide) _ _ _ rfl (hown.alloc _) ⟨wr.heap.size,0,none⟩ 1 1 [.int .u8 c.toNat] rfl rfl ?c1 ?c2 ?c3 ?c4 ?c5 ?_)
    case c1=>
     intro j u hj
     match j,hj with
     | 0,hj=>simp at hj;subst hj;simp [Addr.add]
    case c2=>intro u hu;simp at hu;subst hu;rfl
    case c3=>unfold maxLen;omega
    case c4=>omega
    case c5=>simp;omega
    intro v1 w1 hown1 hgrow1 _
    have hB1:=Below.grown (hB.alloc hBs (Obj.cells #[.int .u8 c.toNat] 5)) hgrow1 (by simp;omega) (fun k' hk'=>(hown.lt k' hk').1)
    rw [bcells_append] at hown1
    clear hgrow1 hB hown
    go_wp2
    go_roundw
    case rel=>exact ⟨k+1,acc++[c],by omega,by go_num,by rw [HS.out,HQ.out,← HA.out],by simpa using hown1,hB1⟩
    case measure=>simp [intOf];omega
  ·have hk':k=s.size:=by omega
   subst hk'
   go_wp2_with (at_builtin;refine wpList_append_own _ rfl _ _ 198 rfl w.heap.size 5 i0 (.int .u8 0) 1 1 Tryz.underlying198 hi hz0 hz1 hz2 rfl (by decide) _ _ _ rfl (hown.alloc _) ⟨wr.heap.size,0,none⟩ 1 1 [.int .u8 34] rfl rfl ?c1 ?c2 ?c3 ?c4 ?c5 ?_)
   case c1=>
    intro j u hj
    match j,hj with
    | 0,hj=>simp at hj;subst hj;simp [Addr.add]
   case c2=>intro u hu;simp at hu;subst hu;rfl
   case c3=>unfold maxLen;omega
   case c4=>omega
   case c5=>simp;omega
   intro v1 w1 hown1 hgrow1 _
   have hB1:=Below.grown (hB.alloc hBs (Obj.cells #[.int .u8 34] 5)) hgrow1 (by simp;omega) (fun k' hk'=>(hown.lt k' hk').1)
   have e34:(.int .u8 34:Value)=.int .u8 ((34:UInt8).toNat):=rfl
   rw [e34,bcells_append] at hown1
   have hl1:(acc++[34]).length=acc.length+1:=by simp
   rw [← hl1] at hown1
   have hrun:=run_bytes_own w1 _ _ (acc++[34]) hown1
   have HB:=hide hB1
   have hfin:Hid (acc++[34]=quotedL s.data.toList):=by rw [HA.out];exact quotedTo_end s
   clear hgrow1 hB hown hB1
   go_wp2
   go_ret
   exact ⟨by rw [← hfin.out];rfl,HB.out⟩
end
section
open Go.RowKit
theorem ownsRow_below {w w':World} {base:Nat} {e:TypeId} {size:Nat} {v:Value} {n:Nat} {xs:List Value} (h:w.ownsRow base e size v n xs) (hm:Below w.heap.size w w'):w'.ownsRow base e size v n xs:=by
 obtain ⟨h1,h2⟩:=h
 refine ⟨h1,?_⟩
 rcases h2 with h2 | ⟨g,cap,cur,hv,hg,hh,r⟩
 ·exact Or.inl h2
 ·have hlt:g < w.heap.size:=by
   rcases Nat.lt_or_ge g w.heap.size with h' | h'
   ·exact h'
   ·rw [Array.getElem?_eq_none h'] at hh;cases hh
  exact Or.inr ⟨g,cap,cur,hv,hg,by rw [hm.block g hlt];exact hh,r⟩
theorem tailQ_get:∀ (xs:List (List UInt8)) (k:Nat) (hk:k < xs.length),xs.getD k []∈xs
 | x :: r,0,_=>by simp
 | x :: r,k+1,h=>by
  have:=tailQ_get r k (by simpa using h)
  simp at this ⊢
  exact Or.inr this
theorem quotesL_mem {xs:List (List UInt8)} {x:List UInt8} (h:x∈xs):x.length≤(quotesL xs).length∧(quotedL x).length≤(quotesL xs).length:=by
 have h1:x.length≤(quotedL x).length:=by
  unfold quotedL
  rw [List.length_cons,List.length_append]
  have:x.length≤(x.flatMap quoteB).length:=by
   clear h
   induction x with
   | nil=>simp
   | cons c r ih=>
    rw [List.flatMap_cons,List.length_append,List.length_cons]
    have:1≤(quoteB c).length:=by unfold quoteB;split <;> simp
    omega
  omega
 have h2:(quotedL x).length≤(quotesL xs).length:=by
  unfold quotesL
  split
  ·rw [List.mem_singleton.1 h];exact Nat.le_refl _
  ·have:=joinL_mem (xs.map quotedL) (quotedL x) (List.mem_map_of_mem h)
   simp only [List.length_append]
   omega
 omega
theorem joinQ_len (xs:List (List UInt8)):(joinL [44,32] (xs.map quotedL)).length≤(quotesL xs).length:=by
 unfold quotesL
 split
 ·exact Nat.le_refl _
 ·simp only [List.length_append];omega
theorem xs_len (xs:List (List UInt8)):xs.length≤(quotesL xs).length:=by
 have:∀ ys:List (List UInt8),ys.length≤(joinL [44,32] (ys.map quotedL)).length:=fun ys=>by
  induction ys with
  | nil=>simp
  | cons y r ih=>
   cases r with
   | nil=>show 1≤(quotedL y).length;unfold quotedL;simp
   | cons z r=>
    simp only [List.map_cons,joinL,List.length_append,List.length_cons,List.length_nil] at ih ⊢
    omega
 exact Nat.le_trans (this xs) (joinQ_len xs)
theorem quotes_any (xs:List (List UInt8)) (g n c:Nat) (w:World) (ht:TxtAt w g xs) (hn:n=xs.length) (hx:xs≠[]) (hlen:(quotesL xs).length≤4294967280) :
 Calls Tryz.prog 62 #[.slice (some ⟨g,0,none⟩) n c] w fun e w'=>e=.returned (.string (strA (quotesL xs)))∧Below w.heap.size w w':=by
 obtain ⟨i0,hi,hz0,hz1,hz2⟩:=info_parts Tryz.infoStr
 subst hn
 have hgl:g < w.heap.size:=cell_lt (ht 0 (List.length_pos_iff.2 hx))
 have hxl:=xs_len xs
 have HT:=hide ht
 have HL:=hide hlen
 clear ht hlen
 have hxl':xs.length≤4294967280:=Nat.le_trans hxl HL.out
 clear hxl
 go_enter Tryz.func62,Tryz.ntmps62
 go_wp2_with fail
 go_loopw [3,5,8] (fun v _ i wr=>∃ (k:Nat),k≤xs.length∧i=.int .i64 k∧wr.ownsRow w.heap.size 9 1 v k (tcells ((xs.take k).map quotedL))∧Below w.heap.size w wr) (fun _ _ i _=>xs.length - (intOf i).toNat)
 case atStart=>
  exact ⟨0,Nat.zero_le _,by go_num,World.ownsRow_nil _ _ _ _,Below.refl _ _⟩
 case round=>
  obtain ⟨k,hk,rfl,hown,hB⟩:=hrel
  have hBs:=hB.size
  by_cases hlt:k < xs.length
  ·have hck:wr.cell? ⟨g,k,none⟩=some (.string (strA (xs.getD k []))):=by
    rw [hB.cell (p:=⟨g,k,none⟩) hgl]
    exact HT.out k hlt
   have HS:Hid ((xs.take (k+1)).map quotedL=(xs.take k).map quotedL++[quotedL (xs.getD k [])]):=by
    rw [List.take_add_one,List.map_append,List.getElem?_eq_getElem hlt,List.getD_eq_getElem?_getD,List.getElem?_eq_getElem hlt]
    rfl
   have hm:=(quotesL_mem (tailQ_get xs k hlt)).1
   generalize hx0:xs.getD k []=x at hck HS hm
   have hxs:(strA x).size≤4294967280:=by
    show x.toArray.size≤_
    rw [List.size_toArray]
    exact Nat.le_trans hm HL.out
   obtain ⟨A,hA⟩:∃ A,(xs.take k).map quotedL=A:=⟨_,rfl⟩
   rw [hA] at hown HS
   have HOW:=hide hown
   have HB:=hide hB
   clear hown hB hx0 hm hA
   go_wp2_with fail
   refine (quoted_any (strA x) _ hxs).mono ?_
   rintro e w1 ⟨rfl,hB1⟩
   have hq:(strA x).data.toList=x:=rfl
   rw [hq]
   have hown1:=ownsRow_below HOW.out hB1
   have hB2:Below w.heap.size w w1:=HB.out.trans (hB1.mono hBs)
   have hB2s:=hB2.size
   have HB1:=hide hB1
   clear hB1
   go_wp2_with (at_builtin;refine wpList_append_own _ rfl _ _ 61 rfl w.heap.size 9 i0 (.string ⟨#[]⟩) 1 16 Tryz.underlying61 hi hz0 hz1 hz2 rfl (by decide) _ _ _ rfl (hown1.alloc _) ⟨w1.heap.size,0,none⟩ 1 1 [.string (strA (quotedL x))] rfl rfl ?c1 ?c2 ?c3 ?c4 ?c5 ?_)
   case c1=>
    intro j u hj
    match j,hj with
    | 0,hj=>simp at hj;subst hj;simp [Addr.add]
   case c2=>intro u hu;simp at hu;subst hu;rfl
   case c3=>unfold maxLen;omega
   case c4=>omega
   case c5=>simp;omega
   intro v1 w2 hown2 hgrow _
   have hB3:=Below.grown (hB2.alloc hB2s (Obj.cells #[.string (strA (quotedL x))] 9)) hgrow (by simp;omega) (fun k' hk'=>(hown1.lt k' hk').1)
   rw [tcells_snoc,← HS.out] at hown2
   have HO2:=hide hown2
   have HB3:=hide hB3
   clear hgrow hown1 hB2 hown2 hB3
   go_wp2
   go_roundw
   case rel=>exact ⟨k+1,by omega,by go_num,HO2.out,HB3.out⟩
   case measure=>simp [intOf];omega
  ·have hk':k=xs.length:=by omega
   subst hk'
   rw [List.take_length] at hown
   by_cases h1:xs.length=1
   ·obtain ⟨x,rfl⟩:∃ x,xs=[x]:=by
     match xs,h1 with
     | [x],_=>exact ⟨x,rfl⟩
    obtain ⟨h3,h4 | ⟨g',cap,cur,hv,hg',hh⟩⟩:=hown
    ·cases h4.2
    ·subst hv
     have hcell:wr.cell? ⟨g',0,none⟩=some (.string (strA (quotedL x))):=by
      have:=World.ownsRow.cells (w:=wr) (base:=w.heap.size) (e:=9) (size:=1) (v:=.slice (some ⟨g',0,none⟩) [x].length cap) (n:=[x].length) (xs:=tcells ([x].map quotedL)) ⟨h3,Or.inr ⟨g',cap,cur,rfl,hg',hh⟩⟩ (g:=g') rfl 0 _ rfl
      exact this
     have HB:=hide hB
     clear hh h3 hB
     go_wp2
     go_ret
     exact ⟨rfl,HB.out⟩
   ·have h1':((xs.length:Int) == 1)=false:=by simp;omega
    have hq:quotesL xs=[91]++Lib.join (xs.map quotedL) [44,32]++[93]:=by
     rw [← joinL_eq]
     match xs,hx,h1 with
     | [x],_,h1=>exact absurd rfl h1
     | x :: y :: r,_,_=>rfl
    have hjl:(Lib.join (xs.map quotedL) [44,32]).length+2=(quotesL xs).length:=by rw [hq];simp
    have hJ:(Lib.join (((xs.map quotedL).map strA).map (·.data.toList)) [44,32])=Lib.join (xs.map quotedL) [44,32]:=by
     rw [List.map_map]
     congr 1
     rw [show ((fun x:ByteArray=>x.data.toList) ∘ strA)=id from by funext x;rfl,List.map_id]
    obtain ⟨h3,h4 | ⟨g',cap,cur,hv,hg',hh⟩⟩:=hown
    ·exact absurd (List.eq_nil_of_length_eq_zero h4.2) hx
    ·subst hv
     have hcells:∀ (j:Nat) x,((xs.map quotedL).map strA)[j]?=some x→wr.cell? ⟨g',0+j,none⟩=some (.string x):=fun j x hj=>by
      have:=World.ownsRow.cells (w:=wr) (base:=w.heap.size) (e:=9) (size:=1) (v:=.slice (some ⟨g',0,none⟩) xs.length cap) (n:=xs.length) (xs:=tcells (xs.map quotedL)) ⟨h3,Or.inr ⟨g',cap,cur,rfl,hg',hh⟩⟩ (g:=g') rfl j (.string x) (by
       unfold tcells
       rw [List.getElem?_map] at hj ⊢
       obtain ⟨y,hy,rfl⟩:=Option.map_eq_some_iff.1 hj
       rw [hy]
       rfl)
      rw [addr_add0] at this
      rw [Nat.zero_add]
      exact this
     have hg'l:g' < wr.heap.size:=blk_lt hh.1
     have hcap:xs.length≤cap:=hh.2.1
     have hlenm:xs.length=((xs.map quotedL).map strA).length:=by simp
     have HB:=hide hB
     have HQ:=hide hq
     have HJL:=hide hjl
     have HJ:=hide hJ
     have HCE:=hide hcells
     have HLM:=hide hlenm
     clear hh h3 hB hcells hq hjl hJ hlenm
     go_wp2_with fail
     rw [HLM.out]
     refine (Tryz.strings_Join g' 0 cap ((xs.map quotedL).map strA) ⟨#[44,32]⟩ wr HCE.out hg'l (by rw [← HLM.out];omega) (by rw [← HLM.out];exact hcap) (by rw [show (ByteArray.mk #[44,32]).data.toList=[44,32] from rfl,HJ.out];have:=HJL.out;have:=HL.out;omega)).mono ?_
     rintro e w1 ⟨rfl,hB1⟩
     rw [show (ByteArray.mk #[44,32]).data.toList=[44,32] from rfl,HJ.out]
     have HB1:=hide hB1
     clear hB1
     have hjl':(Lib.join (xs.map quotedL) [44,32]).length≤4294967280:=by have:=HJL.out;have:=HL.out;omega
     generalize Lib.join (xs.map quotedL) [44,32]=J at *
     have hJs:(ByteArray.mk J.toArray).size≤4294967280:=hjl'
     go_wp2
     go_ret
     refine ⟨?_,HB.out.trans (HB1.out.mono hBs)⟩
     rw [HQ.out]
     rfl
end
section
open Go.RowKit
attribute [local go_sem ↓] Go.wp_at_zero Go.wp_at_succ
def qto (x:List UInt8) (k:Nat):List UInt8:=34 :: (x.take k).flatMap quoteB
theorem qto_len (x:List UInt8) (k:Nat):(qto x k).length≤2*k+1:=quotedTo_len (strA x) k
theorem qto_succ (x:List UInt8) (k:Nat) (h:k < (strA x).size):qto x (k+1)=qto x k++quoteB (strA x)[k]:=quotedTo_succ (strA x) k h
theorem qto_end (x:List UInt8):qto x x.length++[34]=quotedL x:=quotedTo_end (strA x)
theorem quotedL_ge (x:List UInt8):x.length+2≤(quotedL x).length:=by
 unfold quotedL
 have:∀ x:List UInt8,x.length≤(x.flatMap quoteB).length:=fun x=>by
  induction x with
  | nil=>simp
  | cons c r ih=>
   rw [List.flatMap_cons,List.length_append,List.length_cons]
   have:1≤(quoteB c).length:=by unfold quoteB;split <;> simp
   omega
 have:=this x
 rw [List.length_cons,List.length_append,List.length_singleton]
 omega
theorem qquote_any (x:List UInt8) (w:World) (hs:x.length≤4294967280) :
 Calls Tryz.prog 83 #[.string (strA x)] w fun e w'=>e=.returned (.string (strA (quotedL x)))∧Below w.heap.size w w':=by
 have hz:=strA_size x
 go_enter Tryz.func83,Tryz.ntmps83
 go_wp2
 go_loopw [3,4] (fun o i wr=>∃ k:Nat,k≤x.length∧i=.int .i64 k∧o=.string (strA (qto x k))∧Below w.heap.size w wr) (fun _ i _=>x.length - (intOf i).toNat)
 case atStart=>exact ⟨0,by omega,rfl,rfl,Below.refl _ _⟩
 case round=>
  obtain ⟨k,hk,rfl,rfl,hB⟩:=hrel
  have HB:=hide hB
  clear hB
  have hl:=qto_len x k
  by_cases hlt:k < (strA x).size
  ·have HS:=hide (qto_succ x k hlt)
   have hex:=extract_oneQ hlt
   have hz1:=strA_size (qto x k)
   have hz2:(strA [(strA x)[k]]).size=1:=rfl
   obtain ⟨c,hc⟩:∃ c,(strA x)[k]=c:=⟨_,rfl⟩
   rw [hc] at HS hex hz2
   generalize qto x k=y at *
   by_cases h34:(c.toNat:Int)=34
   ·have f34:((c.toNat:Int) == 34)=true:=by simpa using h34
    have HQ:=hide (quoteB_pos (Or.inl h34))
    clear h34
    go_wp2
    exact ⟨⟨k+1,by omega,by go_num,by rw [HS.out,HQ.out];show Value.string (strA y++strA [92]++strA [c])=_;rw [strA_app,strA_app,List.append_assoc];rfl,HB.out⟩,by simp [intOf];omega⟩
   ·have f34:((c.toNat:Int) == 34)=false:=by simpa using h34
    by_cases h92:(c.toNat:Int)=92
    ·have f92:((c.toNat:Int) == 92)=true:=by simpa using h92
     have HQ:=hide (quoteB_pos (Or.inr h92))
     clear h34 h92
     go_wp2
     exact ⟨⟨k+1,by omega,by go_num,by rw [HS.out,HQ.out];show Value.string (strA y++strA [92]++strA [c])=_;rw [strA_app,strA_app,List.append_assoc];rfl,HB.out⟩,by simp [intOf];omega⟩
    ·have f92:((c.toNat:Int) == 92)=false:=by simpa using h92
     have HQ:=hide (quoteB_neg h34 h92)
     clear h34 h92
     go_wp2
     exact ⟨⟨k+1,by omega,by go_num,by rw [HS.out,HQ.out];show Value.string (strA y++strA [c])=_;rw [strA_app],HB.out⟩,by simp [intOf];omega⟩
  ·have hk':k=x.length:=by omega
   subst hk'
   have HE:=hide (qto_end x)
   have hz1:=strA_size (qto x x.length)
   generalize qto x x.length=y at *
   go_wp2
   go_ret
   exact ⟨by rw [← HE.out];show Ending.returned (.string (strA y++strA [34]))=_;rw [strA_app],HB.out⟩
def lto (xs:List (List UInt8)) (k:Nat):List UInt8:=91 :: joinL [44,32] ((xs.take k).map quotedL)
theorem join_snoc:∀ (xs:List (List UInt8)) (x:List UInt8),xs≠[]→joinL [44,32] (xs++[x])=joinL [44,32] xs++[44,32]++x
 | [],_,h=>absurd rfl h
 | [a],x,_=>by simp [joinL]
 | a :: b :: r,x,_=>by
  have ih:=join_snoc (b :: r) x (by simp)
  simp only [List.cons_append,joinL] at ih ⊢
  rw [ih]
  simp
theorem lto_succ (xs:List (List UInt8)) (k:Nat) (h:k < xs.length):lto xs (k+1)=(if 0 < k then lto xs k++[44,32] else lto xs k)++quotedL xs[k]:=by
 unfold lto
 rw [List.take_succ_eq_append_getElem h,List.map_append,List.map_singleton]
 by_cases h0:0 < k
 ·rw [if_pos h0,join_snoc _ _ (by intro e;have:=congrArg List.length e;rw [List.length_map,List.length_take,List.length_nil] at this;omega)]
  simp
 ·have:k=0:=by omega
  subst this
  simp [joinL]
theorem lto_end (xs:List (List UInt8)) (h:xs.length≠1):lto xs xs.length++[93]=quotesL xs:=by
 unfold lto quotesL
 rw [List.take_of_length_le (Nat.le_refl _)]
 match xs,h with
 | [],_=>rfl
 | [x],h=>exact absurd rfl h
 | x :: y :: r,_=>rfl
theorem lto_mono (xs:List (List UInt8)) (k:Nat) (h:k < xs.length):(lto xs k).length+(quotedL xs[k]).length≤(lto xs (k+1)).length:=by
 rw [lto_succ xs k h]
 split <;> simp <;> omega
theorem lto_le (xs:List (List UInt8)):∀ d k,k+d=xs.length→(lto xs k).length≤(lto xs xs.length).length
 | 0,k,h=>by rw [show k=xs.length by omega];exact Nat.le_refl _
 | d+1,k,h=>Nat.le_trans (by have:=lto_mono xs k (by omega);omega) (lto_le xs d (k+1) (by omega))
theorem qlist_any (xs:List (List UInt8)) (g n c:Nat) (w:World) (ht:TxtAt w g xs) (hn:n=xs.length) (hx:xs≠[]) (hlen:(quotesL xs).length≤4294967280) :
 Calls Tryz.prog 53 #[.slice (some ⟨g,0,none⟩) n c] w fun e w'=>e=.returned (.string (strA (quotesL xs)))∧Below w.heap.size w w':=by
 subst hn
 have hgl:g < w.heap.size:=cell_lt (ht 0 (List.length_pos_iff.2 hx))
 by_cases h1:xs.length=1
 ·obtain ⟨x,rfl⟩:∃ x,xs=[x]:=by
   match xs,h1 with
   | [x],_=>exact ⟨x,rfl⟩
  have c0:w.cell? ⟨g,0,none⟩=some (.string (strA x)):=ht 0 (by simp)
  have hql:quotesL [x]=quotedL x:=rfl
  have hxl:x.length≤4294967280:=by
   rw [hql] at hlen
   have:=quotedL_ge x
   omega
  rw [hql]
  clear hlen hql h1 hx
  go_enter Tryz.func53,Tryz.ntmps53
  go_wp2_with fail
  refine (qquote_any x _ hxl).mono ?_
  rintro e w1 ⟨rfl,hB⟩
  go_wp2
  go_ret
  exact ⟨rfl,hB⟩
 ·have HE:=hide (lto_end xs h1)
  have hL:(lto xs xs.length).length≤4294967280:=by have:=congrArg List.length HE.out;simp at this;omega
  have hb1:((xs.length:Int) == 1)=false:=by simp;omega
  have HT:=hide ht
  have hxl:xs.length≤4294967280:=by
   have:∀ k,k≤xs.length→k≤(lto xs k).length:=by
    intro k
    induction k with
    | zero=>intro _;exact Nat.zero_le _
    | succ k ih=>
     intro h
     have h1:=ih (by omega)
     have h2:=lto_mono xs k (by omega)
     have h3:1≤(quotedL xs[k]).length:=by unfold quotedL;simp
     omega
   exact Nat.le_trans (this _ (Nat.le_refl _)) hL
  clear ht hlen
  go_enter Tryz.func53,Tryz.ntmps53
  go_wp2_with fail
  go_loopw [3,4,5] (fun o i _ wr=>∃ k:Nat,k≤xs.length∧i=.int .i64 k∧o=.string (strA (lto xs k))∧Below w.heap.size w wr) (fun _ i _ _=>xs.length - (intOf i).toNat)
  case atStart=>exact ⟨0,by omega,rfl,rfl,Below.refl _ _⟩
  case round=>
   obtain ⟨k,hk,rfl,rfl,hB⟩:=hrel
   have HB:=hide hB
   have hkl:=lto_le xs (xs.length - k) k (by omega)
   clear hB
   by_cases hlt:k < xs.length
   ·have HS:=hide (lto_succ xs k hlt)
    have hm:=lto_mono xs k hlt
    have hm2:=lto_le xs (xs.length - (k+1)) (k+1) (by omega)
    have hq:=quotedL_ge xs[k]
    have ck:wr.cell? ⟨g,k,none⟩=some (.string (strA xs[k])):=by rw [HB.out.cell (p:=⟨g,k,none⟩) hgl];have:=HT.out k hlt;rw [List.getD_eq_getElem?_getD,List.getElem?_eq_getElem hlt] at this;exact this
    obtain ⟨x,hx'⟩:∃ x,xs[k]=x:=⟨_,rfl⟩
    rw [hx'] at HS hq ck hm
    have hz1:=strA_size (lto xs k)
    have hz2:=strA_size (quotedL x)
    obtain ⟨y,hy⟩:∃ y,lto xs k=y:=⟨_,rfl⟩
    rw [hy] at HS hm hkl hz1 ⊢
    by_cases h0:0 < k
    ·have h0b:decide ((0:Int) < (k:Int))=true:=decide_eq_true (by omega)
     rw [if_pos h0] at HS
     go_wp2_with fail
     refine (qquote_any x _ (by omega)).mono ?_
     rintro e w1 ⟨rfl,hB1⟩
     have HB1:=hide (HB.out.trans (hB1.mono (Below.size HB.out)))
     clear hB1
     go_wp2
     exact ⟨⟨k+1,by omega,by go_num,by rw [HS.out];show Value.string (strA y++strA [44,32]++strA (quotedL x))=_;rw [strA_app,strA_app],HB1.out⟩,by simp [intOf];omega⟩
    ·have h0b:decide ((0:Int) < (k:Int))=false:=decide_eq_false (by omega)
     rw [if_neg h0] at HS
     go_wp2_with fail
     refine (qquote_any x _ (by omega)).mono ?_
     rintro e w1 ⟨rfl,hB1⟩
     have HB1:=hide (HB.out.trans (hB1.mono (Below.size HB.out)))
     clear hB1
     go_wp2
     exact ⟨⟨k+1,by omega,by go_num,by rw [HS.out];show Value.string (strA y++strA (quotedL x))=_;rw [strA_app],HB1.out⟩,by simp [intOf];omega⟩
   ·have hk':k=xs.length:=by omega
    subst hk'
    have hz1:=strA_size (lto xs xs.length)
    generalize lto xs xs.length=y at *
    go_wp2
    go_ret
    exact ⟨by rw [← HE.out];show Ending.returned (.string (strA y++strA [93]))=_;rw [strA_app],HB.out⟩
end
section
open Go.RowKit
attribute [local go_sem ↓] Go.wp_at_zero Go.wp_at_succ
theorem dec_one {n:Nat} (h:n < 10):Lib.decDigits n=[UInt8.ofNat (48+n)]:=by rw [Lib.decDigits,dif_pos h]
theorem dec_more {n:Nat} (h:¬ n < 10):Lib.decDigits n=Lib.decDigits (n / 10)++[UInt8.ofNat (48+n % 10)]:=by rw [Lib.decDigits,dif_neg h]
theorem dec_byte {d:Nat} (h:d < 10):((UInt8.ofNat (48+d)).toNat:Int)=48+(d:Int):=by
 have:(UInt8.ofNat (48+d)).toNat=48+d:=by simp;omega
 omega
theorem pnum_any:∀ (m n:Nat),n≤m→n≤2147483647→∀ w,Calls Tryz.prog 82 #[.int .i64 n] w fun e w'=>e=.returned (.string (strA (Lib.decDigits n)))∧Below w.heap.size w w':=by
 intro m
 induction m with
 | zero=>
  intro n h1 h2 w
  have hn:n < 10:=by omega
  rw [dec_one hn]
  have hb:=dec_byte hn
  have hlt:decide ((n:Int) < 10)=true:=decide_eq_true (by omega)
  generalize UInt8.ofNat (48+n)=d at *
  have HCV:=hide (qconv w d)
  go_enter Tryz.func82,Tryz.ntmps82
  go_wp2
  rw [HCV.out _ (by omega)]
  go_wp2
  go_ret
  exact ⟨rfl,(Below.refl _ _).alloc (Nat.le_refl _) _⟩
 | succ m ih=>
  intro n h1 h2 w
  by_cases hn:n < 10
  ·rw [dec_one hn]
   have hb:=dec_byte hn
   have hlt:decide ((n:Int) < 10)=true:=decide_eq_true (by omega)
   generalize UInt8.ofNat (48+n)=d at *
   have HCV:=hide (qconv w d)
   clear ih
   go_enter Tryz.func82,Tryz.ntmps82
   go_wp2
   rw [HCV.out _ (by omega)]
   go_wp2
   go_ret
   exact ⟨rfl,(Below.refl _ _).alloc (Nat.le_refl _) _⟩
  ·have HD:=hide (dec_more hn)
   have hb:=dec_byte (Nat.mod_lt n (show 0 < 10 by decide))
   have hlt:decide ((n:Int) < 10)=false:=decide_eq_false (by omega)
   have HI:=hide (ih (n / 10) (by omega) (by omega))
   generalize UInt8.ofNat (48+n % 10)=d at *
   have HCV:=hide (fun w=>qconv w d)
   have hdl:(Lib.decDigits (n / 10)).length≤100:=by rw [Lib.decDigits_length];have:=Lib.nDigits_le20 (n / 10) (by omega);omega
   clear ih
   go_enter Tryz.func82,Tryz.ntmps82
   go_wp2_with fail
   refine (HI.out _).mono ?_
   rintro e w1 ⟨rfl,hB⟩
   have HB:=hide hB
   clear hB
   generalize Lib.decDigits (n / 10)=y at *
   have hz:=strA_size y
   have hz1:(strA [d]).size=1:=rfl
   go_wp2
   rw [HCV.out _ _ (by omega)]
   go_wp2
   go_ret
   exact ⟨by rw [HD.out,← strA_app];rfl,HB.out.alloc (Below.size HB.out) _⟩
end
section
open Go.RowKit
attribute [local go_sem ↓] Go.wp_at_zero Go.wp_at_succ
def WrOk (w:World) (v:Value) (t:List UInt8):Prop:=∀ W,Below w.heap.size w W→Calls Tryz.prog 119 #[v] W fun e w'=>e=.returned (.string (strA t))∧Below W.heap.size W w'
theorem ptext_true (nm:List UInt8) (g:Nat) (tv fv kv:Value) (tag num:Nat) (oct:Bool) (w:World) (hc:w.heap[g]?=some (.cells #[.string (strA nm),tv,fv,kv,.int .i64 tag,.bool oct,.int .i64 num] 200)) (hx:nm=kTrue) :
 Calls Tryz.prog 119 #[.pointer (some ⟨g,0,none⟩)] w fun e w'=>e=.returned (.string (strA (kTrue)))∧Below w.heap.size w w':=by
 have c0:w.cell? ⟨g,0,none⟩=some (.string (strA nm)):=blk_cell hc 0
 have c1:w.cell? ⟨g,1,none⟩=some (tv):=blk_cell hc 1
 have c2:w.cell? ⟨g,2,none⟩=some (fv):=blk_cell hc 2
 have c3:w.cell? ⟨g,3,none⟩=some (kv):=blk_cell hc 3
 have c4:w.cell? ⟨g,4,none⟩=some (.int .i64 tag):=blk_cell hc 4
 have c5:w.cell? ⟨g,5,none⟩=some (.bool oct):=blk_cell hc 5
 have c6:w.cell? ⟨g,6,none⟩=some (.int .i64 num):=blk_cell hc 6
 have hgl:=blk_lt hc
 clear hc
 have e0:((strA nm).toList == [116,114,117,101])=true:=by rw [strA_beq,hx];decide
 have HX:=hide hx
 clear hx
 go_enter Tryz.func119,Tryz.ntmps119
 go_wp2
 go_ret
 exact ⟨by rw [← HX.out];rfl,Below.refl _ _⟩
theorem ptext_false (nm:List UInt8) (g:Nat) (tv fv kv:Value) (tag num:Nat) (oct:Bool) (w:World) (hc:w.heap[g]?=some (.cells #[.string (strA nm),tv,fv,kv,.int .i64 tag,.bool oct,.int .i64 num] 200)) (hx:nm=kFalse) :
 Calls Tryz.prog 119 #[.pointer (some ⟨g,0,none⟩)] w fun e w'=>e=.returned (.string (strA (kFalse)))∧Below w.heap.size w w':=by
 have c0:w.cell? ⟨g,0,none⟩=some (.string (strA nm)):=blk_cell hc 0
 have c1:w.cell? ⟨g,1,none⟩=some (tv):=blk_cell hc 1
 have c2:w.cell? ⟨g,2,none⟩=some (fv):=blk_cell hc 2
 have c3:w.cell? ⟨g,3,none⟩=some (kv):=blk_cell hc 3
 have c4:w.cell? ⟨g,4,none⟩=some (.int .i64 tag):=blk_cell hc 4
 have c5:w.cell? ⟨g,5,none⟩=some (.bool oct):=blk_cell hc 5
 have c6:w.cell? ⟨g,6,none⟩=some (.int .i64 num):=blk_cell hc 6
 have hgl:=blk_lt hc
 clear hc
 have e0:((strA nm).toList == [116,114,117,101])=false:=by rw [strA_beq,hx];decide
 have e1:((strA nm).toList == [102,97,108,115,101])=true:=by rw [strA_beq,hx];decide
 have HX:=hide hx
 clear hx
 go_enter Tryz.func119,Tryz.ntmps119
 go_wp2
 go_ret
 exact ⟨by rw [← HX.out];rfl,Below.refl _ _⟩
theorem ptext_not (nm:List UInt8) (g:Nat) (tv fv kv:Value) (tag num:Nat) (oct:Bool) (w:World) (hc:w.heap[g]?=some (.cells #[.string (strA nm),tv,fv,kv,.int .i64 tag,.bool oct,.int .i64 num] 200)) (hx:nm=kNot) (g1 g2 c:Nat) (t:List UInt8) (htv:tv=.slice (some ⟨g1,0,none⟩) 1 c) (hd:w.cell? ⟨g1,0,none⟩=some (.pointer (some ⟨g2,0,none⟩))) (hok:WrOk w (.pointer (some ⟨g2,0,none⟩)) t) (hlen:t.length≤4294967280) :
 Calls Tryz.prog 119 #[.pointer (some ⟨g,0,none⟩)] w fun e w'=>e=.returned (.string (strA (kNot++32 :: t)))∧Below w.heap.size w w':=by
 subst htv
 have c0:w.cell? ⟨g,0,none⟩=some (.string (strA nm)):=blk_cell hc 0
 have c1:w.cell? ⟨g,1,none⟩=some (.slice (some ⟨g1,0,none⟩) 1 c):=blk_cell hc 1
 have c2:w.cell? ⟨g,2,none⟩=some (fv):=blk_cell hc 2
 have c3:w.cell? ⟨g,3,none⟩=some (kv):=blk_cell hc 3
 have c4:w.cell? ⟨g,4,none⟩=some (.int .i64 tag):=blk_cell hc 4
 have c5:w.cell? ⟨g,5,none⟩=some (.bool oct):=blk_cell hc 5
 have c6:w.cell? ⟨g,6,none⟩=some (.int .i64 num):=blk_cell hc 6
 have hgl:=blk_lt hc
 clear hc
 have e0:((strA nm).toList == [116,114,117,101])=false:=by rw [strA_beq,hx];decide
 have e1:((strA nm).toList == [102,97,108,115,101])=false:=by rw [strA_beq,hx];decide
 have e2:((strA nm).toList == [110,111,116])=true:=by rw [strA_beq,hx];decide
 have HOK:=hide hok
 have hz:=strA_size t
 clear hx hok
 go_enter Tryz.func119,Tryz.ntmps119
 go_wp2_with fail
 refine (HOK.out _ (Below.refl _ _)).mono ?_
 rintro e w1 ⟨rfl,hB⟩
 go_wp2
 go_ret
 exact ⟨by show Ending.returned (.string (strA [110,111,116,32]++strA t))=_;rw [strA_app];rfl,hB⟩
theorem ptext_exists (nm:List UInt8) (g:Nat) (tv fv kv:Value) (tag num:Nat) (oct:Bool) (w:World) (hc:w.heap[g]?=some (.cells #[.string (strA nm),tv,fv,kv,.int .i64 tag,.bool oct,.int .i64 num] 200)) (hx:nm=kExists) (xs:List (List UInt8)) (g1 c:Nat) (hfv:fv=.slice (some ⟨g1,0,none⟩) xs.length c) (ht:TxtAt w g1 xs) (hne:xs≠[]) (hlen:(quotesL xs).length≤4294967280) :
 Calls Tryz.prog 119 #[.pointer (some ⟨g,0,none⟩)] w fun e w'=>e=.returned (.string (strA (kExists++32 :: quotesL xs)))∧Below w.heap.size w w':=by
 subst hfv
 have c0:w.cell? ⟨g,0,none⟩=some (.string (strA nm)):=blk_cell hc 0
 have c1:w.cell? ⟨g,1,none⟩=some (tv):=blk_cell hc 1
 have c2:w.cell? ⟨g,2,none⟩=some (.slice (some ⟨g1,0,none⟩) xs.length c):=blk_cell hc 2
 have c3:w.cell? ⟨g,3,none⟩=some (kv):=blk_cell hc 3
 have c4:w.cell? ⟨g,4,none⟩=some (.int .i64 tag):=blk_cell hc 4
 have c5:w.cell? ⟨g,5,none⟩=some (.bool oct):=blk_cell hc 5
 have c6:w.cell? ⟨g,6,none⟩=some (.int .i64 num):=blk_cell hc 6
 have hgl:=blk_lt hc
 clear hc
 have e0:((strA nm).toList == [116,114,117,101])=false:=by rw [strA_beq,hx];decide
 have e1:((strA nm).toList == [102,97,108,115,101])=false:=by rw [strA_beq,hx];decide
 have e2:((strA nm).toList == [110,111,116])=false:=by rw [strA_beq,hx];decide
 have e3:((strA nm).toList == [97,108,108,111,102])=false:=by rw [strA_beq,hx];decide
 have e4:((strA nm).toList == [97,110,121,111,102])=false:=by rw [strA_beq,hx];decide
 have e5:((strA nm).toList == [101,120,105,115,116,115])=true:=by rw [strA_beq,hx];decide
 have HQ:=hide (qlist_any xs g1 xs.length c w ht rfl hne hlen)
 have hz:=strA_size (quotesL xs)
 clear hx ht
 generalize quotesL xs=t at *
 go_enter Tryz.func119,Tryz.ntmps119
 go_wp2_with fail
 refine HQ.out.mono ?_
 rintro e w1 ⟨rfl,hB⟩
 go_wp2
 go_ret
 exact ⟨by show Ending.returned (.string (strA [101,120,105,115,116,115,32]++strA t))=_;rw [strA_app];rfl,hB⟩
theorem ptext_size1 (nm:List UInt8) (g:Nat) (tv fv kv:Value) (tag num:Nat) (oct:Bool) (w:World) (hc:w.heap[g]?=some (.cells #[.string (strA nm),tv,fv,kv,.int .i64 tag,.bool oct,.int .i64 num] 200)) (hx:nm=kSize) (htg:tag=1) (hnum:num≤2147483647) :
 Calls Tryz.prog 119 #[.pointer (some ⟨g,0,none⟩)] w fun e w'=>e=.returned (.string (strA (kSize++32 :: (tOver++32 :: itoaL num))))∧Below w.heap.size w w':=by
 subst htg
 have c0:w.cell? ⟨g,0,none⟩=some (.string (strA nm)):=blk_cell hc 0
 have c1:w.cell? ⟨g,1,none⟩=some (tv):=blk_cell hc 1
 have c2:w.cell? ⟨g,2,none⟩=some (fv):=blk_cell hc 2
 have c3:w.cell? ⟨g,3,none⟩=some (kv):=blk_cell hc 3
 have c4:w.cell? ⟨g,4,none⟩=some (.int .i64 1):=blk_cell hc 4
 have c5:w.cell? ⟨g,5,none⟩=some (.bool oct):=blk_cell hc 5
 have c6:w.cell? ⟨g,6,none⟩=some (.int .i64 num):=blk_cell hc 6
 have hgl:=blk_lt hc
 clear hc
 have e0:((strA nm).toList == [116,114,117,101])=false:=by rw [strA_beq,hx];decide
 have e1:((strA nm).toList == [102,97,108,115,101])=false:=by rw [strA_beq,hx];decide
 have e2:((strA nm).toList == [110,111,116])=false:=by rw [strA_beq,hx];decide
 have e3:((strA nm).toList == [97,108,108,111,102])=false:=by rw [strA_beq,hx];decide
 have e4:((strA nm).toList == [97,110,121,111,102])=false:=by rw [strA_beq,hx];decide
 have e5:((strA nm).toList == [101,120,105,115,116,115])=false:=by rw [strA_beq,hx];decide
 have e6:((strA nm).toList == [115,105,122,101])=true:=by rw [strA_beq,hx];decide
 have HQ:=hide (pnum_any num num (Nat.le_refl _) hnum)
 have hdl:(Lib.decDigits num).length≤100:=by rw [Lib.decDigits_length];have:=Lib.nDigits_le20 num (by omega);omega
 have hz:=strA_size (Lib.decDigits num)
 clear hx
 have HI:Hid (itoaL num=Lib.decDigits num):=rfl
 rw [HI.out]
 generalize Lib.decDigits num=t at *
 go_enter Tryz.func119,Tryz.ntmps119
 go_wp2_with fail
 refine (HQ.out _).mono ?_
 rintro e w1 ⟨rfl,hB⟩
 have b4:w1.cell? ⟨g,4,none⟩=some (.int .i64 1):=by rw [hB.cell (p:=⟨g,4,none⟩) hgl];exact c4
 go_wp2
 go_ret
 exact ⟨by show Ending.returned (.string (strA [115,105,122,101,32,58,111,118,101,114,32]++strA t))=_;rw [strA_app];rfl,hB⟩
theorem ptext_size2 (nm:List UInt8) (g:Nat) (tv fv kv:Value) (tag num:Nat) (oct:Bool) (w:World) (hc:w.heap[g]?=some (.cells #[.string (strA nm),tv,fv,kv,.int .i64 tag,.bool oct,.int .i64 num] 200)) (hx:nm=kSize) (htg:tag=2) (hnum:num≤2147483647) :
 Calls Tryz.prog 119 #[.pointer (some ⟨g,0,none⟩)] w fun e w'=>e=.returned (.string (strA (kSize++32 :: (tUnder++32 :: itoaL num))))∧Below w.heap.size w w':=by
 subst htg
 have c0:w.cell? ⟨g,0,none⟩=some (.string (strA nm)):=blk_cell hc 0
 have c1:w.cell? ⟨g,1,none⟩=some (tv):=blk_cell hc 1
 have c2:w.cell? ⟨g,2,none⟩=some (fv):=blk_cell hc 2
 have c3:w.cell? ⟨g,3,none⟩=some (kv):=blk_cell hc 3
 have c4:w.cell? ⟨g,4,none⟩=some (.int .i64 2):=blk_cell hc 4
 have c5:w.cell? ⟨g,5,none⟩=some (.bool oct):=blk_cell hc 5
 have c6:w.cell? ⟨g,6,none⟩=some (.int .i64 num):=blk_cell hc 6
 have hgl:=blk_lt hc
 clear hc
 have e0:((strA nm).toList == [116,114,117,101])=false:=by rw [strA_beq,hx];decide
 have e1:((strA nm).toList == [102,97,108,115,101])=false:=by rw [strA_beq,hx];decide
 have e2:((strA nm).toList == [110,111,116])=false:=by rw [strA_beq,hx];decide
 have e3:((strA nm).toList == [97,108,108,111,102])=false:=by rw [strA_beq,hx];decide
 have e4:((strA nm).toList == [97,110,121,111,102])=false:=by rw [strA_beq,hx];decide
 have e5:((strA nm).toList == [101,120,105,115,116,115])=false:=by rw [strA_beq,hx];decide
 have e6:((strA nm).toList == [115,105,122,101])=true:=by rw [strA_beq,hx];decide
 have HQ:=hide (pnum_any num num (Nat.le_refl _) hnum)
 have hdl:(Lib.decDigits num).length≤100:=by rw [Lib.decDigits_length];have:=Lib.nDigits_le20 num (by omega);omega
 have hz:=strA_size (Lib.decDigits num)
 clear hx
 have HI:Hid (itoaL num=Lib.decDigits num):=rfl
 rw [HI.out]
 generalize Lib.decDigits num=t at *
 go_enter Tryz.func119,Tryz.ntmps119
 go_wp2_with fail
 refine (HQ.out _).mono ?_
 rintro e w1 ⟨rfl,hB⟩
 have b4:w1.cell? ⟨g,4,none⟩=some (.int .i64 2):=by rw [hB.cell (p:=⟨g,4,none⟩) hgl];exact c4
 go_wp2
 go_ret
 exact ⟨by show Ending.returned (.string (strA [115,105,122,101,32,58,117,110,100,101,114,32]++strA t))=_;rw [strA_app];rfl,hB⟩
end
section
open Go.RowKit
attribute [local go_sem ↓] Go.wp_at_zero Go.wp_at_succ
theorem phrase_take (xs:List (List UInt8)) (k:Nat):(phraseL (xs.take k)).length≤(phraseL xs).length:=by
 have h:=phrase_grow (xs.drop k) (phraseL (xs.take k))
 unfold phraseL at h ⊢
 rw [← List.foldl_append,List.take_append_drop] at h
 exact h
theorem phrase_succ (xs:List (List UInt8)) (k:Nat) (h:k < xs.length):phraseL (xs.take (k+1))=phraseStep (phraseL (xs.take k)) (xs.getD k []):=by
 unfold phraseL
 rw [List.take_add_one,List.foldl_append,List.getElem?_eq_getElem h,List.getD_eq_getElem?_getD,List.getElem?_eq_getElem h]
 rfl
theorem strA_toList (x:List UInt8):(strA x).toList=x:=by
 rw [Lib.toList_data];rfl
theorem phrase_any (xs:List (List UInt8)) (g n c:Nat) (w:World) (ht:TxtAt w g xs) (hn:n=xs.length) (hx:xs.length≤100) (hlen:(phraseL xs).length≤4294967280) :
 Calls Tryz.prog 150 #[.slice (some ⟨g,0,none⟩) n c] w fun e w'=>e=.returned (.string (strA (phraseL xs)))∧w'=w:=by
 subst hn
 have HT:=hide ht
 have HL:=hide hlen
 clear ht hlen
 go_enter Tryz.func150,Tryz.ntmps150
 go_wp2_with fail
 go_loop [3,5,8] (fun v _ i=>∃ (k:Nat) (t:List UInt8),k≤xs.length∧i=.int .i64 k∧v=.string (strA t)∧t=phraseL (xs.take k)) (fun _ _ i=>xs.length - (intOf i).toNat)
 case atStart=>exact ⟨0,[],Nat.zero_le _,by go_num,rfl,rfl⟩
 case round=>
  obtain ⟨k,t,hk,rfl,rfl,hte⟩:=hrel
  by_cases hlt:k < xs.length
  ·have hck:w.cell? ⟨g,k,none⟩=some (.string (strA (xs.getD k []))):=HT.out k hlt
   have HS:=hide (phrase_succ xs k hlt)
   have h1:=phrase_take xs (k+1)
   rw [HS.out,← hte] at h1
   rw [← hte] at HS
   have h2:=Nat.le_trans h1 HL.out
   clear h1 hte
   generalize xs.getD k []=p at hck HS h2
   have hpl:t.length+p.length≤4294967280:=by
    unfold phraseStep at h2
    rw [List.length_append] at h2
    split at h2
    ·rw [List.length_append] at h2;omega
    ·exact h2
   have HA:=hide (strA_app t p)
   have HA2:=hide (strA_app (t++[32]) p)
   have HA3:Hid (strA t++(⟨#[32]⟩:ByteArray)=strA (t++[32])):=strA_app t [32]
   have hs1:=strA_size t
   have hs2:=strA_size p
   have hs3:(strA t++(⟨#[32]⟩:ByteArray)).size=t.length+1:=by rw [HA3.out,strA_size];simp
   have HTT:Hid ((strA t).toList=t):=strA_toList t
   have HPP:Hid ((strA p).toList=p):=strA_toList p
   by_cases ht0:t=[]
   ·have hT':(strA t).toList=[]:=HTT.out.trans ht0
    have HE:Hid (phraseStep t p=t++p):=by show phraseStep t p=_;unfold phraseStep;rw [if_neg (fun h=>h.1 ht0)]
    clear ht0
    go_wp2
    refine ⟨⟨k+1,t++p,by omega,by go_num,?_,by rw [HS.out,HE.out]⟩,by simp [intOf];omega⟩
    rw [HA.out]
   ·have hT':¬ (strA t).toList=[]:=fun e=>ht0 (HTT.out.symm.trans e)
    have hT2:(strA t).toList.isEmpty=false:=by simpa using hT'
    by_cases hp0:p=[]
    ·have hP':(strA p).toList=[]:=HPP.out.trans hp0
     have HE:Hid (phraseStep t p=t++p):=by show phraseStep t p=_;unfold phraseStep;rw [if_neg (fun h=>h.2 hp0)]
     clear ht0 hp0
     go_wp2
     refine ⟨⟨k+1,t++p,by omega,by go_num,?_,by rw [HS.out,HE.out]⟩,by simp [intOf];omega⟩
     rw [HA.out]
    ·have hP':¬ (strA p).toList=[]:=fun e=>hp0 (HPP.out.symm.trans e)
     have hP2:(strA p).toList.isEmpty=false:=by simpa using hP'
     have HE:Hid (phraseStep t p=t++[32]++p):=by show phraseStep t p=_;unfold phraseStep;rw [if_pos ⟨ht0,hp0⟩]
     clear ht0 hp0
     go_wp2
     refine ⟨⟨k+1,t++[32]++p,by omega,by go_num,?_,by rw [HS.out,HE.out]⟩,by simp [intOf];omega⟩
     rw [HA3.out,HA2.out]
  ·have hk':k=xs.length:=by omega
   subst hk'
   rw [List.take_length] at hte
   subst hte
   go_wp2
   go_ret
   exact ⟨rfl,rfl⟩
theorem tagText_any (tag g n c:Nat) (tags:List (List UInt8)) (w:World) (ht:TxtAt w g tags) (hn:n=tags.length) (hx:tags.length≤100) (h:tag≤tags.length) :
 Calls Tryz.prog 151 #[.int .i64 tag,.slice (some ⟨g,0,none⟩) n c] w fun e w'=>e=.returned (.string (strA (tagTextL tag tags)))∧w'=w:=by
 subst hn
 by_cases h0:tag=0
 ·subst h0
  go_enter Tryz.func151,Tryz.ntmps151
  go_wp2
  go_ret
  exact ⟨rfl,rfl⟩
 ·have hck:=ht (tag - 1) (by omega)
  have HE:Hid (tagTextL tag tags=tags.getD (tag - 1) []):=by show tagTextL tag tags=_;unfold tagTextL;rw [if_neg h0]
  clear ht
  generalize tags.getD (tag - 1) []=z at hck HE
  obtain ⟨m,rfl⟩:∃ m,tag=m+1:=⟨tag - 1,by omega⟩
  have e1:m+1 - 1=m:=by omega
  rw [e1] at hck
  have h1:((m+1:Nat):Int)=(m:Int)+1:=by omega
  have h2:(((m:Int)+1) == 0)=false:=by simp;omega
  rw [h1]
  clear e1 h1
  go_enter Tryz.func151,Tryz.ntmps151
  go_wp2
  go_ret
  exact ⟨by rw [HE.out];rfl,rfl⟩
end
end Go.Proofs.YtgnkjijocdmniaaGreatDoor
