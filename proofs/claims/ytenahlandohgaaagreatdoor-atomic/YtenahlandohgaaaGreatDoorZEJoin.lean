import Derived.Lib.AppendStr
import Derived.Deep.DrawnRows
import Derived.Lib.ConvBytes
import Derived.Lib.AtoiErrMem
import Derived.Lib.AppendIntMem
import Derived.Test.YtenahlandohgaaaGreatDoorZAIsBox
import Derived.Test.YtenahlandohgaaaGreatDoorZDDisk
import Derived.Test.YtenahlandohgaaaGreatDoorZPlainStore
import Derived.Test.YtenahlandohgaaaGreatDoorShelf
namespace Go.Proofs.YtenahlandohgaaaGreatDoor
set_option linter.unusedVariables false
set_option linter.unusedSimpArgs false
set_option maxRecDepth 100000
set_option maxHeartbeats 4000000
section
open Go.RowKit
attribute [local go_sem ↓] Go.wp_at_zero Go.wp_at_succ
theorem Tryz.infoByteE:(Tryz.prog.info? 5).map (fun i=>(i.zero,i.size,i.bytes))=some (some (.int .u8 0),1,1):=by kernel_rfl
theorem Tryz.sizeBuilderE:(Tryz.prog.info? 222).map (fun i=>i.size)=some 2:=by kernel_rfl
theorem copyCheck_new (b:Nat) (w:World) (h0:w.cell? ⟨b,0,none⟩=some (.pointer none)) (hsh:w.shape? b=some (222,2)) (hfz:w.frozen? ⟨b,0,none⟩=false) :
 Calls Tryz.prog 186 #[.pointer (some ⟨b,0,none⟩)] w fun e w'=>e=.returned (.tuple #[])∧w'=w.setCell ⟨b,0,none⟩ (.pointer (some ⟨b,0,none⟩)):=by
 obtain ⟨j,hj,hjs⟩:=Option.map_eq_some_iff.1 Tryz.sizeBuilderE
 go_enter Tryz.func186,Tryz.ntmps186
 go_wp2
 rw [Lib.run_to_unsafe w ⟨b,0,none⟩ Tryz.underlying220 Tryz.underlying124 hj (by rw [hjs];decide) hsh (Nat.zero_lt_succ 1)]
 simp only [Result.andThen]
 rw [Oper.upon_value]
 go_wp2
 rw [run_callFunc_extern Tryz.func234 (by kernel_rfl) (by kernel_rfl) (by kernel_rfl) (e:=Extern.AbiNoEscape.same) (by kernel_rfl)]
 rw [Lib.run_noEscape]
 simp only [Result.andThen]
 rw [Oper.upon_value]
 go_wp2
 rw [Lib.run_from_unsafe w ⟨b,0,none⟩ Tryz.underlying124 Tryz.underlying220 hj hsh (by kernel_rfl)]
 simp only [Result.andThen]
 rw [Oper.upon_value]
 go_wp2
 go_end0
 exact ⟨rfl,rfl⟩
theorem copyCheck_old (b:Nat) (w:World) (h0:w.cell? ⟨b,0,none⟩=some (.pointer (some ⟨b,0,none⟩))) :
 Calls Tryz.prog 186 #[.pointer (some ⟨b,0,none⟩)] w fun e w'=>e=.returned (.tuple #[])∧w'=w:=by
 obtain ⟨j,hj,_⟩:=Option.map_eq_some_iff.1 Tryz.sizeBuilderE
 go_enter Tryz.func186,Tryz.ntmps186
 go_wp2
 rw [Lib.run_neq_ptr_same w _ Tryz.underlying220 hj]
 go_wp2
 go_end0
 exact ⟨rfl,rfl⟩
theorem copyCheck_any (B b:Nat) (bs:List Value) (w:World) (h:Lib.IsBuilder 222 5 B b bs w) :
 Calls Tryz.prog 186 #[.pointer (some ⟨b,0,none⟩)] w fun e w'=>e=.returned (.tuple #[])∧Lib.BuilderAt 222 5 B b (.pointer (some ⟨b,0,none⟩)) bs w'∧Below B w w':=by
 rcases h with h | h
 ·refine (copyCheck_new b w h.cell0 h.shape h.frozen0).mono ?_
  rintro e w' ⟨rfl,rfl⟩
  exact ⟨rfl,h.used _,(Below.refl B w).setCell (p:=⟨b,0,none⟩) h.1 _⟩
 ·refine (copyCheck_old b w h.cell0).mono ?_
  rintro e w' ⟨rfl,rfl⟩
  exact ⟨rfl,h,Below.refl B _⟩
theorem writeStr_any (B b:Nat) (bs:List Value) (s:ByteArray) (w:World) (h:Lib.IsBuilder 222 5 B b bs w) (hlen:bs.length+s.size≤140737488355328) (hBw:B≤w.heap.size) :
 Calls Tryz.prog 114 #[.pointer (some ⟨b,0,none⟩),.string s] w fun e w'=>e=.returned (.tuple #[.int .i64 s.size,.nilIface])∧Lib.BuilderAt 222 5 B b (.pointer (some ⟨b,0,none⟩)) (bs++Lib.strCells s) w'∧Below B w w':=by
 obtain ⟨i0,hi,hz0,hz1,hz2⟩:=info_parts Tryz.infoByteE
 go_enter Tryz.func114,Tryz.ntmps114
 go_wp2_with (go_at_call 186;refine (copyCheck_any B b bs _ h).mono ?_)
 rintro e w1 ⟨rfl,h1,hb1⟩
 obtain ⟨hB,v,hbk,hown,hne⟩:=h1
 have c0:w1.cell? ⟨b,0,none⟩=some (.pointer (some ⟨b,0,none⟩)):=by rw [Lib.cell_of_heap hbk];rfl
 have c1:w1.cell? ⟨b,1,none⟩=some v:=by rw [Lib.cell_of_heap hbk];rfl
 have hs1:=hb1.size
 go_wp2_with (at_builtin;refine Lib.wpList_append_own_string _ rfl _ _ 111 9 rfl B 5 i0 Tryz.underlying111 Tryz.underlying9 hi hz0 hz1 hz2 _ _ _ rfl hown s rfl (by unfold maxLen;omega) (by omega) (by omega) ?_)
 intro v' w2 hown' hgrow _
 have hlt:b < w1.heap.size:=blk_lt hbk
 have hb2:w2.heap[b]?=some (.cells #[.pointer (some ⟨b,0,none⟩),v] 222 (0,0)):=by
  rw [hgrow.block b hlt (fun e=>hne e.symm)]
  exact hbk
 have d0:w2.cell? ⟨b,0,none⟩=some (.pointer (some ⟨b,0,none⟩)):=by rw [Lib.cell_of_heap hb2];rfl
 have d1:w2.cell? ⟨b,1,none⟩=some v:=by rw [Lib.cell_of_heap hb2];rfl
 have f1:w2.frozen? ⟨b,1,none⟩=false:=Lib.frozen_of_heap hb2 1
 obtain ⟨ao,n',cap,rfl⟩:∃ ao n' cap,v'=.slice ao n' cap:=by
  rcases hown'.2 with ⟨hv,_⟩ | ⟨g,cap,cur,hv,_⟩
  ·exact ⟨_,_,_,hv⟩
  ·exact ⟨_,_,_,hv⟩
 go_wp2
 go_ret2
 refine ⟨rfl,?_,?_⟩
 ·exact Lib.BuilderAt.put (T:=222) (e:=5) hB hb2 (bs':=bs++Lib.strCells s) (by simpa [Lib.strCells_length] using hown') (by decide)
 ·exact (hb1.grown hgrow (by omega) (fun k hk=>(hown.lt k hk).1)).setCell (p:=⟨b,1,none⟩) hB _
end
section
open Go.RowKit
attribute [local go_sem ↓] Go.wp_at_zero Go.wp_at_succ
def Tab (w:World):Prop:=Lib.TabIs Tryz.prog w "internal/strconv.uint64pow10" .u64 Lib.pow10Tab
theorem Tab.below {w w':World} (h:Tab w) (hb:Below w.heap.size w w'):Tab w':=Lib.tabBelow_of_tabIs h w' hb
theorem itoa_any (n:Nat) (hn:n≤2147483647) (w:World) (ht:Tab w) :
 Calls Tryz.prog 209 #[.int .i64 n] w fun e w'=>e=.returned (.string (strA (itoaL n)))∧Below w.heap.size w w':=by
 refine (Tryz.strconv_Itoa n (by omega) (by omega) w ht).mono ?_
 rintro e w' ⟨rfl,k,os,rfl⟩
 exact ⟨by rw [Lib.itoa_nonneg];rfl,Lib.below_grow _ _ (Nat.le_refl _) _ _⟩
end
section
open Go.RowKit
attribute [local go_sem ↓] Go.wp_at_zero Go.wp_at_succ
def joinP (p:List UInt8):List UInt8:=itoaL p.length++([58]++p)
def joinedL (ps:List (List UInt8)):List UInt8:=ps.flatMap joinP
def sumP (ps:List (List UInt8)):Nat:=(ps.map (fun p=>p.length+30)).sum
theorem builder_below {T e:TypeId} {B b:Nat} {bs:List Value} {w w':World} (h:Lib.IsBuilder T e B b bs w) (hb:Below w.heap.size w w'):Lib.IsBuilder T e B b bs w':=by
 have key:∀ p,Lib.BuilderAt T e B b p bs w→Lib.BuilderAt T e B b p bs w':=fun p ⟨h1,v,h2,h3,h4⟩=>⟨h1,v,blk_below h2 hb,owns_fr (P:=fun _ _=>False) h3 (Fr.of_below hb) (fun _ _ h=>h),h4⟩
 rcases h with h | h
 ·exact Or.inl (key _ h)
 ·exact Or.inr (key _ h)
theorem byteCells_app (x y:List UInt8):Lib.byteCells x++Lib.strCells (strA y)=Lib.byteCells (x++y):=by
 show Lib.byteCells x++Lib.byteCells y=_
 simp [Lib.byteCells]
theorem slt_get {w:World} {la:Option Addr} {n lc:Nat} {zs:List (List UInt8)} (h:SlT w (.slice la n lc) zs) (j:Nat) (hj:j < zs.length):∃ g,la=some ⟨g,0,none⟩∧g < w.heap.size∧w.cell? ⟨g,j,none⟩=some (.string (strA zs[j])):=by
 rcases h with ⟨_,h2⟩ | ⟨g,c,hv,ht⟩
 ·rw [h2] at hj;exact absurd hj (Nat.not_lt_zero _)
 ·injection hv with h1 h2 h3
  refine ⟨g,h1,?_,?_⟩
  ·obtain ⟨cs,hb,_⟩:=ht
   exact blk_lt hb
  ·have:=ht.at j hj
   rwa [List.getD_eq_getElem?_getD,List.getElem?_eq_getElem hj] at this
theorem sumP_le {ps:List (List UInt8)} (p:List UInt8) (h:p∈ps):p.length+30≤sumP ps:=by
 induction ps with
 | nil=>cases h
 | cons a r ih=>
  have e:sumP (a :: r)=a.length+30+sumP r:=rfl
  rcases List.mem_cons.1 h with h | h
  ·subst h;omega
  ·have:=ih h;omega
theorem joined_len (ps:List (List UInt8)) (h:∀ p∈ps,p.length≤2147483647):(joinedL ps).length≤sumP ps:=by
 induction ps with
 | nil=>exact Nat.le_refl _
 | cons a r ih=>
  have h1:=ih (fun p hp=>h p (by simp [hp]))
  have h2:=itoaL_len a.length (h a (by simp))
  have e:sumP (a :: r)=a.length+30+sumP r:=rfl
  show (joinP a++joinedL r).length≤_
  rw [List.length_append]
  unfold joinP
  simp only [List.length_append,List.length_cons,List.length_nil]
  omega
theorem sumP_take (ps:List (List UInt8)) (k:Nat):sumP (ps.take k)≤sumP ps:=by
 induction ps generalizing k with
 | nil=>simp
 | cons a r ih=>
  cases k with
  | zero=>exact Nat.zero_le _
  | succ k=>
   have e:sumP (a :: r)=a.length+30+sumP r:=rfl
   have e2:sumP ((a :: r).take (k+1))=a.length+30+sumP (r.take k):=rfl
   have:=ih k
   omega
theorem joined_any (ps:List (List UInt8)) (lv:Value) (w:World) (ht:Tab w) (hl:SlT w lv ps) (hs:sumP ps≤100000000) (hn:ps.length≤1000) :
 Calls Tryz.prog 211 #[lv] w fun e w'=>e=.returned (.string (strA (joinedL ps)))∧Below w.heap.size w w':=by
 obtain ⟨la,lc,hll⟩:=hl.len
 subst hll
 have HL:=hide hl
 have HT:=hide ht
 clear hl ht
 go_enter Tryz.func211,Tryz.ntmps211
 have HSM:Hid (∀ p∈ps,p.length≤100000000):=fun p hp=>by have:=sumP_le p hp;omega
 have HJL:Hid (∀ k,(joinedL (ps.take k)).length≤100000000):=fun k=>by
  have h1:=joined_len (ps.take k) (fun p hp=>by have:=HSM.out p (List.mem_of_mem_take hp);omega)
  have h2:=sumP_take ps k
  omega
 go_wp2
 go_loopw [5,8] (fun _ i wr=>∃ k:Nat,k≤ps.length∧i=.int .i64 k∧Lib.IsBuilder 222 5 w.heap.size w.heap.size (Lib.byteCells (joinedL (ps.take k))) wr∧Below w.heap.size w wr) (fun _ i _=>ps.length - (intOf i).toNat)
 case atStart=>exact ⟨0,Nat.zero_le _,rfl,Or.inl ⟨Nat.le_refl _,_,blk_new _ _,World.ownsRow_nil _ _ _ _,by simp [Value.ownBlock]⟩,(Below.refl _ _).alloc (Nat.le_refl _) _⟩
 case round=>
  obtain ⟨k,hk,rfl,hBu,hB⟩:=hrel
  have HBU:=hide hBu
  have HB:=hide hB
  have hwr:=hB.size
  clear hBu hB
  by_cases hlt:k < ps.length
  rotate_left
  ·have hz:¬ (k:Int) < (ps.length:Int):=by omega
   have HE:Hid (ps.take k=ps):=List.take_of_length_le (by omega)
   rw [HE.out] at HBU
   go_wp2_with (go_at_call 115;refine (Tryz.Builder_String_any w.heap.size w.heap.size _ wr HBU.out hwr).mono ?_;rintro e w1 ⟨rfl,hb1⟩;have HB1:=hide hb1;clear hb1)
   go_ret
   exact ⟨rfl,HB.out.trans HB1.out⟩
  have hlt':(k:Int) < (ps.length:Int):=by omega
  obtain ⟨g,hla,hgl,hc⟩:=slt_get HL.out k hlt
  subst hla
  have c1:wr.cell? ⟨g,k,none⟩=some (.string (strA ps[k])):=by rw [HB.out.cell (p:=⟨g,k,none⟩) hgl];exact hc
  have hpl:=HSM.out ps[k] (List.getElem_mem hlt)
  have HTK:Hid (joinedL (ps.take (k+1))=joinedL (ps.take k)++joinP ps[k]):=by
   show _=_
   rw [List.take_succ_eq_append_getElem hlt]
   unfold joinedL
   rw [List.flatMap_append]
   simp
  have hjl:=HJL.out k
  generalize ps[k]=p at *
  generalize joinedL (ps.take k)=j at *
  have hzp:=strA_size p
  have hil:=itoaL_len p.length (by omega)
  have hbl:(Lib.byteCells j).length=j.length:=by simp [Lib.byteCells]
  have HT2:Hid (Tab wr):=HT.out.below HB.out
  clear hc
  go_wp2_with fail
  refine (itoa_any p.length (by omega) wr HT2.out).mono ?_
  rintro e w1 ⟨rfl,hb1⟩
  have HU1:=hide (builder_below HBU.out hb1)
  have HB1:=hide (HB.out.trans (hb1.mono hwr))
  have hs1:=HB1.out.size
  have hzi:=strA_size (itoaL p.length)
  clear hb1
  go_wp2_with fail
  refine (writeStr_any w.heap.size w.heap.size _ (strA (itoaL p.length)) w1 HU1.out (by rw [hbl,hzi];omega) hs1).mono ?_
  rintro e w2 ⟨rfl,hU2,hb2⟩
  rw [byteCells_app] at hU2
  have HU2:=hide hU2
  have HB2:=hide (HB1.out.trans hb2)
  have hs2:=HB2.out.size
  clear hU2 hb2
  go_wp2_with fail
  refine (writeStr_any w.heap.size w.heap.size _ (strA [58]) w2 (Or.inr HU2.out) (by simp [Lib.byteCells,strA_size];omega) hs2).mono ?_
  rintro e w3 ⟨rfl,hU3,hb3⟩
  rw [byteCells_app] at hU3
  have HU3:=hide hU3
  have HB3:=hide (HB2.out.trans hb3)
  have hs3:=HB3.out.size
  clear hU3 hb3
  go_wp2_with fail
  refine (writeStr_any w.heap.size w.heap.size _ (strA p) w3 (Or.inr HU3.out) (by simp [Lib.byteCells,strA_size];omega) hs3).mono ?_
  rintro e w4 ⟨rfl,hU4,hb4⟩
  rw [byteCells_app] at hU4
  have HU4:=hide hU4
  have HB4:=hide (HB3.out.trans hb4)
  clear hU4 hb4
  go_wp2
  refine ⟨⟨k+1,by omega,by go_num,?_,HB4.out⟩,by simp [intOf];omega⟩
  rw [HTK.out]
  have:=HU4.out
  rw [List.append_assoc,List.append_assoc] at this
  exact Or.inr this
end
end Go.Proofs.YtenahlandohgaaaGreatDoor
