import Derived.Test.YtgnkjijocdmniaaGreatDoorZWTest2
namespace Go.Proofs.YtgnkjijocdmniaaGreatDoor
set_option linter.unusedVariables false
set_option linter.unusedSimpArgs false
set_option maxRecDepth 100000
set_option maxHeartbeats 4000000
open Go.Proofs.Tryz
open Go.RowKit
theorem Qg2(hw:L8)(p g n c:Nat)(ts:List (L8))(w:World)(hn:n=ts.length)(ap:ts≠[])(ae:(Qbg hw ts).length<=4294967280)
 (hc:∀ j,j<ts.length->∃ ty y,w.cell? ⟨g,j,none⟩=some (.iface ty y)/\QiM 198 w (.iface ty y) (ts.getD j [])) :
 Calls Tryz.prog 238 #[.agg #[.string (Qaf hw),.int .i64 p,.slice (some ⟨g,0,none⟩) n c]] w fun e w'=>e=.returned (.string (Qaf (Qbg hw ts)))/\Below w.heap.size w w':=by
 subst hn;obtain⟨i0,hi,az,aA,aB⟩:=info_parts Tryz.infoStr
 have ay:g<w.heap.size:=by
  obtain⟨ty,y,h,_⟩:=hc 0 (List.length_pos_iff.2 ap);exact Qau h
 have hG:Qbg hw ts=hw++[32,40]++Lib.join ts [44,32]++[41]:=by unfold Qbg;rw[QiT]
 have hjl:hw.length+3+(Lib.join ts [44,32]).length<=4294967280:=by
  rw[hG]at ae;simp only[List.length_append,List.length_cons,List.length_nil]at ae;omega
 have hxl:ts.length<=4294967280:=by
  have:=QfV ts;rw[QiT]at this;omega
 have HC:=Qab hc;have HG:=Qab hG;clear hc hG ae;go_enter func238,ntmps238;go_wp2_with fail
 go_loopw [3,5,9] (fun v _ i wr=>∃(k:Nat),k<=ts.length/\i=.int .i64 k/\wr.ownsRow (w.heap.size+1) 9 1 v k (QaN (ts.take k))/\Below (w.heap.size+1) (w.alloc (.cells #[.string (Qaf hw),.int .i64 p,.slice (some ⟨g,0,none⟩) ts.length c] 221)) wr) (fun _ _ i _=>ts.length - (intOf i).toNat)
 case atStart=>
  exact⟨0,Nat.zero_le _,by go_num,World.ownsRow_nil _ _ _ _,Below.refl _ _⟩
 case round=>
  obtain⟨k,hk,rfl,aa,hB⟩:=hrel;have ax:=hB.size;simp at ax;have ag:Below w.heap.size w wr:=((Below.refl _ w).alloc (Nat.le_refl _) _).trans (hB.mono (by omega));by_cases hlt:k<ts.length
  ·obtain⟨ty,y,ao,aj⟩:=HC.o k hlt
   have hck:wr.cell? ⟨g,k,none⟩=some (.iface ty y):=by
    rw[ag.cell (p:=⟨g,k,none⟩) ay];exact ao
   have HS:Hid (ts.take (k+1)=ts.take k++[ts.getD k []]):=by
    show ts.take (k+1)=_
    rw[List.take_add_one,List.getElem?_eq_getElem hlt,List.getD_eq_getElem?_getD,List.getElem?_eq_getElem hlt];rfl
   generalize ts.getD k []=x at HS aj;obtain⟨A,hA⟩:∃ A,ts.take k=A:=⟨_,rfl⟩;rw[hA]at aa HS;have aw:=Qab aj;have av:=Qab aa;have HB:=Qab hB;have HBW:=Qab ag;clear aa hB hA aj ag ao;go_wp2_with fail;refine(aw.o wr HBW.o).mono ?_;rintro e w1 ⟨rfl,hB1⟩;have ab:=QgZ av.o hB1;have ah:Below (w.heap.size+1) _ w1:=HB.o.trans (hB1.mono (by omega));have af:=ah.size;simp at af;have HB1:=Qab hB1;clear hB1;go_wp2_with (at_builtin;refine wpList_append_own _ rfl _ _ 61 rfl (w.heap.size+1) 9 i0 (.string ⟨#[]⟩) 1 16 underlying61 hi az aA aB rfl (by decide) _ _ _ rfl (ab.alloc _) ⟨w1.heap.size,0,none⟩ 1 1 [.string (Qaf x)] rfl rfl ?c1 ?c2 ?c3 ?c4 ?c5 ?_)
   case c1=>
    intro j u hj
    match j,hj with
    |0,hj=>simp at hj;subst hj;simp[Addr.add]
   case c2=>intro u hu;simp at hu;subst hu;rfl
   case c3=>unfold maxLen;omega
   case c4=>omega
   case c5=>simp;omega
   intro v1 w2 ac ad _;have ak:=Below.grown (ah.alloc af (Obj.cells #[.string (Qaf x)] 9)) ad (by simp;omega) (fun k' ai=>(ab.lt k' ai).1);rw[Qci,<-HS.o]at ac;have au:=Qab ac;have aq:=Qab ak;clear ad ab ah ac ak;go_wp2;go_roundw
   case rel=>exact⟨k+1,by omega,by go_num,au.o,aq.o⟩
   case measure=>simp[intOf];omega
  ·have ai:k=ts.length:=by omega
   subst ai;rw[List.take_length]at aa
   have hJ:(Lib.join ((ts.map Qaf).map (·.data.toList)) [44,32])=Lib.join ts [44,32]:=by
    rw[List.map_map];congr 1;rw[show((fun x:ByteArray=>x.data.toList) ∘ Qaf)=id from by funext x;rfl,List.map_id]
   obtain⟨h3,h4 | ⟨g',cap,cur,hv,hg',hh⟩⟩:=aa
   ·exact absurd (List.eq_nil_of_length_eq_zero h4.2) ap
   ·subst hv
    have hcells:∀(j:Nat) x,(ts.map Qaf)[j]?=some x->wr.cell? ⟨g',0+j,none⟩=some (.string x):=fun j x hj=>by
     have:=World.ownsRow.cells (w:=wr) (base:=w.heap.size+1) (e:=9) (size:=1) (v:=.slice (some ⟨g',0,none⟩) ts.length cap) (n:=ts.length) (xs:=QaN ts) ⟨h3,Or.inr ⟨g',cap,cur,rfl,hg',hh⟩⟩ (g:=g') rfl j (.string x) (by
      unfold QaN;rw[List.getElem?_map]at hj ⊢;obtain⟨y,hy,rfl⟩:=Option.map_eq_some_iff.1 hj;rw[hy]
      rfl)
     rw[Qcs]at this;rw[Nat.zero_add];exact this
    have hg'l:g'<wr.heap.size:=QaI hh.1;have hcap:ts.length<=cap:=hh.2.1
    have hM:wr.heap[w.heap.size]?=some (.cells #[.string (Qaf hw),.int .i64 p,.slice (some ⟨g,0,none⟩) ts.length c] 221):=by
     rw[hB.block w.heap.size (by omega)];exact Qat _ _
    have c0:wr.cell? ⟨w.heap.size,0,none⟩=some (.string (Qaf hw)):=Qaa hM 0;have HM:=Qab hM;have HBW:=Qab ag;have HJ:=Qab hJ;have HCE:=Qab hcells;have HLM:Hid (ts.length=(ts.map Qaf).length):=by show ts.length=_;simp
    have hs1:=Qaj hw;have hs2:(Qaf hw++(⟨#[32,40]⟩:ByteArray)).size=hw.length+2:=by rw[show(⟨#[32,40]⟩:ByteArray)=Qaf [32,40]from rfl,QaJ,Qaj];simp
    have ar:Hid (∀ j,j=Lib.join ts [44,32]->(Qaf hw++(⟨#[32,40]⟩:ByteArray)++⟨j.toArray⟩).size=hw.length+2+j.length):=fun j _=>by
     rw[show(⟨#[32,40]⟩:ByteArray)=Qaf [32,40]from rfl,QaJ];show(Qaf (hw++[32,40])++Qaf j).size=hw.length+2+j.length
     rw[QaJ,Qaj];simp only[List.length_append,List.length_cons,List.length_nil]
    clear hh h3 hB hcells hJ hM ag;generalize hJJ:Lib.join ts [44,32]=J at *;have hs3:=ar.o J rfl;have hs4:(ByteArray.mk J.toArray).size=J.length:=rfl;go_wp2_with fail
    go_region_with (first
     | (go_at_call 98;rw [HLM.o];refine (Tryz.strings_Join g' 0 cap (ts.map Qaf) ⟨#[44,32]⟩ wr.drew HCE.o hg'l (by rw [← HLM.o];omega) (by rw [← HLM.o];exact hcap) (by rw [show (ByteArray.mk #[44,32]).data.toList=[44,32] from rfl,HJ.o];omega)).mono ?_;rintro e w1 ⟨rfl,hB1⟩;rw [show (ByteArray.mk #[44,32]).data.toList=[44,32] from rfl,HJ.o];have HB1:=Qab (HBW.o.drew.trans (hB1.mono (by show w.heap.size≤wr.heap.size;omega)));have d0:w1.cell? ⟨w.heap.size,0,none⟩=some (.string (Qaf hw)):=Qaa (Qal (w:=wr.drew) HM.o hB1) 0;clear hB1;skip))
    all_goals go_wp2
    all_goals go_ret
    all_goals refine⟨?_,HB1.o⟩
    all_goals (rw[HG.o];show Ending.returned (Value.string (Qaf hw++Qaf [32,40]++Qaf J++Qaf [41]))=_;rw[QaJ,QaJ,QaJ])
end Go.Proofs.YtgnkjijocdmniaaGreatDoor
