import Derived.Laws.StructEq
import Derived.Test.YtbiclelojbfnbabGreatDoorAIsBox
import Derived.Test.YtbiclelojbfnbabGreatDoorSMatch
import Derived.Test.YtbiclelojbfnbabGreatDoorShelf
namespace Go.Proofs.YtbiclelojbfnbabGreatDoor
set_option linter.unusedVariables false
set_option linter.unusedSimpArgs false
set_option maxRecDepth 100000
set_option maxHeartbeats 4000000
section
open Go.RowKit
attribute [local go_sem ↓] Go.wp_at_zero Go.wp_at_succ
theorem WayV.below {w w':World} {tag:Int} {oct:Bool} {wv:Value} (h:WayV w tag oct wv) (hb:Below w.heap.size w w'):WayV w' tag oct wv:=by
 have k:∀ (p:Nat) (v:Value),w.cell? ⟨p,0,none⟩=some v→w'.cell? ⟨p,0,none⟩=some v:=fun p v hp=>(hb.cell (p:=⟨p,0,none⟩) (Qay hp)).trans hp
 rcases h with ⟨h1,p,h2,h3⟩ | ⟨p,q,h1,h2,⟨h3,h4⟩ | ⟨h3,h4⟩⟩
 ·exact Or.inl ⟨h1,p,h2,k _ _ h3⟩
 ·exact Or.inr ⟨p,q,h1,k _ _ h2,Or.inl ⟨h3,k _ _ h4⟩⟩
 ·exact Or.inr ⟨p,q,h1,k _ _ h2,Or.inr ⟨h3,k _ _ h4⟩⟩
theorem WayV.fn {w:World} {tag:Int} {oct:Bool} {wv:Value} (h:WayV w tag oct wv):∃ F b,wv=.func (.func F) #[] b:=by
 rcases h with ⟨h1,p,h2,h3⟩ | ⟨p,q,h1,_⟩
 ·exact ⟨_,_,h2⟩
 ·exact ⟨_,_,h1⟩
theorem Qmi (tag:Int) (oct:Bool) (B sb:Nat) (M:Msg) (s:SS) (xs keys:List (List UInt8)) (wv xv kv:Value) (w:World) (hw:WayV w tag oct wv)
 (h:SAt w B sb M s) (hxv:SlT w xv xs) (hkv:SlT w kv keys) (hxl:∀ z∈xs,z.length≤100000) (hkl:∀ z∈keys,z.length≤100000) (hxn:xs.length≤1000000) (hkn:keys.length≤1000000) :
 Calls Tryz.prog 131 #[.pointer (some ⟨sb,0,none⟩),wv,xv,kv] w (Qgr (askL s tag oct (xs.map (expL s)) keys) B sb M w):=by
 have HS:=Qaa h
 have HW:=Qaa hw
 have HKV:=Qaa hkv
 clear hw hkv
 go_enter Tryz.func131,Tryz.ntmps131
 go_wp2_with fail
 refine (QeK B sb M s xs _ w h hxv (fun z hz=>Nat.le_trans (hxl z hz) (by decide)) hxn).mono ?_
 rintro e w1 ⟨v1,rfl,ho1,hb1⟩
 have HT:=Qaa (SlT.of_owns ho1 (by simp))
 have HB1:=Qaa hb1
 clear ho1 hb1 h
 go_wp2_with fail
 refine (Qfy tag oct B sb M s (xs.map (expL s)) keys wv v1 kv w1 (HW.out.below HB1.out) (HS.out.below HB1.out) HT.out (HKV.out.below HB1.out) (Qf3 s xs _ hxl (by decide)) hkl (by simp;omega) hkn).mono ?_
 rintro e w2 ⟨rfl,hs2,hf2⟩
 have H2:=Qaa hs2
 have HF2:=Qaa hf2
 clear hs2 hf2
 go_wp2
 go_ret
 exact ⟨rfl,H2.out,(Fr.of_below HB1.out).trans HF2.out⟩
theorem QgU {α β:Type} (f:α→List β) (l:List α) (k:Nat) (h:k < l.length):(l.take (k+1)).flatMap f=(l.take k).flatMap f++f l[k]:=by
 rw [List.take_succ_eq_append_getElem h,List.flatMap_append];simp
theorem QhO {α β:Type} (f:α→List β) (l:List α) (n:Nat) (h:∀ a∈l,(f a).length≤n):(l.flatMap f).length≤l.length*n:=by
 induction l with
 | nil=>simp
 | cons a r ih=>
  rw [List.flatMap_cons,List.length_append,List.length_cons,Nat.succ_mul]
  have h1:=h a (by simp)
  have h2:=ih (fun b hb=>h b (by simp [hb]))
  omega
theorem Qso (M:Msg) (ps:List (List UInt8)):(QhE M ps).length≤ps.length:=by
 have:=QhO (fun p=>if smallL p=[102,114,111,109] then [M.fr] else if smallL p=[116,111] then [M.to] else []) ps 1 (fun a _=>by split <;> (try split) <;> simp)
 unfold QhE
 omega
theorem QrH {M:Msg} {s:SS} (b:SBd M s) (ps:List (List UInt8)):∀ z∈QhE M ps,z.length≤100000:=by
 intro z hz
 unfold QhE at hz
 obtain ⟨p,_,hp⟩:=List.mem_flatMap.1 hz
 split at hp
 ·simp at hp;rw [hp];exact b.fr
 ·split at hp
  ·simp at hp;rw [hp];exact b.to
  ·cases hp
theorem Qlh (tag:Int) (oct:Bool) (B sb:Nat) (M:Msg) (s:SS) (ps keys:List (List UInt8)) (wv xv kv:Value) (w:World) (hw:WayV w tag oct wv)
 (h:SAt w B sb M s) (hxv:SlT w xv ps) (hkv:SlT w kv keys) (hxl:∀ z∈ps,z.length≤100000) (hkl:∀ z∈keys,z.length≤100000) (hxn:ps.length≤1000000) (hkn:keys.length≤1000000) :
 Calls Tryz.prog 130 #[.pointer (some ⟨sb,0,none⟩),wv,xv,kv] w (Qgr (askL s tag oct (QhE M ps) keys) B sb M w):=by
 obtain ⟨va,vc,hvv'⟩:=hxv.len
 subst hvv'
 have HXV:=Qaa hxv
 have HS:=Qaa h
 have HW:=Qaa hw
 have HKV:=Qaa hkv
 obtain ⟨hv,mb,tv,mv,hSI⟩:=h
 have hsl:=hSI.lt
 have c0:w.cell? ⟨sb,0,none⟩=some (.string (Qag M.fr)):=hSI.cell 0
 have c1:w.cell? ⟨sb,1,none⟩=some (.string (Qag M.to)):=hSI.cell 1
 have HBD:=Qaa hSI.bd
 obtain ⟨i0,hi,hz0,hz1,hz2⟩:=info_parts Tryz.infoStr
 clear hw hkv hxv hSI
 go_enter Tryz.func130,Tryz.ntmps130
 go_wp2_with fail
 go_loopw [9,11,14] (fun v _ i wr=>∃ (k:Nat),k≤ps.length∧i=.int .i64 (k:Int)∧wr.ownsRow w.heap.size 9 1 v (QhE M (ps.take k)).length (QaV (QhE M (ps.take k)))∧Below w.heap.size w wr) (fun _ _ i _=>ps.length - (intOf i).toNat)
 case atStart=>exact ⟨0,Nat.zero_le _,rfl,World.ownsRow_nil _ _ _ _,Below.refl _ _⟩
 case round=>
  obtain ⟨k,hk,rfl,hown,hB⟩:=hrel
  have hwr:w.heap.size≤wr.heap.size:=hB.size
  have hel:=Qso M (ps.take k)
  have hel2:(QhE M (ps.take k)).length≤1000000:=by have:(ps.take k).length≤k:=List.length_take_le _ _;omega
  obtain ⟨va2,vc2,hvv2⟩:=QaN hown
  subst hvv2
  have HB:=Qaa hB
  have HOW:=Qaa hown
  clear hB hown hel
  have d0:wr.cell? ⟨sb,0,none⟩=some (.string (Qag M.fr)):=(HB.out.cell (p:=⟨sb,0,none⟩) hsl).trans c0
  have d1:wr.cell? ⟨sb,1,none⟩=some (.string (Qag M.to)):=(HB.out.cell (p:=⟨sb,1,none⟩) hsl).trans c1
  by_cases hlt:k < ps.length
  rotate_left
  ·have hke:k=ps.length:=by omega
   subst hke
   have hk':¬ (ps.length:Int) < (ps.length:Int):=by omega
   have HE:Hid (QhE M (ps.take ps.length)=QhE M ps):=by show _=_;rw [List.take_of_length_le (Nat.le_refl _)]
   go_wp2_with fail
   refine (Qfy tag oct B sb M s (QhE M ps) keys wv _ kv wr (HW.out.below HB.out) (HS.out.below HB.out) (SlT.of_owns (by have:=HOW.out;rw [HE.out] at this;exact this) rfl) (HKV.out.below HB.out) (QrH HBD.out ps) hkl (by rw [← HE.out];omega) hkn).mono ?_
   rintro e w2 ⟨rfl,hs2,hf2⟩
   have H2:=Qaa hs2
   have HF2:=Qaa hf2
   clear hs2 hf2
   go_wp2
   go_ret
   exact ⟨rfl,H2.out,(Fr.of_below HB.out).trans HF2.out⟩
  have hk':(k:Int) < (ps.length:Int):=by omega
  obtain ⟨g,hla,hgl,hc1⟩:=HXV.out.get' k hlt
  subst hla
  have e1:wr.cell? ⟨g,k,none⟩=some (.string (Qag ps[k])):=by rw [HB.out.cell (p:=⟨g,k,none⟩) hgl];exact hc1
  have hpl:=hxl _ (List.getElem_mem hlt)
  have HN:Hid (QhE M (ps.take (k+1))=QhE M (ps.take k)++(if smallL ps[k]=[102,114,111,109] then [M.fr] else if smallL ps[k]=[116,111] then [M.to] else [])):=QgU _ ps k hlt
  have ef:=Qc1 (smallL ps[k]) [102,114,111,109]
  have et:=Qc1 (smallL ps[k]) [116,111]
  have HC:=Qaa (QdZ ps[k] wr (by omega))
  generalize ps[k]=p at *
  generalize smallL p=q at *
  have sw:sb < wr.heap.size:=by omega
  clear hc1
  by_cases hf:q=[102,114,111,109]
  ·rw [decide_eq_true hf] at ef
   have HN':Hid (QhE M (ps.take (k+1))=QhE M (ps.take k)++[M.fr]):=by show _=_;rw [HN.out,if_pos hf]
   clear hf et
   go_wp2_with (first | (go_at_call 163;refine HC.out.mono ?_;rintro e w1 ⟨rfl,hb1⟩;have HB1:=Qaa (HB.out.trans (hb1.mono hwr));have HO1:=Qaa (Qa8 (P:=fun _ _=>False) HOW.out (Fr.of_below hb1) (fun _ _ h=>h));have f0:w1.cell? ⟨sb,0,none⟩=some (.string (Qag M.fr)):=(hb1.cell (p:=⟨sb,0,none⟩) sw).trans d0;clear hb1) | (at_builtin;refine wpList_append_own _ rfl _ _ 89 rfl w.heap.size 9 i0 _ 1 16 Tryz.underlying89 hi hz0 hz1 hz2 rfl (by decide) _ _ _ rfl (HO1.out.alloc _) ⟨w1.heap.size,0,none⟩ 1 1 [.string (Qag M.fr)] rfl rfl (cell_one_new _ _ _) (QkN _) (by unfold maxLen;omega) (by omega) (by have:=HB1.out.size;simp;omega) ?_;intro v5 w5 ho5 hg5 _;have HB5:=Qaa (QbE HB1.out HB1.out.size hg5 (fun k hk=>(HO1.out.lt k hk).1));have HO5:=Qaa ho5;clear ho5 hg5))
   go_roundw
   case rel=>
    refine ⟨k+1,by omega,by go_num,?_,HB5.out⟩
    rw [HN'.out,← Qcx,List.length_append]
    exact HO5.out
   case measure=>simp [intOf];omega
  rw [decide_eq_false hf] at ef
  by_cases ht:q=[116,111]
  ·rw [decide_eq_true ht] at et
   have HN':Hid (QhE M (ps.take (k+1))=QhE M (ps.take k)++[M.to]):=by show _=_;rw [HN.out,if_neg hf,if_pos ht]
   clear hf ht
   go_wp2_with (first | (go_at_call 163;refine HC.out.mono ?_;rintro e w1 ⟨rfl,hb1⟩;have HB1:=Qaa (HB.out.trans (hb1.mono hwr));have HO1:=Qaa (Qa8 (P:=fun _ _=>False) HOW.out (Fr.of_below hb1) (fun _ _ h=>h));have f1:w1.cell? ⟨sb,1,none⟩=some (.string (Qag M.to)):=(hb1.cell (p:=⟨sb,1,none⟩) sw).trans d1;clear hb1) | (at_builtin;refine wpList_append_own _ rfl _ _ 89 rfl w.heap.size 9 i0 _ 1 16 Tryz.underlying89 hi hz0 hz1 hz2 rfl (by decide) _ _ _ rfl (HO1.out.alloc _) ⟨w1.heap.size,0,none⟩ 1 1 [.string (Qag M.to)] rfl rfl (cell_one_new _ _ _) (QkN _) (by unfold maxLen;omega) (by omega) (by have:=HB1.out.size;simp;omega) ?_;intro v5 w5 ho5 hg5 _;have HB5:=Qaa (QbE HB1.out HB1.out.size hg5 (fun k hk=>(HO1.out.lt k hk).1));have HO5:=Qaa ho5;clear ho5 hg5))
   go_roundw
   case rel=>
    refine ⟨k+1,by omega,by go_num,?_,HB5.out⟩
    rw [HN'.out,← Qcx,List.length_append]
    exact HO5.out
   case measure=>simp [intOf];omega
  ·rw [decide_eq_false ht] at et
   have HN':Hid (QhE M (ps.take (k+1))=QhE M (ps.take k)):=by show _=_;rw [HN.out,if_neg hf,if_neg ht,List.append_nil]
   clear hf ht
   go_wp2_with (first | (go_at_call 163;refine HC.out.mono ?_;rintro e w1 ⟨rfl,hb1⟩;have HB1:=Qaa (HB.out.trans (hb1.mono hwr));have HO1:=Qaa (Qa8 (P:=fun _ _=>False) HOW.out (Fr.of_below hb1) (fun _ _ h=>h));clear hb1))
   go_roundw
   case rel=>
    refine ⟨k+1,by omega,by go_num,?_,HB1.out⟩
    rw [HN'.out]
    exact HO1.out
   case measure=>simp [intOf];omega
theorem QmE (p:List UInt8×List UInt8→Bool) (hs:List (List UInt8×List UInt8)) (b:Nat) (h:b < hs.length):((hs.take (b+1)).filter p).map (·.2)=((hs.take b).filter p).map (·.2)++(if p hs[b] then [hs[b].2] else []):=by
 rw [List.take_succ_eq_append_getElem h,List.filter_append,List.map_append]
 by_cases hp:p hs[b]=true <;> simp [hp]
theorem Qns (M:Msg) (ns:List (List UInt8)):(fieldsL M ns).length≤ns.length*M.hdrs.length:=by
 unfold fieldsL
 exact QhO _ ns _ (fun a _=>by rw [List.length_map];exact List.length_filter_le _ _)
theorem QmY {M:Msg} {s:SS} (b:SBd M s) (ns:List (List UInt8)):∀ z∈fieldsL M ns,z.length≤100000:=by
 intro z hz
 unfold fieldsL at hz
 obtain ⟨n,_,hn⟩:=List.mem_flatMap.1 hz
 obtain ⟨h,hh,rfl⟩:=List.mem_map.1 hn
 exact (b.hd h (List.mem_filter.1 hh).1).2
theorem Qhw (w:World) (a b:Value) (t:TypeId):(w.alloc (.cells #[a,b] t)).cell? ⟨w.heap.size,0,none⟩=some a∧(w.alloc (.cells #[a,b] t)).cell? ⟨w.heap.size,1,none⟩=some b:=by
 constructor <;> rw [Qab (QaB w _)] <;> rfl
theorem Qo1 (tag:Int) (oct:Bool) (B sb:Nat) (M:Msg) (s:SS) (xs keys:List (List UInt8)) (wv xv kv:Value) (w:World) (hw:WayV w tag oct wv)
 (h:SAt w B sb M s) (hxv:SlT w xv xs) (hkv:SlT w kv keys) (hxl:∀ z∈xs,z.length≤100000) (hkl:∀ z∈keys,z.length≤100000) (hxn:xs.length≤1000000) (hkn:keys.length≤1000000) :
 Calls Tryz.prog 129 #[.pointer (some ⟨sb,0,none⟩),wv,xv,kv] w (Qgr (askL s tag oct (fieldsL M (xs.map (expL s))) keys) B sb M w):=by
 have HS:=Qaa h
 have HW:=Qaa hw
 have HKV:=Qaa hkv
 obtain ⟨hv,mb,tv,mv,hSI⟩:=h
 have hsl:=hSI.lt
 obtain ⟨ha,hc,hhv⟩:=hSI.hd.len
 subst hhv
 have HHD:=Qaa hSI.hd
 have c3:w.cell? ⟨sb,3,none⟩=some (.slice ha M.hdrs.length hc):=hSI.cell 3
 have HBD:=Qaa hSI.bd
 have hhl:=hSI.bd.hl
 obtain ⟨i0,hi,hz0,hz1,hz2⟩:=info_parts Tryz.infoStr
 clear hw hkv hSI
 go_enter Tryz.func129,Tryz.ntmps129
 go_wp2_with fail
 refine (QeK B sb M s xs _ w HS.out hxv (fun z hz=>Nat.le_trans (hxl z hz) (by decide)) hxn).mono ?_
 rintro e w1 ⟨v1,rfl,ho1,hb1⟩
 have HT:=Qaa (SlT.of_owns ho1 (by simp))
 have HB1:=Qaa hb1
 obtain ⟨ta,tc,htv⟩:=QaN ho1
 subst htv
 have hyl:∀ y∈xs.map (expL s),y.length≤100000:=Qf3 s xs _ hxl (by decide)
 have hzl:xs.length=(xs.map (expL s)).length:=by simp
 obtain ⟨ns,hns⟩:∃ ns,xs.map (expL s)=ns:=⟨_,rfl⟩
 have HNS:=Qaa hns
 have HYL:=Qaa hyl
 rw [hns] at HT HYL hzl
 rw [hzl] at hxn HT
 rw [hzl]
 have c31:w1.cell? ⟨sb,3,none⟩=some (.slice ha M.hdrs.length hc):=(hb1.cell (p:=⟨sb,3,none⟩) hsl).trans c3
 have hsl1:sb < w1.heap.size:=Nat.lt_of_lt_of_le hsl hb1.size
 clear ho1 hyl hzl hb1 hxv hxl hns c3
 go_wp2_with fail
 go_loopw [9,11,13,18] (fun v _ _ i wr=>∃ (a:Nat),a≤ns.length∧i=.int .i64 (a:Int)∧wr.ownsRow w1.heap.size 9 1 v (fieldsL M (ns.take a)).length (QaV (fieldsL M (ns.take a)))∧Below w.heap.size w wr∧Below w1.heap.size w1 wr) (fun _ _ _ i _=>ns.length - (intOf i).toNat)
 case atStart=>exact ⟨0,Nat.zero_le _,rfl,World.ownsRow_nil _ _ _ _,HB1.out,Below.refl _ _⟩
 case round=>
  obtain ⟨a,hale,rfl,hown,hB,hBB⟩:=hrel
  have hwr:w.heap.size≤wr.heap.size:=hB.size
  have hfl:=Qns M (ns.take a)
  have hfl2:(fieldsL M (ns.take a)).length≤a*100000:=by
   have h1:(ns.take a).length≤a:=List.length_take_le _ _
   exact Nat.le_trans hfl (Nat.mul_le_mul h1 hhl)
  obtain ⟨va2,vc2,hvv2⟩:=QaN hown
  subst hvv2
  have HB:=Qaa hB
  have HBB:=Qaa hBB
  have HOW:=Qaa hown
  have d3:wr.cell? ⟨sb,3,none⟩=some (.slice ha M.hdrs.length hc):=(hBB.cell (p:=⟨sb,3,none⟩) hsl1).trans c31
  clear hB hBB hown hfl
  by_cases hlt:a < ns.length
  rotate_left
  ·have hke:a=ns.length:=by omega
   subst hke
   have hk':¬ (ns.length:Int) < (ns.length:Int):=by omega
   have HE:Hid (fieldsL M (ns.take ns.length)=fieldsL M ns):=by show _=_;rw [List.take_of_length_le (Nat.le_refl _)]
   have hfl3:(fieldsL M (ns.take ns.length)).length≤1000000000000:=by omega
   go_wp2_with fail
   refine (Qfy tag oct B sb M s (fieldsL M ns) keys wv _ kv wr (HW.out.below HB.out) (HS.out.below HB.out) (SlT.of_owns (by have:=HOW.out;rw [HE.out] at this;exact this) rfl) (HKV.out.below HB.out) (QmY HBD.out ns) hkl (by rw [← HE.out];exact hfl3) hkn).mono ?_
   rintro e w2 ⟨rfl,hs2,hf2⟩
   have H2:=Qaa hs2
   have HF2:=Qaa hf2
   clear hs2 hf2
   go_wp2
   go_ret
   rw [HNS.out]
   exact ⟨rfl,H2.out,(Fr.of_below HB.out).trans HF2.out⟩
  have hk':(a:Int) < (ns.length:Int):=by omega
  obtain ⟨g,hla,hgl,hc1⟩:=HT.out.get' a hlt
  subst hla
  have e1:wr.cell? ⟨g,a,none⟩=some (.string (Qag ns[a])):=by rw [HBB.out.cell (p:=⟨g,a,none⟩) hgl];exact hc1
  have hpl:=HYL.out _ (List.getElem_mem hlt)
  have HN:Hid (fieldsL M (ns.take (a+1))=fieldsL M (ns.take a)++(M.hdrs.filter (Qb6 · ns[a])).map (·.2)):=QgU _ ns a hlt
  obtain ⟨n,hn⟩:∃ n,ns[a]=n:=⟨_,rfl⟩
  rw [hn] at e1 hpl HN
  obtain ⟨T,hT⟩:∃ T,fieldsL M (ns.take a)=T:=⟨_,rfl⟩
  rw [hT] at HN HOW hfl2
  clear hc1 hn
  rw [hT]
  clear hT
  go_wp2_with fail
  go_loopw [9,13,28] (fun v _ i wr=>∃ (b:Nat),b≤M.hdrs.length∧i=.int .i64 (b:Int)∧wr.ownsRow w1.heap.size 9 1 v (T++((M.hdrs.take b).filter (Qb6 · n)).map (·.2)).length (QaV (T++((M.hdrs.take b).filter (Qb6 · n)).map (·.2)))∧Below w.heap.size w wr∧Below w1.heap.size w1 wr) (fun _ _ i _=>M.hdrs.length - (intOf i).toNat)
  case atStart=>exact ⟨0,Nat.zero_le _,rfl,by simpa using HOW.out,HB.out,HBB.out⟩
  case round=>
   obtain ⟨b,hb,rfl,hown2,hB2,hBB2⟩:=hrel
   have hwr2:w.heap.size≤wr.heap.size:=hB2.size
   have hql:(T++((M.hdrs.take b).filter (Qb6 · n)).map (·.2)).length≤a*100000+100000:=by
    rw [List.length_append,List.length_map]
    have h1:=List.length_filter_le (Qb6 · n) (M.hdrs.take b)
    have h2:(M.hdrs.take b).length≤b:=List.length_take_le _ _
    omega
   obtain ⟨Q,hQ⟩:∃ Q,T++((M.hdrs.take b).filter (Qb6 · n)).map (·.2)=Q:=⟨_,rfl⟩
   have HQQ:=Qaa hQ
   rw [hQ] at hown2 hql
   clear hQ
   obtain ⟨va3,vc3,hvv3⟩:=QaN hown2
   subst hvv3
   have HB2:=Qaa hB2
   have HBB2:=Qaa hBB2
   have HO2:=Qaa hown2
   clear hB2 hBB2 hown2
   by_cases hbl:b < M.hdrs.length
   rotate_left
   ·have hke:b=M.hdrs.length:=by omega
    subst hke
    have hj':¬ (M.hdrs.length:Int) < (M.hdrs.length:Int):=by omega
    go_wp2
    refine ⟨⟨a+1,by omega,by go_num,?_,HB2.out,HBB2.out⟩,by simp [intOf];omega⟩
    have:=HQQ.out
    rw [List.take_of_length_le (Nat.le_refl _)] at this
    rw [HN.out,this]
    exact HO2.out
   have hj':(b:Int) < (M.hdrs.length:Int):=by omega
   obtain ⟨g2,hla2,hgl2,hc2,hc3⟩:=HHD.out.get' b hbl
   subst hla2
   have f1:wr.cell? ⟨g2,b*2,none⟩=some (.string (Qag M.hdrs[b].1)):=by rw [HB2.out.cell (p:=⟨g2,b*2,none⟩) hgl2];exact hc2
   have f2:wr.cell? ⟨g2,b*2+1,none⟩=some (.string (Qag M.hdrs[b].2)):=by rw [HB2.out.cell (p:=⟨g2,b*2+1,none⟩) hgl2];exact hc3
   have hhb:=(HBD.out.hd _ (List.getElem_mem hbl)).1
   have HF:=Qaa (QmE (Qb6 · n) M.hdrs b hbl)
   generalize M.hdrs[b]=hd at *
   obtain ⟨hn1,hn2⟩:=hd
   dsimp only at f1 f2 hhb HF
   have HC:=Qaa (QlQ (hn1,hn2) n)
   clear hc2 hc3
   cases hnm:Qb6 (hn1,hn2) n
   ·rw [hnm] at HF HC
    go_wp2_with (first | (go_at_call 185;refine (HC.out _ (by show hn1.length≤_;omega) (by omega)).mono ?_;rintro e w3 ⟨rfl,hb3⟩;have HB3:=Qaa ((HB2.out.alloc hwr2 _).trans (hb3.mono (by simp;omega)));have HBB3:=Qaa ((HBB2.out.alloc HBB2.out.size _).trans (hb3.mono (by have:=HBB2.out.size;simp;omega)));have HO3:=Qaa (Qa8 (P:=fun _ _=>False) (HO2.out.alloc _) (Fr.of_below hb3) (fun _ _ h=>h));clear hb3))
    refine ⟨⟨b+1,by omega,by go_num,?_,HB3.out,HBB3.out⟩,by simp [intOf];omega⟩
    rw [HF.out,if_neg (by decide),List.append_nil,HQQ.out]
    exact HO3.out
   ·rw [hnm] at HF HC
    have HQ:Hid (∀ l:List (List UInt8),l.length≤a*100000+100000→l.length+1≤maxLen∧(l.length+1)*16≤140737488355328):=fun l hl=>by unfold maxLen;omega
    go_wp2_with (first | (go_at_call 185;refine (HC.out _ (by show hn1.length≤_;omega) (by omega)).mono ?_;rintro e w3 ⟨rfl,hb3⟩;have HB3:=Qaa ((HB2.out.alloc hwr2 _).trans (hb3.mono (by simp;omega)));have HBB3:=Qaa ((HBB2.out.alloc HBB2.out.size _).trans (hb3.mono (by have:=HBB2.out.size;simp;omega)));have HO3:=Qaa (Qa8 (P:=fun _ _=>False) (HO2.out.alloc _) (Fr.of_below hb3) (fun _ _ h=>h));have q1:w3.cell? ⟨wr.heap.size,1,none⟩=some (.string (Qag hn2)):=(hb3.cell (p:=⟨wr.heap.size,1,none⟩) (by simp)).trans (Qhw _ _ _ _).2;clear hb3) | (at_builtin;refine wpList_append_own _ rfl _ _ 89 rfl w1.heap.size 9 i0 _ 1 16 Tryz.underlying89 hi hz0 hz1 hz2 rfl (by decide) _ _ _ rfl (HO3.out.alloc _) ⟨w3.heap.size,0,none⟩ 1 1 [.string (Qag hn2)] rfl rfl (cell_one_new _ _ _) (QkN _) (HQ.out _ hql).1 (HQ.out _ hql).2 (by have:=HBB3.out.size;simp;omega) ?_;intro v5 w5 ho5 hg5 _;have HB5:=Qaa (QbE HB3.out HB3.out.size hg5 (fun k hk=>Nat.le_trans HB1.out.size (HO3.out.lt k hk).1));have HBB5:=Qaa (QbE HBB3.out HBB3.out.size hg5 (fun k hk=>(HO3.out.lt k hk).1));have HO5:=Qaa ho5;clear ho5 hg5))
    refine ⟨⟨b+1,by omega,by go_num,?_,HB5.out,HBB5.out⟩,by simp [intOf];omega⟩
    rw [HF.out,if_pos trivial,← List.append_assoc,HQQ.out,← Qcx,List.length_append]
    exact HO5.out
end
section
open Go.RowKit
theorem QtN (s:ByteArray) (h:0 < s.size):s.data.toList.getLast?=some (s[s.size - 1]'(by omega)):=by
 rw [List.getLast?_eq_getElem?]
 have:s.data.toList.length=s.size:=by simp
 rw [this,List.getElem?_eq_getElem (by omega)]
 rfl
theorem QfP (s:ByteArray) (w:World) (hs:s.size≤1000000) :
 Calls Tryz.prog 248 #[.string s] w fun e w'=>e=.returned (.bool (Qcc s.data.toList))∧w'=w:=by
 have hlen:s.data.toList.length=s.size:=by simp
 by_cases h3:s.size < 3
 ·have hr:Qcc s.data.toList=false:=by unfold Qcc;rw [decide_eq_false (by omega)];rfl
  have HR:=Qaa hr
  have h3':(s.size:Int) < 3:=by omega
  clear hr hlen
  go_enter Tryz.func248,Tryz.ntmps248
  go_wp2
  go_ret
  exact ⟨QaU HR.out.symm,rfl⟩
 have h3':¬ (s.size:Int) < 3:=by omega
 by_cases h32:32 < s.size
 ·have hr:Qcc s.data.toList=false:=by unfold Qcc;rw [decide_eq_true (by omega),decide_eq_false (by omega)];rfl
  have HR:=Qaa hr
  have h32':(32:Int) < (s.size:Int):=by omega
  clear hr hlen
  go_enter Tryz.func248,Tryz.ntmps248
  go_wp2
  go_ret
  exact ⟨QaU HR.out.symm,rfl⟩
 have h32':¬ (32:Int) < (s.size:Int):=by omega
 have HC:Hid (∀ W,Calls Tryz.prog 271 #[.string s,.string ⟨#[64]⟩] W fun e w'=>e=.returned (.int .i64 (Lib.countByte s.data.toList 64))∧w'=W):=fun W=>Tryz.strings_Count_one s 64 W
 obtain ⟨n,hn⟩:∃ n,s.data.toList.count 64=n:=⟨_,rfl⟩
 rw [show Lib.countByte s.data.toList 64=n from hn] at HC
 by_cases h1:n=1
 rotate_left
 ·have hr:Qcc s.data.toList=false:=by unfold Qcc;rw [decide_eq_true (by omega),decide_eq_true (by omega),hn,decide_eq_false h1];rfl
  have HR:=Qaa hr
  have h1':((n:Int) != 1)=true:=by simp;omega
  clear hr hlen hn
  go_enter Tryz.func248,Tryz.ntmps248
  go_wp2_with (go_at_call 271;refine (HC.out _).mono ?_;rintro e w' ⟨rfl,rfl⟩)
  go_ret
  exact ⟨QaU HR.out.symm,rfl⟩
 subst h1
 have hpos:0 < s.size:=by omega
 have hr:Qcc s.data.toList=((s.data.toList.drop 0).all (fun c=>!Qbb c.toNat) && (!(s[0] == 64) && !(s[s.size - 1] == 64))):=by
  unfold Qcc;rw [decide_eq_true (by omega),decide_eq_true (by omega),hn,Qm8 s hpos,QtN s hpos]
  rfl
 have HR:=Qaa hr
 clear hr hn
 go_enter Tryz.func248,Tryz.ntmps248
 go_wp2_with (go_at_call 271;refine (HC.out _).mono ?_;rintro e w' ⟨rfl,rfl⟩)
 go_loop [19] (fun i=>∃ k:Nat,k≤s.size∧i=.int .i64 k∧(s.data.toList.drop 0).all (fun c=>!Qbb c.toNat)=(s.data.toList.drop k).all (fun c=>!Qbb c.toNat)) (fun i=>s.size - (intOf i).toNat)
 case atStart=>exact ⟨0,by omega,rfl,rfl⟩
 case round=>
  obtain ⟨k,hk,rfl,hn⟩:=hrel
  have HN:=Qaa hn
  clear hn
  by_cases hlt:k < s.size
  rotate_left
  ·have HS:=Qaa (QrA s (fun c=>!Qbb c.toNat) k (by omega))
   have e0:((s[0].toNat:Int) != 64)=!(s[0] == 64):=by rw [bne,show ((s[0].toNat:Int) == 64)=decide (s[0]=64) from QeP s[0] 64];by_cases h:s[0]=64 <;> simp [h]
   have e1:((s[s.size - 1].toNat:Int) != 64)=!(s[s.size - 1] == 64):=by rw [bne,show ((s[s.size - 1].toNat:Int) == 64)=decide (s[s.size - 1]=64) from QeP _ 64];by_cases h:s[s.size - 1]=64 <;> simp [h]
   have hk':¬ (k:Int) < (s.size:Int):=by omega
   generalize (s[0] == 64)=b0 at *
   generalize (s[s.size - 1] == 64)=b1 at *
   have hm1:(s.size:Int) - 1=((s.size - 1:Nat):Int):=by omega
   have hm2:((s.size - 1:Nat):Int) < (s.size:Int):=by omega
   cases b0 <;> cases b1 <;>
   (go_wp2
    go_ret
    exact ⟨QaU (by rw [HR.out,HN.out,HS.out];rfl),rfl⟩)
  have HS:=Qaa (QsW s (fun c=>!Qbb c.toNat) k hlt)
  cases hc:Qbb (s[k].toNat:Int)
  ·go_wp2_with (go_at_call 214;refine (Qcw _ _).mono ?_;rintro e w' ⟨rfl,rfl⟩)
   go_round
   case rel=>exact ⟨k+1,by omega,by go_num,by rw [HN.out,HS.out,hc];rfl⟩
   case measure=>simp [intOf];omega
  ·go_wp2_with (go_at_call 214;refine (Qcw _ _).mono ?_;rintro e w' ⟨rfl,rfl⟩)
   go_ret
   exact ⟨QaU (by rw [HR.out,HN.out,HS.out,hc];rfl),rfl⟩
end
section
open Go.RowKit
attribute [local go_sem ↓] Go.wp_at_zero Go.wp_at_succ
theorem Tryz.infoAction:(Tryz.prog.info? 34).map (fun i=>(i.zero,i.size,i.bytes))=some (some (.agg #[.int .i64 0,.string ⟨#[]⟩]),2,24):=by kernel_rfl
theorem QsL (a b:Int×List UInt8) (W:World):(binOp .eql 34 (.agg #[.int .i64 a.1,.string (Qag a.2)]) (.agg #[.int .i64 b.1,.string (Qag b.2)])).run Tryz.prog W=.ok (.bool (decide (a=b))) W:=by
 have e1:((Qag a.2).toList == (Qag b.2).toList)=decide (a.2=b.2):=Qn8 a.2 b.2
 have hf:Tryz.prog.underlying 34=some (.struct (Tryz.prog.fieldsOf 34)):=by kernel_rfl
 have hs:Tryz.prog.stoodInHeld 34=false:=by kernel_rfl
 have hl:(Tryz.prog.fieldsOf 34).toList=[⟨ "Kind",3,0,false, "", "",0⟩,⟨ "Arg",9,1,false, "", "",8⟩]:=by kernel_rfl
 rw [run_eql_struct,run_equalIn_struct W _ _ _ _ hf hs,hl]
 simp [Op.eqFields,go_sem,Result.andThen,e1]
 obtain ⟨x,y⟩:=a
 obtain ⟨z,u⟩:=b
 by_cases h1:x=z <;> by_cases h2:y=u <;> simp [h1,h2]
def QoG (a:Int×List UInt8) (l:List (Int×List UInt8)):Bool:=l.any fun x=>decide (a=x)
theorem Qoe (a:Int×List UInt8) (l:List (Int×List UInt8)):QoG a l=true↔a∈l:=by
 unfold QoG
 simp
theorem Qjt (a:Int×List UInt8) (l:List (Int×List UInt8)) (k:Nat) (h:k < l.length):QoG a (l.drop k)=(decide (a=l[k]) || QoG a (l.drop (k+1))):=by
 rw [List.drop_eq_getElem_cons h]
 rfl
def geB (i:Int):Bool:=decide (0≤i)
theorem Qmd (base:Nat) (met:List (Int×List UInt8)) (mv:Value) (a:Int×List UInt8) (w:World) (ho:w.ownsRow base 34 2 mv met.length (QbB met)) (hl:met.length≤1000000) :
 Calls Tryz.prog 272 #[mv,.agg #[.int .i64 a.1,.string (Qag a.2)]] w fun e w'=>∃ i:Int,e=.returned (.int .i64 i)∧geB i=QoG a met∧Below w.heap.size w w':=by
 obtain ⟨la,lc,hll⟩:=QaN ho
 subst hll
 have HO:=Qaa ho
 have HE:=Qaa QsL
 clear ho
 go_enter Tryz.func272,Tryz.ntmps272
 go_wp2
 go_loopw [5,8] (fun _ i wr=>∃ (k:Nat),k≤met.length∧i=.int .i64 (k:Int)∧Below w.heap.size w wr∧wr.cell? ⟨w.heap.size,0,none⟩=some (.int .i64 a.1)∧wr.cell? ⟨w.heap.size,1,none⟩=some (.string (Qag a.2))∧QoG a met=QoG a (met.drop k)) (fun _ i _=>met.length - (intOf i).toNat)
 case atStart=>exact ⟨0,Nat.zero_le _,rfl,(Below.refl _ _).alloc (Nat.le_refl _) _,(Qhw _ _ _ _).1,(Qhw _ _ _ _).2,rfl⟩
 case round=>
  obtain ⟨k,hk,rfl,hB,p0,p1,hany⟩:=hrel
  have HB:=Qaa hB
  have HA:=Qaa hany
  have hwr:=hB.size
  clear hB hany
  by_cases hlt:k < met.length
  rotate_left
  ·have hk':¬ (k:Int) < (met.length:Int):=by omega
   have HD:=Qaa (Qea met k hlt)
   go_wp2
   go_ret
   exact ⟨-1,rfl,by rw [HA.out,HD.out];rfl,HB.out⟩
  have hk':(k:Int) < (met.length:Int):=by omega
  obtain ⟨g,c,hla,hbg,hgl,hcells⟩:=Qdn HO.out (by omega)
  injection hla with hla1 hla2 hla3
  subst hla1
  have hat:=Qqy met k hlt
  have c1:wr.cell? ⟨g,k*2,none⟩=some (.int .i64 met[k].1):=by rw [HB.out.cell (p:=⟨g,k*2,none⟩) hgl];exact hcells _ _ hat.1
  have c2:wr.cell? ⟨g,k*2+1,none⟩=some (.string (Qag met[k].2)):=by rw [HB.out.cell (p:=⟨g,k*2+1,none⟩) hgl];exact hcells _ _ hat.2
  have HD:=Qaa (Qjt a met k hlt)
  have heq:∀ W,(binOp .eql 34 (.agg #[.int .i64 a.1,.string (Qag a.2)]) (.agg #[.int .i64 met[k].1,.string (Qag met[k].2)])).run Tryz.prog W=.ok (.bool (decide (a=met[k]))) W:=QsL a met[k]
  clear hcells hat hla3
  cases hb:decide (a=met[k])
  ·rw [hb] at HD
   simp only [hb] at heq
   go_wp2_with fail
   go_quiet (fail)
   all_goals go_wp2
   go_roundw
   case rel=>exact ⟨k+1,by omega,by go_num,Qb0 HB.out,p0,p1,by rw [HA.out,HD.out];rfl⟩
   case measure=>simp [intOf];omega
  ·rw [hb] at HD
   simp only [hb] at heq
   go_wp2_with fail
   go_quiet (fail)
   all_goals go_wp2
   go_ret
   exact ⟨k,rfl,by rw [HA.out,HD.out];exact (decide_eq_true (by omega):geB (k:Int)=true),Qb0 HB.out⟩
theorem Qbv (base:Nat) (met:List (Int×List UInt8)) (mv:Value) (a:Int×List UInt8) (w:World) (ho:w.ownsRow base 34 2 mv met.length (QbB met)) (hl:met.length≤1000000) :
 Calls Tryz.prog 249 #[mv,.agg #[.int .i64 a.1,.string (Qag a.2)]] w fun e w'=>e=.returned (.bool (QoG a met))∧Below w.heap.size w w':=by
 obtain ⟨la,lc,hll⟩:=QaN ho
 subst hll
 go_enter Tryz.func249,Tryz.ntmps249
 go_wp2_with fail
 refine (Qmd base met _ a _ (ho.alloc _) hl).mono ?_
 rintro e w1 ⟨i,rfl,hi,hb1⟩
 have HI:=Qaa hi
 have HB1:=Qaa (((Below.refl w.heap.size w).alloc (Nat.le_refl _) _).trans (hb1.mono (by simp)))
 clear hi hb1
 go_wp2
 all_goals go_ret
 all_goals exact ⟨QaU (by rw [← HI.out];rfl),HB1.out⟩
end
end Go.Proofs.YtbiclelojbfnbabGreatDoor
