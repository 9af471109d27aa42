import Derived.Test.YtenahlandohgaaaGreatDoorZGPart
namespace Go.Proofs.YtenahlandohgaaaGreatDoor
set_option linter.unusedVariables false
set_option linter.unusedSimpArgs false
set_option maxRecDepth 100000
set_option maxHeartbeats 4000000
open Go.RowKit Go.Maps
attribute [local go_sem ↓] Go.wp_at_zero Go.wp_at_succ
abbrev dlvZ:Value:=.agg #[.string ⟨#[]⟩,.slice none 0 0,.string ⟨#[]⟩]
def setDlv (w:World) (b:Nat) (x y z:Value):World:=((w.setCell ⟨b,0,none⟩ x).setCell ⟨b,1,none⟩ y).setCell ⟨b,2,none⟩ z
theorem setDlv_spec (w:World) (b:Nat) (x y z c0 c1 c2:Value) (t:TypeId) (h:w.heap[b]?=some (.cells #[c0,c1,c2] t)):(setDlv w b x y z).heap[b]?=some (.cells #[x,y,z] t)∧Fr (fun k _=>k=b) w (setDlv w b x y z):=by
 have hstep:∀ (W:World) (cs:Array Value) (k:Nat) (v:Value),W.heap[b]?=some (.cells cs t)→(W.setCell ⟨b,k,none⟩ v).heap[b]?=some (.cells (cs.setIfInBounds k v) t)∧Fr (fun k _=>k=b) W (W.setCell ⟨b,k,none⟩ v):=fun W cs k v h=>⟨heap_setCell_at W b k v cs _ h,(Fr.refl _ W).set h rfl k v⟩
 unfold setDlv
 obtain ⟨g0,f0⟩:=hstep w _ 0 x h
 replace g0:(w.setCell ⟨b,0,none⟩ x).heap[b]?=some (.cells #[x,c1,c2] t):=g0
 generalize w.setCell ⟨b,0,none⟩ x=w0 at *
 obtain ⟨g1,f1⟩:=hstep w0 _ 1 y g0
 replace g1:(w0.setCell ⟨b,1,none⟩ y).heap[b]?=some (.cells #[x,y,c2] t):=g1
 generalize w0.setCell ⟨b,1,none⟩ y=w1 at *
 obtain ⟨g2,f2⟩:=hstep w1 _ 2 z g1
 exact ⟨g2,(f0.trans f1).trans f2⟩
def ToldNo (w:World) (e:Ending) (w':World):Prop:=e=.returned (.tuple #[dlvZ,.bool false])∧Below w.heap.size w w'
theorem told_nocut (name data:List UInt8) (w:World) (h:∀ b∈data,b≠10) (hl:data.length≤100000000) :
 Calls Tryz.prog 219 #[.string (strA name),.string (strA data)] w (ToldNo w):=by
 have HC:Hid (∀ W,Calls Tryz.prog 260 #[.string (strA data),.string ⟨#[10]⟩] W fun e w'=>e=.returned (.tuple #[.string (strA data),.string ⟨#[]⟩,.bool false])∧Below W.heap.size W w'):=fun W=>cut_none data 10 W h (by omega)
 generalize strA data=D at *
 go_enter Tryz.func219,Tryz.ntmps219
 go_wp2_with fail
 refine (HC.out _).mono ?_
 rintro e w1 ⟨rfl,hb1⟩
 have HB1:Hid (Below w.heap.size w w1):=((Below.refl _ _).alloc (Nat.le_refl _) _).trans (hb1.mono (by simp))
 have HD1:Hid (w1.heap[w.heap.size]?=some (.cells #[.string ⟨#[]⟩,.slice none 0 0,.string ⟨#[]⟩] 159)):=(hb1.block _ (by simp)).trans (blk_new _ _)
 have hs1:w.heap.size < w1.heap.size:=blk_lt HD1.out
 clear hb1
 have z0:w1.cell? ⟨w.heap.size,0,none⟩=some (.string ⟨#[]⟩):=blk_cell HD1.out 0
 have z1:w1.cell? ⟨w.heap.size,1,none⟩=some (.slice none 0 0):=blk_cell HD1.out 1
 have z2:w1.cell? ⟨w.heap.size,2,none⟩=some (.string ⟨#[]⟩):=blk_cell HD1.out 2
 have ef:=blk_frozen HD1.out
 go_wp2_with fail
 clear ef z0 z1 z2
 change bodyPost _ _ _ _ _ (setDlv w1 w.heap.size (.string ⟨#[]⟩) (.slice none 0 0) (.string ⟨#[]⟩))
 obtain ⟨hUb,hUf⟩:=setDlv_spec w1 w.heap.size (.string ⟨#[]⟩) (.slice none 0 0) (.string ⟨#[]⟩) _ _ _ _ HD1.out
 have hUB:Below w.heap.size w (setDlv w1 w.heap.size (.string ⟨#[]⟩) (.slice none 0 0) (.string ⟨#[]⟩)):=HB1.out.trans (hUf.below (fun k o e=>by rw [e];exact Nat.le_refl _) HB1.out.size)
 generalize setDlv w1 w.heap.size (.string ⟨#[]⟩) (.slice none 0 0) (.string ⟨#[]⟩)=U at *
 have y0:U.cell? ⟨w.heap.size,0,none⟩=some (.string ⟨#[]⟩):=blk_cell hUb 0
 have y1:U.cell? ⟨w.heap.size,1,none⟩=some (.slice none 0 0):=blk_cell hUb 1
 have y2:U.cell? ⟨w.heap.size,2,none⟩=some (.string ⟨#[]⟩):=blk_cell hUb 2
 refine bodyPost_ret (v:=.tuple #[dlvZ,.bool false]) (by simp [results,Tryz.results219,go_sem,y0,y1,y2]) rfl ?_
 exact ⟨rfl,hUB⟩
theorem told_bad (name hd z:List UInt8) (w:World) (ht:Tab w) (hz:Tz w) (h:∀ b∈hd,b≠10) (hl:hd.length+z.length≤90000000) (hn:name.length≤1000) (hne:sealedL name z≠hd++10 :: z) :
 Calls Tryz.prog 219 #[.string (strA name),.string (strA (hd++10 :: z))] w (ToldNo w):=by
 have HC:Hid (∀ W,Calls Tryz.prog 260 #[.string (strA (hd++10 :: z)),.string ⟨#[10]⟩] W fun e w'=>e=.returned (.tuple #[.string (strA hd),.string (strA z),.bool true])∧Below W.heap.size W w'):=fun W=>cut_any hd z 10 W h (by omega)
 have HS:Hid (∀ W,Tab W→Tz W→Calls Tryz.prog 210 #[.string (strA name),.string (strA z)] W fun e w'=>e=.returned (.string (strA (sealedL name z)))∧Below W.heap.size W w'):=fun W h1 h2=>gsealed_any name z W h1 h2 hn (by omega)
 have hne2:(!(strA (sealedL name z)).toList == (strA (hd++10 :: z)).toList)=true:=by
  rw [Bool.not_eq_true',beq_eq_false_iff_ne]
  intro e
  rw [ByteArray.toList_eq,ByteArray.toList_eq] at e
  exact hne e
 have HT:=hide ht
 have HZ:=hide hz
 clear ht hz
 generalize strA (hd++10 :: z)=D at *
 generalize strA (sealedL name z)=S at *
 go_enter Tryz.func219,Tryz.ntmps219
 go_wp2_with fail
 refine (HC.out _).mono ?_
 rintro e w1 ⟨rfl,hb1⟩
 have HB1:Hid (Below w.heap.size w w1):=((Below.refl _ _).alloc (Nat.le_refl _) _).trans (hb1.mono (by simp))
 have HD1:Hid (w1.heap[w.heap.size]?=some (.cells #[.string ⟨#[]⟩,.slice none 0 0,.string ⟨#[]⟩] 159)):=(hb1.block _ (by simp)).trans (blk_new _ _)
 have hs1:w.heap.size < w1.heap.size:=blk_lt HD1.out
 have HT1:=hide (HT.out.below HB1.out)
 have HZ1:=hide (HZ.out.below HB1.out)
 clear hb1
 go_wp2_with fail
 refine (HS.out _ HT1.out HZ1.out).mono ?_
 rintro e w2 ⟨rfl,hb2⟩
 have HB2:=hide (HB1.out.trans (hb2.mono HB1.out.size))
 have HD2:=hide (blk_below HD1.out hb2)
 have hs2:w.heap.size < w2.heap.size:=blk_lt HD2.out
 clear hb2
 have z0:w2.cell? ⟨w.heap.size,0,none⟩=some (.string ⟨#[]⟩):=blk_cell HD2.out 0
 have z1:w2.cell? ⟨w.heap.size,1,none⟩=some (.slice none 0 0):=blk_cell HD2.out 1
 have z2:w2.cell? ⟨w.heap.size,2,none⟩=some (.string ⟨#[]⟩):=blk_cell HD2.out 2
 have ef:=blk_frozen HD2.out
 go_wp2_with fail
 clear ef z0 z1 z2
 change bodyPost _ _ _ _ _ (setDlv w2 w.heap.size (.string ⟨#[]⟩) (.slice none 0 0) (.string ⟨#[]⟩))
 obtain ⟨hUb,hUf⟩:=setDlv_spec w2 w.heap.size (.string ⟨#[]⟩) (.slice none 0 0) (.string ⟨#[]⟩) _ _ _ _ HD2.out
 have hUB:Below w.heap.size w (setDlv w2 w.heap.size (.string ⟨#[]⟩) (.slice none 0 0) (.string ⟨#[]⟩)):=HB2.out.trans (hUf.below (fun k o e=>by rw [e];exact Nat.le_refl _) HB2.out.size)
 generalize setDlv w2 w.heap.size (.string ⟨#[]⟩) (.slice none 0 0) (.string ⟨#[]⟩)=U at *
 have y0:U.cell? ⟨w.heap.size,0,none⟩=some (.string ⟨#[]⟩):=blk_cell hUb 0
 have y1:U.cell? ⟨w.heap.size,1,none⟩=some (.slice none 0 0):=blk_cell hUb 1
 have y2:U.cell? ⟨w.heap.size,2,none⟩=some (.string ⟨#[]⟩):=blk_cell hUb 2
 refine bodyPost_ret (v:=.tuple #[dlvZ,.bool false]) (by simp [results,Tryz.results219,go_sem,y0,y1,y2]) rfl ?_
 exact ⟨rfl,hUB⟩
theorem jpart_at:∀ (acts:List (Int×List UInt8)) (k:Nat) (hk:k < acts.length),(acts.flatMap fun a=>[itoaL a.1.toNat,a.2])[2*k]?=some (itoaL acts[k].1.toNat)∧(acts.flatMap fun a=>[itoaL a.1.toNat,a.2])[2*k+1]?=some acts[k].2
 | [],k,hk=>absurd hk (Nat.not_lt_zero _)
 | a :: r,0,hk=>by simp
 | a :: r,k+1,hk=>by
  have:=jpart_at r k (by simpa using hk)
  rw [List.flatMap_cons]
  have e1:2*(k+1)=(2*k)+1+1:=by omega
  rw [e1]
  simpa using this
theorem jcell_at (id text:List UInt8) (acts:List (Int×List UInt8)) (k:Nat) (hk:k < acts.length):(tcells (jparts id text acts))[2+2*k]?=some (.string (strA (itoaL acts[k].1.toNat)))∧(tcells (jparts id text acts))[2+2*k+1]?=some (.string (strA acts[k].2)):=by
 obtain ⟨h1,h2⟩:=jpart_at acts k hk
 unfold tcells jparts
 have e1:2+2*k=2*k+1+1:=by omega
 rw [e1]
 simp only [List.map_cons,List.getElem?_cons_succ,List.getElem?_map]
 rw [h1,h2]
 exact ⟨rfl,rfl⟩
theorem Tryz.infoActT:(Tryz.prog.info? 51).map (fun i=>(i.zero,i.size,i.bytes))=some (some (.agg #[.int .i64 0,.string ⟨#[]⟩]),2,24):=by kernel_rfl
theorem two_actT (w:World) (x:Int×List UInt8) (t:TypeId):∀ j u,[Value.int .i64 x.1,.string (strA x.2)][j]?=some u→(w.alloc (.cells #[.int .i64 x.1,.string (strA x.2)] t)).cell? ((⟨w.heap.size,0,none⟩:Addr).add j)=some u:=by
 intro j u hj
 match j,hj with
 | 0,hj=>simp at hj;subst hj;simp [Addr.add]
 | 1,hj=>simp at hj;subst hj;simp [Addr.add]
theorem one_actT (x:Int×List UInt8):∀ u∈[Value.int .i64 x.1,Value.string (strA x.2)],u.oneCell'=true:=by
 intro u hu
 simp at hu
 rcases hu with rfl | rfl <;> rfl
theorem owns_set3 {w:World} {base:Nat} {e:TypeId} {size:Nat} {v:Value} {n:Nat} {xs:List Value} (h:w.ownsRow base e size v n xs) {b:Nat} (hne:v.ownBlock≠some b) {x y z:Value}:(setDlv w b x y z).ownsRow base e size v n xs:=by
 refine ⟨h.1,?_⟩
 rcases h.2 with h2 | ⟨g,cap,cur,hv,hg,hb,rest⟩
 ·exact Or.inl h2
 ·refine Or.inr ⟨g,cap,cur,hv,hg,?_,rest⟩
  have hgb:g≠b:=fun e=>hne (by rw [hv,← e];rfl)
  unfold setDlv
  rw [Below.heap_setCell _ _ _ _ hgb,Below.heap_setCell _ _ _ _ hgb,Below.heap_setCell _ _ _ _ hgb]
  exact hb
def PTo (vb:Nat) (k:Nat) (o:Obj):Prop:=(∃ cs,o=.cells cs 51)∨(k=vb∧∃ cs,o=.cells cs 159)
def ToldYes (id text:List UInt8) (acts:List (Int×List UInt8)) (w:World) (e:Ending) (w':World):Prop:=
 ∃ v,e=.returned (.tuple #[.agg #[.string (strA id),v,.string (strA text)],.bool true])∧w'.ownsRow w.heap.size 51 2 v acts.length (acells acts)∧Below w.heap.size w w'
theorem told_whole (name id text:List UInt8) (acts:List (Int×List UInt8)) (w:World) (ht:Tab w) (hz:Tz w) (hn:name.length≤1000) (hl:(joinedL (jparts id text acts)).length≤80000000) (ha:acts.length≤400) (hk:∀ a∈acts,0≤a.1∧a.1≤2147483647) :
 Calls Tryz.prog 219 #[.string (strA name),.string (strA (sealedL name (joinedL (jparts id text acts))))] w (ToldYes id text acts w):=by
 obtain ⟨z,hzz⟩:∃ z,z=joinedL (jparts id text acts):=⟨_,rfl⟩
 have HP:Hid (∀ W,Calls Tryz.prog 261 #[.string (strA z)] W (PtPost (jparts id text acts) W)):=fun W=>by rw [hzz];exact parted_any _ W (by omega) (by rw [jparts_len];omega)
 rw [← hzz] at hl ⊢
 have HS:Hid (∀ W,Tab W→Tz W→Calls Tryz.prog 210 #[.string (strA name),.string (strA z)] W fun e w'=>e=.returned (.string (strA (sealedL name z)))∧Below W.heap.size W w'):=fun W h1 h2=>gsealed_any name z W h1 h2 hn (by omega)
 have hhl:(headL name z).length≤9+1+16:=by
  unfold headL
  rw [List.length_append,List.length_append]
  have h1:=itoa_len8 8 z.length (by omega)
  have h2:=hexL_len (fnvL [name,[10],z])
  simp only [List.length_singleton]
  omega
 have HC:Hid (∀ W,Calls Tryz.prog 260 #[.string (strA (sealedL name z)),.string ⟨#[10]⟩] W fun e w'=>e=.returned (.tuple #[.string (strA (headL name z)),.string (strA z),.bool true])∧Below W.heap.size W w'):=fun W=>by rw [sealed_head];exact cut_any (headL name z) z 10 W (head_ne name z) (by omega)
 have HPL:=hide (jparts_len id text acts)
 have HK:=hide hk
 clear hzz hk hhl
 have HT:=hide ht
 have HZ:=hide hz
 clear ht hz
 generalize strA (sealedL name z)=D at *
 generalize strA (headL name z)=HD at *
 go_enter Tryz.func219,Tryz.ntmps219
 go_wp2_with fail
 refine (HC.out _).mono ?_
 rintro e w1 ⟨rfl,hb1⟩
 have HB1:Hid (Below w.heap.size w w1):=((Below.refl _ _).alloc (Nat.le_refl _) _).trans (hb1.mono (by simp))
 have HD1:Hid (w1.heap[w.heap.size]?=some (.cells #[.string ⟨#[]⟩,.slice none 0 0,.string ⟨#[]⟩] 159)):=(hb1.block _ (by simp)).trans (blk_new _ _)
 have hs1:w.heap.size < w1.heap.size:=blk_lt HD1.out
 have HT1:=hide (HT.out.below HB1.out)
 have HZ1:=hide (HZ.out.below HB1.out)
 clear hb1
 go_wp2_with fail
 refine (HS.out _ HT1.out HZ1.out).mono ?_
 rintro e w2 ⟨rfl,hb2⟩
 have HB2:=hide (HB1.out.trans (hb2.mono HB1.out.size))
 have HD2:=hide (blk_below HD1.out hb2)
 have hs2:w.heap.size < w2.heap.size:=blk_lt HD2.out
 clear hb2
 go_wp2_with fail
 refine (HP.out _).mono ?_
 rintro e w3 ⟨pv,rfl,hrow3,hb3⟩
 have HB3:=hide (HB2.out.trans (hb3.mono HB2.out.size))
 have HD3:=hide (blk_below HD2.out hb3)
 have HR3:=hide hrow3
 have hs3:w.heap.size < w3.heap.size:=blk_lt HD3.out
 rw [HPL.out] at hrow3 HR3
 obtain ⟨g,pc,hpv,hg,hgl,hgc⟩:=owns_get hrow3 (by omega)
 subst hpv
 have c0:w3.cell? ⟨g,0,none⟩=some (.string (strA id)):=hgc 0 _ rfl
 have c1:w3.cell? ⟨g,1,none⟩=some (.string (strA text)):=hgc 1 _ rfl
 generalize hml:acts.length=m at *
 have HML:=hide hml
 have hm0:((2+2*(m:Int)) == 0)=false:=by rw [beq_eq_false_iff_ne];omega
 have hm2:(2+2*(m:Int)).tmod 2=0:=by rw [Int.tmod_eq_emod_of_nonneg (by omega)];omega
 clear hb3 hrow3 hgc hml
 go_wp2_with fail
 go_region
 obtain ⟨W,hW⟩:∃ W,W=(w3.alloc (.cells #[.string (strA id),.slice none 0 0,.string (strA text)] 159)).drew:=⟨_,rfl⟩
 rw [← hW]
 have hWb:Below w3.heap.size w3 W:=by rw [hW];exact ((Below.refl _ _).alloc (Nat.le_refl _) _).drew
 have HBW:Hid (Below w.heap.size w W):=HB3.out.trans (hWb.mono HB3.out.size)
 have HDW:Hid (W.heap[w.heap.size]?=some (.cells #[.string ⟨#[]⟩,.slice none 0 0,.string ⟨#[]⟩] 159)):=blk_below HD3.out hWb
 have HVW:Hid (W.heap[w3.heap.size]?=some (.cells #[.string (strA id),.slice none 0 0,.string (strA text)] 159)):=by rw [hW];exact blk_new _ _
 have HRW:Hid (W.ownsRow w2.heap.size 9 1 (.slice (some ⟨g,0,none⟩) (2+2*m) pc) (2+2*m) (tcells (jparts id text acts))):=owns_fr (P:=fun _ _=>False) HR3.out (Fr.of_below hWb) (fun _ _ h=>h)
 generalize hvb:w3.heap.size=vb at *
 have hvl:w.heap.size < vb:=by omega
 have hgv:g < vb:=by omega
 clear hW hWb c0 c1 HD3 HR3 HB3 hvb HC HP HS
 go_wp2_with fail
 have HTW:=hide (HT.out.below HBW.out)
 obtain ⟨i0,hi,hz0,hz1,hz2⟩:=info_parts Tryz.infoActT
 clear HT1 HZ1 HB1 HB2 HD1 HD2 HT HZ
 go_loopw [12] (fun i wr=>∃ k av ac,k≤m∧i=.int .i64 ((2+2*k:Nat):Int)∧wr.heap[vb]?=some (.cells #[.string (strA id),.slice av k ac,.string (strA text)] 159)∧wr.ownsRow w.heap.size 51 2 (.slice av k ac) k (acells (acts.take k))∧wr.heap[w.heap.size]?=some (.cells #[.string ⟨#[]⟩,.slice none 0 0,.string ⟨#[]⟩] 159)∧wr.ownsRow w2.heap.size 9 1 (.slice (some ⟨g,0,none⟩) (2+2*m) pc) (2+2*m) (tcells (jparts id text acts))∧Below w.heap.size w wr) (fun i _=>2+2*m - (intOf i).toNat)
 case atStart=>exact ⟨0,none,0,Nat.zero_le _,rfl,HVW.out,World.ownsRow_nil _ _ _ _,HDW.out,HRW.out,HBW.out⟩
 case round=>
  obtain ⟨k,av,ac,hk,rfl,hv,hrow,hd,hpr,hB⟩:=hrel
  have HV:=hide hv
  have HRO:=hide hrow
  have HD0:=hide hd
  have HPR:=hide hpr
  have HB:=hide hB
  have hvz:=blk_lt hv
  have hdz:=blk_lt hd
  have hpg:=owns_get hpr (by omega)
  obtain ⟨g',pc',hge,hg1,hg2,hgc⟩:=hpg
  injection hge with hge1 hge2 hge3
  injection hge1 with hge1
  injection hge1 with hge1
  subst hge1
  clear hge2 hge3 hv hrow hd hpr hB HVW HDW HRW HBW
  by_cases hlt:k < m
  rotate_left
  ·have hkm:k=m:=by omega
   subst hkm
   have x0:wr.cell? ⟨vb,0,none⟩=some (.string (strA id)):=blk_cell HV.out 0
   have x1:wr.cell? ⟨vb,1,none⟩=some (.slice av k ac):=blk_cell HV.out 1
   have x2:wr.cell? ⟨vb,2,none⟩=some (.string (strA text)):=blk_cell HV.out 2
   have z0:wr.cell? ⟨w.heap.size,0,none⟩=some (.string ⟨#[]⟩):=blk_cell HD0.out 0
   have z1:wr.cell? ⟨w.heap.size,1,none⟩=some (.slice none 0 0):=blk_cell HD0.out 1
   have z2:wr.cell? ⟨w.heap.size,2,none⟩=some (.string ⟨#[]⟩):=blk_cell HD0.out 2
   have ef:=blk_frozen HD0.out
   go_wp2_with fail
   clear ef z0 z1 z2 x0 x1 x2
   change bodyPost _ _ _ _ _ (setDlv wr w.heap.size (.string (strA id)) (.slice av k ac) (.string (strA text)))
   obtain ⟨hUb,hUf⟩:=setDlv_spec wr w.heap.size (.string (strA id)) (.slice av k ac) (.string (strA text)) _ _ _ _ HD0.out
   have hUB:Below w.heap.size w (setDlv wr w.heap.size (.string (strA id)) (.slice av k ac) (.string (strA text))):=HB.out.trans (hUf.below (fun k o e=>by rw [e];exact Nat.le_refl _) HB.out.size)
   have hUR:(setDlv wr w.heap.size (.string (strA id)) (.slice av k ac) (.string (strA text))).ownsRow w.heap.size 51 2 (.slice av k ac) k (acells (acts.take k)):=owns_set3 HRO.out (fun e=>by
    obtain ⟨_,cs,hcs⟩:=owns_blk HRO.out _ _ e HD0.out
    injection hcs with e1 e2
    exact absurd e2 (by decide))
   generalize setDlv wr w.heap.size (.string (strA id)) (.slice av k ac) (.string (strA text))=U at *
   have y0:U.cell? ⟨w.heap.size,0,none⟩=some (.string (strA id)):=blk_cell hUb 0
   have y1:U.cell? ⟨w.heap.size,1,none⟩=some (.slice av k ac):=blk_cell hUb 1
   have y2:U.cell? ⟨w.heap.size,2,none⟩=some (.string (strA text)):=blk_cell hUb 2
   refine bodyPost_ret (v:=.tuple #[.agg #[.string (strA id),.slice av k ac,.string (strA text)],.bool true]) (by simp [results,Tryz.results219,go_sem,y0,y1,y2]) rfl ?_
   rw [List.take_of_length_le (by rw [HML.out];exact Nat.le_refl _)] at hUR
   exact ⟨_,rfl,by rw [HML.out];exact hUR,hUB⟩
  ·have hka:k < acts.length:=by rw [HML.out];exact hlt
   have HTK:Hid (acts.take (k+1)=acts.take k++[acts[k]]):=List.take_succ_eq_append_getElem hka
   have HJ:=hide (jcell_at id text acts k hka)
   have HKA:=hide (HK.out _ (List.getElem_mem hka))
   have p0:wr.cell? ⟨g,2+2*k,none⟩=some (.string (strA (itoaL acts[k].1.toNat))):=hgc _ _ HJ.out.1
   have HP1:Hid (wr.cell? ⟨g,2+2*k+1,none⟩=some (.string (strA acts[k].2))):=hgc _ _ HJ.out.2
   generalize acts[k]=a at *
   obtain ⟨kn,hkn⟩:∃ kn:Nat,a.1=(kn:Int):=⟨a.1.toNat,by have:=HKA.out;omega⟩
   have hkb:kn≤2147483647:=by have:=HKA.out;omega
   have hkt:a.1.toNat=kn:=by omega
   rw [hkt] at p0
   have HKN:=hide hkn
   have hd9:=itoa_len8 10 kn (by omega)
   have HAT:Hid (∀ W,Calls Tryz.prog 262 #[.string (strA (itoaL kn))] W fun e w'=>e=.returned (.tuple #[.int .i64 (kn:Int),.nilIface])∧∃ t,w'=Lib.bytesWorld W 5 t):=fun W=>Tryz.strconv_Atoi (strA (itoaL kn)) (kn:Int) (by rw [strA_size];omega) (atoi_back kn) W
   generalize strA (itoaL kn)=DG at *
   clear hgc hkn hkt hka hd9 HJ HKA
   go_wp2_with fail
   refine (HAT.out _).mono ?_
   rintro e w5 ⟨rfl,t5,hw5⟩
   have hb5:Below wr.heap.size wr w5:=by rw [hw5];exact Lib.bytesWorld_below wr 5 t5
   have HB5:=hide (HB.out.trans (hb5.mono HB.out.size))
   have HV5:=hide (blk_below HV.out hb5)
   have HD5:=hide (blk_below HD0.out hb5)
   have HR5:Hid (w5.ownsRow w.heap.size 51 2 (.slice av k ac) k (acells (acts.take k))):=owns_fr (P:=fun _ _=>False) HRO.out (Fr.of_below hb5) (fun _ _ h=>h)
   have HP5:=hide (owns_fr (P:=fun _ _=>False) HPR.out (Fr.of_below hb5) (fun _ _ h=>h))
   have q1:w5.cell? ⟨g,2+2*k+1,none⟩=some (.string (strA a.2)):=(hb5.cell (p:=⟨g,2+2*k+1,none⟩) (cell_lt HP1.out)).trans HP1.out
   have x1:w5.cell? ⟨vb,1,none⟩=some (.slice av k ac):=blk_cell HV5.out 1
   have hv5:=blk_lt HV5.out
   have hB5:=HB5.out.size
   have HROW:Hid (¬ (Value.slice av k ac).ownBlock=some vb):=fun e=>by
    obtain ⟨_,cs,hcs⟩:=owns_blk HR5.out _ _ e HV5.out
    injection hcs with e1 e2
    exact absurd e2 (by decide)
   obtain ⟨ix,hix⟩:∃ ix:Nat,ix=2+2*k+1:=⟨_,rfl⟩
   rw [← hix] at q1
   have hwi:IntKind.i64.wrap (2+2*(k:Int)+1)=(ix:Int):=by rw [IntKind.wrap_i64];omega
   have hwm:(ix:Int) < 2+2*(m:Int):=by omega
   clear hb5 hw5 p0 HP1 HAT hix
   go_wp2_with fail
   go_region_law (refine step_append_lies _ rfl (.tmp 75) (.tmp 83) 29 rfl w.heap.size 51 i0 (.agg #[.int .i64 0,.string ⟨#[]⟩]) 2 24 Tryz.underlying29 hi hz0 hz1 hz2 rfl (by decide) (.slice av k ac) k (acells (acts.take k)) (by simp [Act.eval,Act.put]) (HR5.out.alloc _) ⟨w5.heap.size,0,none⟩ 1 1 [.int .i64 (kn:Int),.string (strA a.2)] (by simp [Act.eval,Act.put]) rfl (two_actT _ ((kn:Int),a.2) _) (one_actT ((kn:Int),a.2)) (by decide) (by unfold maxLen;omega) (by omega) (by simp;omega) _ rfl ?_;intro g' cap' w6 hown6 hgrow hat hlt6;have HO6:=hide hown6;have HG6:=hide hgrow;have t7:w6.cell? ⟨vb,1,none⟩=some (.slice av k ac):=hgrow.cell (a:=⟨vb,1,none⟩) ((World.cell?_of_block (a:=⟨vb,1,none⟩) (w:=w5) (Below.heap_alloc _ _ _ hv5)).trans x1) (fun e=>HROW.out e.symm);have hft:∀ j,w6.frozen? ⟨vb,j,none⟩=false:=fun j=>(World.frozen?_of_block (a:=⟨vb,j,none⟩) (w:=w5) ((hgrow.block vb (by simp;omega) (fun e=>HROW.out e.symm)).trans (Below.heap_alloc _ _ _ hv5))).trans (blk_frozen HV5.out j);clear hown6 hgrow;skip)
   all_goals go_wp2
   all_goals have hf6:Fr (PTo vb) w5 w6:=(((Fr.refl _ w5).alloc _).drew).grown HG6.out (fun k o e ho=>by
    have:=owns_blk (HR5.out.alloc _) k o e ho
    exact Or.inl this.2)
   all_goals have hb6:w6.heap[vb]?=some (.cells #[.string (strA id),.slice av k ac,.string (strA text)] 159):=(HG6.out.block vb (by simp;omega) (fun e=>HROW.out e.symm)).trans (blk_alloc HV5.out)
   all_goals have hf7:=hf6.set hb6 (Or.inr ⟨rfl,_,rfl⟩) 1 (.slice (some ⟨g',0,none⟩) (k+1) cap')
   all_goals have hB6:Below w.heap.size w w6:=((HB5.out.alloc hB5 _).drew).grown HG6.out (by simp;omega) (fun k hk=>(HR5.out.lt k hk).1)
   all_goals have hd7:=hf7.block _ _ HD5.out (fun h=>by
    rcases h with ⟨cs,h⟩ | ⟨h,_⟩
    ·injection h with e1 e2
     exact absurd e2 (by decide)
    ·omega)
   all_goals have hp7:=owns_fr HP5.out hf7 (fun k cs h=>by
    rcases h with ⟨cs,h⟩ | ⟨_,cs,h⟩
    ·injection h with e1 e2
     exact absurd e2 (by decide)
    ·injection h with e1 e2
     exact absurd e2 (by decide))
   all_goals have ho7:(w6.setCell ⟨vb,1,none⟩ (.slice (some ⟨g',0,none⟩) (k+1) cap')).ownsRow w.heap.size 51 2 (.slice (some ⟨g',0,none⟩) (k+1) cap') (k+1) (acells (acts.take (k+1))):=(by
    rw [HTK.out,← acells_snoc,HKN.out]
    exact owns_fr (P:=fun k o=>∃ cs,o=.cells cs 159) HO6.out ((Fr.refl _ w6).set hb6 ⟨_,rfl⟩ 1 _) (fun k cs h=>by
     obtain ⟨cs,h⟩:=h
     injection h with e1 e2
     exact absurd e2 (by decide)))
   all_goals exact ⟨⟨k+1,some ⟨g',0,none⟩,cap',by omega,by go_num,heap_setCell_at _ _ _ _ _ _ hb6,ho7,hd7,hp7,hB6.setCell (show w.heap.size≤vb by omega) _⟩,by simp [intOf];omega⟩
end Go.Proofs.YtenahlandohgaaaGreatDoor
