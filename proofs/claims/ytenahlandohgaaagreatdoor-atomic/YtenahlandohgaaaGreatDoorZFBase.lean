import Derived.Test.YtenahlandohgaaaGreatDoorZDUp
import Derived.Test.YtenahlandohgaaaGreatDoorZPlainList
namespace Go.Proofs.YtenahlandohgaaaGreatDoor
set_option linter.unusedVariables false
set_option linter.unusedSimpArgs false
set_option maxRecDepth 100000
set_option maxHeartbeats 4000000
section
open Go.RowKit Go.Maps
attribute [local go_sem ↓] Go.wp_at_zero Go.wp_at_succ
def noF:Fs:=fun _=>none
def putP (F:Fs) (f:List UInt8×List UInt8):Fs:=putF F f.1 f.2
def putFs (F:Fs) (l:List (List UInt8×List UInt8)):Fs:=l.foldl putP F
def FilG (w:World) (v:Value) (l:List (List UInt8×List UInt8)):Prop:=
 ∃ a c,v=.slice a l.length c∧(l≠[]→∃ b off,a=some ⟨b,off,none⟩∧∀ j (hj:j < l.length),w.cell? ⟨b,off+j*2,none⟩=some (.string (strA l[j].1))∧w.cell? ⟨b,off+j*2+1,none⟩=some (.string (strA l[j].2)))
theorem newDisk_any (l:List (List UInt8×List UInt8)) (fv:Value) (w:World) (hl:FilG w fv l) (hn:l.length≤400000) (hx:∀ f∈l,f.1.length≤1000000) :
 Calls Tryz.prog 17 #[fv] w fun e w'=>Below w.heap.size w w'∧∃ bn,e=.returned (.pointer (some ⟨w.heap.size+1,0,none⟩))∧DI w' w.heap.size (w.heap.size+1) w.heap.size bn l.length (putFs noF l) (putFs noF l) [] (-1) (.slice none 0 0):=by
 obtain ⟨a,c,rfl,hcl⟩:=hl
 have HCL:=hide hcl
 have HX:=hide hx
 have hmm:=@run_makeMap Tryz.prog
 obtain ⟨W,hW⟩:∃ W,W=(w.alloc (.map #[] 0)).alloc (.cells #[.map (some w.heap.size),.map none,.slice none 0 0,.int .i64 (-1),.int .i64 (-1),.bool false] 84):=⟨_,rfl⟩
 have HWB:Hid (Below w.heap.size w W):=by rw [hW];exact ((Below.refl _ _).alloc (Nat.le_refl _) _).alloc (by simp) _
 have HWD:Hid (DBlk W (w.heap.size+1) w.heap.size (.map none) (.slice none 0 0) (-1) false):=by rw [hW];exact blk_newAt (by simp)
 have HWM:Hid (MapF W w.heap.size 0 noF):=by
  rw [hW]
  exact ⟨.map [],(World.ownsMap_made w Tryz.prog 9 ptrR).alloc _,fun x _=>rfl,fun x s h=>by cases h⟩
 have HWW:=hide hW
 clear hW hcl hx
 go_enter Tryz.func17,Tryz.ntmps17
 go_wp2_with fail
 rw [← HWW.out]
 clear hmm
 go_loopw [12] (fun i wr=>∃ k:Nat,k≤l.length∧i=.int .i64 k∧DBlk wr (w.heap.size+1) w.heap.size (.map none) (.slice none 0 0) (-1) false∧MapF wr w.heap.size k (putFs noF (l.take k))∧Below w.heap.size w wr) (fun i _=>l.length - (intOf i).toNat)
 case atStart=>exact ⟨0,by omega,rfl,HWD.out,HWM.out,HWB.out⟩
 case round=>
  obtain ⟨k,hk,rfl,hD,hM,hB⟩:=hrel
  have hwr:=blk_lt hD
  by_cases hlt:k < l.length
  ·have hlt':(k:Int) < (l.length:Int):=by omega
   obtain ⟨g,off,rfl,hcc⟩:=HCL.out (fun e=>by rw [e] at hlt;exact absurd hlt (Nat.not_lt_zero _))
   have hat:=hcc k hlt
   have hgl:=cell_lt hat.1
   have e1:wr.cell? ⟨g,off+k*2,none⟩=some (.string (strA l[k].1)):=(hB.cell (p:=⟨g,off+k*2,none⟩) hgl).trans hat.1
   have e2:wr.cell? ⟨g,off+k*2+1,none⟩=some (.string (strA l[k].2)):=(hB.cell (p:=⟨g,off+k*2+1,none⟩) hgl).trans hat.2
   have hxk:=HX.out l[k] (List.getElem_mem hlt)
   have HTK:Hid (putFs noF (l.take (k+1))=putF (putFs noF (l.take k)) l[k].1 l[k].2):=by
    show _=_
    rw [List.take_succ_eq_append_getElem hlt]
    unfold putFs
    rw [List.foldl_append];rfl
   generalize l[k]=f at *
   obtain ⟨x,s⟩:=f
   dsimp only at e1 e2 hxk HTK
   obtain ⟨V,hV⟩:∃ V,V=(wr.alloc (.cells #[.string (strA x),.string (strA s)] 86)).alloc (.cells #[.string (strA s)] 9):=⟨_,rfl⟩
   have hBV:Below wr.heap.size wr V:=by rw [hV];exact ((Below.refl _ _).alloc (Nat.le_refl _) _).alloc (by simp) _
   have hVf:V.heap[wr.heap.size]?=some (.cells #[.string (strA x),.string (strA s)] 86):=by rw [hV];exact blk_alloc (blk_new _ _)
   have hVD:V.heap[w.heap.size+1]?=some (.cells #[.map (some w.heap.size),.map none,.slice none 0 0,.int .i64 (-1),.int .i64 (-1),.bool false] 84):=blk_below hD hBV
   have hMV:=hM.below hBV
   obtain ⟨w2,hput,hm2,ht2⟩:=mapF_put (w:=V.drew) (k:=wr.heap.size+1) (s:=s) hMV (by omega) hxk (by show V.heap[_]?=_;rw [hV];exact blk_newAt (by simp))
   have hft:=(turned_fr ht2).undrew
   have HD2:Hid (DBlk w2 (w.heap.size+1) w.heap.size (.map none) (.slice none 0 0) (-1) false):=hft.block _ _ hVD (fun ⟨_,es,c,e⟩=>by cases e)
   have hf2:=hft.block _ _ hVf (fun ⟨_,es,c,e⟩=>by cases e)
   have HS2:Hid (w2.cell? ⟨w.heap.size+1,0,none⟩=some (.map (some w.heap.size))∧w2.cell? ⟨wr.heap.size,0,none⟩=some (.string (strA x))):=⟨blk_cell HD2.out 0,blk_cell hf2 0⟩
   have HM2:=hide hm2
   have HB2:Hid (Below w.heap.size w w2):=(hB.trans (hBV.mono hB.size)).trans (hft.below (B:=w.heap.size) (fun k o ⟨h,_⟩=>by omega) (by have:=hBV.size;have:=hB.size;omega))
   have v0:V.cell? ⟨w.heap.size+1,0,none⟩=some (.map (some w.heap.size)):=blk_cell hVD 0
   have v1:V.cell? ⟨wr.heap.size,0,none⟩=some (.string (strA x)):=blk_cell hVf 0
   have HWV:=hide hV
   clear hMV hV hBV hVf hVD hm2 ht2 hft hf2 hD hM hB hat hcc
   go_wp2_with fail
   rw [← HWV.out]
   go_region_held3 (fun w'=>w'.cell? ⟨w.heap.size+1,0,none⟩=some (.map (some w.heap.size))∧w'.cell? ⟨wr.heap.size,0,none⟩=some (.string (strA x))) (first | go_keep | exact HS2.out) (fail)
   all_goals go_wp2
   all_goals exact ⟨⟨k+1,by omega,by go_num,HD2.out,by rw [HTK.out];exact HM2.out,HB2.out⟩,by simp [intOf];omega⟩
  ·have hk':k=l.length:=by omega
   subst hk'
   have hz:¬ (l.length:Int) < (l.length:Int):=by omega
   have HDD:=hide hD
   have HMM:=hide hM
   have HBB:=hide hB
   clear hD hM hB
   go_wp2_with (go_at_call 33;refine (up_any w.heap.size (w.heap.size+1) w.heap.size l.length _ _ _ _ _ wr ⟨by omega,Nat.le_refl _⟩ HDD.out HMM.out (by omega)).mono ?_;rintro e w3 ⟨rfl,hD3,hF3⟩;have HD3:=hide hD3;have HF3:=hide hF3;clear hD3 hF3)
   go_ret
   have hD3:=HD3.out
   rw [List.take_length] at hD3
   exact ⟨HBB.out.trans (HF3.out.below (B:=w.heap.size) (fun k o h=>h.1) (by omega)),_,rfl,hD3⟩
end
section
open Go.RowKit Go.Maps
abbrev Fl:=List UInt8×List UInt8
def encF (f:Fl):List Value:=[.string (strA f.1),.string (strA f.2)]
def fcells (l:List Fl):List Value:=l.flatMap encF
theorem fcells_snoc (l:List Fl) (f:Fl):fcells l++encF f=fcells (l++[f]):=by simp [fcells]
theorem fcells_len (l:List Fl):(fcells l).length=l.length*2:=by
 induction l with
 | nil=>rfl
 | cons a r ih=>show (encF a++fcells r).length=_;rw [List.length_append,ih];simp [encF];omega
theorem fcells_at (l:List Fl) (j:Nat) (hj:j < l.length):(fcells l)[j*2]?=some (.string (strA l[j].1))∧(fcells l)[j*2+1]?=some (.string (strA l[j].2)):=by
 induction l generalizing j with
 | nil=>exact absurd hj (Nat.not_lt_zero _)
 | cons a r ih=>
  have e:fcells (a :: r)=.string (strA a.1) :: .string (strA a.2) :: fcells r:=rfl
  rw [e]
  cases j with
  | zero=>exact ⟨rfl,rfl⟩
  | succ j=>
   have h:=ih j (by simpa using hj)
   have e1:(j+1)*2=j*2+2:=by omega
   rw [e1]
   exact h
def FilB (w:World) (v:Value) (l:List Fl):Prop:=
 ∃ g c cs,v=.slice (some ⟨g,0,none⟩) l.length c∧w.heap[g]?=some (.cells cs 86)∧∀ j (hj:j < l.length),w.cell? ⟨g,j*2,none⟩=some (.string (strA l[j].1))∧w.cell? ⟨g,j*2+1,none⟩=some (.string (strA l[j].2))
def FilN (w:World) (v:Value) (l:List Fl):Prop:=(l=[]∧v=.slice none 0 0)∨FilB w v l
theorem Tryz.infoFile:(Tryz.prog.info? 86).map (fun i=>(i.zero,i.size,i.bytes))=some (some (.agg #[.string ⟨#[]⟩,.string ⟨#[]⟩]),2,32):=by kernel_rfl
theorem two_fl (w:World) (f:Fl) (t:TypeId):∀ j u,(encF f)[j]?=some u→(w.alloc (.cells #[.string (strA f.1),.string (strA f.2)] t)).cell? ((⟨w.heap.size,0,none⟩:Addr).add j)=some u:=by
 intro j u h
 rw [addr_add0,blk_cell (blk_new w _),← h]
 simp [encF]
theorem one_fl (f:Fl):∀ u∈encF f,u.oneCell'=true:=by
 intro u hu
 unfold encF at hu
 simp at hu
 rcases hu with rfl | rfl <;> rfl
def ActG (w:World) (v:Value) (l:List (Int×List UInt8)):Prop:=
 ∃ a c,v=.slice a l.length c∧(l≠[]→∃ b off,a=some ⟨b,off,none⟩∧∀ j (hj:j < l.length),w.cell? ⟨b,off+j*2,none⟩=some (.int .i64 l[j].1)∧w.cell? ⟨b,off+j*2+1,none⟩=some (.string (strA l[j].2)))
theorem ActG.below {w w':World} {v:Value} {l:List (Int×List UInt8)} (h:ActG w v l) (hb:Below w.heap.size w w'):ActG w' v l:=by
 obtain ⟨a,c,h,hc⟩:=h
 refine ⟨a,c,h,fun hne=>?_⟩
 obtain ⟨b,off,rfl,hcc⟩:=hc hne
 refine ⟨b,off,rfl,fun j hj=>?_⟩
 obtain ⟨h1,h2⟩:=hcc j hj
 have hl:=cell_lt h1
 exact ⟨(hb.cell (p:=⟨b,off+j*2,none⟩) hl).trans h1,(hb.cell (p:=⟨b,off+j*2+1,none⟩) hl).trans h2⟩
end
end Go.Proofs.YtenahlandohgaaaGreatDoor
