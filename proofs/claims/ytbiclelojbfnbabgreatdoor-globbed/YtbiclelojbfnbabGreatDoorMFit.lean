import Derived.Deep.RegionWith
import Derived.Deep.RegionHeld3
import Derived.Deep.DrawnRows
import Derived.Laws.MakeOwn
import Derived.Test.YtbiclelojbfnbabGreatDoorMPieces
namespace Go.Proofs.YtbiclelojbfnbabGreatDoor
set_option linter.unusedVariables false
set_option linter.unusedSimpArgs false
set_option maxRecDepth 100000
set_option maxHeartbeats 4000000
open Go.RowKit
attribute [local go_sem ↓] Go.wp_at_zero Go.wp_at_succ
theorem Qgn (a b:Nat):((a:Int) == (b:Int))=(a == b):=by
 by_cases h:a=b
 ·subst h;simp
 ·have h':¬ (a:Int)=(b:Int):=by omega
  rw [beq_eq_false_iff_ne.2 h,beq_eq_false_iff_ne.2 h']
theorem Tryz.infoInt:(Tryz.prog.info? 3).map (fun i=>(i.zero,i.size,i.bytes))=some (some (.int .i64 0),1,8):=by kernel_rfl
def Qez (pl:List Nat):Array Value:=(pl.map fun (n:Nat)=>Value.int .i64 (n:Int)).toArray
theorem QhI (pl:List Nat) (k a:Nat):(Qez pl).setIfInBounds k (.int .i64 (a:Int))=Qez (pl.set k a):=by
 unfold Qez
 rw [List.setIfInBounds_toArray,List.map_set]
theorem Qpg (n:Nat):madeCells (Value.cells (.int .i64 0)) (n*1)=Qez (List.replicate n 0):=by
 apply Array.ext
 ·rw [size_madeCells];simp [Qez]
 ·intro i h1 h2
  have hi:i < n:=by rw [size_madeCells] at h1;omega
  have e1:(Qez (List.replicate n 0))[i]=.int .i64 0:=by simp [Qez]
  rw [e1]
  simp only [madeCells,Array.getElem_map,Array.getElem_range]
  have:i % (Value.cells (.int .i64 0)).size=0:=Nat.mod_one _
  rw [this]
  rfl
def Qt2 (w:World) (g:Nat) (key:List (Nat×UInt8)):Prop:=
 ∀ j (hj:j < key.length),w.cell? ⟨g,j*2,none⟩=some (.int .i64 key[j].1)∧w.cell? ⟨g,j*2+1,none⟩=some (.int .u8 key[j].2.toNat)
theorem Qly (key:List (Nat×UInt8)) (j:Nat) (hj:j < key.length):(Qci key)[j*2]?=some (.int .i64 key[j].1)∧(Qci key)[j*2+1]?=some (.int .u8 key[j].2.toNat):=by
 induction key generalizing j with
 | nil=>exact absurd hj (Nat.not_lt_zero _)
 | cons p r ih=>
  cases j with
  | zero=>exact ⟨rfl,rfl⟩
  | succ j=>
   have:=ih j (by simpa using hj)
   have e:Qci (p :: r)=.int .i64 p.1 :: .int .u8 p.2.toNat :: Qci r:=rfl
   have e1:(j+1)*2=j*2+1+1:=by omega
   have e2:(j+1)*2+1=(j*2+1)+1+1:=by omega
   rw [e,e1,List.getElem?_cons_succ,List.getElem?_cons_succ,List.getElem?_cons_succ,List.getElem?_cons_succ]
   exact this
theorem Qt2.of_owns {w:World} {base g n c:Nat} {key:List (Nat×UInt8)} (h:w.ownsRow base 350 2 (.slice (some ⟨g,0,none⟩) n c) n (Qci key)):Qt2 w g key:=fun j hj=>by
 have h1:=h.cells (g:=g) rfl (j*2) _ (Qly key j hj).1
 have h2:=h.cells (g:=g) rfl (j*2+1) _ (Qly key j hj).2
 rw [QcM] at h1 h2
 exact ⟨h1,h2⟩
def QsY (p:Nat×UInt8):Value:=.agg #[.int .i64 p.1,.int .u8 p.2.toNat]
theorem QhC (p:Nat×UInt8) (c:UInt8) (w:World) :
 Calls Tryz.prog 245 #[QsY p,.int .u8 c.toNat] w fun e w'=>e=.returned (.bool (Qex p c))∧Below w.heap.size w w':=by
 unfold QsY
 have e1:((p.1:Int) == 1)=(p.1 == 1):=Qgn p.1 1
 have e0:((p.1:Int) == 0)=(p.1 == 0):=Qgn p.1 0
 have ec:((p.2.toNat:Int) == (c.toNat:Int))=(p.2 == c):=Qha p.2 c
 have HT:Hid (Qex p c=(p.1 == 1 || (p.1 == 0 && p.2 == c))):=rfl
 generalize (p.1 == 1)=b1 at *
 generalize (p.1 == 0)=b0 at *
 generalize (p.2 == c)=bc at *
 cases b1 <;> cases b0 <;> cases bc <;>
 (go_enter Tryz.func245,Tryz.ntmps245
  go_wp2
  go_ret
  exact ⟨QaU (by rw [HT.out];rfl),(Below.refl _ _).alloc (Nat.le_refl _) _⟩)
theorem Qds:∀ (l:List UInt8),∀ p∈piecesL l,p.1=2→p=(2,0)
 | [],p,hp,_=>by cases hp
 | [c],p,hp,h=>by
  simp only [piecesL,List.mem_singleton] at hp
  subst hp
  split at h
  ·next hc=>rw [if_pos hc]
  ·next hc=>
   split at h
   ·exact absurd h (fun e=>by cases e)
   ·exact absurd h (fun e=>by cases e)
 | c :: d :: r,p,hp,h=>by
  rw [piecesL] at hp
  split at hp
  ·rcases List.mem_cons.1 hp with rfl | hp
   ·rfl
   ·exact Qds (d :: r) p hp h
  ·split at hp
   ·rcases List.mem_cons.1 hp with rfl | hp
    ·exact absurd h (fun e=>by cases e)
    ·exact Qds (d :: r) p hp h
   ·split at hp
    ·rcases List.mem_cons.1 hp with rfl | hp
     ·exact absurd h (fun e=>by cases e)
     ·exact Qds r p hp h
    ·rcases List.mem_cons.1 hp with rfl | hp
     ·exact absurd h (fun e=>by cases e)
     ·exact Qds (d :: r) p hp h
theorem Qb0 {B:Nat} {u w:World} {n:Nat} (h:Below B u w):Below B u (w.drewN n):=⟨h.os,h.tape,h.output,h.size,h.block⟩
theorem Qfh {a b:Int} (h:a=b):Value.int .i64 a=Value.int .i64 b:=by rw [h]
theorem QfG {v:List UInt8} {key:List (Nat×UInt8)} {i1 i2 i3 j1 j2 j3:Int} {x1 x2 x3 y1 y2 y3:Nat} (h:QgX v key x1 x2 x3 < QgX v key y1 y2 y3) (a1:i1=x1) (a2:i2=x2) (a3:i3=x3) (b1:j1=y1) (b2:j2=y2) (b3:j3=y3):QgX v key i1.toNat i2.toNat i3.toNat < QgX v key j1.toNat j2.toNat j3.toNat:=by
 subst a1 a2 a3 b1 b2 b3
 exact h
def Qtu (key:List (Nat×UInt8)) (v:List UInt8) (B:Nat) (e:Ending) (w':World):Prop:=
 (QaJ key v=true∧∃ g,B≤g∧e=.returned (.tuple #[.slice (some ⟨g,0,none⟩) (key.length+1) (key.length+1),.bool true])∧w'.heap[g]?=some (.cells (Qez (placesL key v 0)) 3))∨
 (QaJ key v=false∧e=.returned (.tuple #[.slice none 0 0,.bool false]))
theorem Qq3 (s:ByteArray) (key:List (Nat×UInt8)) (kv:Value) (base:Nat) (w:World) (hs:s.size≤1000000) (hkl:key.length≤1000000) (hk:w.ownsRow base 350 2 kv key.length (Qci key)) (h2:∀ j (hj:j < key.length),key[j].1=2→key[j]=(2,0)) :
 Calls Tryz.prog 224 #[.string s,kv] w fun e w'=>Qtu key s.data.toList w.heap.size e w'∧Below w.heap.size w w':=by
 obtain ⟨ka,kc,hkv⟩:∃ ka kc,kv=.slice ka key.length kc:=by
  rcases hk.2 with ⟨h,h2⟩ | ⟨g,cap,cur,h,_⟩
  ·exact ⟨none,0,by rw [h,h2]⟩
  ·exact ⟨_,_,h⟩
 subst hkv
 have HK:Hid (∀ j,j < key.length→∃ g,ka=some ⟨g,0,none⟩∧g < w.heap.size∧Qt2 w g key):=by
  intro j hj
  rcases hk.2 with ⟨h,h2⟩ | ⟨g,cap,cur,h,hb,hg,_⟩
  ·omega
  ·injection h with h1 h2 h3
   subst h1 h3
   exact ⟨g,rfl,QaM hg,Qt2.of_owns hk⟩
 obtain ⟨i0,hi,hz0,hz1,hz2⟩:=info_parts Tryz.infoInt
 have hmk:=run_make (P:=Tryz.prog) w 330 3 i0 _ Tryz.underlying330 hi hz0 .i64 .i64 ((key.length:Int)+1) ((key.length:Int)+1) (by omega) (Int.le_refl _) (by rw [hz2];omega) (by omega)
 rw [hz1,show ((key.length:Int)+1).toNat=key.length+1 by omega,Qpg] at hmk
 obtain ⟨W,hW⟩:∃ W,W=w.alloc (.cells (Qez (List.replicate (key.length+1) 0)) 3):=⟨_,rfl⟩
 have hWb:W.heap[w.heap.size]?=some (.cells (Qez (List.replicate (key.length+1) 0)) 3):=by rw [hW];exact QaB _ _
 have hWB:Below w.heap.size w W:=by rw [hW];exact (Below.refl _ _).alloc (Nat.le_refl _) _
 rw [← hW] at hmk
 have hWc:W.cell? ⟨w.heap.size,key.length,none⟩=some (.int .i64 0):=by
  rw [Qab hWb]
  simp [Qez]
 have hWf:∀ j,W.frozen? ⟨w.heap.size,j,none⟩=false:=Qam hWb
 clear hW hk
 go_enter Tryz.func224,Tryz.ntmps224
 go_wp2_with fail
 go_loopw [4,5,6,7,8,9] (fun v4 v5 star ends at_ ki wr=>v4=.slice (some ⟨w.heap.size,0,none⟩) (key.length+1) (key.length+1)∧v5=.bool false∧∃ (st e a k:Nat) (pl:List Nat),star=.int .i64 ((st:Int) - 1)∧ends=.int .i64 (e:Int)∧at_=.int .i64 (a:Int)∧ki=.int .i64 (k:Int)∧QeX s.data.toList key st e a k pl∧wr.heap[w.heap.size]?=some (.cells (Qez pl) 3)∧Below w.heap.size w wr) (fun _ _ star ends at_ ki _=>QgX s.data.toList key (intOf star+1).toNat (intOf ends).toNat (intOf at_).toNat)
 case atStart=>
  refine ⟨rfl,rfl,0,0,0,0,(List.replicate (key.length+1) 0).set key.length s.size,rfl,rfl,rfl,rfl,Qsk _ _ _ (by simp) (by simp),?_,?_⟩
  ·rw [← QhI]
   exact Qah _ _ _ _ _ _ hWb
  ·exact hWB.setCell (Nat.le_refl _) _
 case round=>
  obtain ⟨rfl,rfl,st,e,a,k,pl,rfl,rfl,rfl,rfl,hI,hblk,hB⟩:=hrel
  have hkl':=hI.kl
  have hal:=hI.al
  have hea:=hI.ea
  have hsk:=hI.sk
  have hlen:s.data.toList.length=s.size:=by simp
  have HI:=Qaa hI
  have HB:=Qaa hB
  have HBK:=Qaa hblk
  rw [hlen] at hal
  clear hI hB hblk hmk hWb hWB hWc hWf
  have pllen:=HI.out.pll
  have hcell:∀ j,j < key.length+1→∃ x,wr.cell? ⟨w.heap.size,j,none⟩=some x:=fun j hj=>by
   rw [Qab HBK.out]
   exact ⟨_,Array.getElem?_eq_getElem (by simp [Qez];omega)⟩
  have hfz:∀ j,wr.frozen? ⟨w.heap.size,j,none⟩=false:=Qam HBK.out
  have hwr:w.heap.size≤wr.heap.size:=HB.out.size
  by_cases hend:a < s.size∨k < key.length
  rotate_left
  ·have ha:¬ (a:Int) < (s.size:Int):=by omega
   have hk':¬ (k:Int) < (key.length:Int):=by omega
   obtain ⟨hm,hpl⟩:=HI.out.yes (by rw [hlen];omega) (by omega)
   have HM:=Qaa hm
   rw [hpl] at HBK
   clear hm hpl hcell hfz hend
   go_wp2
   go_ret2
   exact ⟨Or.inl ⟨HM.out,w.heap.size,Nat.le_refl _,rfl,HBK.out⟩,HB.out⟩
  have hget:∀ (ha:a < s.data.toList.length),s.data.toList[a]=s.data.toList.getD a 0:=fun ha=>by rw [List.getD_eq_getElem?_getD,List.getElem?_eq_getElem ha];rfl
  by_cases hkk:k < key.length
  rotate_left
  ·have hk':¬ (k:Int) < (key.length:Int):=by omega
   have haa:a < s.size:=by omega
   have ha':(a:Int) < (s.size:Int):=by omega
   have hke:k=key.length:=by omega
   by_cases h0:st=0
   ·have hst:¬ (0:Int)≤(st:Int) - 1:=by omega
    have HN:=Qaa (HI.out.never (Or.inl (by rw [hlen];exact haa)) (fun h=>absurd h hkk) (fun h=>absurd h hkk) (fun h=>h.1 h0))
    clear hcell hfz hend
    go_wp2_with fail
    go_quiet (fail)
    all_goals go_wp2_with fail
    go_ret2
    exact ⟨Or.inr ⟨HN.out,rfl⟩,Qb0 HB.out⟩
   ·have hst:(0:Int)≤(st:Int) - 1:=by omega
    have HL:=Qaa (HI.out.longer h0 (by rw [hlen];exact haa) (Or.inl hke))
    have HMU:=Qaa (HI.out.muLonger (by rw [hlen];exact haa))
    clear hcell hfz hend
    go_wp2_with fail
    go_quiet (fail)
    all_goals go_wp2_with fail
    all_goals exact ⟨⟨rfl,rfl,st,e+1,e+1,st,pl,rfl,Qfh (by omega),Qfh (by omega),Qfh (by omega),HL.out,HBK.out,Qb0 HB.out⟩,QfG HMU.out (by simp only [intOf];omega) (by simp only [intOf];try omega) (by simp only [intOf];try omega) (by simp only [intOf];omega) (by simp only [intOf];try omega) (by simp only [intOf];try omega)⟩
  obtain ⟨g,rfl,hgl,hPc⟩:=HK.out k hkk
  obtain ⟨hp1,hp2⟩:=hPc k hkk
  have c1:wr.cell? ⟨g,k*2,none⟩=some (.int .i64 key[k].1):=by rw [HB.out.cell (p:=⟨g,k*2,none⟩) hgl];exact hp1
  have c2:wr.cell? ⟨g,k*2+1,none⟩=some (.int .u8 key[k].2.toNat):=by rw [HB.out.cell (p:=⟨g,k*2+1,none⟩) hgl];exact hp2
  have hk':(k:Int) < (key.length:Int):=by omega
  have ek:((key[k].1:Int) == 2)=(key[k].1 == 2):=Qgn key[k].1 2
  obtain ⟨x,hx⟩:=hcell k (by omega)
  clear hPc hp1 hp2
  by_cases h2k:key[k].1=2
  ·rw [beq_iff_eq.2 h2k] at ek
   have HS:=Qaa (HI.out.star hkk (h2 k hkk h2k))
   have HMU:=Qaa (HI.out.muStar hkk)
   clear hcell hend
   go_wp2_with fail
   all_goals exact ⟨⟨rfl,rfl,k+1,a,a,k+1,pl.set k a,Qfh (by omega),rfl,rfl,Qfh (by omega),HS.out,by rw [← QhI];exact Qah _ _ _ _ _ _ HBK.out,HB.out.setCell (Nat.le_refl _) _⟩,QfG HMU.out (by simp only [intOf];omega) (by simp only [intOf];try omega) (by simp only [intOf];try omega) (by simp only [intOf];omega) (by simp only [intOf];try omega) (by simp only [intOf];try omega)⟩
  rw [beq_eq_false_iff_ne.2 h2k] at ek
  by_cases haa:a < s.size
  rotate_left
  ·have ha':¬ (a:Int) < (s.size:Int):=by omega
   have HN:=Qaa (HI.out.never (Or.inr hkk) (fun _=>h2k) (fun _ h=>absurd h (by rw [hlen];exact haa)) (fun h=>haa (by rw [← hlen];exact h.2)))
   clear hcell hfz hend
   go_wp2_with fail
   go_quiet (fail)
   all_goals go_wp2_with fail
   all_goals go_ret2
   all_goals exact ⟨Or.inr ⟨HN.out,rfl⟩,Qb0 HB.out⟩
  have ha':(a:Int) < (s.size:Int):=by omega
  have hsa:s.data.toList[a]'(by rw [hlen];exact haa)=s[a]:=rfl
  have hgr:g < wr.heap.size:=Nat.lt_of_lt_of_le hgl hwr
  cases ht:Qex key[k] s[a]
  ·by_cases h0:st=0
   ·have hst:¬ (0:Int)≤(st:Int) - 1:=by omega
    have HN:=Qaa (HI.out.never (Or.inr hkk) (fun _=>h2k) (fun _ h=>ht) (fun h=>h.1 h0))
    clear hcell hend
    go_wp2_with fail
    go_region_held3 (fun w'=>w'.cell? ⟨g,k*2,none⟩=some (.int .i64 key[k].1)∧w'.cell? ⟨g,k*2+1,none⟩=some (.int .u8 key[k].2.toNat)) (first | go_keep | exact ⟨d1,d2⟩) (first | (go_at_call 245;refine (QhC key[k] s[a] _).mono ?_;rintro e w1 ⟨rfl,hb1⟩;rw [ht];have hb2:=QaS hb1;have HB1:=Qaa (HB.out.trans (hb2.mono hwr));have HBK1:=Qaa (Qaq HBK.out hb2);have d1:w1.cell? ⟨g,k*2,none⟩=some (.int .i64 key[k].1):=(hb2.cell (p:=⟨g,k*2,none⟩) hgr).trans c1;have d2:w1.cell? ⟨g,k*2+1,none⟩=some (.int .u8 key[k].2.toNat):=(hb2.cell (p:=⟨g,k*2+1,none⟩) hgr).trans c2;have dx:w1.cell? ⟨w.heap.size,k,none⟩=some x:=(hb2.cell (p:=⟨w.heap.size,k,none⟩) (Qay hx)).trans hx;have dz:∀ j,w1.frozen? ⟨w.heap.size,j,none⟩=false:=Qam HBK1.out;clear hb1 hb2;skip))
    all_goals go_wp2_with fail
    all_goals go_ret2
    all_goals exact ⟨Or.inr ⟨HN.out,rfl⟩,HB1.out⟩
   ·have hst:(0:Int)≤(st:Int) - 1:=by omega
    have HL:=Qaa (HI.out.longer h0 (by rw [hlen];exact haa) (Or.inr ⟨hkk,h2k,ht⟩))
    have HMU:=Qaa (HI.out.muLonger (by rw [hlen];exact haa))
    clear hcell hend
    go_wp2_with fail
    go_region_held3 (fun w'=>w'.cell? ⟨g,k*2,none⟩=some (.int .i64 key[k].1)∧w'.cell? ⟨g,k*2+1,none⟩=some (.int .u8 key[k].2.toNat)) (first | go_keep | exact ⟨d1,d2⟩) (first | (go_at_call 245;refine (QhC key[k] s[a] _).mono ?_;rintro e w1 ⟨rfl,hb1⟩;rw [ht];have hb2:=QaS hb1;have HB1:=Qaa (HB.out.trans (hb2.mono hwr));have HBK1:=Qaa (Qaq HBK.out hb2);have d1:w1.cell? ⟨g,k*2,none⟩=some (.int .i64 key[k].1):=(hb2.cell (p:=⟨g,k*2,none⟩) hgr).trans c1;have d2:w1.cell? ⟨g,k*2+1,none⟩=some (.int .u8 key[k].2.toNat):=(hb2.cell (p:=⟨g,k*2+1,none⟩) hgr).trans c2;have dx:w1.cell? ⟨w.heap.size,k,none⟩=some x:=(hb2.cell (p:=⟨w.heap.size,k,none⟩) (Qay hx)).trans hx;have dz:∀ j,w1.frozen? ⟨w.heap.size,j,none⟩=false:=Qam HBK1.out;clear hb1 hb2;skip))
    all_goals go_wp2_with fail
    all_goals exact ⟨⟨rfl,rfl,st,e+1,e+1,st,pl,rfl,Qfh (by omega),Qfh (by omega),Qfh (by omega),HL.out,HBK1.out,HB1.out⟩,QfG HMU.out (by simp only [intOf];omega) (by simp only [intOf];try omega) (by simp only [intOf];try omega) (by simp only [intOf];omega) (by simp only [intOf];try omega) (by simp only [intOf];try omega)⟩
  ·have HT:=Qaa (HI.out.take hkk (by rw [hlen];exact haa) h2k ht)
   have HMU:=Qaa (HI.out.muTake (by rw [hlen];exact haa))
   clear hcell hend
   go_wp2_with fail
   go_region_held3 (fun w'=>w'.cell? ⟨g,k*2,none⟩=some (.int .i64 key[k].1)∧w'.cell? ⟨g,k*2+1,none⟩=some (.int .u8 key[k].2.toNat)) (first | go_keep | exact ⟨d1,d2⟩) (first | (go_at_call 245;refine (QhC key[k] s[a] _).mono ?_;rintro e w1 ⟨rfl,hb1⟩;rw [ht];have hb2:=QaS hb1;have HB1:=Qaa (HB.out.trans (hb2.mono hwr));have HBK1:=Qaa (Qaq HBK.out hb2);have d1:w1.cell? ⟨g,k*2,none⟩=some (.int .i64 key[k].1):=(hb2.cell (p:=⟨g,k*2,none⟩) hgr).trans c1;have d2:w1.cell? ⟨g,k*2+1,none⟩=some (.int .u8 key[k].2.toNat):=(hb2.cell (p:=⟨g,k*2+1,none⟩) hgr).trans c2;have dx:w1.cell? ⟨w.heap.size,k,none⟩=some x:=(hb2.cell (p:=⟨w.heap.size,k,none⟩) (Qay hx)).trans hx;have dz:∀ j,w1.frozen? ⟨w.heap.size,j,none⟩=false:=Qam HBK1.out;clear hb1 hb2;skip))
   all_goals go_wp2_with fail
   all_goals exact ⟨⟨rfl,rfl,st,e,a+1,k+1,pl.set k a,rfl,rfl,Qfh (by omega),Qfh (by omega),HT.out,by rw [← QhI];exact Qah _ _ _ _ _ _ HBK1.out,HB1.out.setCell (Nat.le_refl _) _⟩,QfG HMU.out (by simp only [intOf];omega) (by simp only [intOf];try omega) (by simp only [intOf];try omega) (by simp only [intOf];omega) (by simp only [intOf];try omega) (by simp only [intOf];try omega)⟩
end Go.Proofs.YtbiclelojbfnbabGreatDoor
