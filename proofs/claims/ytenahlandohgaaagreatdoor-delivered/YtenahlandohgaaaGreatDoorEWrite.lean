import Derived.Test.YtenahlandohgaaaGreatDoorDList
import Derived.Test.YtenahlandohgaaaGreatDoorDNew
import Derived.Test.YtenahlandohgaaaGreatDoorZEName
import Derived.Test.YtenahlandohgaaaGreatDoorZPlainStore
namespace Go.Proofs.YtenahlandohgaaaGreatDoor
set_option linter.unusedVariables false
set_option linter.unusedSimpArgs false
set_option maxRecDepth 100000
set_option maxHeartbeats 4000000
open Go.RowKit
attribute [local go_sem ↓] Go.wp_at_zero Go.wp_at_succ
abbrev dskV (db:Nat):Value:=.iface 52 (.pointer (some ⟨db,0,none⟩))
def FilE (w:World) (v:Value) (l:List Fl):Prop:=∃ a c,v=.slice a l.length c∧(l≠[]→∃ g cs,a=some ⟨g,0,none⟩∧w.heap[g]?=some (.cells cs 86)∧∀ j (hj:j < l.length),w.cell? ⟨g,j*2,none⟩=some (.string (strA l[j].1))∧w.cell? ⟨g,j*2+1,none⟩=some (.string (strA l[j].2)))
theorem PDk.notFile {B k:Nat} {cs:Array Value}:¬ PDk B k (.cells cs 86):=by
 rintro ⟨_,⟨cs',e⟩ | ⟨es,c,e⟩ | ⟨cs',e⟩⟩
 ·injection e with e1 e2;exact absurd e2 (by decide)
 ·cases e
 ·injection e with e1 e2;exact absurd e2 (by decide)
theorem PDk.notDisk {B k:Nat} {cs:Array Value}:¬ PDk B k (.cells cs 113):=by
 rintro ⟨_,⟨cs',e⟩ | ⟨es,c,e⟩ | ⟨cs',e⟩⟩
 ·injection e with e1 e2;exact absurd e2 (by decide)
 ·cases e
 ·injection e with e1 e2;exact absurd e2 (by decide)
def wOp (f:Fl):Dop:=⟨1,f.1,f.2⟩
theorem Fr.dropNew {P:Nat→Obj→Prop} {w W1 w2:World} {gb:Nat} (h1:Fr P w W1) (h2:Fr (fun k o=>P k o∨PBy gb k o) W1 w2) (hg:w.heap.size≤gb):Fr P w w2:=
 ⟨h2.os.trans h1.os,h2.tape.trans h1.tape,h2.output.trans h1.output,Nat.le_trans h1.size h2.size,fun i o hi hn=>h2.block i o (h1.block i o hi hn) (fun hp=>hp.elim hn (fun ⟨e,_⟩=>by have:=blk_lt hi;omega))⟩
theorem mth_Write (db:Nat) (W:World):(method 554 52 (.pointer (some ⟨db,0,none⟩)) "Write").run Tryz.prog W=.ok (341,.pointer (some ⟨db,0,none⟩)) W:=by kernel_rfl
theorem wstep_any (B db bd bn n fb xb:Nat) (D N:Fs) (p:List Dop) (q:Int) (pv:Value) (fs:List Fl) (fv:Value) (w:World) (h:DI w B db bd bn n D N p q pv) (hf:w.heap[fb]?=some (.cells #[fv] 26)) (hx:w.heap[xb]?=some (.cells #[dskV db] 113)) (hl:FilE w fv fs)
 (hn:n+fs.length≤480000) (hp:p.length+fs.length≤100000) (hq:-100000≤q - fs.length) (hq1:q≤-1) (hs:∀ f∈fs,f.1.length≤1000∧f.2.length≤100000000) :
 Calls Tryz.prog 208 #[.pointer (some ⟨fb,0,none⟩),.pointer (some ⟨xb,0,none⟩)] w fun e w'=>e=.returned .nilIface∧(∃ pv',DI w' B db bd bn (n+fs.length) D (putFs N fs) (p++fs.map wOp) (q - fs.length) pv')∧Fr (PDk B) w w':=by
 obtain ⟨a,c,rfl,hcl⟩:=hl
 have HD:=hide h
 have HF:=hide hf
 have HX:=hide hx
 have HCL:=hide hcl
 have HS:=hide hs
 have f0:w.cell? ⟨fb,0,none⟩=some (.slice a fs.length c):=blk_cell hf 0
 have x0:w.cell? ⟨xb,0,none⟩=some (dskV db):=blk_cell hx 0
 clear h hf hx hcl hs
 go_enter Tryz.func208,Tryz.ntmps208
 go_wp2
 go_loopw [4,5,8] (fun _ _ i wr=>∃ (k:Nat) (pv':Value),k≤fs.length∧i=.int .i64 k∧DI wr B db bd bn (n+k) D (putFs N (fs.take k)) (p++(fs.take k).map wOp) (q - k) pv'∧Fr (PDk B) w wr) (fun _ _ i _=>fs.length - (intOf i).toNat)
 case atStart=>exact ⟨0,pv,Nat.zero_le _,rfl,by simpa [putFs] using HD.out,Fr.refl _ _⟩
 case round=>
  obtain ⟨k,pv1,hk,rfl,hD,hF⟩:=hrel
  have HD1:=hide hD
  have HF1:=hide hF
  clear hD hF
  by_cases hlt:k < fs.length
  rotate_left
  ·have hz:¬ (k:Int) < (fs.length:Int):=by omega
   have hke:k=fs.length:=by omega
   have HKE:=hide hke
   clear hke
   go_wp2
   go_ret
   have h1:=HD1.out
   rw [HKE.out,List.take_length] at h1
   exact ⟨rfl,⟨_,h1⟩,HF1.out⟩
  have hlt':(k:Int) < (fs.length:Int):=by omega
  obtain ⟨g,cs,rfl,hgb,hcc⟩:=HCL.out (fun e=>by rw [e] at hlt;exact absurd hlt (Nat.not_lt_zero _))
  have hat:=hcc k hlt
  have hgb':=HF1.out.block _ _ hgb PDk.notFile
  have hxb':=HF1.out.block _ _ HX.out PDk.notDisk
  have e1:wr.cell? ⟨g,k*2,none⟩=some (.string (strA fs[k].1)):=by rw [World.cell?_of_block (a:=⟨g,k*2,none⟩) (hgb'.trans hgb.symm)];exact hat.1
  have e2:wr.cell? ⟨g,k*2+1,none⟩=some (.string (strA fs[k].2)):=by rw [World.cell?_of_block (a:=⟨g,k*2+1,none⟩) (hgb'.trans hgb.symm)];exact hat.2
  have x1:∀ o,(wr.alloc o).cell? ⟨xb,0,none⟩=some (dskV db):=fun o=>blk_cell (blk_alloc hxb') 0
  have hsk:=HS.out fs[k] (List.getElem_mem hlt)
  have HTK:Hid (putFs N (fs.take (k+1))=putF (putFs N (fs.take k)) fs[k].1 fs[k].2∧p++(fs.take (k+1)).map wOp=(p++(fs.take k).map wOp)++[wOp fs[k]]):=by
   show _∧_
   rw [List.take_succ_eq_append_getElem hlt]
   unfold putFs
   rw [List.foldl_append,List.map_append,List.append_assoc]
   exact ⟨rfl,rfl⟩
  generalize fs[k]=f at *
  obtain ⟨x,s⟩:=f
  dsimp only at e1 e2 hsk HTK
  obtain ⟨V,hV⟩:∃ V,V=wr.alloc (.cells #[.string (strA x),.string (strA s)] 86):=⟨_,rfl⟩
  have hBV:Below wr.heap.size wr V:=by rw [hV];exact (Below.refl _ _).alloc (Nat.le_refl _) _
  have hVs:V.heap.size=wr.heap.size+1:=by rw [hV];simp
  have hcv:=Lib.run_convert_string_bytes (P:=Tryz.prog) V 9 111 5 (strA s) (u:=.string) Tryz.underlying9 Tryz.underlying111 Tryz.underlying5
  have hB1:=Lib.bytesWorld_below V 5 (strA s)
  have hcell:∀ j (hj:j < s.length),(Lib.bytesWorld V 5 (strA s)).cell? ⟨V.heap.size,j,none⟩=some (.int .u8 (s[j].toNat:Int)):=fun j hj=>by
   rw [Lib.bytesWorld_cell V 5 (strA s) j (by rw [strA_size];exact hj)]
   rw [show (strA s).data.toList=s from rfl,List.getD_eq_getElem?_getD,List.getElem?_eq_getElem hj];rfl
  have hfz:∀ j,j < s.length→(Lib.bytesWorld V 5 (strA s)).frozen? ⟨V.heap.size,j,none⟩=false:=fun j hj=>by
   unfold World.frozen?;rw [Lib.bytesWorld_at_new];simp [Lib.bytesCells,strA_size];omega
  have hnew:=Lib.bytesWorld_at_new V 5 (strA s)
  have hzs:=strA_size s
  rw [hzs] at hcv
  rw [hV] at hcv
  generalize hbw:Lib.bytesWorld V 5 (strA s)=W1 at hB1 hcell hfz hnew
  rw [← hV,hbw,hVs] at hcv
  rw [hV] at hcv
  rw [hVs] at hcell hfz hnew
  have HBI:Hid (BI W1 (wr.heap.size+1) s.length):=⟨⟨_,_,hnew⟩,fun j hj=>⟨_,hcell j hj⟩,hfz⟩
  have HCE:=hide hcell
  have HBW:=hide (hBV.trans (hB1.mono (by omega)))
  have HDW:=hide (HD1.out.below HBW.out)
  have HXW:=hide (blk_below hxb' HBW.out)
  have x2:W1.cell? ⟨xb,0,none⟩=some (dskV db):=blk_cell HXW.out 0
  generalize grownCap (wr.alloc (.cells #[.string (strA x),.string (strA s)] 86)) s.length 0 5=cap at hcv
  have hmt:=mth_Write db
  clear hat hcc hgb' hxb' hgb f0 x0 hB1 hcell hfz hnew hbw hBV hV
  go_wp2_with fail
  refine (write_any B db bd bn (n+k) (wr.heap.size+1) cap D _ _ (q - k) pv1 x s W1 HDW.out (by omega) (by omega) (by omega) (by rw [List.length_append,List.length_map,List.length_take];omega) (by omega) HBI.out HCE.out (by omega)).mono ?_
  rintro e w2 ⟨rfl,⟨pv2,hD2⟩,hF2⟩
  have HF2:=hide (Fr.dropNew (HF1.out.trans (Fr.of_below HBW.out)) hF2 (by have:=HF1.out.size;omega))
  have HD2:=hide hD2
  clear hD2 hF2 hcv x1 x2 e1 e2
  go_wp2
  refine ⟨⟨k+1,pv2,by omega,by go_num,?_,HF2.out⟩,by simp [intOf];omega⟩
  rw [HTK.out.1,HTK.out.2]
  have h1:=HD2.out
  rw [show q - (k:Int) - 1=q - ((k+1:Nat):Int) by omega] at h1
  exact h1
end Go.Proofs.YtenahlandohgaaaGreatDoor
