import Derived.Deep.DrawnRows
import Derived.Test.YtenahlandohgaaaGreatDoorZDBase
namespace Go.Proofs.YtenahlandohgaaaGreatDoor
set_option linter.unusedVariables false
set_option linter.unusedSimpArgs false
set_option maxRecDepth 100000
set_option maxHeartbeats 4000000
section
open Go.RowKit
attribute [local go_sem ↓] Go.wp_at_zero Go.wp_at_succ
def PMap (b:Nat) (k:Nat) (o:Obj):Prop:=k=b∧∃ es c,o=.map es c
structure Dop where
 kind:Int
 name:List UInt8
 data:List UInt8
def doF (F:Fs) (o:Dop):Fs:=if o.kind=1 then putF F o.name o.data else delF F o.name
theorem do_put (b n:Nat) (F:Fs) (x s:List UInt8) (w:World) (h:MapF w b n F) (hn:n≤1000000) (hx:x.length≤1000000) :
 Calls Tryz.prog 52 #[.map (some b),.agg #[.int .i64 1,.string (strA x),.string ⟨#[]⟩,.string (strA s)]] w fun e w'=>e=.returned (.tuple #[])∧MapF w' b (n+1) (putF F x s)∧Fr (PMap b) w w':=by
 obtain ⟨V,hV⟩:∃ V,V=(w.alloc (.cells #[.int .i64 1,.string (strA x),.string ⟨#[]⟩,.string (strA s)] 116)).alloc (.cells #[.string (strA s)] 9):=⟨_,rfl⟩
 have hBV:Below w.heap.size w V:=by rw [hV];exact ((Below.refl _ _).alloc (Nat.le_refl _) _).alloc (by simp) _
 obtain ⟨w2,hr,h2,ht⟩:=mapF_put (k:=w.heap.size+1) (s:=s) (h.below hBV) hn hx (by rw [hV];exact blk_newAt (by simp))
 rw [hV] at hr
 have H2:=hide h2
 have HF:=hide ((Fr.of_below (P:=PMap b) hBV).trans (turned_fr ht))
 clear h h2 ht hBV hV
 go_enter Tryz.func52,Tryz.ntmps52
 go_wp2
 go_end0
 exact ⟨rfl,H2.out,HF.out⟩
theorem do_del (b n:Nat) (F:Fs) (x s:List UInt8) (w:World) (h:MapF w b n F) (hx:x.length≤1000000) :
 Calls Tryz.prog 52 #[.map (some b),.agg #[.int .i64 3,.string (strA x),.string ⟨#[]⟩,.string (strA s)]] w fun e w'=>e=.returned (.tuple #[])∧MapF w' b n (delF F x)∧Fr (PMap b) w w':=by
 obtain ⟨V,hV⟩:∃ V,V=w.alloc (.cells #[.int .i64 3,.string (strA x),.string ⟨#[]⟩,.string (strA s)] 116):=⟨_,rfl⟩
 have hBV:Below w.heap.size w V:=by rw [hV];exact (Below.refl _ _).alloc (Nat.le_refl _) _
 obtain ⟨w2,hr,h2,ht⟩:=mapF_del (ty:=0) (h.below hBV) hx
 rw [hV] at hr
 have H2:=hide h2
 have HF:=hide ((Fr.of_below (P:=PMap b) hBV).trans (turned_fr ht))
 clear h h2 ht hBV hV
 go_enter Tryz.func52,Tryz.ntmps52
 go_wp2
 go_end0
 exact ⟨rfl,H2.out,HF.out⟩
end
section
open Go.RowKit
attribute [local go_sem ↓] Go.wp_at_zero Go.wp_at_succ
def ocell (o:Dop):List Value:=[.int .i64 o.kind,.string (strA o.name),.string ⟨#[]⟩,.string (strA o.data)]
def ocells (l:List Dop):List Value:=l.flatMap ocell
theorem ocells_snoc (l:List Dop) (o:Dop):ocells l++ocell o=ocells (l++[o]):=by simp [ocells]
theorem Fr.undrew {P:Nat→Obj→Prop} {w w':World} (h:Fr P w.drew w'):Fr P w w':=⟨h.os,h.tape,h.output,h.size,h.block⟩
def PDk (B:Nat) (k:Nat) (o:Obj):Prop:=B≤k∧((∃ cs,o=.cells cs 84)∨(∃ es c,o=.map es c)∨(∃ cs,o=.cells cs 116))
def PDb (db:Nat) (k:Nat) (o:Obj):Prop:=k=db∧∃ cs,o=.cells cs 84
theorem PDb.toK {B db k:Nat} {o:Obj} (h:PDb db k o) (hb:B≤db):PDk B k o:=by
 obtain ⟨rfl,cs,rfl⟩:=h
 exact ⟨hb,Or.inl ⟨cs,rfl⟩⟩
theorem PMap.toK {B b k:Nat} {o:Obj} (h:PMap b k o) (hb:B≤b):PDk B k o:=by
 obtain ⟨rfl,es,c,rfl⟩:=h
 exact ⟨hb,Or.inr (Or.inl ⟨es,c,rfl⟩)⟩
structure DI (w:World) (B db bd bn n:Nat) (D N:Fs) (p:List Dop) (q:Int) (pv:Value):Prop where
 bb:B≤db∧B≤bd∧B≤bn
 ne:bd≠bn
 blk:w.heap[db]?=some (.cells #[.map (some bd),.map (some bn),pv,.int .i64 q,.int .i64 q,.bool false] 84)
 md:MapF w bd n D
 mn:MapF w bn n N
 row:w.ownsRow B 116 4 pv p.length (ocells p)
theorem DI.fr {P:Nat→Obj→Prop} {w w':World} {B db bd bn n:Nat} {D N:Fs} {p:List Dop} {q:Int} {pv:Value} (h:DI w B db bd bn n D N p q pv) (hf:Fr P w w') (h1:∀ k cs,¬ P k (.cells cs 84)) (h2:∀ k es c,¬ P k (.map es c)) (h3:∀ k cs,¬ P k (.cells cs 116)) (h4:∀ k cs,¬ P k (.cells cs 9)):DI w' B db bd bn n D N p q pv:=
 ⟨h.bb,h.ne,hf.block _ _ h.blk (h1 _ _),h.md.fr hf (h2 _) h4,h.mn.fr hf (h2 _) h4,owns_fr h.row hf h3⟩
theorem DI.below {w w':World} {B db bd bn n:Nat} {D N:Fs} {p:List Dop} {q:Int} {pv:Value} (h:DI w B db bd bn n D N p q pv) (hb:Below w.heap.size w w'):DI w' B db bd bn n D N p q pv:=
 h.fr (P:=fun _ _=>False) (Fr.of_below hb) (fun _ _ h=>h) (fun _ _ _ h=>h) (fun _ _ h=>h) (fun _ _ h=>h)
theorem DI.turn {w w':World} {B db bd bn n:Nat} {D N:Fs} {p:List Dop} {q q':Int} {pv:Value} (h:DI w B db bd bn n D N p q pv) (hf:Fr (PDb db) w w') (hb:w'.heap[db]?=some (.cells #[.map (some bd),.map (some bn),pv,.int .i64 q',.int .i64 q',.bool false] 84)):DI w' B db bd bn n D N p q' pv:=
 ⟨h.bb,h.ne,hb,h.md.fr hf (fun es c ⟨_,cs,e⟩=>by cases e) (fun k cs ⟨_,cs',e⟩=>by injection e with e1 e2;exact absurd e2 (by decide)),h.mn.fr hf (fun es c ⟨_,cs,e⟩=>by cases e) (fun k cs ⟨_,cs',e⟩=>by injection e with e1 e2;exact absurd e2 (by decide)),owns_fr h.row hf (fun k cs ⟨_,cs',e⟩=>by injection e with e1 e2;exact absurd e2 (by decide))⟩
theorem writes_any (B db bd bn n:Nat) (D N:Fs) (p:List Dop) (q:Int) (pv:Value) (w:World) (h:DI w B db bd bn n D N p q pv) (hq0:-1000000≤q) (hq1:q≤-1) :
 Calls Tryz.prog 344 #[.pointer (some ⟨db,0,none⟩)] w fun e w'=>e=.returned .nilIface∧DI w' B db bd bn n D N p (q - 1) pv∧Fr (PDb db) w w':=by
 have HD:=hide h
 have d3:w.cell? ⟨db,3,none⟩=some (.int .i64 q):=blk_cell h.blk 3
 have d4:w.cell? ⟨db,4,none⟩=some (.int .i64 q):=blk_cell h.blk 4
 have d5:w.cell? ⟨db,5,none⟩=some (.bool false):=blk_cell h.blk 5
 have f3:∀ j,w.frozen? ⟨db,j,none⟩=false:=fun j=>blk_frozen h.blk j
 have hq2:¬ q=0:=by omega
 clear h
 go_enter Tryz.func344,Tryz.ntmps344
 go_wp2
 go_ret
 have hP:PDb db db (.cells #[.map (some bd),.map (some bn),pv,.int .i64 q,.int .i64 q,.bool false] 84):=⟨rfl,_,rfl⟩
 have hb1:(w.setCell ⟨db,3,none⟩ (.int .i64 (q - 1))).heap[db]?=some (.cells #[.map (some bd),.map (some bn),pv,.int .i64 (q - 1),.int .i64 q,.bool false] 84):=heap_setCell_at _ _ _ _ _ _ HD.out.blk
 have hf1:=(Fr.refl (PDb db) w).set HD.out.blk hP 3 (.int .i64 (q - 1))
 have hf2:=hf1.set hb1 ⟨rfl,_,rfl⟩ 4 (.int .i64 (q - 1))
 exact ⟨rfl,HD.out.turn hf2 (heap_setCell_at _ _ _ _ _ _ hb1),hf2⟩
theorem DI.rowNe {w:World} {B db bd bn n:Nat} {D N:Fs} {p:List Dop} {q:Int} {pv:Value} (h:DI w B db bd bn n D N p q pv):¬ pv.ownBlock=some db:=fun e=>by
 obtain ⟨_,cs,hcs⟩:=owns_blk h.row db _ e h.blk
 injection hcs with e1 e2
 exact absurd e2 (by decide)
theorem DI.nowTurn {w w':World} {B db bd bn n:Nat} {D N N':Fs} {p:List Dop} {q:Int} {pv:Value} (h:DI w B db bd bn n D N p q pv) (hf:Fr (PMap bn) w w') (hm:MapF w' bn (n+1) N'):DI w' B db bd bn (n+1) D N' p q pv:=
 ⟨h.bb,h.ne,hf.block _ _ h.blk (fun ⟨_,es,c,e⟩=>by cases e),(h.md.fr hf (fun es c ⟨e,_⟩=>h.ne e) (fun k cs ⟨_,es,c,e⟩=>by cases e)).mono (Nat.le_succ _),hm,owns_fr h.row hf (fun k cs ⟨_,es,c,e⟩=>by cases e)⟩
theorem DI.durTurn {w w':World} {B db bd bn n:Nat} {D N D':Fs} {p:List Dop} {q:Int} {pv:Value} (h:DI w B db bd bn n D N p q pv) (hf:Fr (PMap bd) w w') (hm:MapF w' bd (n+1) D'):DI w' B db bd bn (n+1) D' N p q pv:=
 ⟨h.bb,h.ne,hf.block _ _ h.blk (fun ⟨_,es,c,e⟩=>by cases e),hm,(h.mn.fr hf (fun es c ⟨e,_⟩=>h.ne e.symm) (fun k cs ⟨_,es,c,e⟩=>by cases e)).mono (Nat.le_succ _),owns_fr h.row hf (fun k cs ⟨_,es,c,e⟩=>by cases e)⟩
theorem DI.rowTurn {w w5:World} {B db bd bn n:Nat} {D N:Fs} {p p':List Dop} {q:Int} {pv v':Value} (h:DI w B db bd bn n D N p q pv) (hf:Fr (fun k _=>pv.ownBlock=some k) w w5) (ho:w5.ownsRow B 116 4 v' p'.length (ocells p')) :
 DI (w5.setCell ⟨db,2,none⟩ v') B db bd bn n D N p' q v'∧Fr (PDk B) w (w5.setCell ⟨db,2,none⟩ v'):=by
 have hg:Fr (fun k o=>B≤k∧∃ cs,o=.cells cs 116) w w5:=⟨hf.os,hf.tape,hf.output,hf.size,fun k o hk hn=>hf.block k o hk (fun e=>hn (owns_blk h.row k o e hk))⟩
 have hb5:=hg.block _ _ h.blk (fun ⟨_,cs,e⟩=>by injection e with e1 e2;exact absurd e2 (by decide))
 have hf5:=(Fr.refl (PDb db) w5).set hb5 ⟨rfl,_,rfl⟩ 2 v'
 refine ⟨⟨h.bb,h.ne,heap_setCell_at _ _ _ _ _ _ hb5,?_,?_,owns_fr ho hf5 (fun k cs ⟨_,cs',e⟩=>by injection e with e1 e2;exact absurd e2 (by decide))⟩,(hg.mono (fun k o hk=>⟨hk.1,Or.inr (Or.inr hk.2)⟩)).trans (hf5.mono (fun k o hk=>hk.toK h.bb.1))⟩
 ·exact (h.md.fr hg (fun es c ⟨_,cs,e⟩=>by cases e) (fun k cs ⟨_,cs',e⟩=>by injection e with e1 e2;exact absurd e2 (by decide))).fr hf5 (fun es c ⟨_,cs,e⟩=>by cases e) (fun k cs ⟨_,cs',e⟩=>by injection e with e1 e2;exact absurd e2 (by decide))
 ·exact (h.mn.fr hg (fun es c ⟨_,cs,e⟩=>by cases e) (fun k cs ⟨_,cs',e⟩=>by injection e with e1 e2;exact absurd e2 (by decide))).fr hf5 (fun es c ⟨_,cs,e⟩=>by cases e) (fun k cs ⟨_,cs',e⟩=>by injection e with e1 e2;exact absurd e2 (by decide))
theorem Tryz.infoOp:(Tryz.prog.info? 116).map (fun i=>(i.zero,i.size,i.bytes))=some (some (.agg #[.int .i64 0,.string ⟨#[]⟩,.string ⟨#[]⟩,.string ⟨#[]⟩]),4,56):=by kernel_rfl
end
end Go.Proofs.YtenahlandohgaaaGreatDoor
