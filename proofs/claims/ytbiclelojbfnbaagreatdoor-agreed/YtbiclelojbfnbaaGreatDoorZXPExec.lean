import Derived.Laws.AppendOwnNone
import Derived.Test.YtbiclelojbfnbaaGreatDoorZKSmall
namespace Go.Proofs.YtbiclelojbfnbaaGreatDoor
set_option linter.unusedVariables false
set_option linter.unusedSimpArgs false
set_option maxRecDepth 100000
set_option maxHeartbeats 4000000
section
open Go.RowKit
attribute [local go_sem ↓] Go.wp_at_zero Go.wp_at_succ
theorem tcells_one (zs:List (List UInt8)):∀ u∈tcells zs,u.oneCell'=true:=by
 intro u hu
 unfold tcells at hu
 obtain ⟨x,_,rfl⟩:=List.mem_map.1 hu
 rfl
theorem append_txt {w:World} {ops:Array Oper} {rest:List Oper} {o:Oper} {a:Act} {Q:Exit→Act→World→Prop} (hgd:o.guard=none) (s x:Operand)
  (ho:o.op=.call { callee:=.builtin .append,args:=#[s,x],argTypes:=#[60,60] }) (zs:List (List UInt8)) (sv:Value) (hs:a.eval s=.slice none 0 0) (hx:a.eval x=sv) (h:SlT w sv zs) (hl:zs.length≤1000000)
  (K:∀ a' k' w',w'.ownsRow w.heap.size 9 1 (.slice a' zs.length k') zs.length (tcells zs)→Below w.heap.size w w'→wpList Tryz.prog ops Q rest (a.put o.dst (.slice a' zs.length k')) w'):wpList Tryz.prog ops Q (o :: rest) a w:=by
 obtain ⟨i0,hi,hz0,hz1,hz2⟩:=info_parts Tryz.infoStr
 rcases h with ⟨rfl,rfl⟩ | ⟨g,c,rfl,ht⟩
 ·exact wpList_append_own_none hgd s x _ ho w.heap.size 9 i0 1 Tryz.underlying60 hi (.slice none 0 0) 0 [] hs (World.ownsRow_nil _ _ _ _) hx (K none 0 w (World.ownsRow_nil _ _ _ _) (Below.refl _ _))
 ·refine wpList_append_own _ hgd s x _ ho w.heap.size 9 i0 _ 1 16 Tryz.underlying60 hi hz0 hz1 hz2 rfl (by decide) (.slice none 0 0) 0 [] hs (World.ownsRow_nil _ _ _ _) ⟨g,0,none⟩ zs.length c (tcells zs) hx (by rw [tcells_length];omega) (fun j u hj=>?_) (tcells_one zs) (by unfold maxLen;omega) (by omega) (Nat.le_refl _) (fun v' w' ho' hg' _=>?_)
  ·rw [addr_add0]
   obtain ⟨cs,hb,hc⟩:=ht
   have hjl:j < zs.length:=by rw [← tcells_length];exact (List.getElem?_eq_some_iff.1 hj).1
   rw [tcells_at zs j hjl] at hj
   rw [blk_cell hb,hc j hjl]
   exact hj
  ·rw [Nat.zero_add,List.nil_append] at ho'
   obtain ⟨a',k',hv⟩:=owns_len ho'
   subst hv
   exact K a' k' w' ho' (grown_belowB (Below.refl _ _) hg' (Nat.le_refl _) (fun k hk=>nomatch hk))
theorem mexec_any (v:Bool) (ca ha:Option Addr) (cn cc hn hc:Nat) (code:List Ins) (M:Msg) (w:World) (hcv:CodeV w (.slice ca cn cc) code) (hh:HdrV w (.slice ha hn hc) M.hdrs) (hb:SBd M (ss0 v)) (he:Env w) (hcl:code.length≤1000000) :
  Calls Tryz.prog 50 #[.bool v,.slice ca cn cc,msgV M (.slice ha hn hc)] w (XPost (execL v code M) w):=by
 obtain ⟨m1,hm1⟩:=he.m1
 have h1:1 < w.heap.size:=cell_lt hm1
 have HCV:=hide hcv
 have HH:=hide hh
 have HE:=hide he
 have HBD:=hide hb
 obtain ⟨r,hr⟩:∃ r,execL v code M=r:=⟨_,rfl⟩
 have HR:=hide hr
 rw [hr]
 clear hcv hh he hb hm1 hr m1
 have hms:∀ (a:Option Addr) (n c:Nat),msgV M (.slice a n c)=.agg #[.string (strA M.fr),.string (strA M.to),.int .i64 M.size,.slice a n c]:=fun _ _ _=>rfl
 rw [hms]
 have HMS:=hide hms
 clear hms
 obtain ⟨W0,hW0⟩:∃ W0,W0=w.alloc (.cells #[.string (strA M.fr),.string (strA M.to),.int .i64 M.size,.slice ha hn hc] 48):=⟨_,rfl⟩
 have HB0:Hid (Below w.heap.size w W0):=by show Below _ _ _;rw [hW0];exact (Below.refl _ _).alloc (Nat.le_refl _) _
 have HWW:=hide hW0
 have h0s:=HB0.out.size
 clear hW0
 go_enter Tryz.func50,Tryz.ntmps50
 go_wp2_with fail
 rw [← HWW.out,← HMS.out]
 have HX:Hid (Calls Tryz.prog 80 #[.bool v,.slice ca cn cc,msgV M (.slice ha hn hc)] W0 (XPost r W0)):=by
  show Calls _ _ _ _ _
  rw [← HR.out]
  have hE0:=HE.out.below HB0.out
  exact exec_any v _ _ code M W0 (HCV.out.below HB0.out) (HH.out.fr (P:=fun _ _=>False) (Fr.of_below HB0.out) (fun _ _ h=>h)) HBD.out (by omega) hE0.m1 hE0.tab hcl
 refine HX.out.mono ?_
 clear HX
 rintro e w1 ⟨hB1,hX⟩
 have HB1:=hide (HB0.out.trans (hB1.mono h0s))
 clear hB1
 rcases hX with ⟨lv,h1,rfl,hA⟩ | ⟨lv,f,bb,h1,rfl,hA,hbb,hF⟩
 ·obtain ⟨la,lc,hlv⟩:=owns_len hA.1
  subst hlv
  have HFIN:Hid (XPost r w (.returned (.tuple #[.slice la r.1.length lc,.int .i64 (r.2.1:Int),.nilIface])) w1):=⟨HB1.out,Or.inl ⟨_,h1,rfl,hA.lo h0s⟩⟩
  clear hA h1
  go_wp2
  refine bodyPost_ret (v:=.tuple #[.slice la r.1.length lc,.int .i64 (r.2.1:Int),.nilIface]) (by simp [results,Tryz.results50,go_sem]) rfl ?_
  exact HFIN.out
 ·obtain ⟨la,lc,hlv⟩:=owns_len hA.1
  subst hlv
  have HFIN:Hid (XPost r w (.returned (.tuple #[.slice la r.1.length lc,.int .i64 (r.2.1:Int),.iface 140 (.pointer (some ⟨bb,0,none⟩))])) w1):=⟨HB1.out,Or.inr ⟨_,f,bb,h1,rfl,hA.lo h0s,Nat.le_trans h0s hbb,hF⟩⟩
  clear hA h1 hF hbb
  go_wp2
  refine bodyPost_ret (v:=.tuple #[.slice la r.1.length lc,.int .i64 (r.2.1:Int),.iface 140 (.pointer (some ⟨bb,0,none⟩))]) (by simp [results,Tryz.results50,go_sem]) rfl ?_
  exact HFIN.out
end
section
open Go.RowKit
attribute [local go_sem ↓] Go.wp_at_zero Go.wp_at_succ
def PXPost (r:List (Int×List UInt8)×Nat×Option FZ) (w:World) (e:Ending) (w':World):Prop:=
 Below w.heap.size w w'∧∃ lv,e=.returned (.tuple #[lv,.int .i64 (r.2.1:Int),.int .i64 (toldZ r.2.2).1,.int .i64 (toldZ r.2.2).2])∧ActsV w' w.heap.size lv r.1
structure CopyL (w:World) (B:Nat) (lv:Value) (ps:List IV):Prop where
 row:w.ownsRow B 62 7 lv ps.length (icells ps)
 ok:∀ p∈ps,InsOk w p.1 p.2.1 p.2.2
 own:∀ p∈ps,w.ownsRow B 9 1 p.2.1 p.1.a.length (tcells p.1.a)
 nil:ps=[]→lv=.slice none 0 0
theorem CopyL.fr {P:Nat→Obj→Prop} {w w':World} {B:Nat} {lv:Value} {ps:List IV} (h:CopyL w B lv ps) (hf:Fr P w w') (h2:∀ k cs,¬ P k (.cells cs 62)) (h3:∀ k cs,¬ P k (.cells cs 9)):CopyL w' B lv ps:=
 ⟨owns_fr h.row hf h2,fun p hp=>(h.ok p hp).fr hf h3,fun p hp=>owns_fr (h.own p hp) hf h3,h.nil⟩
theorem CopyL.below {w w':World} {B:Nat} {lv:Value} {ps:List IV} (h:CopyL w B lv ps) (hb:Below w.heap.size w w'):CopyL w' B lv ps:=h.fr (P:=fun _ _=>False) (Fr.of_below hb) (fun _ _ h=>h) (fun _ _ h=>h)
theorem CopyL.codeO {w:World} {B:Nat} {lv:Value} {ps:List IV} (h:CopyL w B lv ps):CodeO w B lv (ps.map Prod.fst):=⟨ps,rfl,h.row,h.ok,h.nil⟩
theorem icells_one1 (i:Ins) (a b:Option Addr) (n k m l:Nat):∀ u∈icells [(i,.slice a n k,.slice b m l)],u.oneCell'=true:=by
 intro u hu
 simp [icells,icell] at hu
 rcases hu with rfl | rfl | rfl | rfl | rfl | rfl | rfl <;> rfl
theorem copy_src (w:World) (i:Ins) {av bv:Value} {box:Nat} {x:Value}:∀ j u,(icells [(i,av,bv)])[j]?=some u→((w.setCell ⟨box,5,none⟩ x).alloc (.cells #[.int .i64 i.op,.int .i64 i.n,.int .i64 i.tag,.bool i.oct,av,bv,.int .i64 i.at_] 62)).cell? ((⟨w.heap.size,0,none⟩:Addr).add j)=some u:=by
 intro j u hj
 rw [addr_add0,blk_cell (show ((w.setCell ⟨box,5,none⟩ x).alloc (.cells #[.int .i64 i.op,.int .i64 i.n,.int .i64 i.tag,.bool i.oct,av,bv,.int .i64 i.at_] 62)).heap[w.heap.size]?=some (.cells (icells [(i,av,bv)]).toArray 62) from blk_newAt (by simp))]
 simpa using hj
theorem copy_row {wr w2 w3:World} {B n box:Nat} {lv av bv:Value} {xs:List Value} {o1:Array Value} (hc:wr.ownsRow B 62 7 lv n xs) (hbox:box=wr.heap.size)
  (h2:Below (wr.heap.size+1) (wr.alloc (.cells o1 62)) w2) (hb2:w2.heap[box]?=some (.cells o1 62)) (h3:Below w2.heap.size (w2.setCell ⟨box,4,none⟩ av) w3) (o:Obj) :
  ((w3.setCell ⟨box,5,none⟩ bv).alloc o).ownsRow B 62 7 lv n xs:=by
 subst hbox
 have hB2:Below wr.heap.size wr w2:=((Below.refl _ _).alloc (Nat.le_refl _) _).trans (h2.mono (by omega))
 have hzU:(w2.setCell ⟨wr.heap.size,4,none⟩ av).heap.size=w2.heap.size:=by simp
 have h3':Below (w2.setCell ⟨wr.heap.size,4,none⟩ av).heap.size (w2.setCell ⟨wr.heap.size,4,none⟩ av) w3:=by rw [hzU];exact h3
 have r2:=owns_fr hc (P:=fun _ _=>False) (Fr.of_below hB2) (fun _ _ h=>h)
 have hne:lv.ownBlock≠some wr.heap.size:=fun e=>by have:=(hc.lt _ e).2;omega
 have r3:=owns_fr (owns_setOth r2 hne 4 av) (P:=fun _ _=>False) (Fr.of_below h3') (fun _ _ h=>h)
 exact (owns_setOth r3 hne 5 bv).alloc _
theorem copy_round {wr w2 w3 w5:World} {B la:Nat} {lv v5 av bv:Value} {ps:List IV} {i:Ins} {box:Nat} {o1:Array Value}
  (hbox:box=wr.heap.size) (hBw:B≤wr.heap.size) (hc:CopyL wr B lv ps)
  (h2:Below (wr.heap.size+1) (wr.alloc (.cells o1 62)) w2) (hb2:w2.heap[box]?=some (.cells o1 62)) (hA:w2.ownsRow (wr.heap.size+1) 9 1 av i.a.length (tcells i.a))
  (h3:Below w2.heap.size (w2.setCell ⟨box,4,none⟩ av) w3) (hB:w3.ownsRow w2.heap.size 9 1 bv i.b.length (tcells i.b)) (hb3:w3.heap[box]?=some (.cells (o1.setIfInBounds 4 av) 62))
  (hi:(∀ z∈i.a,z.length≤100000)∧(∀ z∈i.b,z.length≤100000)∧i.a.length≤1000000∧i.b.length≤1000000∧-9223372036854775808≤i.n∧i.n≤9223372036854775807)
  (ho5:w5.ownsRow B 62 7 v5 (ps.length+1) (icells ps++icells [(i,av,bv)])) (hg5:((w3.setCell ⟨box,5,none⟩ bv).alloc (.cells (icells [(i,av,bv)]).toArray 62)).grownBy w5 lv.ownBlock) :
  CopyL w5 B v5 (ps++[(i,av,bv)])∧Below B wr w5:=by
 subst hbox
 have hB2:Below wr.heap.size wr w2:=((Below.refl _ _).alloc (Nat.le_refl _) _).trans (h2.mono (by omega))
 have hz2:wr.heap.size+1≤w2.heap.size:=by have:=h2.size;simpa using this
 have hzU:(w2.setCell ⟨wr.heap.size,4,none⟩ av).heap.size=w2.heap.size:=by simp
 have h3':Below (w2.setCell ⟨wr.heap.size,4,none⟩ av).heap.size (w2.setCell ⟨wr.heap.size,4,none⟩ av) w3:=by rw [hzU];exact h3
 have f2:Fr (fun k o=>∃ cs,o=.cells cs 62) w2 (w2.setCell ⟨wr.heap.size,4,none⟩ av):=(Fr.refl _ w2).set hb2 ⟨_,rfl⟩ 4 av
 have f4:Fr (fun k o=>∃ cs,o=.cells cs 62) w3 ((w3.setCell ⟨wr.heap.size,5,none⟩ bv).alloc (.cells (icells [(i,av,bv)]).toArray 62)):=((Fr.refl _ w3).set hb3 ⟨_,rfl⟩ 5 bv).alloc _
 have hz3:w2.heap.size≤w3.heap.size:=by have:=h3'.size;rw [hzU] at this;exact this
 have hrow4:((w3.setCell ⟨wr.heap.size,5,none⟩ bv).alloc (.cells (icells [(i,av,bv)]).toArray 62)).ownsRow B 62 7 lv ps.length (icells ps):=by
  have r2:=owns_fr hc.row (P:=fun _ _=>False) (Fr.of_below hB2) (fun _ _ h=>h)
  have hne:lv.ownBlock≠some wr.heap.size:=fun e=>by have:=(hc.row.lt _ e).2;omega
  have r3:=owns_fr (owns_setOth r2 hne 4 av) (P:=fun _ _=>False) (Fr.of_below h3') (fun _ _ h=>h)
  exact (owns_setOth r3 hne 5 bv).alloc _
 have f6:Fr (fun k o=>∃ cs,o=.cells cs 62) _ w5:=(Fr.refl _ _).grown hg5 (fun k o e ho=>(owns_blk hrow4 k o e ho).2)
 have F3:=f4.trans f6
 have F2:=(f2.trans (Fr.of_below h3')).trans F3
 have F0:Fr (fun k o=>∃ cs,o=.cells cs 62) wr w5:=(Fr.of_below hB2).trans F2
 have hnS:∀ (k:Nat) (cs:Array Value),¬ (∃ cs',Obj.cells cs 9=.cells cs' 62):=fun k cs ⟨cs',e⟩=>by injection e with _ e;exact absurd e (by decide)
 have hA5:=owns_fr hA F2 hnS
 have hB5:=owns_fr hB F3 hnS
 refine ⟨⟨?_,fun p hp=>?_,fun p hp=>?_,fun e=>absurd (List.append_eq_nil_iff.1 e).2 (by simp)⟩,?_⟩
 ·rw [List.length_append,icells_append];exact ho5
 ·rcases List.mem_append.1 hp with hp | hp
  ·exact (hc.ok p hp).fr F0 hnS
  ·rw [List.mem_singleton.1 hp]
   exact ⟨SlT.of_owns hA5 rfl,SlT.of_owns hB5 rfl,hi.1,hi.2.1,hi.2.2.1,hi.2.2.2.1,hi.2.2.2.2.1,hi.2.2.2.2.2⟩
 ·rcases List.mem_append.1 hp with hp | hp
  ·exact owns_fr (hc.own p hp) F0 hnS
  ·rw [List.mem_singleton.1 hp]
   exact owns_lo hA5 (by omega)
 ·have b1:Below B wr (w2.setCell ⟨wr.heap.size,4,none⟩ av):=(hB2.mono hBw).setCell hBw av
  have b2:Below B wr w3:=b1.trans (h3.mono (by omega))
  have b3:Below B wr ((w3.setCell ⟨wr.heap.size,5,none⟩ bv).alloc (.cells (icells [(i,av,bv)]).toArray 62)):=(b2.setCell hBw bv).alloc (by simp;omega) _
  exact grown_belowB b3 hg5 (by simp;omega) (fun k hk=>(hc.row.lt k hk).1)
def StrB (w:World) (B:Nat) (v:Value) (n:Nat):Prop:=
 (v=.slice none 0 0∧n=0)∨∃ g c cs,v=.slice (some ⟨g,0,none⟩) n c∧B≤g∧w.heap[g]?=some (.cells cs 9)∧n≤cs.size
theorem StrB.of_owns {w:World} {B:Nat} {v:Value} {zs:List (List UInt8)} (h:w.ownsRow B 9 1 v zs.length (tcells zs)):StrB w B v zs.length:=by
 rcases h.2 with h2 | ⟨g,cap,cur,hv,hg,hb,hc,_,hs,ht⟩
 ·exact Or.inl h2
 ·exact Or.inr ⟨g,cap,cur,hv,hg,hb,by omega⟩
theorem StrB.set {w:World} {B:Nat} {v:Value} {n:Nat} (h:StrB w B v n) (b j:Nat) (x:Value):StrB (w.setCell ⟨b,j,none⟩ x) B v n:=by
 rcases h with h | ⟨g,c,cs,hv,hg,hb,hn⟩
 ·exact Or.inl h
 ·by_cases e:g=b
  ·subst e
   exact Or.inr ⟨g,c,_,hv,hg,heap_setCell_at _ _ _ _ _ _ hb,by simpa using hn⟩
  ·exact Or.inr ⟨g,c,cs,hv,hg,by rw [Below.heap_setCell _ _ _ _ e];exact hb,hn⟩
theorem StrB.len {w:World} {B:Nat} {v:Value} {n:Nat} (h:StrB w B v n):∃ a c,v=.slice a n c:=by
 rcases h with ⟨rfl,rfl⟩ | ⟨g,c,cs,hv,_⟩
 ·exact ⟨_,_,rfl⟩
 ·exact ⟨_,_,hv⟩
def PWr (B:Nat) (k:Nat) (o:Obj):Prop:=B≤k∧((∃ cs,o=.cells cs 9)∨∃ cs,o=.cells cs 62)
theorem PWr.not {B k:Nat} {cs:Array Value} {t:TypeId} {f:Nat×Nat} (h1:t≠9) (h2:t≠62):¬ PWr B k (.cells cs t f):=fun h=>by
 rcases h.2 with ⟨cs',e⟩ | ⟨cs',e⟩
 ·injection e with _ e;exact h1 e
 ·injection e with _ e;exact h2 e
structure WrI (W w:World) (B:Nat) (lv:Value) (ps:List IV) (i:Nat) (xs:List Value):Prop where
 row:w.ownsRow B 62 7 lv ps.length xs
 left:∀ j (hj:j < ps.length),i≤j→xs[j*7+4]?=some ps[j].2.1
 str:∀ p∈ps,StrB w B p.2.1 p.1.a.length
 fr:Fr (PWr B) W w
theorem WrI.text {W w:World} {B:Nat} {lv:Value} {ps:List IV} {i:Nat} {xs:List Value} (h:WrI W w B lv ps i xs) {g:Nat} {cs:Array Value} (hb:w.heap[g]?=some (.cells cs 9)) (hg:B≤g) (j:Nat) (x:Value):WrI W (w.setCell ⟨g,j,none⟩ x) B lv ps i xs:=by
 have hne:lv.ownBlock≠some g:=fun e=>by
  obtain ⟨_,cs',e⟩:=owns_blk h.row g _ e hb
  injection e with _ e
  exact absurd e (by decide)
 exact ⟨owns_setOth h.row hne _ _,h.left,fun p hp=>(h.str p hp).set _ _ _,h.fr.set hb ⟨hg,Or.inl ⟨_,rfl⟩⟩ _ _⟩
theorem WrI.over {W w:World} {B g c:Nat} {ps:List IV} {i:Nat} {xs:List Value} (h:WrI W w B (.slice (some ⟨g,0,none⟩) ps.length c) ps i xs) (u0 u1 u2 u3 u4 u5 u6:Value) :
  ∃ xs',WrI W (((((((w.setCell ⟨g,i*7,none⟩ u0).setCell ⟨g,i*7+1,none⟩ u1).setCell ⟨g,i*7+2,none⟩ u2).setCell ⟨g,i*7+3,none⟩ u3).setCell ⟨g,i*7+4,none⟩ u4).setCell ⟨g,i*7+5,none⟩ u5).setCell ⟨g,i*7+6,none⟩ u6) B (.slice (some ⟨g,0,none⟩) ps.length c) ps (i+1) xs':=by
 have step:∀ (w:World) (xs:List Value) (q:Nat) (u:Value),w.ownsRow B 62 7 (.slice (some ⟨g,0,none⟩) ps.length c) ps.length xs→(∀ p∈ps,StrB w B p.2.1 p.1.a.length)→Fr (PWr B) W w→
   (w.setCell ⟨g,q,none⟩ u).ownsRow B 62 7 (.slice (some ⟨g,0,none⟩) ps.length c) ps.length (xs.set q u)∧(∀ p∈ps,StrB (w.setCell ⟨g,q,none⟩ u) B p.2.1 p.1.a.length)∧Fr (PWr B) W (w.setCell ⟨g,q,none⟩ u):=fun w xs q u h1 h2 h3=>by
  obtain ⟨s1,s2⟩:=h1.stored q u
  refine ⟨s1,fun p hp=>(h2 p hp).set _ _ _,h3.trans ((Fr.refl _ w).grown s2 (fun k o e ho=>?_))⟩
  obtain ⟨hb,cs,hcs⟩:=owns_blk h1 k o e ho
  exact ⟨hb,Or.inr ⟨cs,hcs⟩⟩
 obtain ⟨a0,b0,c0⟩:=step _ _ (i*7) u0 h.row h.str h.fr
 obtain ⟨a1,b1,c1⟩:=step _ _ (i*7+1) u1 a0 b0 c0
 obtain ⟨a2,b2,c2⟩:=step _ _ (i*7+2) u2 a1 b1 c1
 obtain ⟨a3,b3,c3⟩:=step _ _ (i*7+3) u3 a2 b2 c2
 obtain ⟨a4,b4,c4⟩:=step _ _ (i*7+4) u4 a3 b3 c3
 obtain ⟨a5,b5,c5⟩:=step _ _ (i*7+5) u5 a4 b4 c4
 obtain ⟨a6,b6,c6⟩:=step _ _ (i*7+6) u6 a5 b5 c5
 refine ⟨_,a6,fun j hj hij=>?_,b6,c6⟩
 have hl:=h.left j hj (by omega)
 rw [List.getElem?_set_ne (by omega),List.getElem?_set_ne (by omega),List.getElem?_set_ne (by omega),List.getElem?_set_ne (by omega),List.getElem?_set_ne (by omega),List.getElem?_set_ne (by omega),List.getElem?_set_ne (by omega)]
 exact hl
theorem pexec_any (v:Bool) (cv hv:Value) (code:List Ins) (M:Msg) (w:World) (he:Env w) (hc:CodeV w cv code) (hcl:code.length≤1000000) (hh:HdrG w hv M.hdrs) (hbd:∀ v,SBd M (ss0 v)) :
  Calls Tryz.prog 30 #[.bool v,cv,msgV M hv] w (PXPost (execL v code M) w):=by
 have hml:=(hbd true).hl
 obtain ⟨ah,ch,rfl⟩:=hh.len
 obtain ⟨ca,cc,rfl⟩:=hc.len
 have HC:=hide hc
 have HHD:=hide hh
 have HE:=hide he
 have HBD:=hide hbd
 obtain ⟨r,hrr⟩:∃ r,execL v code M=r:=⟨_,rfl⟩
 rw [hrr]
 have HRR:=hide hrr
 obtain ⟨i0,hi0,hz0,hz1,hz2⟩:=info_parts Tryz.infoIns
 clear hh he hbd hc hrr
 have hms:∀ (a:Option Addr) (n c:Nat),msgV M (.slice a n c)=.agg #[.string (strA M.fr),.string (strA M.to),.int .i64 M.size,.slice a n c]:=fun _ _ _=>rfl
 rw [hms]
 have HMS:=hide hms
 clear hms
 go_enter Tryz.func30,Tryz.ntmps30
 go_wp2_with fail
 obtain ⟨W0,hW0⟩:∃ W0,W0=w.alloc (.cells #[.string (strA M.fr),.string (strA M.to),.int .i64 M.size,.slice ah M.hdrs.length ch] 48):=⟨_,rfl⟩
 rw [← hW0]
 have hB0:Below w.heap.size w W0:=by rw [hW0];exact (Below.refl _ _).alloc (Nat.le_refl _) _
 have h0s:=hB0.size
 clear hW0
 rw [← HMS.out]
 refine (fields_any M _ W0 (HHD.out.below hB0) hml).mono ?_
 rintro e w1 ⟨a1,k1,rfl,ho1,hB1'⟩
 have hB1:Below w.heap.size w w1:=hB0.trans (hB1'.mono h0s)
 have HO1:=hide ho1
 have HB1:=hide hB1
 have h1s:=hB1.size
 clear ho1 hB1 hB1' hB0
 rw [HMS.out]
 go_wp2_with fail
 obtain ⟨V,hV⟩:∃ V,V=w1.alloc (.cells #[.string (strA M.fr),.string (strA M.to),.int .i64 M.size,.slice a1 M.hdrs.length k1] 48):=⟨_,rfl⟩
 rw [← hV]
 have hBV:Below w1.heap.size w1 V:=by rw [hV];exact (Below.refl _ _).alloc (Nat.le_refl _) _
 have hMV:V.heap[w1.heap.size]?=some (.cells #[.string (strA M.fr),.string (strA M.to),.int .i64 M.size,.slice a1 M.hdrs.length k1] 48):=by rw [hV];exact blk_new _ _
 have hB1V:=HB1.out.trans (hBV.mono h1s)
 have HOV:=hide (HO1.out.below hBV)
 have HEV:=hide (HE.out.below hB1V)
 have HCV:=hide (HC.out.below hB1V)
 have HBV:=hide hB1V
 have HMV:=hide hMV
 have hVs:=hB1V.size
 have hVl:=blk_lt hMV
 clear hBV hMV hV hB1V
 go_loopw [11,13,25] (fun lv _ i wr=>∃ (k:Nat) (ps:List IV),k≤code.length∧i=.int .i64 (k:Int)∧ps.map Prod.fst=code.take k∧CopyL wr V.heap.size lv ps∧Below V.heap.size V wr) (fun _ _ i _=>code.length - (intOf i).toNat)
 case atStart=>exact ⟨0,[],Nat.zero_le _,by go_num,rfl,⟨World.ownsRow_nil _ _ _ _,fun p hp=>(nomatch hp),fun p hp=>(nomatch hp),fun _=>rfl⟩,Below.refl _ _⟩
 case round=>
  obtain ⟨k,ps,hk,rfl,hps,hcp,hB⟩:=hrel
  have hBs:=hB.size
  have hpl:ps.length=k:=by
   have:=congrArg List.length hps
   rw [List.length_map,List.length_take] at this
   omega
  by_cases hlt:k < code.length
  ·obtain ⟨g,gcs,hga,hgb,av,bv,a0,a1',a2,a3,a4,a5,a6,hok⟩:=HCV.out.get' k hlt
   subst hga
   have hgB:=blk_lt hgb
   have hcell:∀ j u,gcs[j]?=some u→wr.cell? ⟨g,j,none⟩=some u:=fun j u hj=>by
    rw [hB.cell (p:=⟨g,j,none⟩) hgB,blk_cell hgb];exact hj
   have e0:=hcell _ _ a0
   have e1:=hcell _ _ a1'
   have e2:=hcell _ _ a2
   have e3:=hcell _ _ a3
   have e4:=hcell _ _ a4
   have e5:=hcell _ _ a5
   have e6:=hcell _ _ a6
   have HS:Hid (code.take (k+1)=code.take k++[code[k]]):=by
    show _=_
    rw [List.take_add_one,List.getElem?_eq_getElem hlt];rfl
   obtain ⟨i,hi⟩:∃ i,code[k]=i:=⟨_,rfl⟩
   rw [hi] at e0 e1 e2 e3 e6 hok HS
   obtain ⟨aa,ac,hav⟩:=hok.a.len
   obtain ⟨ba,bc,hbv⟩:=hok.b.len
   subst hav hbv
   have hokr:=hok.below (hB.mono (Nat.le_refl _))
   have HI:=hide (And.intro hok.al (And.intro hok.bl (And.intro hok.an (And.intro hok.bn (And.intro hok.n1 hok.n2)))))
   have han:=hok.an
   have hbn:=hok.bn
   have hB0:∀ o,Below wr.heap.size wr (wr.alloc o):=fun o=>(Below.refl _ _).alloc (Nat.le_refl _) o
   have HSA:Hid (∀ o,SlT (wr.alloc o) (.slice aa i.a.length ac) i.a):=fun o=>hokr.a.below (hB0 o)
   have HSB:Hid (SlT wr (.slice ba i.b.length bc) i.b):=hokr.b
   have HBX:Hid ((wr.alloc (.cells #[.int .i64 i.op,.int .i64 i.n,.int .i64 i.tag,.bool i.oct,.slice aa i.a.length ac,.slice ba i.b.length bc,.int .i64 i.at_] 62)).heap[wr.heap.size]?=some (.cells #[.int .i64 i.op,.int .i64 i.n,.int .i64 i.tag,.bool i.oct,.slice aa i.a.length ac,.slice ba i.b.length bc,.int .i64 i.at_] 62)):=blk_new _ _
   have HCP:=hide hcp
   have HPS:=hide hps
   have HB:=hide hB
   obtain ⟨la,lc,hlv⟩:=owns_len hcp.row
   subst hlv
   have hpk:ps.length≤1000000:=by omega
   have HPL:=hide hpl
   clear hpl
   clear hcell hok hokr hcp hps hB hB0 hgb a0 a1' a2 a3 a4 a5 a6 hi
   go_wp2_with (first
    | (have gg:=HOB;at_builtin;refine wpList_append_own _ rfl _ _ 63 rfl V.heap.size 62 i0 _ 7 88 Tryz.underlying63 hi0 hz0 hz1 hz2 rfl (by decide) _ _ _ rfl (HROW.out _) ⟨w3.heap.size,0,none⟩ 1 1 (icells [(i,.slice a4 i.a.length k4,.slice a5 i.b.length k5)]) rfl rfl HN.out (icells_one1 _ _ _ _ _ _ _) (by unfold maxLen;omega) (by omega) (by simp;omega) ?_;intro v6 w6 ho6 hg6 _;obtain ⟨a6,k6,hv6⟩:=owns_len ho6;subst hv6;have HFIN:=hide (copy_round (la:=0) rfl hBs HCP.out HB2.out HX2.out HOA.out HB3.out HOB.out HX3.out HI.out ho6 hg6);clear ho6 hg6;skip)
    | (have gg:=HOA;at_builtin;refine append_txt rfl _ _ rfl i.b (.slice ba i.b.length bc) rfl rfl HSB2.out hbn ?_;intro a5 k5 w3 ho3 hb3;have HB3:=hide (show Below w2.heap.size (w2.setCell ⟨wr.heap.size,4,none⟩ (.slice a4 i.a.length k4)) w3 from (by simpa using hb3));have HOB:=hide (show w3.ownsRow w2.heap.size 9 1 (.slice a5 i.b.length k5) i.b.length (tcells i.b) from (by simpa using ho3));have hx3:=blk_below (heap_setCell_at _ _ 4 (.slice a4 i.a.length k4) _ _ HX2.out) hb3;have HX3:=hide hx3;have hzw3:w2.heap.size≤w3.heap.size:=(by have:=hb3.size;simpa using this);have d0:w3.cell? ⟨wr.heap.size,0,none⟩=some (.int .i64 i.op):=blk_cell hx3 0;have d1:w3.cell? ⟨wr.heap.size,1,none⟩=some (.int .i64 i.n):=blk_cell hx3 1;have d2:w3.cell? ⟨wr.heap.size,2,none⟩=some (.int .i64 i.tag):=blk_cell hx3 2;have d3:w3.cell? ⟨wr.heap.size,3,none⟩=some (.bool i.oct):=blk_cell hx3 3;have d4:w3.cell? ⟨wr.heap.size,4,none⟩=some (.slice a4 i.a.length k4):=blk_cell hx3 4;have d5:w3.cell? ⟨wr.heap.size,5,none⟩=some (.slice ba i.b.length bc):=blk_cell hx3 5;have d6:w3.cell? ⟨wr.heap.size,6,none⟩=some (.int .i64 i.at_):=blk_cell hx3 6;have hf3:=blk_frozen hx3;have HROW:Hid (∀ o,((w3.setCell ⟨wr.heap.size,5,none⟩ (.slice a5 i.b.length k5)).alloc o).ownsRow V.heap.size 62 7 (.slice la ps.length lc) ps.length (icells ps)):=copy_row HCP.out.row rfl HB2.out HX2.out HB3.out;have HN:Hid (∀ j u,(icells [(i,.slice a4 i.a.length k4,.slice a5 i.b.length k5)])[j]?=some u→((w3.setCell ⟨wr.heap.size,5,none⟩ (.slice a5 i.b.length k5)).alloc (.cells #[.int .i64 i.op,.int .i64 i.n,.int .i64 i.tag,.bool i.oct,.slice a4 i.a.length k4,.slice a5 i.b.length k5,.int .i64 i.at_] 62)).cell? ((⟨w3.heap.size,0,none⟩:Addr).add j)=some u):=copy_src _ _;clear ho3 hb3 hx3;skip)
    | (at_builtin;refine append_txt rfl _ _ rfl i.a (.slice aa i.a.length ac) rfl rfl (HSA.out _) han ?_;intro a4 k4 w2 ho2 hb2;have HB2:=hide (show Below (wr.heap.size+1) (wr.alloc (.cells #[.int .i64 i.op,.int .i64 i.n,.int .i64 i.tag,.bool i.oct,.slice aa i.a.length ac,.slice ba i.b.length bc,.int .i64 i.at_] 62)) w2 from (by simpa using hb2));have HOA:=hide (show w2.ownsRow (wr.heap.size+1) 9 1 (.slice a4 i.a.length k4) i.a.length (tcells i.a) from (by simpa using ho2));have hx2:=blk_below HBX.out hb2;have HX2:=hide hx2;have hzw2:wr.heap.size+1≤w2.heap.size:=(by have:=hb2.size;simpa using this);have c0:w2.cell? ⟨wr.heap.size,0,none⟩=some (.int .i64 i.op):=blk_cell hx2 0;have c1:w2.cell? ⟨wr.heap.size,1,none⟩=some (.int .i64 i.n):=blk_cell hx2 1;have c2:w2.cell? ⟨wr.heap.size,2,none⟩=some (.int .i64 i.tag):=blk_cell hx2 2;have c3:w2.cell? ⟨wr.heap.size,3,none⟩=some (.bool i.oct):=blk_cell hx2 3;have c4:w2.cell? ⟨wr.heap.size,4,none⟩=some (.slice aa i.a.length ac):=blk_cell hx2 4;have c5:w2.cell? ⟨wr.heap.size,5,none⟩=some (.slice ba i.b.length bc):=blk_cell hx2 5;have c6:w2.cell? ⟨wr.heap.size,6,none⟩=some (.int .i64 i.at_):=blk_cell hx2 6;have hf2:=blk_frozen hx2;have HSB2:Hid (SlT (w2.setCell ⟨wr.heap.size,4,none⟩ (.slice a4 i.a.length k4)) (.slice ba i.b.length bc) i.b):=(HSB.out.below (((Below.refl _ _).alloc (Nat.le_refl _) _).trans (hb2.mono (by simp)))).fr ((Fr.refl (fun k o=>∃ cs,o=.cells cs 62) w2).set hx2 ⟨_,rfl⟩ 4 _) (fun k cs ⟨cs',e⟩=>(by injection e with _ e;exact absurd e (by decide)));clear ho2 hb2 hx2;skip))
   go_roundw
   case rel=>exact ⟨k+1,ps++[(i,.slice a4 i.a.length k4,.slice a5 i.b.length k5)],by omega,by go_num,by rw [List.map_append,HPS.out,HS.out];rfl,HFIN.out.1,HB.out.trans HFIN.out.2⟩
   case measure=>simp [intOf];omega
  ·have hkc:k=code.length:=by omega
   subst hkc
   rw [List.take_length] at hps
   have HCP:=hide hcp
   have hpl2:ps.length=code.length:=hpl
   have hB2:=HBV.out.trans (hB.mono hVs)
   have HBr:=hide hB2
   have HEr:=hide (HE.out.below hB2)
   have HOr:=hide (HOV.out.below hB)
   have HMr:=hide (blk_below HMV.out hB)
   have HAN:Hid (∀ p∈ps,p.1.a.length≤1000000):=fun p hp=>(hcp.ok p hp).an
   obtain ⟨lla,llc,hlv⟩:=owns_len hcp.row
   subst hlv
   have HX:Hid (Calls Tryz.prog 50 #[.bool v,.slice lla ps.length llc,msgV M (.slice a1 M.hdrs.length k1)] wr (XPost r wr)):=by
    show Calls _ _ _ _ _
    rw [← HRR.out]
    have hcv:=hcp.codeO.codeV
    rw [hps] at hcv
    exact mexec_any v _ _ _ _ _ _ code M wr hcv HOr.out.hdrV (HBD.out _) HEr.out hcl
   have m0:wr.cell? ⟨w1.heap.size,0,none⟩=some (.string (strA M.fr)):=blk_cell HMr.out 0
   have m1:wr.cell? ⟨w1.heap.size,1,none⟩=some (.string (strA M.to)):=blk_cell HMr.out 1
   have m2:wr.cell? ⟨w1.heap.size,2,none⟩=some (.int .i64 M.size):=blk_cell HMr.out 2
   have m3:wr.cell? ⟨w1.heap.size,3,none⟩=some (.slice a1 M.hdrs.length k1):=blk_cell HMr.out 3
   have hrs:=hB2.size
   have hpl3:ps.length≤1000000:=by omega
   clear hcp hps hB hB2 hpl hpl2 hlt hk
   go_wp2_with fail
   rw [← HMS.out]
   refine HX.out.mono ?_
   rintro e w2 ⟨hB2,hX⟩
   have HB2:=hide (HBr.out.trans (hB2.mono hrs))
   have HE2:=hide (HEr.out.below hB2)
   have HO2:=hide (HOr.out.below hB2)
   have HM2:=hide (blk_below HMr.out hB2)
   have HCP2:=hide (HCP.out.below hB2)
   clear m0 m1 m2 m3
   have m0:w2.cell? ⟨w1.heap.size,0,none⟩=some (.string (strA M.fr)):=blk_cell HM2.out 0
   have m1:w2.cell? ⟨w1.heap.size,1,none⟩=some (.string (strA M.to)):=blk_cell HM2.out 1
   have m2:w2.cell? ⟨w1.heap.size,2,none⟩=some (.int .i64 M.size):=blk_cell HM2.out 2
   have m3:w2.cell? ⟨w1.heap.size,3,none⟩=some (.slice a1 M.hdrs.length k1):=blk_cell HM2.out 3
   have h2s:=HB2.out.size
   clear hB2 HX
   obtain ⟨lv',ev,rfl,hA,hTO⟩:∃ lv' ev,e=.returned (.tuple #[lv',.int .i64 (r.2.1:Int),ev])∧ActsV w2 _ lv' r.1∧(∀ W:World,ErrT W→(∀ (k:Nat) (cs:Array Value),w2.heap[k]?=some (Obj.cells cs 145)→W.heap[k]?=some (Obj.cells cs 145))→Calls Tryz.prog 44 #[ev] W fun e w'=>e=.returned (.tuple #[.int .i64 (toldZ r.2.2).1,.int .i64 (toldZ r.2.2).2])∧Below W.heap.size W w'):=by
    rcases hX with ⟨lv',h1,rfl,hA⟩ | ⟨lv',f,bb,h1,rfl,hA,hbb,hF⟩
    ·refine ⟨lv',_,rfl,hA,fun W _ _=>?_⟩
     rw [h1]
     exact told_nil W
    ·refine ⟨lv',_,rfl,hA,fun W hE hk=>?_⟩
     rw [h1]
     exact told_fault bb f.1 f.2 W hE (blk_cell (hk _ _ hF) 0) (blk_cell (hk _ _ hF) 1)
   have HTO:=hide hTO
   have HA:=hide hA
   obtain ⟨la,lc,hla⟩:=owns_len hA.1
   subst hla
   clear hA hTO
   rw [HMS.out]
   go_wp2_with fail
   rw [← HMS.out]
   refine (turn_any M a1 k1 w.heap.size w2 (owns_lo HO2.out h0s) hml).mono ?_
   rintro e w3 ⟨rfl,hf3⟩
   have hnT:∀ (t:TypeId),t≠100→∀ (k:Nat) (cs:Array Value),¬ (w.heap.size≤k∧∃ cs',Obj.cells cs t=.cells cs' 100):=fun t ht k cs ⟨_,cs',e⟩=>by injection e with _ e;exact ht e
   have HB3:=hide (HB2.out.trans (hf3.below (fun k o h=>h.1) h2s))
   have HA3:=hide (HA.out.fr hf3 (hnT _ (by decide)))
   have HK3:Hid (∀ (k:Nat) (cs:Array Value),w2.heap[k]?=some (Obj.cells cs 145)→w3.heap[k]?=some (Obj.cells cs 145)):=fun k cs h=>hf3.block _ _ h (hnT _ (by decide) _ _)
   have HCP3:=hide (HCP2.out.fr hf3 (hnT _ (by decide)) (hnT _ (by decide)))
   have h3s:=HB3.out.size
   clear hf3 hnT
   have HST3:Hid (∀ p∈ps,StrB w3 V.heap.size p.2.1 p.1.a.length):=fun p hp=>StrB.of_owns (HCP3.out.own p hp)
   have HW3:Hid (WrI w3 w3 V.heap.size (.slice lla ps.length llc) ps 0 (icells ps)):=⟨HCP3.out.row,fun j hj _=>by rw [icells_at ps j hj 4 (by omega)];rfl,HST3.out,Fr.refl _ _⟩
   go_wp2_with fail
   go_loopw [17,18,54] (fun _ _ ix wq=>∃ (i:Nat) (xs:List Value),i≤ps.length∧ix=.int .i64 (i:Int)∧WrI w3 wq V.heap.size (.slice lla ps.length llc) ps i xs) (fun _ _ ix _=>ps.length - (intOf ix).toNat)
   case atStart=>exact ⟨0,_,Nat.zero_le _,by go_num,HW3.out⟩
   case round=>
    obtain ⟨i,xs,hi,rfl,hW⟩:=hrel
    by_cases hilt:i < ps.length
    ·obtain ⟨g,gc,hgv,hgB,hgl,hgc⟩:=owns_get hW.row (by omega)
     injection hgv with hgv1 hgv2 hgv3
     subst hgv1
     have c4:wr.cell? ⟨g,i*7+4,none⟩=some ps[i].2.1:=hgc _ _ (hW.left i hilt (Nat.le_refl _))
     have hst:=hW.str ps[i] (List.getElem_mem hilt)
     obtain ⟨p,hp⟩:∃ p,ps[i]=p:=⟨_,rfl⟩
     have hpm:p∈ps:=by rw [← hp];exact List.getElem_mem hilt
     rw [hp] at c4 hst
     obtain ⟨sa,sc,hsv⟩:=hst.len
     rw [hsv] at c4
     have HSV:=hide hsv
     have hpa:=HAN.out p hpm
     have HPM:=hide hpm
     have HP:=hide hp
     have hilt':(i:Int) < (ps.length:Int):=by omega
     have HWQ:=hide hW
     obtain ⟨na,hna⟩:∃ na,p.1.a.length=na:=⟨_,rfl⟩
     rw [hna] at c4 hpa HSV
     have HNA:=hide hna
     clear hW hst hp hpm hsv hna hgc hgv3
     go_wp2_with fail
     go_loopw [18,63] (fun _ kx wz=>∃ (kk:Nat),kk≤na∧kx=.int .i64 (kk:Int)∧WrI w3 wz V.heap.size (.slice (some ⟨g,0,none⟩) ps.length llc) ps i xs) (fun _ kx _=>na - (intOf kx).toNat)
     case atStart=>exact ⟨0,Nat.zero_le _,by go_num,HWQ.out⟩
     case round=>
      obtain ⟨kk,hkk,rfl,hZ⟩:=hrel
      by_cases hkl:kk < na
      ·have hgz:=owns_get hZ.row (by omega)
       obtain ⟨g',gc',hgv',_,_,hgc'⟩:=hgz
       injection hgv' with hgv1 _ _
       injection hgv1 with hgv1
       injection hgv1 with hgv1
       subst hgv1
       have z4:wr.cell? ⟨g,i*7+4,none⟩=some (.slice sa na sc):=by
        rw [hgc' _ _ (hZ.left i hilt (Nat.le_refl _)),HP.out,HSV.out]
       have hst:=hZ.str p HPM.out
       rw [HSV.out,HNA.out] at hst
       rcases hst with ⟨_,h0⟩ | ⟨g2,c2,cs2,hv2,hg2,hb2,hn2⟩
       ·omega
       injection hv2 with hv2 _ _
       subst hv2
       have q0:wr.cell? ⟨g2,kk,none⟩=some (cs2[kk]'(by omega)):=(blk_cell hb2 kk).trans (Array.getElem?_eq_getElem (by omega))
       have qf:wr.frozen? ⟨g2,kk,none⟩=false:=blk_frozen hb2 kk
       have hkl':(kk:Int) < (na:Int):=by omega
       have HZ:=hide (hZ.text hb2 hg2 kk (.string ⟨#[109,105,110,101]⟩))
       generalize cs2[kk]'(by omega)=u at q0
       clear hZ hgc' hb2 hg2 hn2
       go_wp2
       go_roundw
       case rel=>exact ⟨kk+1,by omega,by go_num,HZ.out⟩
       case measure=>simp [intOf];omega
      ·have hkl':¬ (kk:Int) < (na:Int):=by omega
       obtain ⟨g',gc',hgv',_,_,hgc'⟩:=owns_get hZ.row (by omega)
       injection hgv' with hgv1 _ _
       injection hgv1 with hgv1
       injection hgv1 with hgv1
       subst hgv1
       have hxl:=hZ.row.1
       have hex:∀ q,q < 7→∃ u,wr.cell? ⟨g,i*7+q,none⟩=some u:=fun q hq=>⟨xs[i*7+q]'(by omega),hgc' _ _ (List.getElem?_eq_getElem (by omega))⟩
       obtain ⟨u0,q0⟩:=hex 0 (by omega)
       obtain ⟨u1,q1⟩:=hex 1 (by omega)
       obtain ⟨u2,q2⟩:=hex 2 (by omega)
       obtain ⟨u3,q3⟩:=hex 3 (by omega)
       obtain ⟨u4,q4⟩:=hex 4 (by omega)
       obtain ⟨u5,q5⟩:=hex 5 (by omega)
       obtain ⟨u6,q6⟩:=hex 6 (by omega)
       rw [Nat.add_zero] at q0
       have qf:∀ o,wr.frozen? ⟨g,o,none⟩=false:=World.ownsRow.frozenAt (n:=ps.length) hZ.row
       obtain ⟨xs',hov⟩:=hZ.over (.int .i64 13) (.int .i64 0) (.int .i64 0) (.bool false) (.slice none 0 0) (.slice none 0 0) (.int .i64 0)
       have HOVR:=hide hov
       clear hZ hgc' hex hov hxl
       go_wp2
       go_roundw
       case rel=>exact ⟨i+1,xs',by omega,by go_num,HOVR.out⟩
       case measure=>simp [intOf];omega
    ·have hilt':¬ (i:Int) < (ps.length:Int):=by omega
     have HF4:=hide hW.fr
     have HB4:=hide (HB3.out.trans (hW.fr.below (fun k o h=>Nat.le_trans hVs h.1) h3s))
     have HA4:=hide (HA3.out.fr hW.fr (fun _ _=>PWr.not (by decide) (by decide)))
     have h4s:=HB4.out.size
     clear hW
     go_wp2_with fail
     refine (HTO.out _ (HE.out.below HB4.out).et (fun k cs h=>HF4.out.block _ _ (HK3.out k cs h) (PWr.not (by decide) (by decide)))).mono ?_
     rintro e w5 ⟨rfl,hB5⟩
     have HB5:=hide (HB4.out.trans (hB5.mono h4s))
     have HA5:=hide (HA4.out.below hB5)
     clear hB5
     go_wp2
     refine bodyPost_ret (v:=.tuple #[.slice la r.1.length lc,.int .i64 (r.2.1:Int),.int .i64 (toldZ r.2.2).1,.int .i64 (toldZ r.2.2).2]) (by simp [results,Tryz.results30,go_sem]) rfl ?_
     exact ⟨HB5.out,_,rfl,HA5.out.lo hrs⟩
end
end Go.Proofs.YtbiclelojbfnbaaGreatDoor
