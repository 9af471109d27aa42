import Derived.Test.YtbiclelojbfnbaaGreatDoorSSet
namespace Go.Proofs.YtbiclelojbfnbaaGreatDoor
set_option linter.unusedVariables false
set_option linter.unusedSimpArgs false
set_option maxRecDepth 100000
set_option maxHeartbeats 4000000
section
open Go.RowKit
attribute [local go_sem ↓] Go.wp_at_zero Go.wp_at_succ
theorem Tryz.infoBool:(Tryz.prog.info? 4).map (fun i=>(i.zero,i.size,i.bytes))=some (some (.bool false),1,1):=by kernel_rfl
def kcells (l:List Bool):List Value:=l.map Value.bool
theorem kcells_snoc (l:List Bool) (b:Bool):kcells l++[.bool b]=kcells (l++[b]):=by simp [kcells]
def mcCells (sb:Nat) (kv:Value) (now next count:Nat):Array Value:=#[.pointer (some ⟨sb,0,none⟩),kv,.int .i64 (now:Int),.int .i64 (next:Int),.int .i64 (count:Int)]
def kO (late:Bool):Obj→Bool
 | .cells _ t _=>t == 210 || (t == 4 && late)
 | _=>false
def PK (B xb k:Nat) (o:Obj):Prop:=B≤k∧kO (decide (xb+7≤k)) o=true
def PMc (B xb k:Nat) (o:Obj):Prop:=B≤k∧(kO (decide (xb+7≤k)) o || stO o)=true
theorem PMc.st {B xb k:Nat} {o:Obj} (h:PSt B k o):PMc B xb k o:=⟨h.1,by rw [h.2,Bool.or_true]⟩
theorem PMc.k {B xb k:Nat} {o:Obj} (h:PK B xb k o):PMc B xb k o:=⟨h.1,by rw [h.2,Bool.true_or]⟩
theorem PK.not {B xb k:Nat} {cs:Array Value} {t:TypeId} {f:Nat×Nat} (h1:t≠210) (h2:t≠4):¬ PK B xb k (.cells cs t f):=fun h=>by
 have:=h.2
 unfold kO at this
 simp at this
 rcases this with h | h
 ·exact h1 h
 ·exact h2 h.1
theorem PMc.not {B xb k:Nat} {cs:Array Value} {t:TypeId} {f:Nat×Nat} (h1:t≠210) (h2:t≠4) (h3:t≠323) (h4:t≠76):¬ PMc B xb k (.cells cs t f):=fun h=>by
 have:=h.2
 unfold kO stO at this
 simp at this
 rcases this with (h | h) | (h | h)
 ·exact h1 h
 ·exact h2 h.1
 ·exact h3 h
 ·exact h4 h
theorem SlT.pm {B xb:Nat} {w w':World} {v:Value} {zs:List (List UInt8)} (h:SlT w v zs) (hf:Fr (PMc B xb) w w'):SlT w' v zs:=h.fr hf (fun _ _=>PMc.not (by decide) (by decide) (by decide) (by decide))
structure MI (w:World) (B xb sb:Nat) (M:Msg) (m:MS) (count:Nat) (kv:Value):Prop where
 bx:B≤xb
 blk:w.heap[xb]?=some (.cells (mcCells sb kv m.now m.next count) 210)
 st:SAt w B sb M m.st
 stack:w.ownsRow (xb+7) 4 1 kv m.stack.length (kcells m.stack)
 sl:m.stack.length≤8
 nw:m.now≤400
 nx:m.next≤count
 cl:count≤400
 kz:xb+7≤w.heap.size
def MAt (w:World) (B xb sb:Nat) (M:Msg) (m:MS) (count:Nat):Prop:=∃ kv,MI w B xb sb M m count kv
theorem MI.below {w w':World} {B xb sb:Nat} {M:Msg} {m:MS} {count:Nat} {kv:Value} (h:MI w B xb sb M m count kv) (hb:Below w.heap.size w w'):MI w' B xb sb M m count kv:=
 ⟨h.bx,blk_below h.blk hb,h.st.below hb,owns_fr (P:=fun _ _=>False) h.stack (Fr.of_below hb) (fun _ _ h=>h),h.sl,h.nw,h.nx,h.cl,Nat.le_trans h.kz hb.size⟩
theorem MAt.below {w w':World} {B xb sb:Nat} {M:Msg} {m:MS} {count:Nat} (h:MAt w B xb sb M m count) (hb:Below w.heap.size w w'):MAt w' B xb sb M m count:=by
 obtain ⟨kv,h⟩:=h;exact ⟨kv,h.below hb⟩
theorem MI.st' {w w':World} {B xb sb:Nat} {M:Msg} {m:MS} {count:Nat} {kv:Value} (h:MI w B xb sb M m count kv) {s:SS} (hs:SAt w' B sb M s) (hf:Fr (PSt B) w w'):MI w' B xb sb M (stL m s) count kv:=
 ⟨h.bx,hf.block _ _ h.blk (PSt.not (by decide) (by decide)),hs,owns_fr h.stack hf (fun _ _=>PSt.not (by decide) (by decide)),h.sl,h.nw,h.nx,h.cl,Nat.le_trans h.kz hf.size⟩
theorem SAt.pk {w w':World} {B xb sb:Nat} {M:Msg} {s:SS} (h:SAt w B sb M s) (hf:Fr (PK B xb) w w'):SAt w' B sb M s:=by
 obtain ⟨hv,mb,tv,mv,h⟩:=h
 exact ⟨hv,mb,tv,mv,h.fr hf (fun _ _=>PK.not (by decide) (by decide)) (fun _ _=>PK.not (by decide) (by decide)) (fun _ _=>PK.not (by decide) (by decide)) (fun _ _=>PK.not (by decide) (by decide)) (fun _ _ _ h=>Bool.false_ne_true h.2) (fun _ h'=>by have:=h'.1;have:=h.b1;omega)⟩
theorem MI.set {w:World} {B xb sb:Nat} {M:Msg} {m:MS} {count:Nat} {kv:Value} (h:MI w B xb sb M m count kv) (o:Nat) (v:Value) (m':MS) (kv':Value) (hc:(mcCells sb kv m.now m.next count).setIfInBounds o v=mcCells sb kv' m'.now m'.next count) (hs:m'.st=m.st) (hk:(w.setCell ⟨xb,o,none⟩ v).ownsRow (xb+7) 4 1 kv' m'.stack.length (kcells m'.stack)) (hl:m'.stack.length≤8) (hn:m'.now≤400) (hx:m'.next≤count):MI (w.setCell ⟨xb,o,none⟩ v) B xb sb M m' count kv'∧Fr (PK B xb) w (w.setCell ⟨xb,o,none⟩ v):=by
 have hf:Fr (PK B xb) w (w.setCell ⟨xb,o,none⟩ v):=(Fr.refl _ w).set h.blk ⟨h.bx,rfl⟩ o v
 refine ⟨⟨h.bx,?_,?_,hk,hl,hn,hx,h.cl,Nat.le_trans h.kz hf.size⟩,hf⟩
 ·rw [← hc];exact heap_setCell_at _ _ _ _ _ _ h.blk
 ·rw [hs];exact h.st.pk hf
theorem MI.row {w:World} {B xb sb:Nat} {M:Msg} {m:MS} {count:Nat} {kv:Value} (h:MI w B xb sb M m count kv):kv.ownBlock≠some xb:=fun e=>by
 obtain ⟨_,cs,hcs⟩:=owns_blk h.stack xb _ e h.blk
 injection hcs with e1 e2
 exact absurd e2 (by decide)
theorem owns_short {w:World} {base:Nat} {e:TypeId} {g n c:Nat} {xs:List Value} (h:w.ownsRow base e 1 (.slice (some ⟨g,0,none⟩) (n+1) c) (n+1) xs):w.ownsRow base e 1 (.slice (some ⟨g,0,none⟩) n c) n xs.dropLast:=by
 obtain ⟨h1,h2⟩:=h
 rcases h2 with ⟨h2,_⟩ | ⟨g',cap,cur,hv,hg,hh,hc,hm,hs,ht⟩
 ·injection h2 with h2;cases h2
 ·injection hv with hv1 hv2 hv3
  refine ⟨by rw [List.length_dropLast];omega,Or.inr ⟨g',cap,cur,?_,hg,hh,by omega,hm,hs,?_⟩⟩
  ·rw [hv1,hv3]
  ·rw [← ht,List.dropLast_eq_take,List.length_take,List.take_take]
   congr 1
   have:cur.toList.length=cap*1:=by simpa using hs
   omega
theorem kcells_drop (l:List Bool):(kcells l).dropLast=kcells l.dropLast:=by simp [kcells,List.map_dropLast]
def MPost (r:Except FZ MS) (B xb sb:Nat) (M:Msg) (count:Nat) (w:World) (e:Ending) (w':World):Prop:=
 Fr (PMc B xb) w w'∧
 match r with
 | .ok m=>e=.returned (.tuple #[])∧MAt w' B xb sb M m count
 | .error f=>ThrewZ f w e w'
theorem MPost.ok {r:Except FZ MS} {B xb sb:Nat} {M:Msg} {count:Nat} {m:MS} {w w':World} (h:r=.ok m) (hf:Fr (PMc B xb) w w') (hm:MAt w' B xb sb M m count):MPost r B xb sb M count w (.returned (.tuple #[])) w':=by
 subst h;exact ⟨hf,rfl,hm⟩
theorem MPost.err {r:Except FZ MS} {B xb sb:Nat} {M:Msg} {count:Nat} {f:FZ} {e:Ending} {w w':World} (h:r=.error f) (hf:Fr (PMc B xb) w w') (hm:ThrewZ f w e w'):MPost r B xb sb M count w e w':=by
 subst h;exact ⟨hf,hm⟩
theorem MPost.cases {r:Except FZ MS} {B xb sb:Nat} {M:Msg} {count:Nat} {w w':World} {e:Ending} (h:MPost r B xb sb M count w e w'):Fr (PMc B xb) w w'∧((∃ m,r=.ok m∧e=.returned (.tuple #[])∧MAt w' B xb sb M m count)∨∃ f,r=.error f∧ThrewZ f w e w'):=by
 obtain ⟨hf,h⟩:=h
 cases r with
 | ok m=>exact ⟨hf,Or.inl ⟨m,rfl,h⟩⟩
 | error f=>exact ⟨hf,Or.inr ⟨f,rfl,h⟩⟩
theorem ThrewZ.from {f:FZ} {w u:World} {e:Ending} {w':World} (h:ThrewZ f w e w') (hz:u.heap.size≤w.heap.size):ThrewZ f u e w':=by
 obtain ⟨b,h1,h2,h3⟩:=h;exact ⟨b,by omega,h2,h3⟩
theorem MPost.from {r:Except FZ MS} {B xb sb:Nat} {M:Msg} {count:Nat} {u w w':World} {e:Ending} (h:MPost r B xb sb M count w e w') (hf:Fr (PMc B xb) u w):MPost r B xb sb M count u e w':=by
 obtain ⟨h1,h⟩:=h
 refine ⟨hf.trans h1,?_⟩
 cases r with
 | ok m=>exact h
 | error f=>exact h.from hf.size
theorem threwZ_new (er at_:Int) (w:World):ThrewZ (er,at_) w (.panicked [{ v:=.iface 140 (.pointer (some ⟨w.heap.size,0,none⟩)),recovered:=false }]) (w.alloc (.cells #[.int .i64 er,.int .i64 at_] 145)):=
 ⟨w.heap.size,Nat.le_refl _,rfl,blk_new _ _⟩
theorem must_true (xb:Nat) (w:World):Calls Tryz.prog 199 #[.pointer (some ⟨xb,0,none⟩),.bool true] w fun e w'=>e=.returned (.tuple #[])∧w'=w:=by
 go_enter Tryz.func199,Tryz.ntmps199
 go_wp2
 go_end0
 exact ⟨rfl,rfl⟩
theorem must_false (xb:Nat) (now:Int) (w:World) (hc:w.cell? ⟨xb,2,none⟩=some (.int .i64 now)):Calls Tryz.prog 199 #[.pointer (some ⟨xb,0,none⟩),.bool false] w fun e w'=>e=.panicked [{ v:=.iface 140 (.pointer (some ⟨w.heap.size,0,none⟩)),recovered:=false }]∧w'=w.alloc (.cells #[.int .i64 12,.int .i64 now] 145):=by
 go_enter Tryz.func199,Tryz.ntmps199
 go_wp2_with (go_at_call 118;refine (fault_any _ _ _).mono ?_;rintro e w3 ⟨rfl,rfl⟩)
 exact ⟨rfl,rfl,rfl⟩
end
section
open Go.RowKit
attribute [local go_sem ↓] Go.wp_at_zero Go.wp_at_succ
def ActsV (w:World) (B:Nat) (v:Value) (l:List (Int×List UInt8)):Prop:=
 w.ownsRow B 76 2 v l.length (acells l)∧(l=[]→v=.slice none 0 0)
theorem kept_any (w:World):Calls Tryz.prog 117 #[] w fun e w'=>∃ v,e=.returned v∧ActsV w' w.heap.size v [(1,[])]∧Below w.heap.size w w':=by
 go_enter Tryz.func117,Tryz.ntmps117
 go_wp2
 go_ret
 refine ⟨_,rfl,⟨?_,fun h=>by cases h⟩,(Below.refl _ _).alloc (Nat.le_refl _) _⟩
 exact World.ownsRow_lit (e:=76) (size:=2) w #[.int .i64 1,.string (strA [])] 1 (Nat.le_refl _) (by unfold maxLen;omega) rfl
theorem eqlNilA (W:World):(binOp .eql 33 (.slice none 0 0) (.slice none 0 0)).run Tryz.prog W=.ok (.bool true) W:=by kernel_rfl
theorem eqlSomeA (W:World) (a:Addr) (n c:Nat):(binOp .eql 33 (.slice (some a) n c) (.slice none 0 0)).run Tryz.prog W=.ok (.bool false) W:=by kernel_rfl
theorem acells_one (l:List (Int×List UInt8)):∀ u∈acells l,u.oneCell'=true:=by
 intro u hu
 unfold acells at hu
 obtain ⟨a,_,ha⟩:=List.mem_flatMap.1 hu
 simp at ha
 rcases ha with rfl | rfl <;> rfl
theorem cloneAct_any (base:Nat) (met:List (Int×List UInt8)) (mv:Value) (w:World) (ho:w.ownsRow base 76 2 mv met.length (acells met)) (hn:met=[]→mv=.slice none 0 0) (hl:met.length≤6) :
  Calls Tryz.prog 278 #[mv] w fun e w'=>∃ v,e=.returned v∧ActsV w' w.heap.size v met∧Below w.heap.size w w':=by
 obtain ⟨i0,hi,hz0,hz1,hz2⟩:=info_parts Tryz.infoAction
 have q1:=eqlNilA
 have q2:=eqlSomeA
 by_cases h0:met=[]
 ·subst h0
  have hmv:=hn rfl
  subst hmv
  go_enter Tryz.func278,Tryz.ntmps278
  go_wp2
  go_ret
  exact ⟨_,rfl,⟨World.ownsRow_nil _ _ _ _,fun _=>rfl⟩,Below.refl _ _⟩
 ·have hpos:=List.length_pos_iff.2 h0
  obtain ⟨g,c,hv,hbg,hgl,hcells⟩:=owns_get ho hpos
  subst hv
  have HC:=hide hcells
  clear hcells ho hn
  go_enter Tryz.func278,Tryz.ntmps278
  have HN:Hid (∀ j u,(acells met)[j]?=some u→(w.alloc (.cells #[] 76)).cell? ((⟨g,0,none⟩:Addr).add j)=some u):=fun j u hj=>by
   rw [addr_add0,World.cell?_of_block (a:=⟨g,j,none⟩) (w:=w) (Below.heap_alloc _ _ _ hgl)]
   exact HC.out j u hj
  go_wp2_with (at_builtin;refine wpList_append_own _ rfl _ _ 33 rfl w.heap.size 76 i0 _ 2 24 Tryz.underlying33 hi hz0 hz1 hz2 rfl (by decide) _ _ _ rfl (World.ownsRow_made w #[] 0 (Nat.le_refl _) (Nat.zero_le _) rfl) ⟨g,0,none⟩ met.length c (acells met) rfl (acells_length met) HN.out (acells_one met) (by unfold maxLen;omega) (by omega) (by simp) ?_;intro v5 w5 ho5 hg5 _;obtain ⟨a5,k5,hv5⟩:=owns_len ho5;subst hv5;have HO5:=hide ho5;have HB5:=hide (grown_belowB ((Below.refl _ _).alloc (Nat.le_refl _) _) hg5 (by simp) (fun k hk=>((World.ownsRow_made (e:=76) (size:=2) w #[] 0 (Nat.le_refl _) (Nat.zero_le _) rfl).lt k hk).1));clear ho5 hg5)
  go_ret
  refine ⟨_,rfl,⟨?_,fun h=>absurd h h0⟩,HB5.out⟩
  have:=HO5.out
  rw [Nat.zero_add,List.nil_append] at this
  exact this
theorem all_acts (B sb:Nat) (M:Msg) (s:SS) (disc:Bool) (w:World) (h:SAt w B sb M s) (hd:disc=s.disc) :
  Calls Tryz.prog 200 #[.pointer (some ⟨sb,7,none⟩),.bool disc] w fun e w'=>∃ v,e=.returned v∧ActsV w' w.heap.size v (allL s)∧Below w.heap.size w w':=by
 obtain ⟨hv,mb,tv,mv,hSI⟩:=h
 have c7:w.cell? ⟨sb,7,none⟩=some mv:=hSI.cell 7
 have hn:=hSI.mn
 have ho:=hSI.met
 have hm6:=hSI.bd.met
 obtain ⟨la,lc,hll⟩:=owns_len ho
 subst hll
 have HR:Hid (allL s=if s.met=[]∧s.disc=false then [(1,[])] else s.met):=rfl
 clear hSI
 by_cases h0:s.met=[]∧s.disc=false
 ·rw [if_pos h0] at HR
  rw [h0.2] at hd
  subst hd
  have hl0:((s.met.length:Int) == 0)=true:=by rw [h0.1];rfl
  have hl1:s.met.length=0:=by rw [h0.1];rfl
  go_enter Tryz.func200,Tryz.ntmps200
  go_wp2_with (go_at_call 117;refine (kept_any _).mono ?_;rintro e w1 ⟨v,rfl,hv1,hb1⟩;obtain ⟨a5,k5,hv5⟩:=owns_len hv1.1;subst hv5;have HV:=hide hv1;have HB:=hide hb1;clear hv1 hb1)
  go_ret
  exact ⟨_,rfl,by rw [HR.out];exact HV.out,HB.out⟩
 ·rw [if_neg h0] at HR
  have HC:=hide (cloneAct_any B s.met (.slice la s.met.length lc) w ho hn hm6)
  by_cases hl:s.met=[]
  ·have hds:s.disc=true:=by cases hh:s.disc with | true=>rfl | false=>exact absurd ⟨hl,hh⟩ h0
   rw [hds] at hd
   subst hd
   have hl0:((s.met.length:Int) == 0)=true:=by rw [hl];rfl
   clear h0 hn hl
   go_enter Tryz.func200,Tryz.ntmps200
   go_wp2_with (go_at_call 278;refine HC.out.mono ?_;rintro e w1 ⟨v,rfl,hv1,hb1⟩;obtain ⟨a5,k5,hv5⟩:=owns_len hv1.1;subst hv5;have HV:=hide hv1;have HB:=hide hb1;clear hv1 hb1)
   go_ret
   exact ⟨_,rfl,by rw [HR.out];exact HV.out,HB.out⟩
  ·have hl0:((s.met.length:Int) == 0)=false:=by have:=List.length_pos_iff.2 hl;simp;omega
   clear h0 hn
   go_enter Tryz.func200,Tryz.ntmps200
   go_wp2_with (go_at_call 278;refine HC.out.mono ?_;rintro e w1 ⟨v,rfl,hv1,hb1⟩;obtain ⟨a5,k5,hv5⟩:=owns_len hv1.1;subst hv5;have HV:=hide hv1;have HB:=hide hb1;clear hv1 hb1)
   go_ret
   exact ⟨_,rfl,by rw [HR.out];exact HV.out,HB.out⟩
end
section
open Go.RowKit
attribute [local go_sem ↓] Go.wp_at_zero Go.wp_at_succ
theorem must_no (xb:Nat) (now:Int) (w:World) (hc:w.cell? ⟨xb,2,none⟩=some (.int .i64 now)):Calls Tryz.prog 199 #[.pointer (some ⟨xb,0,none⟩),.bool false] w fun e w'=>ThrewZ (12,now) w e w'∧Below w.heap.size w w':=
 (must_false xb now w hc).mono fun e w' h=>by
  obtain ⟨rfl,rfl⟩:=h
  exact ⟨threwZ_new _ _ _,(Below.refl _ _).alloc (Nat.le_refl _) _⟩
theorem oneBool (x:Bool):∀ u∈[Value.bool x],u.oneCell'=true:=by
 intro u hu
 simp at hu
 subst hu
 rfl
theorem put_any (v:Bool) (B xb sb:Nat) (M:Msg) (m:MS) (count:Nat) (w:World) (h:MAt w B xb sb M m count) :
  Calls Tryz.prog 265 #[.pointer (some ⟨xb,0,none⟩),.bool v] w (MPost (putL v m) B xb sb M count w):=by
 obtain ⟨kv,hMI⟩:=h
 have HMI:=hide hMI
 obtain ⟨ka,kc,hkk⟩:=owns_len hMI.stack
 subst hkk
 have c1:w.cell? ⟨xb,1,none⟩=some (.slice ka m.stack.length kc):=blk_cell hMI.blk 1
 have c2:w.cell? ⟨xb,2,none⟩=some (.int .i64 (m.now:Int)):=blk_cell hMI.blk 2
 have hxl:=blk_lt hMI.blk
 have hsl:=hMI.sl
 have hbx:=hMI.bx
 have hkz:=hMI.kz
 obtain ⟨i0,hi,hz0,hz1,hz2⟩:=info_parts Tryz.infoBool
 clear hMI
 by_cases hlt:m.stack.length < 8
 ·have hlt':(m.stack.length:Int) < 8:=by omega
  have HR:Hid (putL v m=.ok ⟨m.st,m.stack++[v],m.now,m.next⟩):=by show _=_;unfold putL;rw [if_pos hlt]
  have hrow:=HMI.out.row
  have HROW:=hide hrow
  clear hrow
  go_enter Tryz.func265,Tryz.ntmps265
  go_wp2_with (first | (go_at_call 199;refine (must_true _ _).mono ?_;rintro e w' ⟨rfl,hww⟩;rw [hww];clear hww) | (at_builtin;refine wpList_append_own _ rfl _ _ 160 rfl (xb+7) 4 i0 _ 1 1 Tryz.underlying160 hi hz0 hz1 hz2 rfl (by decide) _ _ _ rfl (HMI.out.stack.alloc _) ⟨w.heap.size,0,none⟩ 1 1 [.bool v] rfl rfl (cell_one_new _ _ _) (oneBool _) (by unfold maxLen;omega) (by omega) (by simp;omega) ?_;intro v5 w5 ho5 hg5 _;obtain ⟨a5,k5,hv5⟩:=owns_len ho5;subst hv5;have HO5:=hide ho5;have HG5:=hide hg5;have d1:w5.cell? ⟨xb,1,none⟩=some (.slice ka m.stack.length kc):=hg5.cell (a:=⟨xb,1,none⟩) ((World.cell?_of_block (a:=⟨xb,1,none⟩) (w:=w) (Below.heap_alloc _ _ _ hxl)).trans c1) (fun e=>HROW.out e.symm);have hft:∀ j,w5.frozen? ⟨xb,j,none⟩=false:=fun j=>(World.frozen?_of_block (a:=⟨xb,j,none⟩) (w:=w) ((hg5.block xb (by simp;omega) (fun e=>HROW.out e.symm)).trans (Below.heap_alloc _ _ _ hxl))).trans (blk_frozen HMI.out.blk j);clear ho5 hg5))
  go_end0
  have hf5:Fr (PK B xb) w w5:=((Fr.refl _ w).alloc _).grown HG5.out (fun k o e ho=>by
   obtain ⟨hb,cs,hcs⟩:=owns_blk (HMI.out.stack.alloc _) k o e ho
   subst hcs
   exact ⟨by omega,by unfold kO;simp;omega⟩)
  have hb5:w5.heap[xb]?=some (.cells (mcCells sb (.slice ka m.stack.length kc) m.now m.next count) 210):=by
   rw [HG5.out.block xb (by simp;omega) (fun e=>HROW.out e.symm)]
   exact blk_alloc HMI.out.blk
  obtain ⟨v5,hv5'⟩:∃ v5,v5=Value.slice a5 (m.stack.length+1) k5:=⟨_,rfl⟩
  rw [← hv5'] at HO5 ⊢
  have hs5:w5.ownsRow (xb+7) 4 1 v5 (m.stack++[v]).length (kcells (m.stack++[v])):=by rw [List.length_append,← kcells_snoc];exact HO5.out
  have hv5:v5.ownBlock≠some xb:=fun e=>by
   obtain ⟨_,cs,hcs⟩:=owns_blk hs5 xb _ e hb5
   injection hcs with e1 e2
   exact absurd e2 (by decide)
  refine MPost.ok HR.out ((hf5.mono (fun _ _=>PMc.k)).set hb5 (PMc.k ⟨hbx,rfl⟩) 1 _) ⟨v5,hbx,?_,?_,owns_setOther hs5 hv5 _ _,by simp;omega,HMI.out.nw,HMI.out.nx,HMI.out.cl,Nat.le_trans hkz ((hf5.set hb5 ⟨hbx,rfl⟩ 1 v5).size)⟩
  ·exact heap_setCell_at _ _ _ _ _ _ hb5
  ·exact HMI.out.st.pk (hf5.set hb5 ⟨hbx,rfl⟩ 1 _)
 ·have hlt':¬ (m.stack.length:Int) < 8:=by omega
  have HR:Hid (putL v m=.error (12,(m.now:Int))):=by show _=_;unfold putL;rw [if_neg hlt]
  go_enter Tryz.func265,Tryz.ntmps265
  go_wp2_with (first | (go_at_call 199;refine (must_false _ _ _ c2).mono ?_;rintro e w' ⟨rfl,rfl⟩))
  exact ⟨rfl,MPost.err HR.out ((Fr.refl _ _).alloc _) (threwZ_new _ _ _)⟩
theorem take_none (B xb sb:Nat) (M:Msg) (m:MS) (count:Nat) (w:World) (h:MAt w B xb sb M m count) (h0:m.stack=[]) :
  Calls Tryz.prog 266 #[.pointer (some ⟨xb,0,none⟩)] w fun e w'=>ThrewZ (12,(m.now:Int)) w e w'∧Below w.heap.size w w':=by
 obtain ⟨kv,hMI⟩:=h
 obtain ⟨ka,kc,hkk⟩:=owns_len hMI.stack
 subst hkk
 have c1:w.cell? ⟨xb,1,none⟩=some (.slice ka m.stack.length kc):=blk_cell hMI.blk 1
 have c2:w.cell? ⟨xb,2,none⟩=some (.int .i64 (m.now:Int)):=blk_cell hMI.blk 2
 rw [h0] at c1
 clear hMI
 go_enter Tryz.func266,Tryz.ntmps266
 go_wp2_with (first | (go_at_call 199;refine (must_false _ _ _ c2).mono ?_;rintro e w' ⟨rfl,rfl⟩))
 exact ⟨rfl,threwZ_new _ _ _,(Below.refl _ _).alloc (Nat.le_refl _) _⟩
theorem take_some (B xb sb:Nat) (M:Msg) (m:MS) (count:Nat) (w:World) (h:MAt w B xb sb M m count) (h0:m.stack≠[]) :
  Calls Tryz.prog 266 #[.pointer (some ⟨xb,0,none⟩)] w fun e w'=>e=.returned (.bool (topL m))∧MAt w' B xb sb M (popL m) count∧Fr (PMc B xb) w w':=by
 obtain ⟨kv,hMI⟩:=h
 have HMI:=hide hMI
 have hpos:=List.length_pos_iff.2 h0
 obtain ⟨n,hn⟩:∃ n,m.stack.length=n+1:=⟨m.stack.length - 1,by omega⟩
 have hst:=hMI.stack
 rw [hn] at hst
 obtain ⟨g,kc,hkk,hbg,hgl,hcells⟩:=owns_get hst (by omega)
 subst hkk
 have c1:w.cell? ⟨xb,1,none⟩=some (.slice (some ⟨g,0,none⟩) (n+1) kc):=blk_cell hMI.blk 1
 have ht:w.cell? ⟨g,n,none⟩=some (.bool (topL m)):=hcells n _ (by
  unfold kcells topL
  rw [List.getElem?_map,List.getLastD_eq_getLast?,List.getLast?_eq_getElem?,hn,Nat.add_sub_cancel]
  rw [List.getElem?_eq_getElem (show n < m.stack.length by omega)]
  rfl)
 have hfx:=blk_frozen hMI.blk
 have hsl:=hMI.sl
 have hbx:=hMI.bx
 have HST:=hide hst
 have hn8:n+1≤8:=by omega
 have hcap:n+1≤kc:=by
  rcases hst.2 with ⟨h1,_⟩ | ⟨g',cap,cur,h1,_,_,h2,_⟩
  ·injection h1 with h1;cases h1
  ·injection h1 with h3 h4 h5;omega
 have hcap':(n:Int)≤(kc:Int):=by omega
 have hn0:(0:Int)≤(n:Int):=by omega
 have hn1:(n:Int) < (n:Int)+1:=by omega
 have hn2:(0:Int) < (n:Int)+1:=by omega
 clear hMI hst hcells
 go_enter Tryz.func266,Tryz.ntmps266
 go_wp2_with (first | (go_at_call 199;refine (must_true _ _).mono ?_;rintro e w' ⟨rfl,hww⟩;rw [hww];clear hww))
 go_ret
 have hso:w.ownsRow (xb+7) 4 1 (.slice (some ⟨g,0,none⟩) n kc) (popL m).stack.length (kcells (popL m).stack):=by
  have:=owns_short HST.out
  rw [kcells_drop] at this
  show w.ownsRow (xb+7) 4 1 _ m.stack.dropLast.length (kcells m.stack.dropLast)
  rw [List.length_dropLast,hn,Nat.add_sub_cancel]
  exact this
 have hrow:(Value.slice (some ⟨g,0,none⟩) n kc).ownBlock≠some xb:=HMI.out.row
 have hfin:=HMI.out.set 1 (.slice (some ⟨g,0,none⟩) n kc) (popL m) (.slice (some ⟨g,0,none⟩) n kc) rfl rfl (owns_setOther hso hrow _ _) (by show m.stack.dropLast.length≤8;rw [List.length_dropLast];omega) HMI.out.nw HMI.out.nx
 exact ⟨rfl,⟨_,hfin.1⟩,hfin.2.mono (fun _ _=>PMc.k)⟩
theorem take_any (B xb sb:Nat) (M:Msg) (m:MS) (count:Nat) (w:World) (h:MAt w B xb sb M m count) :
  Calls Tryz.prog 266 #[.pointer (some ⟨xb,0,none⟩)] w fun e w'=>(m.stack=[]∧ThrewZ (12,(m.now:Int)) w e w'∧Below w.heap.size w w')∨(m.stack≠[]∧e=.returned (.bool (topL m))∧MAt w' B xb sb M (popL m) count∧Fr (PMc B xb) w w'):=by
 by_cases h0:m.stack=[]
 ·exact (take_none B xb sb M m count w h h0).mono fun e w' h=>Or.inl ⟨h0,h⟩
 ·exact (take_some B xb sb M m count w h h0).mono fun e w' h=>Or.inr ⟨h0,h⟩
theorem mayPass_any (n:Int) (B xb sb:Nat) (M:Msg) (m:MS) (count:Nat) (w:World) (h:MAt w B xb sb M m count) :
  Calls Tryz.prog 267 #[.pointer (some ⟨xb,0,none⟩),.int .i64 n] w fun e w'=>e=.returned (.bool (mayL' count m n))∧Below w.heap.size w w':=by
 obtain ⟨kv,hMI⟩:=h
 have c3:w.cell? ⟨xb,3,none⟩=some (.int .i64 (m.next:Int)):=blk_cell hMI.blk 3
 have c4:w.cell? ⟨xb,4,none⟩=some (.int .i64 (count:Int)):=blk_cell hMI.blk 4
 have hx:=hMI.nx
 have hc:=hMI.cl
 have HR:Hid (mayL' count m n=(decide (0≤n) && decide (n≤(count:Int) - m.next))):=rfl
 have hw:IntKind.i64.wrap ((count:Int) - (m.next:Int))=(count:Int) - (m.next:Int):=by rw [IntKind.wrap_i64];omega
 clear hMI
 by_cases h0:0≤n
 ·have hd:decide (0≤n)=true:=decide_eq_true h0
  rw [hd] at HR
  by_cases h1:n≤(count:Int) - m.next
  ·rw [decide_eq_true h1] at HR
   go_enter Tryz.func267,Tryz.ntmps267
   go_wp2_with fail
   go_quiet (fail)
   all_goals go_wp2
   all_goals go_ret
   all_goals exact ⟨ret_bool (by rw [HR.out];simp [h1]),below_drewN (Below.refl _ _)⟩
  ·rw [decide_eq_false h1] at HR
   go_enter Tryz.func267,Tryz.ntmps267
   go_wp2_with fail
   go_quiet (fail)
   all_goals go_wp2
   all_goals go_ret
   all_goals exact ⟨ret_bool (by rw [HR.out];simp [h1]),below_drewN (Below.refl _ _)⟩
 ·have hd:decide (0≤n)=false:=decide_eq_false h0
  rw [hd] at HR
  go_enter Tryz.func267,Tryz.ntmps267
  go_wp2_with fail
  go_quiet (fail)
  all_goals go_wp2
  all_goals go_ret
  all_goals exact ⟨ret_bool (by rw [HR.out];rfl),below_drewN (Below.refl _ _)⟩
end
end Go.Proofs.YtbiclelojbfnbaaGreatDoor
