import Derived.Test.YtbiclelojbfnbabGreatDoorZSSet
namespace Go.Proofs.YtbiclelojbfnbabGreatDoor
set_option linter.unusedVariables false
set_option linter.unusedSimpArgs false
set_option maxRecDepth 100000
set_option maxHeartbeats 4000000
section
open Go.RowKit
attribute [local go_sem ↓] Go.wp_at_zero Go.wp_at_succ
theorem Tryz.infoBool:(Tryz.prog.info? 4).map (fun i=>(i.zero,i.size,i.bytes))=some (some (.bool false),1,1):=by kernel_rfl
def Qew (l:List Bool):List Value:=l.map Value.bool
theorem QnC (l:List Bool) (b:Bool):Qew l++[.bool b]=Qew (l++[b]):=by simp [Qew]
def Qeg (sb:Nat) (kv:Value) (now next count:Nat):Array Value:=#[.pointer (some ⟨sb,0,none⟩),kv,.int .i64 (now:Int),.int .i64 (next:Int),.int .i64 (count:Int)]
def kO (late:Bool):Obj→Bool
 | .cells _ t _=>t == 142 || (t == 4 && late)
 | _=>false
def PK (B xb k:Nat) (o:Obj):Prop:=B≤k∧kO (decide (xb+7≤k)) o=true
def PMc (B xb k:Nat) (o:Obj):Prop:=B≤k∧(kO (decide (xb+7≤k)) o || stO o)=true
theorem PMc.st {B xb k:Nat} {o:Obj} (h:PSt B k o):PMc B xb k o:=⟨h.1,by rw [h.2,Bool.or_true]⟩
theorem PMc.k {B xb k:Nat} {o:Obj} (h:PK B xb k o):PMc B xb k o:=⟨h.1,by rw [h.2,Bool.true_or]⟩
theorem PK.not {B xb k:Nat} {cs:Array Value} {t:TypeId} {f:Nat×Nat} (h1:t≠142) (h2:t≠4):¬ PK B xb k (.cells cs t f):=fun h=>by
 have:=h.2
 unfold kO at this
 simp at this
 rcases this with h | h
 ·exact h1 h
 ·exact h2 h.1
theorem PMc.not {B xb k:Nat} {cs:Array Value} {t:TypeId} {f:Nat×Nat} (h1:t≠142) (h2:t≠4) (h3:t≠227) (h4:t≠34):¬ PMc B xb k (.cells cs t f):=fun h=>by
 have:=h.2
 unfold kO stO at this
 simp at this
 rcases this with (h | h) | (h | h)
 ·exact h1 h
 ·exact h2 h.1
 ·exact h3 h
 ·exact h4 h
theorem SlT.pm {B xb:Nat} {w w':World} {v:Value} {zs:List (List UInt8)} (h:SlT w v zs) (hf:Fr (PMc B xb) w w'):SlT w' v zs:=h.fr hf (fun _ _=>PMc.not (by decide) (by decide) (by decide) (by decide))
structure MI (w:World) (B xb sb:Nat) (M:Msg) (m:MS) (count:Nat) (kv:Value):Prop where
 bx:B≤xb
 blk:w.heap[xb]?=some (.cells (Qeg sb kv m.now m.next count) 142)
 st:SAt w B sb M m.st
 stack:w.ownsRow (xb+7) 4 1 kv m.stack.length (Qew m.stack)
 sl:m.stack.length≤8
 nw:m.now≤400
 nx:m.next≤count
 cl:count≤400
 kz:xb+7≤w.heap.size
def MAt (w:World) (B xb sb:Nat) (M:Msg) (m:MS) (count:Nat):Prop:=∃ kv,MI w B xb sb M m count kv
theorem MI.below {w w':World} {B xb sb:Nat} {M:Msg} {m:MS} {count:Nat} {kv:Value} (h:MI w B xb sb M m count kv) (hb:Below w.heap.size w w'):MI w' B xb sb M m count kv:=
 ⟨h.bx,Qaq h.blk hb,h.st.below hb,Qa8 (P:=fun _ _=>False) h.stack (Fr.of_below hb) (fun _ _ h=>h),h.sl,h.nw,h.nx,h.cl,Nat.le_trans h.kz hb.size⟩
theorem MAt.below {w w':World} {B xb sb:Nat} {M:Msg} {m:MS} {count:Nat} (h:MAt w B xb sb M m count) (hb:Below w.heap.size w w'):MAt w' B xb sb M m count:=by
 obtain ⟨kv,h⟩:=h;exact ⟨kv,h.below hb⟩
theorem MI.st' {w w':World} {B xb sb:Nat} {M:Msg} {m:MS} {count:Nat} {kv:Value} (h:MI w B xb sb M m count kv) {s:SS} (hs:SAt w' B sb M s) (hf:Fr (PSt B) w w'):MI w' B xb sb M (stL m s) count kv:=
 ⟨h.bx,hf.block _ _ h.blk (PSt.not (by decide) (by decide)),hs,Qa8 h.stack hf (fun _ _=>PSt.not (by decide) (by decide)),h.sl,h.nw,h.nx,h.cl,Nat.le_trans h.kz hf.size⟩
theorem SAt.pk {w w':World} {B xb sb:Nat} {M:Msg} {s:SS} (h:SAt w B sb M s) (hf:Fr (PK B xb) w w'):SAt w' B sb M s:=by
 obtain ⟨hv,mb,tv,mv,h⟩:=h
 exact ⟨hv,mb,tv,mv,h.fr hf (fun _ _=>PK.not (by decide) (by decide)) (fun _ _=>PK.not (by decide) (by decide)) (fun _ _=>PK.not (by decide) (by decide)) (fun _ _=>PK.not (by decide) (by decide)) (fun _ _ _ h=>Bool.false_ne_true h.2) (fun _ h'=>by have:=h'.1;have:=h.b1;omega)⟩
theorem MI.set {w:World} {B xb sb:Nat} {M:Msg} {m:MS} {count:Nat} {kv:Value} (h:MI w B xb sb M m count kv) (o:Nat) (v:Value) (m':MS) (kv':Value) (hc:(Qeg sb kv m.now m.next count).setIfInBounds o v=Qeg sb kv' m'.now m'.next count) (hs:m'.st=m.st) (hk:(w.setCell ⟨xb,o,none⟩ v).ownsRow (xb+7) 4 1 kv' m'.stack.length (Qew m'.stack)) (hl:m'.stack.length≤8) (hn:m'.now≤400) (hx:m'.next≤count):MI (w.setCell ⟨xb,o,none⟩ v) B xb sb M m' count kv'∧Fr (PK B xb) w (w.setCell ⟨xb,o,none⟩ v):=by
 have hf:Fr (PK B xb) w (w.setCell ⟨xb,o,none⟩ v):=(Fr.refl _ w).set h.blk ⟨h.bx,rfl⟩ o v
 refine ⟨⟨h.bx,?_,?_,hk,hl,hn,hx,h.cl,Nat.le_trans h.kz hf.size⟩,hf⟩
 ·rw [← hc];exact Qah _ _ _ _ _ _ h.blk
 ·rw [hs];exact h.st.pk hf
theorem MI.row {w:World} {B xb sb:Nat} {M:Msg} {m:MS} {count:Nat} {kv:Value} (h:MI w B xb sb M m count kv):kv.ownBlock≠some xb:=fun e=>by
 obtain ⟨_,cs,hcs⟩:=QbG h.stack xb _ e h.blk
 injection hcs with e1 e2
 exact absurd e2 (by decide)
theorem QpS {w:World} {base:Nat} {e:TypeId} {g n c:Nat} {xs:List Value} (h:w.ownsRow base e 1 (.slice (some ⟨g,0,none⟩) (n+1) c) (n+1) xs):w.ownsRow base e 1 (.slice (some ⟨g,0,none⟩) n c) n xs.dropLast:=by
 obtain ⟨h1,h2⟩:=h
 rcases h2 with ⟨h2,_⟩ | ⟨g',cap,cur,hv,hg,hh,hc,hm,hs,ht⟩
 ·injection h2 with h2;cases h2
 ·injection hv with hv1 hv2 hv3
  refine ⟨by rw [List.length_dropLast];omega,Or.inr ⟨g',cap,cur,?_,hg,hh,by omega,hm,hs,?_⟩⟩
  ·rw [hv1,hv3]
  ·rw [← ht,List.dropLast_eq_take,List.length_take,List.take_take]
   congr 1
   have:cur.toList.length=cap*1:=by simpa using hs
   omega
theorem QmK (l:List Bool):(Qew l).dropLast=Qew l.dropLast:=by simp [Qew,List.map_dropLast]
def QaI (r:Except FZ MS) (B xb sb:Nat) (M:Msg) (count:Nat) (w:World) (e:Ending) (w':World):Prop:=
 Fr (PMc B xb) w w'∧
 match r with
 | .ok m=>e=.returned (.tuple #[])∧MAt w' B xb sb M m count
 | .error f=>QdT f w e w'
theorem QaI.ok {r:Except FZ MS} {B xb sb:Nat} {M:Msg} {count:Nat} {m:MS} {w w':World} (h:r=.ok m) (hf:Fr (PMc B xb) w w') (hm:MAt w' B xb sb M m count):QaI r B xb sb M count w (.returned (.tuple #[])) w':=by
 subst h;exact ⟨hf,rfl,hm⟩
theorem QaI.err {r:Except FZ MS} {B xb sb:Nat} {M:Msg} {count:Nat} {f:FZ} {e:Ending} {w w':World} (h:r=.error f) (hf:Fr (PMc B xb) w w') (hm:QdT f w e w'):QaI r B xb sb M count w e w':=by
 subst h;exact ⟨hf,hm⟩
theorem QaI.cases {r:Except FZ MS} {B xb sb:Nat} {M:Msg} {count:Nat} {w w':World} {e:Ending} (h:QaI r B xb sb M count w e w'):Fr (PMc B xb) w w'∧((∃ m,r=.ok m∧e=.returned (.tuple #[])∧MAt w' B xb sb M m count)∨∃ f,r=.error f∧QdT f w e w'):=by
 obtain ⟨hf,h⟩:=h
 cases r with
 | ok m=>exact ⟨hf,Or.inl ⟨m,rfl,h⟩⟩
 | error f=>exact ⟨hf,Or.inr ⟨f,rfl,h⟩⟩
theorem QdT.from {f:FZ} {w u:World} {e:Ending} {w':World} (h:QdT f w e w') (hz:u.heap.size≤w.heap.size):QdT f u e w':=by
 obtain ⟨b,h1,h2,h3⟩:=h;exact ⟨b,by omega,h2,h3⟩
theorem QaI.from {r:Except FZ MS} {B xb sb:Nat} {M:Msg} {count:Nat} {u w w':World} {e:Ending} (h:QaI r B xb sb M count w e w') (hf:Fr (PMc B xb) u w):QaI r B xb sb M count u e w':=by
 obtain ⟨h1,h⟩:=h
 refine ⟨hf.trans h1,?_⟩
 cases r with
 | ok m=>exact h
 | error f=>exact h.from hf.size
theorem Qgx (er at_:Int) (w:World):QdT (er,at_) w (.panicked [{ v:=.iface 76 (.pointer (some ⟨w.heap.size,0,none⟩)),recovered:=false }]) (w.alloc (.cells #[.int .i64 er,.int .i64 at_] 81)):=
 ⟨w.heap.size,Nat.le_refl _,rfl,QaB _ _⟩
theorem QbF (xb:Nat) (w:World):Calls Tryz.prog 139 #[.pointer (some ⟨xb,0,none⟩),.bool true] w fun e w'=>e=.returned (.tuple #[])∧w'=w:=by
 go_enter Tryz.func139,Tryz.ntmps139
 go_wp2
 go_end0
 exact ⟨rfl,rfl⟩
theorem Qge (xb:Nat) (now:Int) (w:World) (hc:w.cell? ⟨xb,2,none⟩=some (.int .i64 now)):Calls Tryz.prog 139 #[.pointer (some ⟨xb,0,none⟩),.bool false] w fun e w'=>e=.panicked [{ v:=.iface 76 (.pointer (some ⟨w.heap.size,0,none⟩)),recovered:=false }]∧w'=w.alloc (.cells #[.int .i64 12,.int .i64 now] 81):=by
 go_enter Tryz.func139,Tryz.ntmps139
 go_wp2_with (go_at_call 64;refine (Qau _ _ _).mono ?_;rintro e w3 ⟨rfl,rfl⟩)
 exact ⟨rfl,rfl,rfl⟩
end
section
open Go.RowKit
attribute [local go_sem ↓] Go.wp_at_zero Go.wp_at_succ
def ActsV (w:World) (B:Nat) (v:Value) (l:List (Int×List UInt8)):Prop:=
 w.ownsRow B 34 2 v l.length (QbB l)∧(l=[]→v=.slice none 0 0)
theorem Qn3 (w:World):Calls Tryz.prog 63 #[] w fun e w'=>∃ v,e=.returned v∧ActsV w' w.heap.size v [(1,[])]∧Below w.heap.size w w':=by
 go_enter Tryz.func63,Tryz.ntmps63
 go_wp2
 go_ret
 refine ⟨_,rfl,⟨?_,fun h=>by cases h⟩,(Below.refl _ _).alloc (Nat.le_refl _) _⟩
 exact World.ownsRow_lit (e:=34) (size:=2) w #[.int .i64 1,.string (Qag [])] 1 (Nat.le_refl _) (by unfold maxLen;omega) rfl
theorem QtD (W:World):(binOp .eql 29 (.slice none 0 0) (.slice none 0 0)).run Tryz.prog W=.ok (.bool true) W:=by kernel_rfl
theorem QrI (W:World) (a:Addr) (n c:Nat):(binOp .eql 29 (.slice (some a) n c) (.slice none 0 0)).run Tryz.prog W=.ok (.bool false) W:=by kernel_rfl
theorem Qpp (l:List (Int×List UInt8)):∀ u∈QbB l,u.oneCell'=true:=by
 intro u hu
 unfold QbB at hu
 obtain ⟨a,_,ha⟩:=List.mem_flatMap.1 hu
 simp at ha
 rcases ha with rfl | rfl <;> rfl
theorem QlH (base:Nat) (met:List (Int×List UInt8)) (mv:Value) (w:World) (ho:w.ownsRow base 34 2 mv met.length (QbB met)) (hn:met=[]→mv=.slice none 0 0) (hl:met.length≤6) :
 Calls Tryz.prog 191 #[mv] w fun e w'=>∃ v,e=.returned v∧ActsV w' w.heap.size v met∧Below w.heap.size w w':=by
 obtain ⟨i0,hi,hz0,hz1,hz2⟩:=info_parts Tryz.infoAction
 have q1:=QtD
 have q2:=QrI
 by_cases h0:met=[]
 ·subst h0
  have hmv:=hn rfl
  subst hmv
  go_enter Tryz.func191,Tryz.ntmps191
  go_wp2
  go_ret
  exact ⟨_,rfl,⟨World.ownsRow_nil _ _ _ _,fun _=>rfl⟩,Below.refl _ _⟩
 ·have hpos:=List.length_pos_iff.2 h0
  obtain ⟨g,c,hv,hbg,hgl,hcells⟩:=Qdn ho hpos
  subst hv
  have HC:=Qaa hcells
  clear hcells ho hn
  go_enter Tryz.func191,Tryz.ntmps191
  have HN:Hid (∀ j u,(QbB met)[j]?=some u→(w.alloc (.cells #[] 34)).cell? ((⟨g,0,none⟩:Addr).add j)=some u):=fun j u hj=>by
   rw [QcM,World.cell?_of_block (a:=⟨g,j,none⟩) (w:=w) (Below.heap_alloc _ _ _ hgl)]
   exact HC.out j u hj
  go_wp2_with (at_builtin;refine wpList_append_own _ rfl _ _ 29 rfl w.heap.size 34 i0 _ 2 24 Tryz.underlying29 hi hz0 hz1 hz2 rfl (by decide) _ _ _ rfl (World.ownsRow_made w #[] 0 (Nat.le_refl _) (Nat.zero_le _) rfl) ⟨g,0,none⟩ met.length c (QbB met) rfl (QjR met) HN.out (Qpp met) (by unfold maxLen;omega) (by omega) (by simp) ?_;intro v5 w5 ho5 hg5 _;obtain ⟨a5,k5,hv5⟩:=QaN ho5;subst hv5;have HO5:=Qaa ho5;have HB5:=Qaa (QeY ((Below.refl _ _).alloc (Nat.le_refl _) _) hg5 (by simp) (fun k hk=>((World.ownsRow_made (e:=34) (size:=2) w #[] 0 (Nat.le_refl _) (Nat.zero_le _) rfl).lt k hk).1));clear ho5 hg5)
  go_ret
  refine ⟨_,rfl,⟨?_,fun h=>absurd h h0⟩,HB5.out⟩
  have:=HO5.out
  rw [Nat.zero_add,List.nil_append] at this
  exact this
theorem Qsy (B sb:Nat) (M:Msg) (s:SS) (disc:Bool) (w:World) (h:SAt w B sb M s) (hd:disc=s.disc) :
 Calls Tryz.prog 140 #[.pointer (some ⟨sb,7,none⟩),.bool disc] w fun e w'=>∃ v,e=.returned v∧ActsV w' w.heap.size v (Qul s)∧Below w.heap.size w w':=by
 obtain ⟨hv,mb,tv,mv,hSI⟩:=h
 have c7:w.cell? ⟨sb,7,none⟩=some mv:=hSI.cell 7
 have hn:=hSI.mn
 have ho:=hSI.met
 have hm6:=hSI.bd.met
 obtain ⟨la,lc,hll⟩:=QaN ho
 subst hll
 have HR:Hid (Qul s=if s.met=[]∧s.disc=false then [(1,[])] else s.met):=rfl
 clear hSI
 by_cases h0:s.met=[]∧s.disc=false
 ·rw [if_pos h0] at HR
  rw [h0.2] at hd
  subst hd
  have hl0:((s.met.length:Int) == 0)=true:=by rw [h0.1];rfl
  have hl1:s.met.length=0:=by rw [h0.1];rfl
  go_enter Tryz.func140,Tryz.ntmps140
  go_wp2_with (go_at_call 63;refine (Qn3 _).mono ?_;rintro e w1 ⟨v,rfl,hv1,hb1⟩;obtain ⟨a5,k5,hv5⟩:=QaN hv1.1;subst hv5;have HV:=Qaa hv1;have HB:=Qaa hb1;clear hv1 hb1)
  go_ret
  exact ⟨_,rfl,by rw [HR.out];exact HV.out,HB.out⟩
 ·rw [if_neg h0] at HR
  have HC:=Qaa (QlH B s.met (.slice la s.met.length lc) w ho hn hm6)
  by_cases hl:s.met=[]
  ·have hds:s.disc=true:=by cases hh:s.disc with | true=>rfl | false=>exact absurd ⟨hl,hh⟩ h0
   rw [hds] at hd
   subst hd
   have hl0:((s.met.length:Int) == 0)=true:=by rw [hl];rfl
   clear h0 hn hl
   go_enter Tryz.func140,Tryz.ntmps140
   go_wp2_with (go_at_call 191;refine HC.out.mono ?_;rintro e w1 ⟨v,rfl,hv1,hb1⟩;obtain ⟨a5,k5,hv5⟩:=QaN hv1.1;subst hv5;have HV:=Qaa hv1;have HB:=Qaa hb1;clear hv1 hb1)
   go_ret
   exact ⟨_,rfl,by rw [HR.out];exact HV.out,HB.out⟩
  ·have hl0:((s.met.length:Int) == 0)=false:=by have:=List.length_pos_iff.2 hl;simp;omega
   clear h0 hn
   go_enter Tryz.func140,Tryz.ntmps140
   go_wp2_with (go_at_call 191;refine HC.out.mono ?_;rintro e w1 ⟨v,rfl,hv1,hb1⟩;obtain ⟨a5,k5,hv5⟩:=QaN hv1.1;subst hv5;have HV:=Qaa hv1;have HB:=Qaa hb1;clear hv1 hb1)
   go_ret
   exact ⟨_,rfl,by rw [HR.out];exact HV.out,HB.out⟩
end
section
open Go.RowKit
attribute [local go_sem ↓] Go.wp_at_zero Go.wp_at_succ
theorem Qcm (xb:Nat) (now:Int) (w:World) (hc:w.cell? ⟨xb,2,none⟩=some (.int .i64 now)):Calls Tryz.prog 139 #[.pointer (some ⟨xb,0,none⟩),.bool false] w fun e w'=>QdT (12,now) w e w'∧Below w.heap.size w w':=
 (Qge xb now w hc).mono fun e w' h=>by
   obtain ⟨rfl,rfl⟩:=h
   exact ⟨Qgx _ _ _,(Below.refl _ _).alloc (Nat.le_refl _) _⟩
theorem Qth (x:Bool):∀ u∈[Value.bool x],u.oneCell'=true:=by
 intro u hu
 simp at hu
 subst hu
 rfl
theorem Qfw (v:Bool) (B xb sb:Nat) (M:Msg) (m:MS) (count:Nat) (w:World) (h:MAt w B xb sb M m count) :
 Calls Tryz.prog 178 #[.pointer (some ⟨xb,0,none⟩),.bool v] w (QaI (Qkv v m) B xb sb M count w):=by
 obtain ⟨kv,hMI⟩:=h
 have HMI:=Qaa hMI
 obtain ⟨ka,kc,hkk⟩:=QaN hMI.stack
 subst hkk
 have c1:w.cell? ⟨xb,1,none⟩=some (.slice ka m.stack.length kc):=Qab hMI.blk 1
 have c2:w.cell? ⟨xb,2,none⟩=some (.int .i64 (m.now:Int)):=Qab hMI.blk 2
 have hxl:=QaM hMI.blk
 have hsl:=hMI.sl
 have hbx:=hMI.bx
 have hkz:=hMI.kz
 obtain ⟨i0,hi,hz0,hz1,hz2⟩:=info_parts Tryz.infoBool
 clear hMI
 by_cases hlt:m.stack.length < 8
 ·have hlt':(m.stack.length:Int) < 8:=by omega
  have HR:Hid (Qkv v m=.ok ⟨m.st,m.stack++[v],m.now,m.next⟩):=by show _=_;unfold Qkv;rw [if_pos hlt]
  have hrow:=HMI.out.row
  have HROW:=Qaa hrow
  clear hrow
  go_enter Tryz.func178,Tryz.ntmps178
  go_wp2_with (first | (go_at_call 139;refine (QbF _ _).mono ?_;rintro e w' ⟨rfl,hww⟩;rw [hww];clear hww) | (at_builtin;refine wpList_append_own _ rfl _ _ 140 rfl (xb+7) 4 i0 _ 1 1 Tryz.underlying140 hi hz0 hz1 hz2 rfl (by decide) _ _ _ rfl (HMI.out.stack.alloc _) ⟨w.heap.size,0,none⟩ 1 1 [.bool v] rfl rfl (cell_one_new _ _ _) (Qth _) (by unfold maxLen;omega) (by omega) (by simp;omega) ?_;intro v5 w5 ho5 hg5 _;obtain ⟨a5,k5,hv5⟩:=QaN ho5;subst hv5;have HO5:=Qaa ho5;have HG5:=Qaa hg5;have d1:w5.cell? ⟨xb,1,none⟩=some (.slice ka m.stack.length kc):=hg5.cell (a:=⟨xb,1,none⟩) ((World.cell?_of_block (a:=⟨xb,1,none⟩) (w:=w) (Below.heap_alloc _ _ _ hxl)).trans c1) (fun e=>HROW.out e.symm);have hft:∀ j,w5.frozen? ⟨xb,j,none⟩=false:=fun j=>(World.frozen?_of_block (a:=⟨xb,j,none⟩) (w:=w) ((hg5.block xb (by simp;omega) (fun e=>HROW.out e.symm)).trans (Below.heap_alloc _ _ _ hxl))).trans (Qam HMI.out.blk j);clear ho5 hg5))
  go_end0
  have hf5:Fr (PK B xb) w w5:=((Fr.refl _ w).alloc _).grown HG5.out (fun k o e ho=>by
   obtain ⟨hb,cs,hcs⟩:=QbG (HMI.out.stack.alloc _) k o e ho
   subst hcs
   exact ⟨by omega,by unfold kO;simp;omega⟩)
  have hb5:w5.heap[xb]?=some (.cells (Qeg sb (.slice ka m.stack.length kc) m.now m.next count) 142):=by
   rw [HG5.out.block xb (by simp;omega) (fun e=>HROW.out e.symm)]
   exact Qad HMI.out.blk
  obtain ⟨v5,hv5'⟩:∃ v5,v5=Value.slice a5 (m.stack.length+1) k5:=⟨_,rfl⟩
  rw [← hv5'] at HO5 ⊢
  have hs5:w5.ownsRow (xb+7) 4 1 v5 (m.stack++[v]).length (Qew (m.stack++[v])):=by rw [List.length_append,← QnC];exact HO5.out
  have hv5:v5.ownBlock≠some xb:=fun e=>by
   obtain ⟨_,cs,hcs⟩:=QbG hs5 xb _ e hb5
   injection hcs with e1 e2
   exact absurd e2 (by decide)
  refine QaI.ok HR.out ((hf5.mono (fun _ _=>PMc.k)).set hb5 (PMc.k ⟨hbx,rfl⟩) 1 _) ⟨v5,hbx,?_,?_,Qbt hs5 hv5 _ _,by simp;omega,HMI.out.nw,HMI.out.nx,HMI.out.cl,Nat.le_trans hkz ((hf5.set hb5 ⟨hbx,rfl⟩ 1 v5).size)⟩
  ·exact Qah _ _ _ _ _ _ hb5
  ·exact HMI.out.st.pk (hf5.set hb5 ⟨hbx,rfl⟩ 1 _)
 ·have hlt':¬ (m.stack.length:Int) < 8:=by omega
  have HR:Hid (Qkv v m=.error (12,(m.now:Int))):=by show _=_;unfold Qkv;rw [if_neg hlt]
  go_enter Tryz.func178,Tryz.ntmps178
  go_wp2_with (first | (go_at_call 139;refine (Qge _ _ _ c2).mono ?_;rintro e w' ⟨rfl,rfl⟩))
  exact ⟨rfl,QaI.err HR.out ((Fr.refl _ _).alloc _) (Qgx _ _ _)⟩
theorem Qlb (B xb sb:Nat) (M:Msg) (m:MS) (count:Nat) (w:World) (h:MAt w B xb sb M m count) (h0:m.stack=[]) :
 Calls Tryz.prog 179 #[.pointer (some ⟨xb,0,none⟩)] w fun e w'=>QdT (12,(m.now:Int)) w e w'∧Below w.heap.size w w':=by
 obtain ⟨kv,hMI⟩:=h
 obtain ⟨ka,kc,hkk⟩:=QaN hMI.stack
 subst hkk
 have c1:w.cell? ⟨xb,1,none⟩=some (.slice ka m.stack.length kc):=Qab hMI.blk 1
 have c2:w.cell? ⟨xb,2,none⟩=some (.int .i64 (m.now:Int)):=Qab hMI.blk 2
 rw [h0] at c1
 clear hMI
 go_enter Tryz.func179,Tryz.ntmps179
 go_wp2_with (first | (go_at_call 139;refine (Qge _ _ _ c2).mono ?_;rintro e w' ⟨rfl,rfl⟩))
 exact ⟨rfl,Qgx _ _ _,(Below.refl _ _).alloc (Nat.le_refl _) _⟩
theorem QlT (B xb sb:Nat) (M:Msg) (m:MS) (count:Nat) (w:World) (h:MAt w B xb sb M m count) (h0:m.stack≠[]) :
 Calls Tryz.prog 179 #[.pointer (some ⟨xb,0,none⟩)] w fun e w'=>e=.returned (.bool (topL m))∧MAt w' B xb sb M (Qn4 m) count∧Fr (PMc B xb) w w':=by
 obtain ⟨kv,hMI⟩:=h
 have HMI:=Qaa hMI
 have hpos:=List.length_pos_iff.2 h0
 obtain ⟨n,hn⟩:∃ n,m.stack.length=n+1:=⟨m.stack.length - 1,by omega⟩
 have hst:=hMI.stack
 rw [hn] at hst
 obtain ⟨g,kc,hkk,hbg,hgl,hcells⟩:=Qdn hst (by omega)
 subst hkk
 have c1:w.cell? ⟨xb,1,none⟩=some (.slice (some ⟨g,0,none⟩) (n+1) kc):=Qab hMI.blk 1
 have ht:w.cell? ⟨g,n,none⟩=some (.bool (topL m)):=hcells n _ (by
  unfold Qew topL
  rw [List.getElem?_map,List.getLastD_eq_getLast?,List.getLast?_eq_getElem?,hn,Nat.add_sub_cancel]
  rw [List.getElem?_eq_getElem (show n < m.stack.length by omega)]
  rfl)
 have hfx:=Qam hMI.blk
 have hsl:=hMI.sl
 have hbx:=hMI.bx
 have HST:=Qaa hst
 have hn8:n+1≤8:=by omega
 have hcap:n+1≤kc:=by
  rcases hst.2 with ⟨h1,_⟩ | ⟨g',cap,cur,h1,_,_,h2,_⟩
  ·injection h1 with h1;cases h1
  ·injection h1 with h3 h4 h5;omega
 have hcap':(n:Int)≤(kc:Int):=by omega
 have hn0:(0:Int)≤(n:Int):=by omega
 have hn1:(n:Int) < (n:Int)+1:=by omega
 have hn2:(0:Int) < (n:Int)+1:=by omega
 clear hMI hst hcells
 go_enter Tryz.func179,Tryz.ntmps179
 go_wp2_with (first | (go_at_call 139;refine (QbF _ _).mono ?_;rintro e w' ⟨rfl,hww⟩;rw [hww];clear hww))
 go_ret
 have hso:w.ownsRow (xb+7) 4 1 (.slice (some ⟨g,0,none⟩) n kc) (Qn4 m).stack.length (Qew (Qn4 m).stack):=by
  have:=QpS HST.out
  rw [QmK] at this
  show w.ownsRow (xb+7) 4 1 _ m.stack.dropLast.length (Qew m.stack.dropLast)
  rw [List.length_dropLast,hn,Nat.add_sub_cancel]
  exact this
 have hrow:(Value.slice (some ⟨g,0,none⟩) n kc).ownBlock≠some xb:=HMI.out.row
 have hfin:=HMI.out.set 1 (.slice (some ⟨g,0,none⟩) n kc) (Qn4 m) (.slice (some ⟨g,0,none⟩) n kc) rfl rfl (Qbt hso hrow _ _) (by show m.stack.dropLast.length≤8;rw [List.length_dropLast];omega) HMI.out.nw HMI.out.nx
 exact ⟨rfl,⟨_,hfin.1⟩,hfin.2.mono (fun _ _=>PMc.k)⟩
theorem QrP (B xb sb:Nat) (M:Msg) (m:MS) (count:Nat) (w:World) (h:MAt w B xb sb M m count) :
 Calls Tryz.prog 179 #[.pointer (some ⟨xb,0,none⟩)] w fun e w'=>(m.stack=[]∧QdT (12,(m.now:Int)) w e w'∧Below w.heap.size w w')∨(m.stack≠[]∧e=.returned (.bool (topL m))∧MAt w' B xb sb M (Qn4 m) count∧Fr (PMc B xb) w w'):=by
 by_cases h0:m.stack=[]
 ·exact (Qlb B xb sb M m count w h h0).mono fun e w' h=>Or.inl ⟨h0,h⟩
 ·exact (QlT B xb sb M m count w h h0).mono fun e w' h=>Or.inr ⟨h0,h⟩
theorem Qd8 (n:Int) (B xb sb:Nat) (M:Msg) (m:MS) (count:Nat) (w:World) (h:MAt w B xb sb M m count) :
 Calls Tryz.prog 180 #[.pointer (some ⟨xb,0,none⟩),.int .i64 n] w fun e w'=>e=.returned (.bool (QiB count m n))∧Below w.heap.size w w':=by
 obtain ⟨kv,hMI⟩:=h
 have c3:w.cell? ⟨xb,3,none⟩=some (.int .i64 (m.next:Int)):=Qab hMI.blk 3
 have c4:w.cell? ⟨xb,4,none⟩=some (.int .i64 (count:Int)):=Qab hMI.blk 4
 have hx:=hMI.nx
 have hc:=hMI.cl
 have HR:Hid (QiB count m n=(decide (0≤n) && decide (n≤(count:Int) - m.next))):=rfl
 have hw:IntKind.i64.wrap ((count:Int) - (m.next:Int))=(count:Int) - (m.next:Int):=by rw [IntKind.wrap_i64];omega
 clear hMI
 by_cases h0:0≤n
 ·have hd:decide (0≤n)=true:=decide_eq_true h0
  rw [hd] at HR
  by_cases h1:n≤(count:Int) - m.next
  ·rw [decide_eq_true h1] at HR
   go_enter Tryz.func180,Tryz.ntmps180
   go_wp2_with fail
   go_quiet (fail)
   all_goals go_wp2
   all_goals go_ret
   all_goals exact ⟨QaU (by rw [HR.out];simp [h1]),Qb0 (Below.refl _ _)⟩
  ·rw [decide_eq_false h1] at HR
   go_enter Tryz.func180,Tryz.ntmps180
   go_wp2_with fail
   go_quiet (fail)
   all_goals go_wp2
   all_goals go_ret
   all_goals exact ⟨QaU (by rw [HR.out];simp [h1]),Qb0 (Below.refl _ _)⟩
 ·have hd:decide (0≤n)=false:=decide_eq_false h0
  rw [hd] at HR
  go_enter Tryz.func180,Tryz.ntmps180
  go_wp2_with fail
  go_quiet (fail)
  all_goals go_wp2
  all_goals go_ret
  all_goals exact ⟨QaU (by rw [HR.out];rfl),Qb0 (Below.refl _ _)⟩
end
end Go.Proofs.YtbiclelojbfnbabGreatDoor
