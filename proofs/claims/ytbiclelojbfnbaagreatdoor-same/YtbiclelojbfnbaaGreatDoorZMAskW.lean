import Derived.Test.YtbiclelojbfnbaaGreatDoorZCLand
import Derived.Test.YtbiclelojbfnbaaGreatDoorZMBy
import Derived.Test.YtbiclelojbfnbaaGreatDoorZMCatch
import Derived.Test.YtbiclelojbfnbaaGreatDoorZTake
namespace Go.Proofs.YtbiclelojbfnbaaGreatDoor
set_option linter.unusedVariables false
set_option linter.unusedSimpArgs false
set_option maxRecDepth 100000
set_option maxHeartbeats 4000000
section
open Go.RowKit
attribute [local go_sem ↓] Go.wp_at_zero Go.wp_at_succ
theorem QcD (xb:Nat) (now:Int) (w:World) (hc:w.cell? ⟨xb,2,none⟩=some (.int .i64 now)):Calls Tryz.prog 199 #[.pointer (some ⟨xb,0,none⟩),.bool false] w fun e w'=>Qd9 (12,now) w e w'∧Below w.heap.size w w':=
 (Qg8 xb now w hc).mono fun e w' h=>by
   obtain ⟨rfl,rfl⟩:=h
   exact ⟨Qg2 _ _ _,(Below.refl _ _).alloc (Nat.le_refl _) _⟩
theorem Quo (x:Bool):∀ u∈[Value.bool x],u.oneCell'=true:=by
 intro u hu
 simp at hu
 subst hu
 rfl
theorem QfQ (v:Bool) (B xb sb:Nat) (M:Msg) (m:MS) (count:Nat) (w:World) (h:MAt w B xb sb M m count) :
 Calls Tryz.prog 265 #[.pointer (some ⟨xb,0,none⟩),.bool v] w (QaP (Qlm v m) B xb sb M count w):=by
 obtain ⟨kv,hMI⟩:=h
 have HMI:=Qab hMI
 obtain ⟨ka,kc,hkk⟩:=QaL hMI.stack
 subst hkk
 have c1:w.cell? ⟨xb,1,none⟩=some (.slice ka m.stack.length kc):=Qaa hMI.blk 1
 have c2:w.cell? ⟨xb,2,none⟩=some (.int .i64 (m.now:Int)):=Qaa hMI.blk 2
 have hxl:=QaH hMI.blk
 have hsl:=hMI.sl
 have hbx:=hMI.bx
 have hkz:=hMI.kz
 obtain ⟨i0,hi,hz0,hz1,hz2⟩:=info_parts Tryz.infoBool
 clear hMI
 by_cases hlt:m.stack.length < 8
 ·have hlt':(m.stack.length:Int) < 8:=by omega
  have HR:Hid (Qlm v m=.ok ⟨m.st,m.stack++[v],m.now,m.next⟩):=by show _=_;unfold Qlm;rw [if_pos hlt]
  have hrow:=HMI.out.row
  have HROW:=Qab hrow
  clear hrow
  go_enter Tryz.func265,Tryz.ntmps265
  go_wp2_with (first | (go_at_call 199;refine (QbO _ _).mono ?_;rintro e w' ⟨rfl,hww⟩;rw [hww];clear hww) | (at_builtin;refine wpList_append_own _ rfl _ _ 160 rfl (xb+7) 4 i0 _ 1 1 Tryz.underlying160 hi hz0 hz1 hz2 rfl (by decide) _ _ _ rfl (HMI.out.stack.alloc _) ⟨w.heap.size,0,none⟩ 1 1 [.bool v] rfl rfl (cell_one_new _ _ _) (Quo _) (by unfold maxLen;omega) (by omega) (by simp;omega) ?_;intro v5 w5 ho5 hg5 _;obtain ⟨a5,k5,hv5⟩:=QaL ho5;subst hv5;have HO5:=Qab ho5;have HG5:=Qab hg5;have d1:w5.cell? ⟨xb,1,none⟩=some (.slice ka m.stack.length kc):=hg5.cell (a:=⟨xb,1,none⟩) ((World.cell?_of_block (a:=⟨xb,1,none⟩) (w:=w) (Below.heap_alloc _ _ _ hxl)).trans c1) (fun e=>HROW.out e.symm);have hft:∀ j,w5.frozen? ⟨xb,j,none⟩=false:=fun j=>(World.frozen?_of_block (a:=⟨xb,j,none⟩) (w:=w) ((hg5.block xb (by simp;omega) (fun e=>HROW.out e.symm)).trans (Below.heap_alloc _ _ _ hxl))).trans (Qap HMI.out.blk j);clear ho5 hg5))
  go_end0
  have hf5:Fr (PK B xb) w w5:=((Fr.refl _ w).alloc _).grown HG5.out (fun k o e ho=>by
   obtain ⟨hb,cs,hcs⟩:=QbR (HMI.out.stack.alloc _) k o e ho
   subst hcs
   exact ⟨by omega,by unfold kO;simp;omega⟩)
  have hb5:w5.heap[xb]?=some (.cells (QeE sb (.slice ka m.stack.length kc) m.now m.next count) 210):=by
   rw [HG5.out.block xb (by simp;omega) (fun e=>HROW.out e.symm)]
   exact Qac HMI.out.blk
  obtain ⟨v5,hv5'⟩:∃ v5,v5=Value.slice a5 (m.stack.length+1) k5:=⟨_,rfl⟩
  rw [← hv5'] at HO5 ⊢
  have hs5:w5.ownsRow (xb+7) 4 1 v5 (m.stack++[v]).length (QeI (m.stack++[v])):=by rw [List.length_append,← Qnf];exact HO5.out
  have hv5:v5.ownBlock≠some xb:=fun e=>by
   obtain ⟨_,cs,hcs⟩:=QbR hs5 xb _ e hb5
   injection hcs with e1 e2
   exact absurd e2 (by decide)
  refine QaP.ok HR.out ((hf5.mono (fun _ _=>PMc.k)).set hb5 (PMc.k ⟨hbx,rfl⟩) 1 _) ⟨v5,hbx,?_,?_,QbE hs5 hv5 _ _,by simp;omega,HMI.out.nw,HMI.out.nx,HMI.out.cl,Nat.le_trans hkz ((hf5.set hb5 ⟨hbx,rfl⟩ 1 v5).size)⟩
  ·exact Qah _ _ _ _ _ _ hb5
  ·exact HMI.out.st.pk (hf5.set hb5 ⟨hbx,rfl⟩ 1 _)
 ·have hlt':¬ (m.stack.length:Int) < 8:=by omega
  have HR:Hid (Qlm v m=.error (12,(m.now:Int))):=by show _=_;unfold Qlm;rw [if_neg hlt]
  go_enter Tryz.func265,Tryz.ntmps265
  go_wp2_with (first | (go_at_call 199;refine (Qg8 _ _ _ c2).mono ?_;rintro e w' ⟨rfl,rfl⟩))
  exact ⟨rfl,QaP.err HR.out ((Fr.refl _ _).alloc _) (Qg2 _ _ _)⟩
theorem Qms (B xb sb:Nat) (M:Msg) (m:MS) (count:Nat) (w:World) (h:MAt w B xb sb M m count) (h0:m.stack=[]) :
 Calls Tryz.prog 266 #[.pointer (some ⟨xb,0,none⟩)] w fun e w'=>Qd9 (12,(m.now:Int)) w e w'∧Below w.heap.size w w':=by
 obtain ⟨kv,hMI⟩:=h
 obtain ⟨ka,kc,hkk⟩:=QaL hMI.stack
 subst hkk
 have c1:w.cell? ⟨xb,1,none⟩=some (.slice ka m.stack.length kc):=Qaa hMI.blk 1
 have c2:w.cell? ⟨xb,2,none⟩=some (.int .i64 (m.now:Int)):=Qaa hMI.blk 2
 rw [h0] at c1
 clear hMI
 go_enter Tryz.func266,Tryz.ntmps266
 go_wp2_with (first | (go_at_call 199;refine (Qg8 _ _ _ c2).mono ?_;rintro e w' ⟨rfl,rfl⟩))
 exact ⟨rfl,Qg2 _ _ _,(Below.refl _ _).alloc (Nat.le_refl _) _⟩
theorem Qlw (B xb sb:Nat) (M:Msg) (m:MS) (count:Nat) (w:World) (h:MAt w B xb sb M m count) (h0:m.stack≠[]) :
 Calls Tryz.prog 266 #[.pointer (some ⟨xb,0,none⟩)] w fun e w'=>e=.returned (.bool (topL m))∧MAt w' B xb sb M (Qo9 m) count∧Fr (PMc B xb) w w':=by
 obtain ⟨kv,hMI⟩:=h
 have HMI:=Qab hMI
 have hpos:=List.length_pos_iff.2 h0
 obtain ⟨n,hn⟩:∃ n,m.stack.length=n+1:=⟨m.stack.length - 1,by omega⟩
 have hst:=hMI.stack
 rw [hn] at hst
 obtain ⟨g,kc,hkk,hbg,hgl,hcells⟩:=QdB hst (by omega)
 subst hkk
 have c1:w.cell? ⟨xb,1,none⟩=some (.slice (some ⟨g,0,none⟩) (n+1) kc):=Qaa hMI.blk 1
 have ht:w.cell? ⟨g,n,none⟩=some (.bool (topL m)):=hcells n _ (by
  unfold QeI topL
  rw [List.getElem?_map,List.getLastD_eq_getLast?,List.getLast?_eq_getElem?,hn,Nat.add_sub_cancel]
  rw [List.getElem?_eq_getElem (show n < m.stack.length by omega)]
  rfl)
 have hfx:=Qap hMI.blk
 have hsl:=hMI.sl
 have hbx:=hMI.bx
 have HST:=Qab hst
 have hn8:n+1≤8:=by omega
 have hcap:n+1≤kc:=by
  rcases hst.2 with ⟨h1,_⟩ | ⟨g',cap,cur,h1,_,_,h2,_⟩
  ·injection h1 with h1;cases h1
  ·injection h1 with h3 h4 h5;omega
 have hcap':(n:Int)≤(kc:Int):=by omega
 have hn0:(0:Int)≤(n:Int):=by omega
 have hn1:(n:Int) < (n:Int)+1:=by omega
 have hn2:(0:Int) < (n:Int)+1:=by omega
 clear hMI hst hcells
 go_enter Tryz.func266,Tryz.ntmps266
 go_wp2_with (first | (go_at_call 199;refine (QbO _ _).mono ?_;rintro e w' ⟨rfl,hww⟩;rw [hww];clear hww))
 go_ret
 have hso:w.ownsRow (xb+7) 4 1 (.slice (some ⟨g,0,none⟩) n kc) (Qo9 m).stack.length (QeI (Qo9 m).stack):=by
  have:=Qqu HST.out
  rw [Qov] at this
  show w.ownsRow (xb+7) 4 1 _ m.stack.dropLast.length (QeI m.stack.dropLast)
  rw [List.length_dropLast,hn,Nat.add_sub_cancel]
  exact this
 have hrow:(Value.slice (some ⟨g,0,none⟩) n kc).ownBlock≠some xb:=HMI.out.row
 have hfin:=HMI.out.set 1 (.slice (some ⟨g,0,none⟩) n kc) (Qo9 m) (.slice (some ⟨g,0,none⟩) n kc) rfl rfl (QbE hso hrow _ _) (by show m.stack.dropLast.length≤8;rw [List.length_dropLast];omega) HMI.out.nw HMI.out.nx
 exact ⟨rfl,⟨_,hfin.1⟩,hfin.2.mono (fun _ _=>PMc.k)⟩
theorem QsI (B xb sb:Nat) (M:Msg) (m:MS) (count:Nat) (w:World) (h:MAt w B xb sb M m count) :
 Calls Tryz.prog 266 #[.pointer (some ⟨xb,0,none⟩)] w fun e w'=>(m.stack=[]∧Qd9 (12,(m.now:Int)) w e w'∧Below w.heap.size w w')∨(m.stack≠[]∧e=.returned (.bool (topL m))∧MAt w' B xb sb M (Qo9 m) count∧Fr (PMc B xb) w w'):=by
 by_cases h0:m.stack=[]
 ·exact (Qms B xb sb M m count w h h0).mono fun e w' h=>Or.inl ⟨h0,h⟩
 ·exact (Qlw B xb sb M m count w h h0).mono fun e w' h=>Or.inr ⟨h0,h⟩
theorem Qes (n:Int) (B xb sb:Nat) (M:Msg) (m:MS) (count:Nat) (w:World) (h:MAt w B xb sb M m count) :
 Calls Tryz.prog 267 #[.pointer (some ⟨xb,0,none⟩),.int .i64 n] w fun e w'=>e=.returned (.bool (Qjn count m n))∧Below w.heap.size w w':=by
 obtain ⟨kv,hMI⟩:=h
 have c3:w.cell? ⟨xb,3,none⟩=some (.int .i64 (m.next:Int)):=Qaa hMI.blk 3
 have c4:w.cell? ⟨xb,4,none⟩=some (.int .i64 (count:Int)):=Qaa hMI.blk 4
 have hx:=hMI.nx
 have hc:=hMI.cl
 have HR:Hid (Qjn count m n=(decide (0≤n) && decide (n≤(count:Int) - m.next))):=rfl
 have hw:IntKind.i64.wrap ((count:Int) - (m.next:Int))=(count:Int) - (m.next:Int):=by rw [IntKind.wrap_i64];omega
 clear hMI
 by_cases h0:0≤n
 ·have hd:decide (0≤n)=true:=decide_eq_true h0
  rw [hd] at HR
  by_cases h1:n≤(count:Int) - m.next
  ·rw [decide_eq_true h1] at HR
   go_enter Tryz.func267,Tryz.ntmps267
   go_wp2_with fail
   go_quiet (fail)
   all_goals go_wp2
   all_goals go_ret
   all_goals exact ⟨QaW (by rw [HR.out];simp [h1]),Qb2 (Below.refl _ _)⟩
  ·rw [decide_eq_false h1] at HR
   go_enter Tryz.func267,Tryz.ntmps267
   go_wp2_with fail
   go_quiet (fail)
   all_goals go_wp2
   all_goals go_ret
   all_goals exact ⟨QaW (by rw [HR.out];simp [h1]),Qb2 (Below.refl _ _)⟩
 ·have hd:decide (0≤n)=false:=decide_eq_false h0
  rw [hd] at HR
  go_enter Tryz.func267,Tryz.ntmps267
  go_wp2_with fail
  go_quiet (fail)
  all_goals go_wp2
  all_goals go_ret
  all_goals exact ⟨QaW (by rw [HR.out];rfl),Qb2 (Below.refl _ _)⟩
end
section
open Go.RowKit
attribute [local go_sem ↓] Go.wp_at_zero Go.wp_at_succ
theorem MAt.box {w:World} {B xb sb:Nat} {M:Msg} {m:MS} {count:Nat} (h:MAt w B xb sb M m count) (o:Obj):MAt (w.alloc o) B xb sb M m count:=h.below ((Below.refl _ _).alloc (Nat.le_refl _) _)
theorem MAt.now {w:World} {B xb sb:Nat} {M:Msg} {m:MS} {count:Nat} (h:MAt w B xb sb M m count):w.cell? ⟨xb,2,none⟩=some (.int .i64 (m.now:Int)):=by
 obtain ⟨kv,h⟩:=h;exact Qaa h.blk 2
theorem Qc7 {P:Nat→Obj→Prop} (w:World) (o:Obj):Fr P w (w.alloc o):=(Fr.refl _ w).alloc o
theorem QsW (i:Ins) (av bv:Value) (B xb sb:Nat) (M:Msg) (m:MS) (count:Nat) (w:World) (h:MAt w B xb sb M m count) (ho:Qcg w i av bv) :
 Calls Tryz.prog 184 #[.pointer (some ⟨xb,0,none⟩),Qdt i av bv] w (QaP (Qgf i m) B xb sb M count w):=by
 have HM:=Qab h
 obtain ⟨aa,ac,rfl⟩:=ho.a.len
 obtain ⟨ba,bc,rfl⟩:=ho.b.len
 have hxl:xb < w.heap.size:=Qax h.now
 have hnow:=(h.box (.cells (QkV i (.slice aa i.a.length ac) (.slice ba i.b.length bc)) 62)).now
 unfold QkV at hnow
 have e0:=QeU i.n 0
 have e1:=QeU i.n 1
 clear h ho
 unfold Qdt
 by_cases h01:i.n=0∨i.n=1
 ·have HR:Hid (Qgf i m=Qlm (decide (i.n=1)) m):=by show _=_;unfold Qgf;rw [if_pos h01]
  rcases h01 with h0 | h1
  ·rw [decide_eq_true h0] at e0
   rw [decide_eq_false (by omega)] at e1 HR
   clear h0
   go_enter Tryz.func184,Tryz.ntmps184
   go_wp2_with (go_at_call 199;refine (QbO _ _).mono ?_;rintro e w' ⟨rfl,hww⟩;rw [hww];clear hww)
   refine (QfQ false B xb sb M m count _ (HM.out.box _)).mono ?_
   intro e w1 h1
   rcases h1.cases with ⟨hf,⟨m',hr,rfl,hm⟩ | ⟨f,hr,bb,hz,rfl,hcc⟩⟩
   ·have H1:=Qab h1
    clear hm hf h1
    go_wp2
    go_end0
    rw [HR.out]
    exact H1.out.from (Qc7 _ _)
   ·exact ⟨rfl,by rw [HR.out];exact QaP.from h1 (Qc7 _ _)⟩
  ·rw [decide_eq_true h1] at e1 HR
   rw [decide_eq_false (by omega)] at e0
   clear h1
   go_enter Tryz.func184,Tryz.ntmps184
   go_wp2_with (go_at_call 199;refine (QbO _ _).mono ?_;rintro e w' ⟨rfl,hww⟩;rw [hww];clear hww)
   refine (QfQ true B xb sb M m count _ (HM.out.box _)).mono ?_
   intro e w1 h1
   rcases h1.cases with ⟨hf,⟨m',hr,rfl,hm⟩ | ⟨f,hr,bb,hz,rfl,hcc⟩⟩
   ·have H1:=Qab h1
    clear hm hf h1
    go_wp2
    go_end0
    rw [HR.out]
    exact H1.out.from (Qc7 _ _)
   ·exact ⟨rfl,by rw [HR.out];exact QaP.from h1 (Qc7 _ _)⟩
 ·have HR:Hid (Qgf i m=.error (12,(m.now:Int))):=by show _=_;unfold Qgf Qc2;rw [if_neg h01]
  rw [decide_eq_false (by omega)] at e0
  rw [decide_eq_false (by omega)] at e1
  clear h01
  go_enter Tryz.func184,Tryz.ntmps184
  go_wp2_with (go_at_call 199;refine (QcD _ _ _ hnow).mono ?_;rintro e w' ⟨⟨bb,hz,rfl,hcc⟩,hb⟩)
  exact ⟨rfl,by rw [HR.out];exact QaP.from (QaP.err rfl (Fr.of_below hb) ⟨bb,hz,rfl,hcc⟩) (Qc7 _ _)⟩
theorem Qtm (i:Ins) (av bv:Value) (B xb sb:Nat) (M:Msg) (m:MS) (count:Nat) (w:World) (h:MAt w B xb sb M m count) (ho:Qcg w i av bv) :
 Calls Tryz.prog 185 #[.pointer (some ⟨xb,0,none⟩),Qdt i av bv] w (QaP (QmA m) B xb sb M count w):=by
 have HM:=Qab h
 obtain ⟨aa,ac,rfl⟩:=ho.a.len
 obtain ⟨ba,bc,rfl⟩:=ho.b.len
 clear h ho
 unfold Qdt
 by_cases h0:m.stack=[]
 ·have HR:Hid (QmA m=.error (12,(m.now:Int))):=by show _=_;unfold QmA Qc2;rw [if_pos h0]
  go_enter Tryz.func185,Tryz.ntmps185
  go_wp2_with fail
  refine (Qms B xb sb M m count _ (HM.out.box _) h0).mono ?_
  rintro e w1 ⟨⟨bb,hz,rfl,hcc⟩,hb⟩
  refine ⟨rfl,?_⟩
  rw [HR.out]
  exact QaP.from (QaP.err rfl (Fr.of_below hb) ⟨bb,hz,rfl,hcc⟩) (Qc7 _ _)
 ·have HR:Hid (QmA m=Qlm (!topL m) (Qo9 m)):=by show _=_;unfold QmA;rw [if_neg h0]
  go_enter Tryz.func185,Tryz.ntmps185
  go_wp2_with fail
  refine (Qlw B xb sb M m count _ (HM.out.box _) h0).mono ?_
  rintro e w1 ⟨rfl,hm1,hf1⟩
  have HM1:=Qab hm1
  have HF1:=Qab ((Qc7 _ _).trans hf1)
  clear hm1 hf1
  go_wp2_with fail
  refine (QfQ (!topL m) B xb sb M (Qo9 m) count _ HM1.out).mono ?_
  intro e w2 h2
  rcases h2.cases with ⟨hf,⟨m',hr,rfl,hm⟩ | ⟨f,hr,bb,hz,rfl,hcc⟩⟩
  ·have H2:=Qab h2
   clear hm hf h2
   go_wp2
   go_end0
   rw [HR.out]
   exact H2.out.from HF1.out
  ·exact ⟨rfl,by rw [HR.out];exact QaP.from h2 HF1.out⟩
theorem MI.go {w:World} {B xb sb:Nat} {M:Msg} {m:MS} {count:Nat} {kv:Value} (h:MI w B xb sb M m count kv) (k:Nat) (hk:k≤count):MAt (w.setCell ⟨xb,3,none⟩ (.int .i64 (k:Int))) B xb sb M (goL m k) count∧Fr (PMc B xb) w (w.setCell ⟨xb,3,none⟩ (.int .i64 (k:Int))):=by
 have hfin:=h.set 3 (.int .i64 (k:Int)) (goL m k) kv rfl rfl (QbE h.stack h.row _ _) h.sl h.nw hk
 exact ⟨⟨_,hfin.1⟩,hfin.2.mono (fun _ _=>PMc.k)⟩
theorem Qts (i:Ins) (av bv:Value) (B xb sb:Nat) (M:Msg) (m:MS) (count:Nat) (w:World) (h:MAt w B xb sb M m count) (ho:Qcg w i av bv) :
 Calls Tryz.prog 186 #[.pointer (some ⟨xb,0,none⟩),Qdt i av bv] w (QaP (Qgl count i m) B xb sb M count w):=by
 obtain ⟨aa,ac,rfl⟩:=ho.a.len
 obtain ⟨ba,bc,rfl⟩:=ho.b.len
 have HM:=Qab h
 have hxl:xb < w.heap.size:=Qax h.now
 clear ho
 unfold Qdt
 cases hmay:Qjn count m i.n
 ·have HR:Hid (Qgl count i m=.error (12,(m.now:Int))):=by show _=_;unfold Qgl Qc2;rw [hmay];rfl
  clear h
  go_enter Tryz.func186,Tryz.ntmps186
  go_wp2_with fail
  refine (Qes i.n B xb sb M m count _ (HM.out.box _)).mono ?_
  rintro e w1 ⟨rfl,hb1⟩
  rw [hmay]
  have HB1:=Qab (((Below.refl w.heap.size w).alloc (Nat.le_refl _) _).trans (hb1.mono (by simp)))
  have hnow:=(HM.out.below HB1.out).now
  clear hb1
  go_wp2_with (go_at_call 199;refine (QcD _ _ _ hnow).mono ?_;rintro e w' ⟨⟨bb,hz,rfl,hcc⟩,hb⟩)
  exact ⟨rfl,by rw [HR.out];exact QaP.from (QaP.err rfl (Fr.of_below hb) ⟨bb,hz,rfl,hcc⟩) (Fr.of_below HB1.out)⟩
 ·have hle:=Qo0 hmay
  have HR:Hid (Qgl count i m=.ok (goL m (m.next+i.n.toNat))):=by show _=_;unfold Qgl;rw [hmay];rfl
  have hnn:0≤i.n:=by unfold Qjn at hmay;simp at hmay;exact hmay.1
  obtain ⟨kv,hMI0⟩:=h
  have hcl:=hMI0.cl
  clear hMI0
  go_enter Tryz.func186,Tryz.ntmps186
  go_wp2_with fail
  refine (Qes i.n B xb sb M m count _ (HM.out.box _)).mono ?_
  rintro e w1 ⟨rfl,hb1⟩
  rw [hmay]
  have HB1:=Qab (((Below.refl w.heap.size w).alloc (Nat.le_refl _) _).trans (hb1.mono (by simp)))
  obtain ⟨kv,hMI⟩:=HM.out.below HB1.out
  have hbx:=Qal (Qay w (.cells #[.int .i64 i.op,.int .i64 i.n,.int .i64 i.tag,.bool i.oct,.slice aa i.a.length ac,.slice ba i.b.length bc,.int .i64 i.at_] 62)) hb1
  have q1:w1.cell? ⟨w.heap.size,1,none⟩=some (.int .i64 i.n):=Qaa hbx 1
  have c3:w1.cell? ⟨xb,3,none⟩=some (.int .i64 (m.next:Int)):=Qaa hMI.blk 3
  have f3:=Qap hMI.blk
  obtain ⟨d,hd⟩:∃ d:Nat,i.n=(d:Int):=⟨i.n.toNat,by omega⟩
  rw [hd] at q1 HR hle
  rw [Int.toNat_natCast] at HR hle
  have hsum:IntKind.i64.wrap ((m.next:Int)+(d:Int))=(m.next:Int)+(d:Int):=by rw [IntKind.wrap_i64];omega
  have HMI:=Qab hMI
  have hne:¬ w.heap.size=xb:=by omega
  have hne':¬ xb=w.heap.size:=by omega
  have HG:=Qab (hMI.go (m.next+d) hle)
  have HGD:=Qab ((hMI.below (Qaz (Below.refl _ _))).go (m.next+d) hle)
  clear hb1 hMI hbx hd hnn hmay
  go_wp2_with (go_at_call 199;refine (QbO _ _).mono ?_;rintro e w' ⟨rfl,hww⟩;rw [hww];clear hww)
  go_region
  all_goals go_wp2
  all_goals go_end0
  all_goals first
   | exact QaP.from (QaP.ok HR.out HG.out.2.drew (HG.out.1.below (Qaz (Below.refl _ _)))) (Fr.of_below HB1.out)
   | exact QaP.from (QaP.ok HR.out ((Fr.of_below (Qaz (Below.refl _ _))).trans HGD.out.2) HGD.out.1) (Fr.of_below HB1.out)
end
section
open Go.RowKit
attribute [local go_sem ↓] Go.wp_at_zero Go.wp_at_succ
theorem QjI (taken:Bool) (p:Nat) (i:Ins) (av bv:Value) (B xb sb:Nat) (M:Msg) (m:MS) (count:Nat) (w:World) (h:MAt w B xb sb M m count) (ho:Qcg w i av bv) (hp:w.heap[p]?=some (.cells #[.bool taken] 4)) (hpB:p < xb+7) :
 Calls Tryz.prog 268 #[.pointer (some ⟨xb,0,none⟩),Qdt i av bv,.pointer (some ⟨p,0,none⟩)] w (QaP (doCond taken count i m) B xb sb M count w):=by
 obtain ⟨aa,ac,rfl⟩:=ho.a.len
 obtain ⟨ba,bc,rfl⟩:=ho.b.len
 have HM:=Qab h
 have hxl:xb < w.heap.size:=Qax h.now
 have HP:=Qab hp
 have hpl:=QaH hp
 clear ho hp
 unfold Qdt
 cases hmay:Qjn count m i.n
 ·have HR:Hid (doCond taken count i m=.error (12,(m.now:Int))):=by show _=_;unfold doCond Qc2;rw [hmay];rfl
  clear h
  go_enter Tryz.func268,Tryz.ntmps268
  go_wp2_with fail
  refine (Qes i.n B xb sb M m count _ (HM.out.box _)).mono ?_
  rintro e w1 ⟨rfl,hb1⟩
  rw [hmay]
  have HB1:=Qab (((Below.refl w.heap.size w).alloc (Nat.le_refl _) _).trans (hb1.mono (by simp)))
  have hnow:=(HM.out.below HB1.out).now
  clear hb1
  go_wp2_with (go_at_call 199;refine (QcD _ _ _ hnow).mono ?_;rintro e w' ⟨⟨bb,hz,rfl,hcc⟩,hb⟩)
  exact ⟨rfl,by rw [HR.out];exact QaP.from (QaP.err rfl (Fr.of_below hb) ⟨bb,hz,rfl,hcc⟩) (Fr.of_below HB1.out)⟩
 have hle:=Qo0 hmay
 have hnn:0≤i.n:=by unfold Qjn at hmay;simp at hmay;exact hmay.1
 have hcl:count≤400:=by obtain ⟨kv,hMI0⟩:=h;exact hMI0.cl
 clear h
 have HR0:Hid (m.stack=[]→doCond taken count i m=.error (12,(m.now:Int))):=fun h0=>by unfold doCond Qc2;rw [hmay,if_pos rfl,if_pos h0]
 have HR:Hid (m.stack≠[]→doCond taken count i m=.ok (if topL m=taken then goL (Qo9 m) (m.next+i.n.toNat) else Qo9 m)):=fun h0=>by unfold doCond;rw [hmay,if_pos rfl,if_neg h0]
 go_enter Tryz.func268,Tryz.ntmps268
 go_wp2_with fail
 refine (Qes i.n B xb sb M m count _ (HM.out.box _)).mono ?_
 rintro e w1 ⟨rfl,hb1⟩
 rw [hmay]
 have HB1:=Qab (((Below.refl w.heap.size w).alloc (Nat.le_refl _) _).trans (hb1.mono (by simp)))
 have p1:w1.cell? ⟨p,0,none⟩=some (.bool taken):=Qaa (Qal HP.out HB1.out) 0
 have hbx1:=Qal (Qay w (.cells #[.int .i64 i.op,.int .i64 i.n,.int .i64 i.tag,.bool i.oct,.slice aa i.a.length ac,.slice ba i.b.length bc,.int .i64 i.at_] 62)) hb1
 have HBX:=Qab hbx1
 have HTK:=Qab (QsI B xb sb M m count w1.drew ((HM.out.below HB1.out).below (Qaz (Below.refl _ _))))
 obtain ⟨d,hd⟩:∃ d:Nat,i.n=(d:Int):=⟨i.n.toNat,by omega⟩
 rw [hd] at HR hle
 rw [Int.toNat_natCast] at HR hle
 have HF1:Hid (∀ w2:World,Fr (PMc B xb) w1.drew w2→w2.cell? ⟨p,0,none⟩=some (.bool taken)∧w2.cell? ⟨w.heap.size,1,none⟩=some (.int .i64 (d:Int))):=fun w2 hf=>by
  have h1:w2.heap[p]?=some (.cells #[.bool taken] 4):=hf.block p _ (Qal HP.out (Qaz HB1.out)) (fun hh=>by
   have:=hh.2
   unfold kO stO at this
   simp at this
   omega)
  have h2:=hf.block w.heap.size _ (show w1.drew.heap[w.heap.size]?=_ from HBX.out) (PMc.not (by decide) (by decide) (by decide) (by decide))
  refine ⟨Qaa h1 0,?_⟩
  rw [Qaa h2,← hd];rfl
 clear hb1 hbx1 hmay hnn hd
 obtain ⟨tp,htp⟩:∃ tp,topL m=tp:=⟨_,rfl⟩
 rw [htp] at HR HTK
 clear htp
 go_wp2_with (go_at_call 199;refine (QbO _ _).mono ?_;rintro e w' ⟨rfl,hww⟩;rw [hww];clear hww)
 have hsum:IntKind.i64.wrap ((m.next:Int)+(d:Int))=(m.next:Int)+(d:Int):=by rw [IntKind.wrap_i64];omega
 have hne:¬ w.heap.size=xb:=by omega
 have hne':¬ xb=w.heap.size:=by omega
 by_cases hte:tp=taken
 ·subst hte
  have HRR:Hid (m.stack≠[]→doCond tp count i m=.ok (goL (Qo9 m) (m.next+d))):=fun h0=>by rw [HR.out h0,if_pos rfl]
  have hbe:(tp == tp)=true:=by cases tp <;> rfl
  go_region_with (first | (go_at_call 266;refine HTK.out.mono ?_;rintro e w2 (⟨h0,⟨bb,hz,rfl,hcc⟩,hb⟩ | ⟨h0,rfl,hm2,hf2⟩);exact ⟨rfl,by rw [HR0.out h0];exact QaP.from (QaP.err rfl (Fr.of_below hb) ⟨bb,hz,rfl,hcc⟩) (Fr.of_below (Qaz HB1.out))⟩;obtain ⟨kv,hMI⟩:=hm2;have p2:=(HF1.out w2 hf2).1;have q2:=(HF1.out w2 hf2).2;have c3:w2.cell? ⟨xb,3,none⟩=some (.int .i64 (m.next:Int)):=Qaa hMI.blk 3;have f3:=Qap hMI.blk;have HM2:=Qab hMI;have HF2:=Qab hf2;have H0:=Qab h0;clear hMI hf2 h0;skip))
  all_goals go_wp2_with fail
  all_goals go_region
  all_goals go_wp2
  all_goals go_end0
  all_goals rw [HRR.out H0.out]
  all_goals have HG:=HM2.out.go (m.next+d) hle
  all_goals have HGD:=(HM2.out.below (Qaz (Below.refl _ _))).go (m.next+d) hle
  all_goals first
   | exact QaP.from (QaP.ok rfl (HF2.out.trans HG.2.drew) (HG.1.below (Qaz (Below.refl _ _)))) (Fr.of_below (Qaz HB1.out))
   | exact QaP.from (QaP.ok rfl ((HF2.out.drew).trans HGD.2) HGD.1) (Fr.of_below (Qaz HB1.out))
 ·have HRR:Hid (m.stack≠[]→doCond taken count i m=.ok (Qo9 m)):=fun h0=>by rw [HR.out h0,if_neg hte]
  have hbe:(tp == taken)=false:=by cases tp <;> cases taken <;> first | rfl | exact absurd rfl hte
  clear hte
  go_region_with (first | (go_at_call 266;refine HTK.out.mono ?_;rintro e w2 (⟨h0,⟨bb,hz,rfl,hcc⟩,hb⟩ | ⟨h0,rfl,hm2,hf2⟩);exact ⟨rfl,by rw [HR0.out h0];exact QaP.from (QaP.err rfl (Fr.of_below hb) ⟨bb,hz,rfl,hcc⟩) (Fr.of_below (Qaz HB1.out))⟩;obtain ⟨kv,hMI⟩:=hm2;have p2:=(HF1.out w2 hf2).1;have q2:=(HF1.out w2 hf2).2;have c3:w2.cell? ⟨xb,3,none⟩=some (.int .i64 (m.next:Int)):=Qaa hMI.blk 3;have f3:=Qap hMI.blk;have HM2:=Qab hMI;have HF2:=Qab hf2;have H0:=Qab h0;clear hMI hf2 h0;skip))
  all_goals go_wp2
  all_goals go_end0
  all_goals rw [HRR.out H0.out]
  all_goals exact QaP.from (QaP.ok rfl HF2.out ⟨_,HM2.out⟩) (Fr.of_below (Qaz HB1.out))
end
section
open Go.RowKit
attribute [local go_sem ↓] Go.wp_at_zero Go.wp_at_succ
theorem Qve (W:World):(binOp .neq 392 .nilFunc .nilFunc).run Tryz.prog W=.ok (.bool false) W:=by kernel_rfl
theorem QvB (W:World) (f:Fn) (a b:Array Value):(binOp .neq 392 (.func f a b) .nilFunc).run Tryz.prog W=.ok (.bool true) W:=by kernel_rfl
theorem Qu4 (tag:Int) (oct:Bool) (w:World) :
 Calls Tryz.prog 270 #[.int .i64 tag,.bool oct] w fun e w'=>(∃ wv,e=.returned wv∧((1≤tag∧tag≤3∧WayV w' tag oct wv)∨(¬ (1≤tag∧tag≤3)∧wv=.nilFunc)))∧Below w.heap.size w w':=by
 cases oct
 ·exact Qt3 false _ rfl tag w
 ·exact Qt3 true _ rfl tag w
theorem MAt.pt {w:World} {B xb sb:Nat} {M:Msg} {m:MS} {count:Nat} (h:MAt w B xb sb M m count):w.cell? ⟨xb,0,none⟩=some (.pointer (some ⟨sb,0,none⟩)):=by
 obtain ⟨kv,h⟩:=h;exact Qaa h.blk 0
theorem MAt.sat {w:World} {B xb sb:Nat} {M:Msg} {m:MS} {count:Nat} (h:MAt w B xb sb M m count):SAt w B sb M m.st:=by
 obtain ⟨kv,h⟩:=h;exact h.st
theorem MAt.st' {w w':World} {B xb sb:Nat} {M:Msg} {m:MS} {count:Nat} (h:MAt w B xb sb M m count) {s:SS} (hs:SAt w' B sb M s) (hf:Fr (PSt B) w w'):MAt w' B xb sb M (stL m s) count:=by
 obtain ⟨kv,h⟩:=h;exact ⟨kv,h.st' hs hf⟩
theorem Qoj (fn:FuncId) (vals:List (List UInt8)) (p:Nat) (i:Ins) (av bv:Value) (B xb sb:Nat) (M:Msg) (m:MS) (count:Nat) (w:World) (h:MAt w B xb sb M m count) (ho:Qcg w i av bv) (hp:w.heap[p]?=some (.cells #[.func (.func fn) #[] #[]] 329)) (hcf:∀ args W,(callFunc fn args).run Tryz.prog W=.ok (.enter fn args) W) (hask:∀ wv av bv W,WayV W i.tag i.oct wv→SAt W B sb M m.st→Qcg W i av bv→Calls Tryz.prog fn #[.pointer (some ⟨sb,0,none⟩),wv,av,bv] W fun e w'=>e=.returned (.bool (askL m.st i.tag i.oct vals i.b).1)∧SAt w' B sb M (askL m.st i.tag i.oct vals i.b).2∧Fr (PSt B) W w') :
 Calls Tryz.prog 269 #[.pointer (some ⟨xb,0,none⟩),Qdt i av bv,.pointer (some ⟨p,0,none⟩)] w (QaP (doAsk vals i m) B xb sb M count w):=by
 obtain ⟨aa,ac,hav⟩:=ho.a.len
 obtain ⟨ba,bc,hbv⟩:=ho.b.len
 subst hav hbv
 have HM:=Qab h
 have HO:=Qab ho
 have HP:=Qab hp
 have hxl:xb < w.heap.size:=Qax h.now
 have hpl:=QaH hp
 have HR0:Hid (¬ (1≤i.tag∧i.tag≤3)→doAsk vals i m=.error (12,(m.now:Int))):=fun h=>by unfold doAsk Qc2;rw [if_neg h]
 have HR:Hid ((1≤i.tag∧i.tag≤3)→doAsk vals i m=Qlm (askL m.st i.tag i.oct vals i.b).1 (stL m (askL m.st i.tag i.oct vals i.b).2)):=fun h=>by unfold doAsk QrC;rw [if_pos h]
 have hnt:=Qve
 have hnf:=QvB
 clear h ho hp
 unfold Qdt
 go_enter Tryz.func269,Tryz.ntmps269
 go_wp2_with fail
 refine (Qu4 i.tag i.oct _).mono ?_
 rintro e w1 ⟨⟨wv,rfl,hcase⟩,hb1⟩
 have HB1:=Qab (((Below.refl w.heap.size w).alloc (Nat.le_refl _) _).trans (hb1.mono (by simp)))
 have hbx:=Qal (Qay w (.cells #[.int .i64 i.op,.int .i64 i.n,.int .i64 i.tag,.bool i.oct,.slice aa i.a.length ac,.slice ba i.b.length bc,.int .i64 i.at_] 62)) hb1
 rcases hcase with ⟨ht1,ht3,hw⟩ | ⟨ht,rfl⟩
 rotate_left
 ·have hnow:=(HM.out.below HB1.out).now
  have HT:=Qab ht
  clear hb1 hbx ht
  go_wp2_with (go_at_call 199;refine (QcD _ _ _ hnow).mono ?_;rintro e w' ⟨⟨bb,hz,rfl,hcc⟩,hb⟩)
  exact ⟨rfl,by rw [HR0.out HT.out];exact QaP.from (QaP.err rfl (Fr.of_below hb) ⟨bb,hz,rfl,hcc⟩) (Fr.of_below HB1.out)⟩
 have HR1:=Qab (HR.out ⟨ht1,ht3⟩)
 have HW:=Qab hw
 obtain ⟨F,fb,hfn⟩:=hw.fn
 subst hfn
 have p1:w1.cell? ⟨p,0,none⟩=some (.func (.func fn) #[] #[]):=Qaa (Qal HP.out HB1.out) 0
 have q4:w1.cell? ⟨w.heap.size,4,none⟩=some (.slice aa i.a.length ac):=Qaa hbx 4
 have q5:w1.cell? ⟨w.heap.size,5,none⟩=some (.slice ba i.b.length bc):=Qaa hbx 5
 have x0:=(HM.out.below HB1.out).pt
 have hpt1:=HM.out.below HB1.out
 obtain ⟨kv0,hMI0⟩:=hpt1
 have HKK:Hid (∀ W:World,Fr (PMc B xb) w1.drew W→W.cell? ⟨xb,0,none⟩=some (.pointer (some ⟨sb,0,none⟩))→W.cell? ⟨p,0,none⟩=some (.func (.func fn) #[] #[])∧W.cell? ⟨xb,0,none⟩=some (.pointer (some ⟨sb,0,none⟩))∧W.cell? ⟨w.heap.size,4,none⟩=some (.slice aa i.a.length ac)∧W.cell? ⟨w.heap.size,5,none⟩=some (.slice ba i.b.length bc)):=fun W hf hx=>by
  have h1:=hf.block p _ (Qal HP.out (Qaz HB1.out)) (PMc.not (by decide) (by decide) (by decide) (by decide))
  have h2:=hf.block w.heap.size _ (show w1.drew.heap[w.heap.size]?=_ from hbx) (PMc.not (by decide) (by decide) (by decide) (by decide))
  exact ⟨Qaa h1 0,hx,Qaa h2 4,Qaa h2 5⟩
 clear hMI0
 have HAK:=Qab (hask (.func (.func F) #[] fb) (.slice aa i.a.length ac) (.slice ba i.b.length bc) w1.drew (HW.out.below (Qaz (Below.refl _ _))) ((HM.out.below (Qaz HB1.out)).sat) (HO.out.below (Qaz HB1.out)))
 generalize askL m.st i.tag i.oct vals i.b=r at *
 obtain ⟨rb,rs⟩:=r
 dsimp only at HR1 HAK
 clear hb1 hbx hw HR HR0 hask
 go_wp2_with (go_at_call 199;refine (QbO _ _).mono ?_;rintro e w' ⟨rfl,hww⟩;rw [hww];clear hww)
 refine wp_region_held (S:=fun w'=>w'.cell? ⟨p,0,none⟩=some (.func (.func fn) #[] #[])∧w'.cell? ⟨xb,0,none⟩=some (.pointer (some ⟨sb,0,none⟩))∧w'.cell? ⟨w.heap.size,4,none⟩=some (.slice aa i.a.length ac)∧w'.cell? ⟨w.heap.size,5,none⟩=some (.slice ba i.b.length bc)) (by kernel_rfl) ?_
 have hS:=HKK.out w1.drew (Fr.refl _ _) x0
 refine QaE 0 15 (.pointer (some ⟨xb,0,none⟩)) rfl hS (fun w' ⟨s1,s2,s3,s4⟩=>by go_simp) ?_
 simp only [pt,List.set_cons_zero,List.set_cons_succ]
 refine QaE 1 16 (.func (.func fn) #[] #[]) rfl hS (fun w' ⟨s1,s2,s3,s4⟩=>by go_simp) ?_
 simp only [pt,List.set_cons_zero,List.set_cons_succ]
 refine QaE 2 17 (.pointer (some ⟨xb,0,none⟩)) rfl hS (fun w' ⟨s1,s2,s3,s4⟩=>by go_simp) ?_
 simp only [pt,List.set_cons_zero,List.set_cons_succ]
 refine QaE 3 18 (.pointer (some ⟨xb,0,none⟩)) rfl hS (fun w' ⟨s1,s2,s3,s4⟩=>by go_simp) ?_
 simp only [pt,List.set_cons_zero,List.set_cons_succ]
 refine QaE 4 19 (.pointer (some ⟨xb,0,none⟩)) rfl hS (fun w' ⟨s1,s2,s3,s4⟩=>by go_simp) ?_
 simp only [pt,List.set_cons_zero,List.set_cons_succ]
 refine QaE 5 20 (.pointer (some ⟨sb,0,none⟩)) rfl hS (fun w' ⟨s1,s2,s3,s4⟩=>by go_simp) ?_
 simp only [pt,List.set_cons_zero,List.set_cons_succ]
 refine QaE 6 21 (.func (.func F) #[] fb) rfl hS (fun w' ⟨s1,s2,s3,s4⟩=>by go_simp) ?_
 simp only [pt,List.set_cons_zero,List.set_cons_succ]
 refine QaE 7 22 (.pointer (some ⟨w.heap.size,4,none⟩)) rfl hS (fun w' ⟨s1,s2,s3,s4⟩=>by go_simp) ?_
 simp only [pt,List.set_cons_zero,List.set_cons_succ]
 refine QaE 8 23 (.slice aa i.a.length ac) rfl hS (fun w' ⟨s1,s2,s3,s4⟩=>by go_simp) ?_
 simp only [pt,List.set_cons_zero,List.set_cons_succ]
 refine QaE 9 24 (.pointer (some ⟨w.heap.size,5,none⟩)) rfl hS (fun w' ⟨s1,s2,s3,s4⟩=>by go_simp) ?_
 simp only [pt,List.set_cons_zero,List.set_cons_succ]
 refine QaE 10 25 (.slice ba i.b.length bc) rfl hS (fun w' ⟨s1,s2,s3,s4⟩=>by go_simp) ?_
 simp only [pt,List.set_cons_zero,List.set_cons_succ]
 refine wpAnyH_all (rs:=[11]) (by kernel_rfl) (by decide) (fun j hj=>?_)
 simp only [List.mem_singleton] at hj
 subst hj
 refine QaO rfl (by rfl) ?_
 clear hS
 go_simp
 refine HAK.out.mono ?_
 rintro e w2 ⟨rfl,hs2,hf2⟩
 have HM2:=Qab ((HM.out.below (Qaz HB1.out)).st' hs2 hf2)
 have HF2:=Qab hf2
 have HK2:=Qab (HKK.out w2 (hf2.mono (fun _ _=>PMc.st)) HM2.out.pt)
 clear hs2 hf2
 refine ⟨HK2.out,?_⟩
 try simp only [Act.put,List.setIfInBounds_toArray,List.set_cons_zero,List.set_cons_succ]
 refine wpAnyH_all (rs:=[12]) (by kernel_rfl) (by decide) (fun j hj=>?_)
 simp only [List.mem_singleton] at hj
 subst hj
 refine QaO rfl (by rfl) ?_
 go_simp
 refine (QfQ rb B xb sb M (stL m rs) count w2 HM2.out).mono ?_
 intro e w3 h3
 rcases h3.cases with ⟨hf,⟨m',hr,rfl,hm⟩ | ⟨f,hr,bb,hz,rfl,hcc⟩⟩
 rotate_left
 ·exact ⟨rfl,by rw [HR1.out];exact QaP.from h3 ((Fr.of_below (Qaz HB1.out)).trans (HF2.out.mono (fun _ _=>PMc.st)))⟩
 have H3:=Qab h3
 have HK3:=Qab (HKK.out w3 ((HF2.out.mono (fun _ _=>PMc.st)).trans hf) hm.pt)
 clear hm hf h3
 refine ⟨HK3.out,wpAnyH_done (by kernel_rfl) ?_ _⟩
 try simp only [Act.put,List.setIfInBounds_toArray,List.set_cons_zero,List.set_cons_succ]
 go_wp2
 go_end0
 rw [HR1.out]
 exact QaP.from H3.out ((Fr.of_below (Qaz HB1.out)).trans (HF2.out.mono (fun _ _=>PMc.st)))
theorem QqN (p:Nat) (i:Ins) (av bv:Value) (B xb sb:Nat) (M:Msg) (m:MS) (count:Nat) (w:World) (h:MAt w B xb sb M m count) (ho:Qcg w i av bv) (hp:w.heap[p]?=some (.cells #[.func (.func 189) #[] #[]] 329)) :
 Calls Tryz.prog 269 #[.pointer (some ⟨xb,0,none⟩),Qdt i av bv,.pointer (some ⟨p,0,none⟩)] w (QaP (doAsk (fieldsL M (i.a.map (expL m.st))) i m) B xb sb M count w):=
 Qoj 189 (fieldsL M (i.a.map (expL m.st))) p i av bv B xb sb M m count w h ho hp (fun _ _=>by kernel_rfl) (fun wv av bv W hw hs hi=>QqS i.tag i.oct B sb M m.st i.a i.b wv av bv W hw hs hi.a hi.b hi.al hi.bl hi.an hi.bn)
theorem QmG (p:Nat) (i:Ins) (av bv:Value) (B xb sb:Nat) (M:Msg) (m:MS) (count:Nat) (w:World) (h:MAt w B xb sb M m count) (ho:Qcg w i av bv) (hp:w.heap[p]?=some (.cells #[.func (.func 190) #[] #[]] 329)) :
 Calls Tryz.prog 269 #[.pointer (some ⟨xb,0,none⟩),Qdt i av bv,.pointer (some ⟨p,0,none⟩)] w (QaP (doAsk (QiK M i.a) i m) B xb sb M count w):=
 Qoj 190 (QiK M i.a) p i av bv B xb sb M m count w h ho hp (fun _ _=>by kernel_rfl) (fun wv av bv W hw hs hi=>Qm1 i.tag i.oct B sb M m.st i.a i.b wv av bv W hw hs hi.a hi.b hi.al hi.bl hi.an hi.bn)
theorem Qok (p:Nat) (i:Ins) (av bv:Value) (B xb sb:Nat) (M:Msg) (m:MS) (count:Nat) (w:World) (h:MAt w B xb sb M m count) (ho:Qcg w i av bv) (hp:w.heap[p]?=some (.cells #[.func (.func 191) #[] #[]] 329)) :
 Calls Tryz.prog 269 #[.pointer (some ⟨xb,0,none⟩),Qdt i av bv,.pointer (some ⟨p,0,none⟩)] w (QaP (doAsk (i.a.map (expL m.st)) i m) B xb sb M count w):=
 Qoj 191 (i.a.map (expL m.st)) p i av bv B xb sb M m count w h ho hp (fun _ _=>by kernel_rfl) (fun wv av bv W hw hs hi=>Qnl i.tag i.oct B sb M m.st i.a i.b wv av bv W hw hs hi.a hi.b hi.al hi.bl hi.an hi.bn)
end
end Go.Proofs.YtbiclelojbfnbaaGreatDoor
