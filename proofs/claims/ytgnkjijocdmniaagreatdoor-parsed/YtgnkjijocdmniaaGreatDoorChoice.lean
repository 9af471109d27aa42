import Derived.Deep.AppendLies
import Derived.Test.YtgnkjijocdmniaaGreatDoorZQMatch
import Derived.Test.YtgnkjijocdmniaaGreatDoorZTestEnd
namespace Go.Proofs.YtgnkjijocdmniaaGreatDoor
set_option linter.unusedVariables false
set_option linter.unusedSimpArgs false
set_option maxRecDepth 100000
set_option maxHeartbeats 4000000
open Go.RowKit
attribute [local go_sem ↓] Go.wp_at_zero Go.wp_at_succ
def choiceL {α β:Type} (l:List UInt8) (F:Nat) (tst:PS→Except Flt (β×PS)) (sub:PS→Except Flt (α×PS)) (s:PS):Except Flt ((List (β×List α)×Bool×List α)×PS):=
 thenL (armL l F tst sub s) fun a s1=>thenL (armsMore l F tst sub F [a] s1) fun arms s2=>thenL (mayL l [kElse] s2) fun i s3=>
  if i=0 then .ok ((arms,false,[]),s3) else thenL (blockL l F sub s3) fun cs s4=>.ok ((arms,true,cs),s4)
abbrev ifObj (hw:List UInt8) (hp:Nat) (av:Value):Obj:=.cells #[.string (strA hw),.int .i64 hp,av,.bool false,.slice none 0 0] 261
abbrev zeroIf:Obj:=.cells #[.string ⟨#[]⟩,.int .i64 0,.slice none 0 0,.bool false,.slice none 0 0] 261
theorem Tryz.infoArm:(Tryz.prog.info? 298).map (fun i=>(i.zero,i.size,i.bytes))=some (some (.agg #[.nilIface,.slice none 0 0]),2,40):=by kernel_rfl
theorem cells_two_new (w:World) (x y:Value) (t:TypeId):∀ j u,[x,y][j]?=some u→(w.alloc (.cells #[x,y] t)).cell? ((⟨w.heap.size,0,none⟩:Addr).add j)=some u:=by
 intro j u hj
 match j,hj with
 | 0,hj=>simp at hj;subst hj;simp [Addr.add]
 | 1,hj=>simp at hj;subst hj;simp [Addr.add]
theorem arm_one {α β:Type} {P1:(Nat→Prop)→β→World→Value→Prop} {P2:(Nat→Prop)→α→World→Value→Prop} (hP1:TreeP P1) {X Y:Nat→Prop} {a:β×List α} {w:World} {u bv:Value} (h1:P1 X a.1 w u) (h2:blX Y P2 a.2 w bv):∀ x∈[u,bv],x.oneCell'=true:=by
 obtain ⟨ty,x,rfl⟩:=hP1.form _ _ _ _ h1
 obtain ⟨a,n,c,rfl⟩:=h2.form
 intro x hx
 simp at hx
 rcases hx with rfl | rfl <;> rfl
theorem after_app {α β:Type} {P1:(Nat→Prop)→β→World→Value→Prop} {P2:(Nat→Prop)→α→World→Value→Prop} (hP1:TreeP P1) (hP2:TreeP P2) {base T b g n cap g' cap':Nat} {t:ByteArray} {s:PS} {rv:Value} {mc mt:Nat} {w w4 w5:World} {o o1:Obj} {acc:List (β×List α)} {a:β×List α} {u bv:Value} {vs:List Value} {e:TypeId}
 (hga:GathA P1 P2 base T w4 (.slice (some ⟨g,0,none⟩) n cap) a u bv) (hrow:Row2P (fun a u bv=>GathA P1 P2 base T w4 (.slice (some ⟨g,0,none⟩) n cap) a u bv) acc vs) (hT4:w4.heap[T]?=some o) (hc:RC w4 b t s rv mc mt) (hm:Mod b w w4) (hown:w5.ownsRow base e 2 (.slice (some ⟨g',0,none⟩) (n+1) cap') (n+1) (vs++[u,bv])) (hg:(w4.alloc o1).grownBy w5 (some g)) (hat:(Value.slice (some ⟨g,0,none⟩) n cap).ownBlock=some g'∨g'=(w4.alloc o1).heap.size) (hbase:w.heap.size≤T) (hTb:¬ T=b) (hgT:g≠T) (hgb:b < base∧base≤g∧base=w.heap.size) :
 w5.heap[T]?=some o∧RC w5 b t s rv mc mt∧Mod b w w5∧g'≠T∧Row2P (fun a u bv=>GathA P1 P2 base T w5 (.slice (some ⟨g',0,none⟩) (n+1) cap') a u bv) (acc++[a]) (vs++[u,bv]):=by
 have hTl:=blk_lt hT4
 have hat':(Value.slice (some ⟨g',0,none⟩) (n+1) cap').ownBlock=(Value.slice (some ⟨g,0,none⟩) n cap).ownBlock∨(Value.slice (some ⟨g',0,none⟩) (n+1) cap').ownBlock=some (w4.heap.size+1):=by
  rcases hat with h | h
  ·left;rw [h];rfl
  ·right;rw [h];simp [Value.ownBlock]
 refine ⟨?_,(hc.alloc o1).grown hg (fun k hk=>by cases hk;omega),(hm.alloc o1).grown hg (fun k hk=>by cases hk;omega),?_,?_⟩
 ·rw [hg.block T (by simp;omega) (fun h=>hgT (by cases h;rfl))]
  exact blk_alloc hT4
 ·rcases hat with h | h
  ·simp [Value.ownBlock] at h;omega
  ·simp at h;omega
 ·exact Row2P.snoc (hga.grown hP1 hP2 hg hat') (hrow.imp (fun a u bv hu=>hu.grown hP1 hP2 hg hat'))
def chEnd {α β:Type} (l:List UInt8) (F:Nat) (sub:PS→Except Flt (α×PS)) (arms:List (β×List α)) (s2:PS):Except Flt ((List (β×List α)×Bool×List α)×PS):=
 thenL (mayL l [kElse] s2) fun i s3=>if i=0 then .ok ((arms,false,[]),s3) else thenL (blockL l F sub s3) fun cs s4=>.ok ((arms,true,cs),s4)
theorem choice_split {α β:Type} {l:List UInt8} {F:Nat} {tst:PS→Except Flt (β×PS)} {sub:PS→Except Flt (α×PS)} {s:PS} {y:(β×List α)×PS} (h:armL l F tst sub s=.ok y):choiceL l F tst sub s=thenL (armsMore l F tst sub F [y.1] y.2) (chEnd l F sub):=thenL_ok h
theorem GathA.first {α β:Type} {P1:(Nat→Prop)→β→World→Value→Prop} {P2:(Nat→Prop)→α→World→Value→Prop} (hP1:TreeP P1) (hP2:TreeP P2) {base T B:Nat} {w:World} {v:Value} {a:β×List α} {u bv:Value} (h:P1 (fromB B) a.1 w u) (h':blX (fromB B) P2 a.2 w bv) (hB:base≤B) (hv:∀ g,v.ownBlock=some g→w.heap.size≤g) (hT:T < B∨w.heap.size≤T):GathA P1 P2 base T w v a u bv:=
 ⟨fun k=>B≤k∧k < w.heap.size,hP1.weak _ _ _ _ _ h (fun k hk hz=>⟨hk,hz⟩),h'.weak hP2 (fun k hk hz=>⟨hk,hz⟩),fun k hk=>⟨Nat.le_trans hB hk.1,hk.2⟩,fun g hg hX=>by have:=hv g hg;omega,fun hX=>by omega⟩
theorem ownsRow_blk {w:World} {base g n:Nat} {e:TypeId} {size:Nat} {cs:Array Value} (h:w.heap[g]?=some (.cells cs e)) (hb:base≤g) (hm:n≤maxLen) (hs:cs.size=n*size):w.ownsRow base e size (.slice (some ⟨g,0,none⟩) n n) n cs.toList:=
 ⟨by simpa using hs,.inr ⟨g,n,cs,rfl,hb,h,Nat.le_refl _,hm,hs,List.take_of_length_le (by rw [Array.length_toList,hs];exact Nat.le_refl _)⟩⟩
theorem ownsRow_set {w:World} {base T o:Nat} {x:Value} {e:TypeId} {size:Nat} {v:Value} {n:Nat} {xs:List Value} (h:w.ownsRow base e size v n xs) (hT:∀ g,v.ownBlock=some g→g≠T):(w.setCell ⟨T,o,none⟩ x).ownsRow base e size v n xs:=by
 obtain ⟨h1,h2⟩:=h
 refine ⟨h1,?_⟩
 rcases h2 with h2 | ⟨g,cap,cur,hv,hg,hh,r⟩
 ·exact Or.inl h2
 ·exact Or.inr ⟨g,cap,cur,hv,hg,by rw [Below.heap_setCell _ _ _ _ (show g≠T from hT g (by rw [hv];rfl))];exact hh,r⟩
theorem kElsif_ne:∀ z∈([kElsif]:List (List UInt8)),z≠[]:=by decide
theorem arm_mu {α β:Type} {t:ByteArray} {F:Nat} {tst:PS→Except Flt (β×PS)} {sub:PS→Except Flt (α×PS)} (ht:∀ s,Gd t.data.toList s→Dn 1 t.data.toList (tst s) s) (hs:∀ s,Gd t.data.toList s→Dn 1 t.data.toList (sub s) s) {s:PS} {y:(β×List α)×PS} (h1:s.2≤t.size) (h2:s.1.kind=0→s.1.spelt=[]) (e:armL t.data.toList F tst sub s=.ok y):mu t.size y.2 < mu t.size s:=by
 have:=(arm_dn ht hs ⟨by simpa using h1,h2⟩ y e).2
 rw [bal] at this
 omega
theorem choice_any {α β:Type} (tst:PS→Except Flt (β×PS)) (P1:(Nat→Prop)→β→World→Value→Prop) (sub:PS→Except Flt (α×PS)) (P2:(Nat→Prop)→α→World→Value→Prop) (hw:List UInt8) (hp:Nat) (d:Int) (b F:Nat) (t:ByteArray) (s:PS) (rv:Value) (mc mt:Nat) (w:World) (h:RC w b t s rv mc mt) (hF:2*t.size+1 < F) (hd0:0≤d) (hd1:d≤100) (hP1:TreeP P1) (hP2:TreeP P2) (hS:SubMu t.size sub) (hdt:∀ s,Gd t.data.toList s→Dn 1 t.data.toList (tst s) s) (hds:∀ s,Gd t.data.toList s→Dn 1 t.data.toList (sub s) s) (ho1:SubOk 186 w b t rv mc mt (d+1) tst P1) (ho2:SubOk 143 w b t rv mc mt (d+1) sub P2) :
 Calls Tryz.prog 126 #[.pointer (some ⟨b,0,none⟩),headV hw hp,.int .i64 d] w (RPost (choiceL t.data.toList F tst sub s) b t rv mc mt w (fun x w' v=>∃ av ev,v=.iface 261 (.agg #[.string (strA hw),.int .i64 hp,av,.bool x.2.1,ev])∧armsX (fromB w.heap.size) P1 P2 x.1 w' av∧x.1≠[]∧blX (fromB w.heap.size) P2 x.2.2 w' ev)):=by
 have H:=hide h
 have HO1:=hide ho1
 have HO2:=hide ho2
 have HP1:=hide hP1
 have HP2:=hide hP2
 have HSM:=hide hS
 have hlt:=h.at_.lt
 clear h ho1 ho2 hP1 hP2 hS
 unfold headV
 obtain ⟨i0,hi,hz0,hz1,hz2⟩:=info_parts Tryz.infoArm
 go_enter Tryz.func126,Tryz.ntmps126
 go_upto_region 1 with fail
 have hn0:¬ w.heap.size=b:=by omega
 have hn1:¬ w.heap.size+1=b:=by omega
 go_cut [7] (fun v wc=>∃ (T G:Nat) (y:(β×List α)×PS) (u bv:Value),v=.pointer (some ⟨T,0,none⟩)∧armL t.data.toList F tst sub s=.ok y∧RC wc b t y.2 rv mc mt∧Mod b w wc∧w.heap.size≤T∧w.heap.size≤G∧T≠G∧wc.heap[T]?=some (ifObj hw hp (.slice (some ⟨G,0,none⟩) 1 1))∧wc.heap[G]?=some (.cells #[u,bv] 298)∧GathA P1 P2 w.heap.size T wc (.slice (some ⟨G,0,none⟩) 1 1) y.1 u bv)
 case first=>
  go_region_with (go_at_call 183;refine (arm_any tst P1 sub P2 d b F t s rv mc mt _ (by first | exact (H.out.alloc _).drew | exact ((H.out.alloc _).alloc _).drew) hF hd0 hd1 HP1.out HP2.out HSM.out (HO1.out.mod (by first | exact ((Mod.refl b w).alloc _).drew | exact (((Mod.refl b w).alloc _).alloc _).drew)) (HO2.out.mod (by first | exact ((Mod.refl b w).alloc _).drew | exact (((Mod.refl b w).alloc _).alloc _).drew))).mono ?_;intro e w1 h1;rcases h1.cases with ⟨y,v,hy,rfl,hv,hc,hm⟩ | ⟨f,hf,⟨bb,hz,rfl,hcc⟩,hm⟩;rotate_left;exact ⟨rfl,RPost.err (thenL_err hf) (by first | exact ((Mod.refl b w).alloc _).trans (mod_drew hm) | exact (((Mod.refl b w).alloc _).alloc _).trans (mod_drew hm)) ⟨bb,by simp at hz;omega,rfl,hcc⟩⟩;obtain ⟨u,bv,rfl,hu,hbv⟩:=hv;have hzz:=hm.size;simp at hzz;have hz9:w.heap.size < w1.heap.size:=(by omega);have hhb:=blk_mod (g:=w.heap.size) (o:=.cells #[.string (strA hw),.int .i64 hp] 216) (by first | exact blk_new _ _ | exact blk_alloc (blk_new _ _)) (mod_drew hm) hn0;have hh0:w1.cell? ⟨w.heap.size,0,none⟩=some (.string (strA hw)):=blk_cell hhb 0;have hh1:w1.cell? ⟨w.heap.size,1,none⟩=some (.int .i64 hp):=blk_cell hhb 1;clear hhb;have hh0a:∀ o,(w1.alloc o).cell? ⟨w.heap.size,0,none⟩=some (.string (strA hw)):=(fun o=>by rw [World.cell?_alloc_past _ _ _ hz9];exact hh0);have hh1a:∀ o,(w1.alloc o).cell? ⟨w.heap.size,1,none⟩=some (.int .i64 hp):=(fun o=>by rw [World.cell?_alloc_past _ _ _ hz9];exact hh1);have hh0b:∀ o o',((w1.alloc o).alloc o').cell? ⟨w.heap.size,0,none⟩=some (.string (strA hw)):=(fun o o'=>by rw [World.cell?_alloc_past _ _ _ (by simp;omega)];exact hh0a o);have hh1b:∀ o o',((w1.alloc o).alloc o').cell? ⟨w.heap.size,1,none⟩=some (.int .i64 hp):=(fun o o'=>by rw [World.cell?_alloc_past _ _ _ (by simp;omega)];exact hh1a o);(first | (have tb:=blk_mod (g:=w.heap.size+1) (o:=zeroIf) (blk_newAt (by simp)) (mod_drew hm) hn1;have t0:∀ o,(w1.alloc o).cell? ⟨w.heap.size+1,0,none⟩=some (.string ⟨#[]⟩):=(fun o=>blk_cell (blk_alloc tb) 0);have t1:∀ o,(w1.alloc o).cell? ⟨w.heap.size+1,1,none⟩=some (.int .i64 0):=(fun o=>blk_cell (blk_alloc tb) 1);have t2:∀ o,(w1.alloc o).cell? ⟨w.heap.size+1,2,none⟩=some (.slice none 0 0):=(fun o=>blk_cell (blk_alloc tb) 2);have t3:∀ o,(w1.alloc o).cell? ⟨w.heap.size+1,3,none⟩=some (.bool false):=(fun o=>blk_cell (blk_alloc tb) 3);have t4:∀ o,(w1.alloc o).cell? ⟨w.heap.size+1,4,none⟩=some (.slice none 0 0):=(fun o=>blk_cell (blk_alloc tb) 4);have tf:=(fun o=>blk_frozen (blk_alloc (o':=o) tb));have TB:=hide tb;clear tb) | (have t0:∀ o,((w1.alloc zeroIf).alloc o).cell? ⟨w1.heap.size,0,none⟩=some (.string ⟨#[]⟩):=(fun o=>blk_cell (blk_alloc (blk_new w1 zeroIf)) 0);have t1:∀ o,((w1.alloc zeroIf).alloc o).cell? ⟨w1.heap.size,1,none⟩=some (.int .i64 0):=(fun o=>blk_cell (blk_alloc (blk_new w1 zeroIf)) 1);have t2:∀ o,((w1.alloc zeroIf).alloc o).cell? ⟨w1.heap.size,2,none⟩=some (.slice none 0 0):=(fun o=>blk_cell (blk_alloc (blk_new w1 zeroIf)) 2);have t3:∀ o,((w1.alloc zeroIf).alloc o).cell? ⟨w1.heap.size,3,none⟩=some (.bool false):=(fun o=>blk_cell (blk_alloc (blk_new w1 zeroIf)) 3);have t4:∀ o,((w1.alloc zeroIf).alloc o).cell? ⟨w1.heap.size,4,none⟩=some (.slice none 0 0):=(fun o=>blk_cell (blk_alloc (blk_new w1 zeroIf)) 4);have tf:=(fun o=>blk_frozen (blk_alloc (o':=o) (blk_new w1 zeroIf)))));have HY:=hide hy;have HC:=hide hc;have HU:=hide hu;have HBV:=hide hbv;have HMM:Hid (Mod b w w1):=(by first | exact ((Mod.refl b w).alloc _).trans (mod_drew hm) | exact (((Mod.refl b w).alloc _).alloc _).trans (mod_drew hm));clear h1 hy hc hm hu hbv;skip)
  all_goals (go_wp2_with fail;go_meet)
  all_goals first
   | (have hTB:=TB;exact ⟨w.heap.size+1,w1.heap.size,y,u,bv,rfl,HY.out,(((((HC.out.alloc _).setNew (by omega) _ _).setNew (by omega) _ _).setNew (by omega) _ _).setNew (by omega) _ _).setNew (by omega) _ _,(((((HMM.out.alloc _).setNew (by omega) _ _).setNew (by omega) _ _).setNew (by omega) _ _).setNew (by omega) _ _).setNew (by omega) _ _,by omega,by omega,by omega,heap_setCell_at _ _ _ _ _ _ (heap_setCell_at _ _ _ _ _ _ (heap_setCell_at _ _ _ _ _ _ (heap_setCell_at _ _ _ _ _ _ (heap_setCell_at _ _ _ _ _ _ (blk_alloc TB.out))))),by rw [Below.heap_setCell _ _ _ _ (show w1.heap.size≠w.heap.size+1 by omega),Below.heap_setCell _ _ _ _ (show w1.heap.size≠w.heap.size+1 by omega),Below.heap_setCell _ _ _ _ (show w1.heap.size≠w.heap.size+1 by omega),Below.heap_setCell _ _ _ _ (show w1.heap.size≠w.heap.size+1 by omega),Below.heap_setCell _ _ _ _ (show w1.heap.size≠w.heap.size+1 by omega)];exact blk_new _ _,((((((GathA.first HP1.out HP2.out HU.out HBV.out (by simp;omega) (fun g hg=>by simp [Value.ownBlock] at hg;omega) (by simp)).mod HP1.out HP2.out ((Mod.refl b w1).alloc _) (by omega)).set HP1.out HP2.out _ _).set HP1.out HP2.out _ _).set HP1.out HP2.out _ _).set HP1.out HP2.out _ _).set HP1.out HP2.out _ _⟩)
   | exact ⟨w1.heap.size+1,w1.heap.size,y,u,bv,rfl,HY.out,(HC.out.alloc _).alloc _,(HMM.out.alloc _).alloc _,by omega,by omega,by omega,blk_newAt (by simp),blk_alloc (blk_new _ _),((GathA.first HP1.out HP2.out HU.out HBV.out (by simp) (fun g hg=>by simp [Value.ownBlock] at hg;omega) (Or.inr (by omega))).mod HP1.out HP2.out ((Mod.refl b w1).alloc _) (by omega)).mod HP1.out HP2.out ((Mod.refl b _).alloc _) (by omega)⟩
   | exact ⟨w1.heap.size,w1.heap.size+1,y,u,bv,rfl,HY.out,(HC.out.alloc _).alloc _,(HMM.out.alloc _).alloc _,by omega,by omega,by omega,blk_alloc (blk_new _ _),blk_newAt (by simp),((GathA.first HP1.out HP2.out HU.out HBV.out (by simp) (fun g hg=>by simp [Value.ownBlock] at hg;omega) (Or.inr (by omega))).mod HP1.out HP2.out ((Mod.refl b w1).alloc _) (by omega)).mod HP1.out HP2.out ((Mod.refl b _).alloc _) (by omega)⟩
 case rest=>
  obtain ⟨T,G,y,u,bv,rfl,hy,hc,hm,hT,hG,hTG,hbT,hbG,hga⟩:=hcut
  have HY:=hide hy
  have HC:=hide hc
  have HM:=hide hm
  have HBT:=hide hbT
  have HBG:=hide hbG
  have HGA:=hide hga
  have HDT:=hide hdt
  have HDS:=hide hds
  have hTb:¬ T=b:=by omega
  have hmuL:=hc.mu_le
  have hmuF:=hc.mu_lt hF
  clear hy hc hm hbT hbG hga hdt hds
  go_wp2_with fail
  go_loopw [] (fun wr=>∃ (s':PS) (acc:List (β×List α)) (vs:List Value) (f g cap:Nat),wr.ownsRow w.heap.size 298 2 (.slice (some ⟨g,0,none⟩) acc.length cap) acc.length vs∧Row2P (fun a u bv=>GathA P1 P2 w.heap.size T wr (.slice (some ⟨g,0,none⟩) acc.length cap) a u bv) acc vs∧acc≠[]∧g≠T∧wr.heap[T]?=some (ifObj hw hp (.slice (some ⟨g,0,none⟩) acc.length cap))∧RC wr b t s' rv mc mt∧Mod b w wr∧mu t.size s' < f∧acc.length+mu t.size s'≤1300∧thenL (armsMore t.data.toList F tst sub F [y.1] y.2) (chEnd t.data.toList F sub)=thenL (armsMore t.data.toList F tst sub f acc s') (chEnd t.data.toList F sub)) (fun wr=>muW wr b t.size)
  case atStart=>
   exact ⟨y.2,[y.1],[u,bv],F,G,1,ownsRow_blk (n:=1) HBG.out hG (by unfold maxLen;omega) rfl,⟨HGA.out,trivial⟩,by simp,fun e=>hTG e.symm,HBT.out,HC.out,HM.out,hmuF,by simp;omega,rfl⟩
  case round=>
   obtain ⟨s',acc,vs,f,g,cap,hown,hrow,hne,hgT,hbT,hrc,hmod,hf,hbd,hsp⟩:=hrel
   obtain ⟨f,rfl⟩:∃ g,f=g+1:=⟨f - 1,by omega⟩
   have HR:=hide hrc
   have HMr:=hide hmod
   have HSP:=hide hsp
   have hgl:w.heap.size≤g:=(hown.lt g rfl).1
   have HOW:=hide hown
   have HRW:=hide hrow
   have HBr:=hide hbT
   have hwr:w.heap.size≤wr.heap.size:=hmod.size
   have hTr:=blk_lt hbT
   clear hrc hmod hsp hown hrow hbT HC HBT HBG HGA hmuL hmuF
   go_wp2_with fail
   refine (may_any b wr.heap.size 1 1 [kElsif] t s' rv mc mt _ (HR.out.alloc _) (txt_alloc wr [kElsif] _ _ rfl) rfl (by decide)).mono ?_
   intro e w3 h3
   rcases h3.cases with ⟨y3,v3,hy3,rfl,hv3,hc3,hm3⟩ | ⟨f3,hf3,⟨bb,hz,rfl,hcc⟩,hm3⟩
   rotate_left
   ·exact ⟨rfl,RPost.err ((choice_split HY.out).trans (HSP.out.trans (thenL_err (armsMore_mayErr hf3)))) ((HMr.out.alloc _).trans hm3) ⟨bb,by simp at hz;omega,rfl,hcc⟩⟩
   have hmu3:=mayL_mu (l:=t.data.toList) (by simpa using HR.out.le) HR.out.e0 kElsif_ne hy3
   rw [bal] at hmu3
   replace hmu3:=hmu3.1
   have hA3:=((Mod.refl b wr).alloc (.cells #[.string (strA kElsif)] 9)).trans hm3
   have HM3:=hide (HMr.out.trans hA3)
   have HY3:=hide hy3
   have HC3:=hide hc3
   have HO3:=hide (ownsRow_mod (b:=b) HOW.out hA3 (by omega))
   have HW3:=hide (HRW.out.imp (fun a u bv hu=>GathA.mod HP1.out HP2.out (b:=b) (w':=w3) hu hA3 (by omega)))
   have HB3:=hide (blk_mod HBr.out hA3 hTb)
   have hz3:=blk_lt HB3.out
   unfold numV at hv3
   subst hv3
   clear h3 hy3 hc3 hm3 hA3
   by_cases h1:y3.1=0
   ·have h1':¬ (0:Int) < (y3.1:Int):=by omega
    have H1:=hide h1
    clear h1
    go_wp2_with fail
    have HP:=hide (may_any b w3.heap.size 1 1 [kElse] t y3.2 rv mc mt _ (HC3.out.alloc (.cells (tcells [kElse]).toArray 9)) (txt_newAt _ _ rfl) rfl (by decide))
    refine HP.out.mono ?_
    intro e w4 h4
    rcases h4.cases with ⟨y4,v4,hy4,rfl,hv4,hc4,hm4⟩ | ⟨f4,hf4,⟨bb,hz,rfl,hcc⟩,hm4⟩
    rotate_left
    ·exact ⟨rfl,RPost.err ((choice_split HY.out).trans (HSP.out.trans ((thenL_ok (armsMore_end HY3.out H1.out)).trans (thenL_err hf4)))) ((HM3.out.alloc _).trans hm4) ⟨bb,Nat.le_trans (HM3.out.alloc _).size hz,rfl,hcc⟩⟩
    have hA4:=((Mod.refl b w3).alloc (.cells (tcells [kElse]).toArray 9)).trans hm4
    have HM4:=hide (HM3.out.trans hA4)
    have HY4:=hide hy4
    have HC4:=hide hc4
    have HO4:=hide (ownsRow_mod (b:=b) HO3.out hA4 (by omega))
    have HW4:=hide (HW3.out.imp (fun a u bv hu=>GathA.mod HP1.out HP2.out (b:=b) (w':=w4) hu hA4 (by omega)))
    have HB4:=hide (blk_mod HB3.out hA4 hTb)
    have HAX:=hide (armsX.of_owns HP1.out HP2.out HO4.out rfl hne (fun g' hg'=>by simp [Value.ownBlock] at hg';omega) HW4.out)
    have q0:w4.cell? ⟨T,0,none⟩=some (.string (strA hw)):=blk_cell HB4.out 0
    have q1:w4.cell? ⟨T,1,none⟩=some (.int .i64 hp):=blk_cell HB4.out 1
    have q2:w4.cell? ⟨T,2,none⟩=some (.slice (some ⟨g,0,none⟩) acc.length cap):=blk_cell HB4.out 2
    have q3:w4.cell? ⟨T,3,none⟩=some (.bool false):=blk_cell HB4.out 3
    have q4:w4.cell? ⟨T,4,none⟩=some (.slice none 0 0):=blk_cell HB4.out 4
    have tf:=blk_frozen HB4.out
    have hz4:=blk_lt HB4.out
    unfold numV at hv4
    subst hv4
    clear h4 hy4 hc4 hm4 hA4 HP
    by_cases h2:y4.1=0
    ·have h2':¬ (0:Int) < (y4.1:Int):=by omega
     have H2:=hide h2
     clear h2
     go_wp2
     go_ret
     exact RPost.ok ((choice_split HY.out).trans (HSP.out.trans ((thenL_ok (armsMore_end HY3.out H1.out)).trans ((thenL_ok HY4.out).trans (if_pos H2.out))))) HM4.out ⟨_,_,rfl,armsX.weak HP1.out HP2.out hne HAX.out (fun k hk _=>hk.1),hne,Or.inl ⟨rfl,rfl⟩⟩ HC4.out
    have h2':(0:Int) < (y4.1:Int):=by omega
    have H2:=hide h2
    clear h2
    go_wp2_with fail
    have HMs:=hide (HM4.out.setNew hT 3 (.bool true))
    refine (block_any sub P2 (d+1) b F t y4.2 rv mc mt _ (HC4.out.setNew (by omega) 3 (.bool true)) hF HP2.out HSM.out (HO2.out.mod HMs.out)).mono ?_
    intro e w5 h5
    rcases h5.cases with ⟨y5,v5,hy5,rfl,hv5,hc5,hm5⟩ | ⟨f5,hf5,⟨bb,hz,rfl,hcc⟩,hm5⟩
    rotate_left
    ·exact ⟨rfl,RPost.err ((choice_split HY.out).trans (HSP.out.trans ((thenL_ok (armsMore_end HY3.out H1.out)).trans ((thenL_ok HY4.out).trans ((if_neg H2.out).trans (thenL_err hf5)))))) (HMs.out.trans hm5) ⟨bb,Nat.le_trans HMs.out.size hz,rfl,hcc⟩⟩
    have hsz4:(w4.setCell ⟨T,3,none⟩ (.bool true)).heap.size=w4.heap.size:=by simp [World.setCell]
    rw [hsz4] at hv5
    have HV5:=hide hv5
    obtain ⟨ba,bn,bc,rfl⟩:=hv5.form
    have HB5:=hide (blk_mod (heap_setCell_at _ T 3 (.bool true) _ _ HB4.out) hm5 hTb)
    have HAX5:=hide ((HAX.out.keep HP1.out HP2.out (AbvX.set (fun h=>h.2 rfl) 3 (.bool true))).keep HP1.out HP2.out (hm5.abvX (fun h=>by have:=h.1;omega)))
    have HM5:=hide (HMs.out.trans hm5)
    have HY5:=hide hy5
    have HC5:=hide hc5
    have r0:w5.cell? ⟨T,0,none⟩=some (.string (strA hw)):=blk_cell HB5.out 0
    have r1:w5.cell? ⟨T,1,none⟩=some (.int .i64 hp):=blk_cell HB5.out 1
    have r2:w5.cell? ⟨T,2,none⟩=some (.slice (some ⟨g,0,none⟩) acc.length cap):=blk_cell HB5.out 2
    have r3:w5.cell? ⟨T,3,none⟩=some (.bool true):=blk_cell HB5.out 3
    have r4:w5.cell? ⟨T,4,none⟩=some (.slice none 0 0):=blk_cell HB5.out 4
    have rf:=blk_frozen HB5.out
    clear h5 hy5 hc5 hm5 hv5 q0 q1 q2 q3 q4 tf
    go_wp2
    go_ret
    exact RPost.ok ((choice_split HY.out).trans (HSP.out.trans ((thenL_ok (armsMore_end HY3.out H1.out)).trans ((thenL_ok HY4.out).trans ((if_neg H2.out).trans (thenL_ok HY5.out)))))) (HM5.out.setNew hT _ _) ⟨_,_,rfl,armsX.weak HP1.out HP2.out hne (HAX5.out.keep HP1.out HP2.out (AbvX.set (fun h=>h.2 rfl) _ _)) (fun k hk _=>hk.1),hne,blX.weak HP2.out (HV5.out.keep HP2.out (AbvX.set (fromB_not hz4) _ _)) (fun k hk _=>by unfold fromB at *;omega)⟩ (HC5.out.setNew (by omega) _ _)
   have h1':(0:Int) < (y3.1:Int):=by omega
   have H1:=hide h1
   clear h1
   have q2:w3.cell? ⟨T,2,none⟩=some (.slice (some ⟨g,0,none⟩) acc.length cap):=blk_cell HB3.out 2
   go_wp2_with fail
   go_region_law (first | (go_simp;go_at_call 183;refine (arm_any tst P1 sub P2 d b F t y3.2 rv mc mt _ HC3.out.drew hF hd0 hd1 HP1.out HP2.out HSM.out (HO1.out.mod HM3.out.drew) (HO2.out.mod HM3.out.drew)).mono ?_;intro e w4 h4;rcases h4.cases with ⟨z4,v4,hy4,rfl,hv4,hc4,hm4⟩ | ⟨f4,hf4,⟨bb,hz,rfl,hcc⟩,hm4⟩;rotate_left;exact ⟨rfl,RPost.err ((choice_split HY.out).trans (HSP.out.trans (thenL_err (armsMore_armErr HY3.out H1.out hf4)))) (HM3.out.trans (mod_drew hm4)) ⟨bb,Nat.le_trans HM3.out.size (by simpa using hz),rfl,hcc⟩⟩;obtain ⟨u4,bv4,rfl,hu4,hbv4⟩:=hv4;have hm4':=mod_drew hm4;have HGN:=hide (GathA.new HP1.out HP2.out (base:=w.heap.size) (T:=T) (v:=.slice (some ⟨g,0,none⟩) acc.length cap) hu4 hbv4 HM3.out.size (fun k hk=>(HO3.out.lt k hk).2) hz3);have HONE:=hide (arm_one HP1.out hu4 hbv4);have HO4:=hide (ownsRow_mod (b:=b) HO3.out hm4' (by omega));have HW4:=hide (HW3.out.imp (fun a u bv hu=>GathA.mod HP1.out HP2.out (b:=b) (w':=w4) hu hm4' (by omega)));have HB4:=hide (blk_mod HB3.out hm4' hTb);have HM4:=hide (HM3.out.trans hm4');have HC4:=hide hc4;have HY4:=hide hy4;have q4:w4.cell? ⟨T,2,none⟩=some (.slice (some ⟨g,0,none⟩) acc.length cap):=blk_cell HB4.out 2;have q4a:∀ o,(w4.alloc o).cell? ⟨T,2,none⟩=some (.slice (some ⟨g,0,none⟩) acc.length cap):=(fun o=>blk_cell (blk_alloc HB4.out) 2);have hz4:w.heap.size≤w4.heap.size:=HM4.out.size;clear h4 hy4 hc4 hm4 hm4' hu4 hbv4;skip) | (refine step_append_lies _ rfl (.tmp 19) (.tmp 23) 259 rfl w.heap.size 298 i0 (.agg #[.nilIface,.slice none 0 0]) 2 40 Tryz.underlying259 hi hz0 hz1 hz2 rfl (by decide) (.slice (some ⟨g,0,none⟩) acc.length cap) acc.length vs (by simp [Act.eval,Act.put]) (HO4.out.alloc _) ⟨w4.heap.size,0,none⟩ 1 1 [u4,bv4] (by simp [Act.eval,Act.put]) rfl (cells_two_new _ _ _ _) HONE.out (by decide) (by unfold maxLen;omega) (by omega) (by first | omega | (simp;omega) | simp) _ rfl ?_;intro g' cap' w5 hown5 hgrow hat hlt5;have HA5:=(after_app HP1.out HP2.out HGN.out HW4.out HB4.out HC4.out HM4.out hown5 hgrow hat hT hTb hgT ⟨by omega,hgl,rfl⟩);have t2:w5.cell? ⟨T,2,none⟩=some (.slice (some ⟨g,0,none⟩) acc.length cap):=blk_cell HA5.1 2;have tf:=blk_frozen HA5.1;have HA:=hide HA5;have HOWN5:=hide hown5;clear HA5 hown5 hgrow hat;skip))
   all_goals
    obtain ⟨hA1,hA2,hA3,hA4,hA5⟩:=HA.out
    have hmu4:=arm_mu HDT.out HDS.out HC3.out.le HC3.out.e0 HY4.out
    have HMW:Hid (muW (w5.setCell ⟨T,2,none⟩ (.slice (some ⟨g',0,none⟩) (acc.length+1) cap')) b t.size < muW wr b t.size):=by
     show _ < _
     rw [(hA2.setNew (by omega) _ _).muEq,HR.out.muEq]
     omega
    have HFIN:Hid (∃ (s':PS) (acc':List (β×List α)) (vs:List Value) (f g cap:Nat),(w5.setCell ⟨T,2,none⟩ (.slice (some ⟨g',0,none⟩) (acc.length+1) cap')).ownsRow w.heap.size 298 2 (.slice (some ⟨g,0,none⟩) acc'.length cap) acc'.length vs∧Row2P (fun a u bv=>GathA P1 P2 w.heap.size T (w5.setCell ⟨T,2,none⟩ (.slice (some ⟨g',0,none⟩) (acc.length+1) cap')) (.slice (some ⟨g,0,none⟩) acc'.length cap) a u bv) acc' vs∧acc'≠[]∧g≠T∧(w5.setCell ⟨T,2,none⟩ (.slice (some ⟨g',0,none⟩) (acc.length+1) cap')).heap[T]?=some (ifObj hw hp (.slice (some ⟨g,0,none⟩) acc'.length cap))∧RC (w5.setCell ⟨T,2,none⟩ (.slice (some ⟨g',0,none⟩) (acc.length+1) cap')) b t s' rv mc mt∧Mod b w (w5.setCell ⟨T,2,none⟩ (.slice (some ⟨g',0,none⟩) (acc.length+1) cap'))∧mu t.size s' < f∧acc'.length+mu t.size s'≤1300∧thenL (armsMore t.data.toList F tst sub F [y.1] y.2) (chEnd t.data.toList F sub)=thenL (armsMore t.data.toList F tst sub f acc' s') (chEnd t.data.toList F sub)):=by
     show ∃ _,_
     have hl:(acc++[z4.1]).length=acc.length+1:=by simp
     refine ⟨z4.2,acc++[z4.1],vs++[u4,bv4],f,g',cap',?_,?_,by simp,hA4,?_,hA2.setNew (by omega) _ _,hA3.setNew hT _ _,by omega,by rw [hl];omega,HSP.out.trans (congrArg (fun r=>thenL r (chEnd t.data.toList F sub)) (armsMore_go HY3.out H1.out HY4.out))⟩
     ·rw [hl];exact ownsRow_set HOWN5.out (fun k hk=>by simp [Value.ownBlock] at hk;omega)
     ·rw [hl];exact hA5.imp (fun a u bv hu=>hu.set HP1.out HP2.out _ _)
     ·rw [hl];exact heap_setCell_at _ T 2 _ _ _ hA1
    clear hA1 hA2 hA3 hA4 hA5
    go_wp2
    go_roundw
    case rel=>exact HFIN.out
    case measure=>exact HMW.out
end Go.Proofs.YtgnkjijocdmniaaGreatDoor
