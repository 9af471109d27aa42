import Derived.Test.YtbiclelojbfnbabGreatDoorMWay
import Derived.Test.YtbiclelojbfnbabGreatDoorSExists
namespace Go.Proofs.YtbiclelojbfnbabGreatDoor
set_option linter.unusedVariables false
set_option linter.unusedSimpArgs false
set_option maxRecDepth 100000
set_option maxHeartbeats 4000000
open Go.RowKit
attribute [local go_sem ↓] Go.wp_at_zero Go.wp_at_succ
def Qgr (r:Bool×SS) (B sb:Nat) (M:Msg) (w:World) (e:Ending) (w':World):Prop:=
 e=.returned (.bool r.1)∧SAt w' B sb M r.2∧Fr (PSt B) w w'
theorem SBd.told' {M:Msg} {s:SS} (b:SBd M s) (t:List (List UInt8)) (h1:∀ x∈t,x.length≤100000) (h2:t.length≤1000000):SBd M (QiF s t):=⟨b.fr,b.to,b.hl,b.hd,h1,h2,b.vals,b.met⟩
theorem SI.setTold {w:World} {B sb:Nat} {M:Msg} {s:SS} {hv:Value} {mb:Nat} {tv mv:Value} (h:SI w B sb M s hv mb tv mv) (t:List (List UInt8)) (v:Value) (ht:SlT w v t) (h1:∀ x∈t,x.length≤100000) (h2:t.length≤1000000):SI (w.setCell ⟨sb,6,none⟩ v) B sb M (QiF s t) hv mb v mv:=by
 have hf:Fr (fun k _=>k=sb) w (w.setCell ⟨sb,6,none⟩ v):=(Fr.refl _ w).set h.blk rfl 6 v
 have hne:∀ (k:Nat) (o:Obj),w.heap[k]?=some o→(∀ cs,o≠.cells cs 227)→k≠sb:=fun k o hk ho e=>by
  subst e;rw [h.blk] at hk;cases hk;exact ho _ rfl
 obtain ⟨es,c,hm,hu⟩:=h.mp
 obtain ⟨m,h7⟩:=h.m1
 refine ⟨h.bs,h.bm,h.b1,⟨m,?_⟩,?_,?_,⟨es,c,hf.block _ _ hm (hne _ _ hm (fun cs e=>by cases e)),hu⟩,?_,?_,h.mn,h.bd.told' t h1 h2⟩
 ·have:(1:Nat)≠sb:=by have:=h.b1;have:=h.bs;omega
  rw [World.cell?_of_block (a:=⟨1,0,none⟩) (Below.heap_setCell _ _ _ _ this)];exact h7
 ·exact Qah _ _ _ _ _ _ h.blk
 ·rcases h.hd with h' | ⟨g,c,cs,hv',hb,hc⟩
  ·exact Or.inl h'
  ·exact Or.inr ⟨g,c,cs,hv',hf.block _ _ hb (hne _ _ hb (fun cs e=>by injection e with e1 e2;exact absurd e2 (by decide))),hc⟩
 ·rcases ht with h' | ⟨g,c,hv',cs,hb,hc⟩
  ·exact Or.inl h'
  ·exact Or.inr ⟨g,c,hv',cs,hf.block _ _ hb (hne _ _ hb (fun cs e=>by injection e with e1 e2;exact absurd e2 (by decide))),hc⟩
 ·obtain ⟨h1,h2⟩:=h.met
  refine ⟨h1,?_⟩
  rcases h2 with h2 | ⟨g,cap,cur,hv',hg,hh,r⟩
  ·exact Or.inl h2
  ·exact Or.inr ⟨g,cap,cur,hv',hg,hf.block _ _ hh (hne _ _ hh (fun cs e=>by injection e with e1 e2;exact absurd e2 (by decide))),r⟩
theorem QkM {tag:Int} {oct:Bool} {v:List UInt8} (ks:List (List UInt8)) (j:Nat) (hj:j < ks.length):QpZ tag oct v (ks.drop j)=if Qp0 tag oct v ks[j] then some ks[j] else QpZ tag oct v (ks.drop (j+1)):=by
 rw [List.drop_eq_getElem_cons hj];rfl
theorem QlX {tag:Int} {oct:Bool} {ks:List (List UInt8)} (vs:List (List UInt8)) (i:Nat) (hi:i < vs.length):Qmg tag oct ks (vs.drop i)=match QpZ tag oct vs[i] ks with | some k=>some (vs[i],k) | none=>Qmg tag oct ks (vs.drop (i+1)):=by
 rw [List.drop_eq_getElem_cons hi];rfl
theorem QkG {tag:Int} {oct:Bool} {ks:List (List UInt8)} {vs:List (List UInt8)} {i:Nat} {hi:i < vs.length} (h:QpZ tag oct vs[i] ks=none):Qmg tag oct ks (vs.drop i)=Qmg tag oct ks (vs.drop (i+1)):=by
 rw [QlX vs i hi,h]
theorem Qf0 {tag:Int} {oct:Bool} {ks:List (List UInt8)} {vs:List (List UInt8)} {i:Nat} {hi:i < vs.length} {k:List UInt8} (h:QpZ tag oct vs[i] ks=some k):Qmg tag oct ks (vs.drop i)=some (vs[i],k):=by
 rw [QlX vs i hi,h]
theorem QkR {s:SS} {tag:Int} {oct:Bool} {vals keys:List (List UInt8)} (h:Qmg tag oct (keys.map (expL s)) vals=none):askL s tag oct vals keys=(false,s):=by unfold askL;rw [h]
theorem Qp2 {s:SS} {tag:Int} {oct:Bool} {vals keys:List (List UInt8)} {v k:List UInt8} (h:Qmg tag oct (keys.map (expL s)) vals=some (v,k)) (ht:wayT tag oct v k=none):askL s tag oct vals keys=(true,s):=by unfold askL;rw [h];dsimp only;rw [ht]
theorem QlG {s:SS} {tag:Int} {oct:Bool} {vals keys:List (List UInt8)} {v k:List UInt8} {t:List (List UInt8)} (h:Qmg tag oct (keys.map (expL s)) vals=some (v,k)) (ht:wayT tag oct v k=some t):askL s tag oct vals keys=(true,QiF s t):=by unfold askL;rw [h];dsimp only;rw [ht]
theorem QmO (tag:Int) (oct:Bool) (p:Nat) (B sb:Nat) (M:Msg) (s:SS) (vals keys:List (List UInt8)) (vv kv:Value) (w:World)
 (hw:∀ W v k,Below w.heap.size w W→v.length≤100000→k.length≤100000→Calls Tryz.prog 222 #[.string (Qag v),.string (Qag k),.pointer (some ⟨p,0,none⟩)] W (QeD tag oct v k W))
 (h:SAt w B sb M s) (hvv:SlT w vv vals) (hkv:SlT w kv keys) (hvl:∀ z∈vals,z.length≤100000) (hkl:∀ z∈keys,z.length≤100000) (hvn:vals.length≤1000000000000) (hkn:keys.length≤1000000) :
 Calls Tryz.prog 186 #[.pointer (some ⟨sb,0,none⟩),.func (.func 222) #[] #[.pointer (some ⟨p,0,none⟩)],vv,kv] w (Qgr (askL s tag oct vals keys) B sb M w):=by
 obtain ⟨va,vc,hvv'⟩:=hvv.len
 subst hvv'
 have HVV:=Qaa hvv
 have HS:=Qaa h
 have HW:=Qaa hw
 have HVL:=Qaa hvl
 go_enter Tryz.func186,Tryz.ntmps186
 go_wp2_with fail
 refine (QeK B sb M s keys _ w h hkv (fun z hz=>Nat.le_trans (hkl z hz) (by decide)) hkn).mono ?_
 rintro e w1 ⟨v1,rfl,ho1,hb1⟩
 have HT:=Qaa (SlT.of_owns ho1 (by simp))
 have HB1:=Qaa hb1
 obtain ⟨ta,tc,htv⟩:=QaN ho1
 subst htv
 have hyl:∀ y∈keys.map (expL s),y.length≤100000:=Qf3 s keys _ hkl (by decide)
 have hzl:keys.length=(keys.map (expL s)).length:=by simp
 obtain ⟨ks,hks⟩:∃ ks,keys.map (expL s)=ks:=⟨_,rfl⟩
 have HKS:=Qaa hks
 have HYL:=Qaa hyl
 rw [hks] at HT HYL hzl
 rw [hzl] at hkn HT
 rw [hzl]
 clear ho1 hyl hzl hb1 hkv hkl h hvv hvl hw hks
 go_wp2_with fail
 go_loopw [10,12,13,14,20] (fun _ _ _ _ i wr=>∃ (a:Nat),a≤vals.length∧i=.int .i64 (a:Int)∧Below w.heap.size w wr∧Below w1.heap.size w1 wr∧Qmg tag oct ks vals=Qmg tag oct ks (vals.drop a)) (fun _ _ _ _ i _=>vals.length - (intOf i).toNat)
 case atStart=>exact ⟨0,Nat.zero_le _,rfl,HB1.out,Below.refl _ _,rfl⟩
 case round=>
  obtain ⟨a,ha,rfl,hB,hBB,hhit⟩:=hrel
  have HB:=Qaa hB
  have HBB:=Qaa hBB
  have HA:=Qaa hhit
  clear hB hBB hhit
  by_cases hlt:a < vals.length
  rotate_left
  ·have hk':¬ (a:Int) < (vals.length:Int):=by omega
   have HD:=Qaa (Qea vals a hlt)
   go_wp2
   go_ret
   have hm:=QkR (s:=s) (tag:=tag) (oct:=oct) (vals:=vals) (keys:=keys) (by rw [HKS.out,HA.out,HD.out];rfl)
   rw [hm]
   exact ⟨rfl,HS.out.below HB.out,Fr.of_below HB.out⟩
  have hk':(a:Int) < (vals.length:Int):=by omega
  obtain ⟨g,hla,hgl,hc1⟩:=HVV.out.get' a hlt
  subst hla
  have c1:wr.cell? ⟨g,a,none⟩=some (.string (Qag vals[a])):=by rw [HB.out.cell (p:=⟨g,a,none⟩) hgl];exact hc1
  have hvk:=HVL.out _ (List.getElem_mem hlt)
  obtain ⟨v,hv⟩:∃ v,vals[a]=v:=⟨_,rfl⟩
  have HV:=Qaa hv
  rw [hv] at c1 hvk
  clear hv hc1
  go_wp2_with fail
  go_loopw [12,13,14,26] (fun _ _ _ i wr=>∃ (j:Nat),j≤ks.length∧i=.int .i64 (j:Int)∧Below w.heap.size w wr∧Below w1.heap.size w1 wr∧QpZ tag oct v ks=QpZ tag oct v (ks.drop j)) (fun _ _ _ i _=>ks.length - (intOf i).toNat)
  case atStart=>exact ⟨0,Nat.zero_le _,rfl,HB.out,HBB.out,rfl⟩
  case round=>
   obtain ⟨j,hj,rfl,hB2,hBB2,hkey⟩:=hrel
   have HB2:=Qaa hB2
   have HBB2:=Qaa hBB2
   have HK:=Qaa hkey
   clear hB2 hBB2 hkey
   by_cases hjl:j < ks.length
   rotate_left
   ·have hj':¬ (j:Int) < (ks.length:Int):=by omega
    have HD:=Qaa (Qea ks j hjl)
    go_wp2
    refine ⟨⟨a+1,by omega,by go_num,HB2.out,HBB2.out,?_⟩,by simp [intOf];omega⟩
    rw [HA.out]
    exact QkG (hi:=hlt) (by rw [HV.out,HK.out,HD.out];rfl)
   have hj':(j:Int) < (ks.length:Int):=by omega
   obtain ⟨g2,hla2,hgl2,hc2⟩:=HT.out.get' j hjl
   subst hla2
   have c2:wr.cell? ⟨g2,j,none⟩=some (.string (Qag ks[j])):=by rw [HBB2.out.cell (p:=⟨g2,j,none⟩) hgl2];exact hc2
   have hkk:=HYL.out _ (List.getElem_mem hjl)
   have HKT:=Qaa (QkM (tag:=tag) (oct:=oct) (v:=v) ks j hjl)
   generalize ks[j]=k at *
   clear hc2
   go_wp2_with fail
   refine (HW.out _ v k HB2.out hvk hkk).mono ?_
   rintro e w3 ⟨hb3,hcase⟩
   have HB3:=Qaa (HB2.out.trans (hb3.mono HB2.out.size))
   have HBB3:=Qaa (HBB2.out.trans (hb3.mono HBB2.out.size))
   clear hb3
   rcases hcase with ⟨hwb,rfl⟩ | ⟨hwb,hwt,rfl⟩ | ⟨hwb,t,g3,c3,hwt,rfl,hg3,htx⟩
   ·rw [hwb] at HKT
    clear hwb
    go_wp2
    refine ⟨⟨j+1,by omega,by go_num,HB3.out,HBB3.out,?_⟩,by simp [intOf];omega⟩
    rw [HK.out,HKT.out]
    rfl
   ·rw [hwb] at HKT
    have HWT:=Qaa hwt
    clear hwb hwt
    go_wp2
    go_ret
    have hm:=Qp2 (s:=s) (tag:=tag) (oct:=oct) (vals:=vals) (keys:=keys) (v:=v) (k:=k) (by rw [HKS.out,HA.out,Qf0 (hi:=hlt) (k:=k) (by rw [HV.out,HK.out,HKT.out];rfl),HV.out]) HWT.out
    rw [hm]
    exact ⟨rfl,HS.out.below HB3.out,Fr.of_below HB3.out⟩
   ·rw [hwb] at HKT
    have HWT:=Qaa hwt
    have hbd:=Qqb hwt
    obtain ⟨hv',mb,tv,mv,hSI⟩:=HS.out.below HB3.out
    have HSI:=Qaa hSI
    have cc6:w3.cell? ⟨sb,6,none⟩=some tv:=hSI.cell 6
    have ff6:=hSI.frozen 6
    have HTX:=Qaa htx
    have htl:=hbd.2
    have HT1:=Qaa hbd.1
    clear hwb hwt hSI htx hbd
    go_wp2
    go_ret
    have hm:=QlG (s:=s) (tag:=tag) (oct:=oct) (vals:=vals) (keys:=keys) (v:=v) (k:=k) (t:=t) (by rw [HKS.out,HA.out,Qf0 (hi:=hlt) (k:=k) (by rw [HV.out,HK.out,HKT.out];rfl),HV.out]) HWT.out
    rw [hm]
    refine ⟨rfl,⟨hv',mb,_,mv,HSI.out.setTold t _ (Or.inr ⟨g3,c3,rfl,HTX.out⟩) (fun x hx=>Nat.le_trans (HT1.out x hx) hvk) (by omega)⟩,?_⟩
    exact (Fr.of_below HB3.out).set HSI.out.blk HSI.out.ps _ _
theorem QoB (tag:Int) (oct:Bool) (p q:Nat) (B sb:Nat) (M:Msg) (s:SS) (vals keys:List (List UInt8)) (vv kv:Value) (w:World)
 (hw:∀ W v k,Below w.heap.size w W→v.length≤100000→k.length≤100000→Calls Tryz.prog 244 #[.string (Qag v),.string (Qag k),.pointer (some ⟨p,0,none⟩),.pointer (some ⟨q,0,none⟩)] W (QeD tag oct v k W))
 (h:SAt w B sb M s) (hvv:SlT w vv vals) (hkv:SlT w kv keys) (hvl:∀ z∈vals,z.length≤100000) (hkl:∀ z∈keys,z.length≤100000) (hvn:vals.length≤1000000000000) (hkn:keys.length≤1000000) :
 Calls Tryz.prog 186 #[.pointer (some ⟨sb,0,none⟩),.func (.func 244) #[] #[.pointer (some ⟨p,0,none⟩),.pointer (some ⟨q,0,none⟩)],vv,kv] w (Qgr (askL s tag oct vals keys) B sb M w):=by
 obtain ⟨va,vc,hvv'⟩:=hvv.len
 subst hvv'
 have HVV:=Qaa hvv
 have HS:=Qaa h
 have HW:=Qaa hw
 have HVL:=Qaa hvl
 go_enter Tryz.func186,Tryz.ntmps186
 go_wp2_with fail
 refine (QeK B sb M s keys _ w h hkv (fun z hz=>Nat.le_trans (hkl z hz) (by decide)) hkn).mono ?_
 rintro e w1 ⟨v1,rfl,ho1,hb1⟩
 have HT:=Qaa (SlT.of_owns ho1 (by simp))
 have HB1:=Qaa hb1
 obtain ⟨ta,tc,htv⟩:=QaN ho1
 subst htv
 have hyl:∀ y∈keys.map (expL s),y.length≤100000:=Qf3 s keys _ hkl (by decide)
 have hzl:keys.length=(keys.map (expL s)).length:=by simp
 obtain ⟨ks,hks⟩:∃ ks,keys.map (expL s)=ks:=⟨_,rfl⟩
 have HKS:=Qaa hks
 have HYL:=Qaa hyl
 rw [hks] at HT HYL hzl
 rw [hzl] at hkn HT
 rw [hzl]
 clear ho1 hyl hzl hb1 hkv hkl h hvv hvl hw hks
 go_wp2_with fail
 go_loopw [10,12,13,14,20] (fun _ _ _ _ i wr=>∃ (a:Nat),a≤vals.length∧i=.int .i64 (a:Int)∧Below w.heap.size w wr∧Below w1.heap.size w1 wr∧Qmg tag oct ks vals=Qmg tag oct ks (vals.drop a)) (fun _ _ _ _ i _=>vals.length - (intOf i).toNat)
 case atStart=>exact ⟨0,Nat.zero_le _,rfl,HB1.out,Below.refl _ _,rfl⟩
 case round=>
  obtain ⟨a,ha,rfl,hB,hBB,hhit⟩:=hrel
  have HB:=Qaa hB
  have HBB:=Qaa hBB
  have HA:=Qaa hhit
  clear hB hBB hhit
  by_cases hlt:a < vals.length
  rotate_left
  ·have hk':¬ (a:Int) < (vals.length:Int):=by omega
   have HD:=Qaa (Qea vals a hlt)
   go_wp2
   go_ret
   have hm:=QkR (s:=s) (tag:=tag) (oct:=oct) (vals:=vals) (keys:=keys) (by rw [HKS.out,HA.out,HD.out];rfl)
   rw [hm]
   exact ⟨rfl,HS.out.below HB.out,Fr.of_below HB.out⟩
  have hk':(a:Int) < (vals.length:Int):=by omega
  obtain ⟨g,hla,hgl,hc1⟩:=HVV.out.get' a hlt
  subst hla
  have c1:wr.cell? ⟨g,a,none⟩=some (.string (Qag vals[a])):=by rw [HB.out.cell (p:=⟨g,a,none⟩) hgl];exact hc1
  have hvk:=HVL.out _ (List.getElem_mem hlt)
  obtain ⟨v,hv⟩:∃ v,vals[a]=v:=⟨_,rfl⟩
  have HV:=Qaa hv
  rw [hv] at c1 hvk
  clear hv hc1
  go_wp2_with fail
  go_loopw [12,13,14,26] (fun _ _ _ i wr=>∃ (j:Nat),j≤ks.length∧i=.int .i64 (j:Int)∧Below w.heap.size w wr∧Below w1.heap.size w1 wr∧QpZ tag oct v ks=QpZ tag oct v (ks.drop j)) (fun _ _ _ i _=>ks.length - (intOf i).toNat)
  case atStart=>exact ⟨0,Nat.zero_le _,rfl,HB.out,HBB.out,rfl⟩
  case round=>
   obtain ⟨j,hj,rfl,hB2,hBB2,hkey⟩:=hrel
   have HB2:=Qaa hB2
   have HBB2:=Qaa hBB2
   have HK:=Qaa hkey
   clear hB2 hBB2 hkey
   by_cases hjl:j < ks.length
   rotate_left
   ·have hj':¬ (j:Int) < (ks.length:Int):=by omega
    have HD:=Qaa (Qea ks j hjl)
    go_wp2
    refine ⟨⟨a+1,by omega,by go_num,HB2.out,HBB2.out,?_⟩,by simp [intOf];omega⟩
    rw [HA.out]
    exact QkG (hi:=hlt) (by rw [HV.out,HK.out,HD.out];rfl)
   have hj':(j:Int) < (ks.length:Int):=by omega
   obtain ⟨g2,hla2,hgl2,hc2⟩:=HT.out.get' j hjl
   subst hla2
   have c2:wr.cell? ⟨g2,j,none⟩=some (.string (Qag ks[j])):=by rw [HBB2.out.cell (p:=⟨g2,j,none⟩) hgl2];exact hc2
   have hkk:=HYL.out _ (List.getElem_mem hjl)
   have HKT:=Qaa (QkM (tag:=tag) (oct:=oct) (v:=v) ks j hjl)
   generalize ks[j]=k at *
   clear hc2
   go_wp2_with fail
   refine (HW.out _ v k HB2.out hvk hkk).mono ?_
   rintro e w3 ⟨hb3,hcase⟩
   have HB3:=Qaa (HB2.out.trans (hb3.mono HB2.out.size))
   have HBB3:=Qaa (HBB2.out.trans (hb3.mono HBB2.out.size))
   clear hb3
   rcases hcase with ⟨hwb,rfl⟩ | ⟨hwb,hwt,rfl⟩ | ⟨hwb,t,g3,c3,hwt,rfl,hg3,htx⟩
   ·rw [hwb] at HKT
    clear hwb
    go_wp2
    refine ⟨⟨j+1,by omega,by go_num,HB3.out,HBB3.out,?_⟩,by simp [intOf];omega⟩
    rw [HK.out,HKT.out]
    rfl
   ·rw [hwb] at HKT
    have HWT:=Qaa hwt
    clear hwb hwt
    go_wp2
    go_ret
    have hm:=Qp2 (s:=s) (tag:=tag) (oct:=oct) (vals:=vals) (keys:=keys) (v:=v) (k:=k) (by rw [HKS.out,HA.out,Qf0 (hi:=hlt) (k:=k) (by rw [HV.out,HK.out,HKT.out];rfl),HV.out]) HWT.out
    rw [hm]
    exact ⟨rfl,HS.out.below HB3.out,Fr.of_below HB3.out⟩
   ·rw [hwb] at HKT
    have HWT:=Qaa hwt
    have hbd:=Qqb hwt
    obtain ⟨hv',mb,tv,mv,hSI⟩:=HS.out.below HB3.out
    have HSI:=Qaa hSI
    have cc6:w3.cell? ⟨sb,6,none⟩=some tv:=hSI.cell 6
    have ff6:=hSI.frozen 6
    have HTX:=Qaa htx
    have htl:=hbd.2
    have HT1:=Qaa hbd.1
    clear hwb hwt hSI htx hbd
    go_wp2
    go_ret
    have hm:=QlG (s:=s) (tag:=tag) (oct:=oct) (vals:=vals) (keys:=keys) (v:=v) (k:=k) (t:=t) (by rw [HKS.out,HA.out,Qf0 (hi:=hlt) (k:=k) (by rw [HV.out,HK.out,HKT.out];rfl),HV.out]) HWT.out
    rw [hm]
    refine ⟨rfl,⟨hv',mb,_,mv,HSI.out.setTold t _ (Or.inr ⟨g3,c3,rfl,HTX.out⟩) (fun x hx=>Nat.le_trans (HT1.out x hx) hvk) (by omega)⟩,?_⟩
    exact (Fr.of_below HB3.out).set HSI.out.blk HSI.out.ps _ _
theorem Qfy (tag:Int) (oct:Bool) (B sb:Nat) (M:Msg) (s:SS) (vals keys:List (List UInt8)) (wv vv kv:Value) (w:World) (hw:WayV w tag oct wv)
 (h:SAt w B sb M s) (hvv:SlT w vv vals) (hkv:SlT w kv keys) (hvl:∀ z∈vals,z.length≤100000) (hkl:∀ z∈keys,z.length≤100000) (hvn:vals.length≤1000000000000) (hkn:keys.length≤1000000) :
 Calls Tryz.prog 186 #[.pointer (some ⟨sb,0,none⟩),wv,vv,kv] w (Qgr (askL s tag oct vals keys) B sb M w):=by
 rcases hw with ⟨rfl,p,rfl,hp⟩ | ⟨p,q,rfl,hq,hh⟩
 ·refine QmO 3 oct p B sb M s vals keys vv kv w (fun W v k hW h1 h2=>?_) h hvv hkv hvl hkl hvn hkn
  exact QtH oct p v k W (by omega) (by omega) ((hW.cell (p:=⟨p,0,none⟩) (Qay hp)).trans hp)
 ·refine QoB tag oct p q B sb M s vals keys vv kv w (fun W v k hW h1 h2=>?_) h hvv hkv hvl hkl hvn hkn
  have hq':=(hW.cell (p:=⟨q,0,none⟩) (Qay hq)).trans hq
  rcases hh with ⟨rfl,hp⟩ | ⟨rfl,hp⟩
  ·exact Qj3 oct p q v k W (by omega) (by omega) hq' ((hW.cell (p:=⟨p,0,none⟩) (Qay hp)).trans hp)
  ·obtain ⟨hv,mb,tv,mv,hS⟩:=h
   obtain ⟨m,hm⟩:=hS.m1
   exact Qiq oct p q v k W (by omega) (by omega) hq' ((hW.cell (p:=⟨p,0,none⟩) (Qay hp)).trans hp) m ((hW.cell (p:=⟨1,0,none⟩) (Qay hm)).trans hm)
end Go.Proofs.YtbiclelojbfnbabGreatDoor
