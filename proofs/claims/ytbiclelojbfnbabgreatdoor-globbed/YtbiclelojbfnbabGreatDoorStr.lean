import Derived.Test.YtbiclelojbfnbabGreatDoorZCheck
namespace Go.Proofs.YtbiclelojbfnbabGreatDoor
set_option linter.unusedVariables false
set_option linter.unusedSimpArgs false
set_option maxRecDepth 100000
set_option maxHeartbeats 4000000
open Go.RowKit
def Qp1 (x:List UInt8) (_:World) (v:Value):Prop:=v=.string (Qag x)
theorem QdK {l:List UInt8} {chk:List UInt8→Nat} {s:PS} (h:¬ s.1.kind=5):stringL l chk s=.error ⟨4,s.1.pos⟩:=by unfold stringL;rw [if_neg h]
theorem Qfp {l:List UInt8} {chk:List UInt8→Nat} {s:PS} (h:s.1.kind=5) (hc:¬ chk s.1.said=0):stringL l chk s=.error ⟨chk s.1.said,s.1.pos⟩:=by unfold stringL;rw [if_pos h,if_neg hc]
theorem Qfa {l:List UInt8} {chk:List UInt8→Nat} {s y:PS} (h:s.1.kind=5) (hc:chk s.1.said=0) (hn:nextL l s.2=.ok y):stringL l chk s=.ok (s.1.said,y):=by unfold stringL;rw [if_pos h,if_pos hc,hn]
theorem Qeq {l:List UInt8} {chk:List UInt8→Nat} {s:PS} {f:Flt} (h:s.1.kind=5) (hc:chk s.1.said=0) (hn:nextL l s.2=.error f):stringL l chk s=.error f:=by unfold stringL;rw [if_pos h,if_pos hc,hn]
theorem Qdv (b:Nat) (t:ByteArray) (s:PS) (rv:Value) (mc mt:Nat) (w:World) (h:RC w b t s rv mc mt) :
 Calls Tryz.prog 160 #[.pointer (some ⟨b,0,none⟩),.func (.func 114) #[] #[]] w (Qao (stringL t.data.toList QsR s) b t rv mc mt w Qp1):=by
 have h1:w.cell? ⟨b,1,none⟩=some (.int .i64 s.1.kind):=h.at_.cell 1
 have h4:w.cell? ⟨b,4,none⟩=some (.string (Qag s.1.said)):=h.at_.cell 4
 have H:=Qaa h
 clear h
 by_cases hk:s.1.kind=5
 rotate_left
 ·have HE:=Qaa (QdK (l:=t.data.toList) (chk:=QsR) hk)
  have hk':((s.1.kind:Int) == 5)=false:=by simp;omega
  clear hk
  go_enter Tryz.func160,Tryz.ntmps160
  go_wp2_with fail
  refine (Qbe b 4 _ _ t s.1 s.2 rv mc mt _ H.out.at_ rfl rfl).mono ?_
  rintro e w1 ⟨⟨bb,hz,rfl,hcc⟩,hm⟩
  exact ⟨rfl,Qao.err HE.out (Mod.of_below hm) ⟨bb,hz,rfl,hcc⟩⟩
 have hk':((s.1.kind:Int) == 5)=true:=by simp;omega
 have HK:=Qaa hk
 clear hk
 go_enter Tryz.func160,Tryz.ntmps160
 go_wp2_with fail
 refine (QaF b _ _ _ rfl).mono ?_
 rintro e w' ⟨rfl,rfl⟩
 go_wp2_with fail
 refine (Qk5 _ _).mono ?_
 rintro e w1 ⟨rfl,rfl⟩
 go_wp2_with fail
 refine (QaF b _ _ _ (by rfl)).mono ?_
 rintro e w' ⟨rfl,rfl⟩
 go_wp2_with fail
 refine (QcJ b t s rv mc mt _ H.out).mono ?_
 rintro e w2 (⟨y,hy,rfl,hc,hm⟩ | ⟨f,hf,⟨bb,hz,rfl,hcc⟩,hm⟩)
 ·go_wp2
  go_ret
  exact Qao.ok (Qfa HK.out rfl hy) hm rfl hc
 ·exact ⟨rfl,Qao.err (Qeq HK.out rfl hf) hm ⟨bb,hz,rfl,hcc⟩⟩
theorem QlA (b:Nat) (t:ByteArray) (s:PS) (rv:Value) (mc mt:Nat) (w:World) (h:RC w b t s rv mc mt) :
 Calls Tryz.prog 160 #[.pointer (some ⟨b,0,none⟩),.func (.func 164) #[] #[]] w (Qao (stringL t.data.toList Qeo s) b t rv mc mt w Qp1):=by
 have h1:w.cell? ⟨b,1,none⟩=some (.int .i64 s.1.kind):=h.at_.cell 1
 have h4:w.cell? ⟨b,4,none⟩=some (.string (Qag s.1.said)):=h.at_.cell 4
 have H:=Qaa h
 clear h
 by_cases hk:s.1.kind=5
 rotate_left
 ·have HE:=Qaa (QdK (l:=t.data.toList) (chk:=Qeo) hk)
  have hk':((s.1.kind:Int) == 5)=false:=by simp;omega
  clear hk
  go_enter Tryz.func160,Tryz.ntmps160
  go_wp2_with fail
  refine (Qbe b 4 _ _ t s.1 s.2 rv mc mt _ H.out.at_ rfl rfl).mono ?_
  rintro e w1 ⟨⟨bb,hz,rfl,hcc⟩,hm⟩
  exact ⟨rfl,Qao.err HE.out (Mod.of_below hm) ⟨bb,hz,rfl,hcc⟩⟩
 have hk':((s.1.kind:Int) == 5)=true:=by simp;omega
 have HK:=Qaa hk
 clear hk
 go_enter Tryz.func160,Tryz.ntmps160
 go_wp2_with fail
 refine (QaF b _ _ _ rfl).mono ?_
 rintro e w' ⟨rfl,rfl⟩
 go_wp2_with fail
 refine (Qqg _ _ (by have:=H.out.sz.1;omega)).mono ?_
 rintro e w1 ⟨rfl,rfl⟩
 generalize hC:Qeo s.1.said=C
 have HC:=Qaa hC
 clear hC
 by_cases hc:C=0
 rotate_left
 ·have HE:=Qaa (Qfp (l:=t.data.toList) (chk:=Qeo) HK.out (by rw [HC.out];exact hc))
  rw [HC.out] at HE
  have hc':((C:Int) == 0)=false:=by simp;omega
  clear hc
  go_wp2_with fail
  refine (Qbe b C _ _ t s.1 s.2 rv mc mt _ H.out.at_ rfl rfl).mono ?_
  rintro e w2 ⟨⟨bb,hz,rfl,hcc⟩,hm⟩
  exact ⟨rfl,Qao.err HE.out (Mod.of_below hm) ⟨bb,hz,rfl,hcc⟩⟩
 subst hc
 go_wp2_with fail
 refine (QaF b _ _ _ (by rfl)).mono ?_
 rintro e w' ⟨rfl,rfl⟩
 go_wp2_with fail
 refine (QcJ b t s rv mc mt _ H.out).mono ?_
 rintro e w2 (⟨y,hy,rfl,hc,hm⟩ | ⟨f,hf,⟨bb,hz,rfl,hcc⟩,hm⟩)
 ·go_wp2
  go_ret
  exact Qao.ok (Qfa HK.out HC.out hy) hm rfl hc
 ·exact ⟨rfl,Qao.err (Qeq HK.out HC.out hf) hm ⟨bb,hz,rfl,hcc⟩⟩
theorem QgN (p1 p2 g n c er:Nat) (zs:List (List UInt8)) (b:Nat) (t:ByteArray) (s:PS) (rv:Value) (mc mt:Nat) (w:World) (h:RC w b t s rv mc mt) (ho:QhJ w p1 p2 g n c er zs) :
 Calls Tryz.prog 160 #[.pointer (some ⟨b,0,none⟩),.func (.func 172) #[] #[.pointer (some ⟨p1,0,none⟩),.pointer (some ⟨p2,0,none⟩)]] w (Qao (stringL t.data.toList (Qcs er zs) s) b t rv mc mt w Qp1):=by
 have h1:w.cell? ⟨b,1,none⟩=some (.int .i64 s.1.kind):=h.at_.cell 1
 have h4:w.cell? ⟨b,4,none⟩=some (.string (Qag s.1.said)):=h.at_.cell 4
 have H:=Qaa h
 clear h
 have HO:=Qaa ho
 clear ho
 by_cases hk:s.1.kind=5
 rotate_left
 ·have HE:=Qaa (QdK (l:=t.data.toList) (chk:=(Qcs er zs)) hk)
  have hk':((s.1.kind:Int) == 5)=false:=by simp;omega
  clear hk
  go_enter Tryz.func160,Tryz.ntmps160
  go_wp2_with fail
  refine (Qbe b 4 _ _ t s.1 s.2 rv mc mt _ H.out.at_ rfl rfl).mono ?_
  rintro e w1 ⟨⟨bb,hz,rfl,hcc⟩,hm⟩
  exact ⟨rfl,Qao.err HE.out (Mod.of_below hm) ⟨bb,hz,rfl,hcc⟩⟩
 have hk':((s.1.kind:Int) == 5)=true:=by simp;omega
 have HK:=Qaa hk
 clear hk
 go_enter Tryz.func160,Tryz.ntmps160
 go_wp2_with fail
 refine (QaF b _ _ _ rfl).mono ?_
 rintro e w' ⟨rfl,rfl⟩
 go_wp2_with fail
 refine (QiO p1 p2 g n c er zs _ _ HO.out).mono ?_
 rintro e w1 ⟨rfl,rfl⟩
 generalize hC:(Qcs er zs) s.1.said=C
 have HC:=Qaa hC
 clear hC
 by_cases hc:C=0
 rotate_left
 ·have HE:=Qaa (Qfp (l:=t.data.toList) (chk:=(Qcs er zs)) HK.out (by rw [HC.out];exact hc))
  rw [HC.out] at HE
  have hc':((C:Int) == 0)=false:=by simp;omega
  clear hc
  go_wp2_with fail
  refine (Qbe b C _ _ t s.1 s.2 rv mc mt _ H.out.at_ rfl rfl).mono ?_
  rintro e w2 ⟨⟨bb,hz,rfl,hcc⟩,hm⟩
  exact ⟨rfl,Qao.err HE.out (Mod.of_below hm) ⟨bb,hz,rfl,hcc⟩⟩
 subst hc
 go_wp2_with fail
 refine (QaF b _ _ _ (by rfl)).mono ?_
 rintro e w' ⟨rfl,rfl⟩
 go_wp2_with fail
 refine (QcJ b t s rv mc mt _ H.out).mono ?_
 rintro e w2 (⟨y,hy,rfl,hc,hm⟩ | ⟨f,hf,⟨bb,hz,rfl,hcc⟩,hm⟩)
 ·go_wp2
  go_ret
  exact Qao.ok (Qfa HK.out HC.out hy) hm rfl hc
 ·exact ⟨rfl,Qao.err (Qeq HK.out HC.out hf) hm ⟨bb,hz,rfl,hcc⟩⟩
theorem Qiv (q p1 p2 g n c er:Nat) (zs:List (List UInt8)) (b:Nat) (t:ByteArray) (s:PS) (rv:Value) (mc mt:Nat) (w:World) (h:RC w b t s rv mc mt) (ho:Qgq w q p1 p2 g n c er zs) :
 Calls Tryz.prog 160 #[.pointer (some ⟨b,0,none⟩),.func (.func 171) #[] #[.pointer (some ⟨q,0,none⟩)]] w (Qao (stringL t.data.toList (Qdl (Qcs er zs)) s) b t rv mc mt w Qp1):=by
 have h1:w.cell? ⟨b,1,none⟩=some (.int .i64 s.1.kind):=h.at_.cell 1
 have h4:w.cell? ⟨b,4,none⟩=some (.string (Qag s.1.said)):=h.at_.cell 4
 have H:=Qaa h
 clear h
 have HO:=Qaa ho
 clear ho
 by_cases hk:s.1.kind=5
 rotate_left
 ·have HE:=Qaa (QdK (l:=t.data.toList) (chk:=(Qdl (Qcs er zs))) hk)
  have hk':((s.1.kind:Int) == 5)=false:=by simp;omega
  clear hk
  go_enter Tryz.func160,Tryz.ntmps160
  go_wp2_with fail
  refine (Qbe b 4 _ _ t s.1 s.2 rv mc mt _ H.out.at_ rfl rfl).mono ?_
  rintro e w1 ⟨⟨bb,hz,rfl,hcc⟩,hm⟩
  exact ⟨rfl,Qao.err HE.out (Mod.of_below hm) ⟨bb,hz,rfl,hcc⟩⟩
 have hk':((s.1.kind:Int) == 5)=true:=by simp;omega
 have HK:=Qaa hk
 clear hk
 go_enter Tryz.func160,Tryz.ntmps160
 go_wp2_with fail
 refine (QaF b _ _ _ rfl).mono ?_
 rintro e w' ⟨rfl,rfl⟩
 go_wp2_with fail
 refine (QkI q p1 p2 g n c er zs _ _ HO.out (by have:=H.out.sz.1;omega)).mono ?_
 rintro e w1 ⟨rfl,hb⟩
 have H1:=Qaa (H.out.below hb)
 have HB:=Qaa (Mod.of_below (b:=b) hb)
 have h4:w1.cell? ⟨b,4,none⟩=some (.string (Qag s.1.said)):=H1.out.at_.cell 4
 clear hb
 generalize hC:(Qdl (Qcs er zs)) s.1.said=C
 have HC:=Qaa hC
 clear hC
 by_cases hc:C=0
 rotate_left
 ·have HE:=Qaa (Qfp (l:=t.data.toList) (chk:=(Qdl (Qcs er zs))) HK.out (by rw [HC.out];exact hc))
  rw [HC.out] at HE
  have hc':((C:Int) == 0)=false:=by simp;omega
  clear hc
  go_wp2_with fail
  refine (Qbe b C _ _ t s.1 s.2 rv mc mt _ H1.out.at_ rfl rfl).mono ?_
  rintro e w2 ⟨⟨bb,hz,rfl,hcc⟩,hm⟩
  exact ⟨rfl,Qao.err HE.out (HB.out.trans (Mod.of_below hm)) ⟨bb,Nat.le_trans HB.out.size hz,rfl,hcc⟩⟩
 subst hc
 go_wp2_with fail
 refine (QaF b _ _ _ (by rfl)).mono ?_
 rintro e w' ⟨rfl,rfl⟩
 go_wp2_with fail
 refine (QcJ b t s rv mc mt _ H1.out).mono ?_
 rintro e w2 (⟨y,hy,rfl,hc,hm⟩ | ⟨f,hf,⟨bb,hz,rfl,hcc⟩,hm⟩)
 ·go_wp2
  go_ret
  exact Qao.ok (Qfa HK.out HC.out hy) (HB.out.trans hm) rfl hc
 ·exact ⟨rfl,Qao.err (Qeq HK.out HC.out hf) (HB.out.trans hm) ⟨bb,Nat.le_trans HB.out.size hz,rfl,hcc⟩⟩
end Go.Proofs.YtbiclelojbfnbabGreatDoor
