import Derived.Test.YtgnkjijocdmniaaGreatDoorZCheck
namespace Go.Proofs.YtgnkjijocdmniaaGreatDoor
set_option linter.unusedVariables false
set_option linter.unusedSimpArgs false
set_option maxRecDepth 100000
set_option maxHeartbeats 4000000
open Go.Proofs.Tryz
open Go.RowKit
def Qtf (x:L8) (_:World) (v:Value):Prop:=v=.string (Qaf x)
theorem Qeg{l:L8}{chk:L8->Nat}{s:PS}(h:¬ s.1.kind=5):sL l chk s=.error ⟨4,s.1.pos⟩:=by unfold sL;rw[if_neg h]
theorem QgE{l:L8}{chk:L8->Nat}{s:PS}(h:s.1.kind=5)(hc:¬ chk s.1.said=0):sL l chk s=.error ⟨chk s.1.said,s.1.pos⟩:=by unfold sL;rw[if_pos h,if_neg hc]
theorem Qf6{l:L8}{chk:L8->Nat}{s y:PS}(h:s.1.kind=5)(hc:chk s.1.said=0)(hn:nL l s.2=.ok y):sL l chk s=.ok (s.1.said,y):=by unfold sL;rw[if_pos h,if_pos hc,hn]
theorem QeV{l:L8}{chk:L8->Nat}{s:PS}{f:Flt}(h:s.1.kind=5)(hc:chk s.1.said=0)(hn:nL l s.2=.error f):sL l chk s=.error f:=by unfold sL;rw[if_pos h,if_pos hc,hn]
theorem QdX(b:Nat)(t:ByteArray)(s:PS)(rv:Value)(mc mt:Nat)(w:World)(h:RC w b t s rv mc mt) :
 Calls Tryz.prog 179 #[.pointer (some ⟨b,0,none⟩),.func (.func 134) #[] #[]] w (Qap (sL t.data.toList QwF s) b t rv mc mt w Qtf):=by
 have h1:w.cell? ⟨b,1,none⟩=some (.int .i64 s.1.kind):=h.at_.cell 1;have h4:w.cell? ⟨b,4,none⟩=some (.string (Qaf s.1.said)):=h.at_.cell 4;have H:=Qab h;clear h;by_cases hk:s.1.kind=5;rotate_left
 ·have HE:=Qab (Qeg (l:=t.data.toList) (chk:=QwF) hk);have ab:((s.1.kind:Int)==5)=false:=by simp;omega
  clear hk;go_enter func179,ntmps179;go_wp2_with fail;refine(Qbm b 4 _ _ t s.1 s.2 rv mc mt _ H.o.at_ rfl rfl).mono ?_;rintro e w1 ⟨⟨bb,hz,rfl,aa⟩,hm⟩;exact⟨rfl,Qap.err HE.o (Mod.of_below hm) ⟨bb,hz,rfl,aa⟩⟩
 have ab:((s.1.kind:Int)==5)=true:=by simp;omega
 have HK:=Qab hk;clear hk;go_enter func179,ntmps179;go_wp2_with fail;refine(QaF b _ _ _ rfl).mono ?_;rintro e w' ⟨rfl,rfl⟩;go_wp2_with fail;refine(Qn9 _ _).mono ?_;rintro e w1 ⟨rfl,rfl⟩;go_wp2_with fail;refine(QaF b _ _ _ (by rfl)).mono ?_;rintro e w' ⟨rfl,rfl⟩;go_wp2_with fail;refine(QcU b t s rv mc mt _ H.o).mono ?_;rintro e w2 (⟨y,hy,rfl,hc,hm⟩ | ⟨f,hf,⟨bb,hz,rfl,aa⟩,hm⟩)
 ·go_wp2;go_ret;exact Qap.ok (Qf6 HK.o rfl hy) hm rfl hc
 ·exact⟨rfl,Qap.err (QeV HK.o rfl hf) hm ⟨bb,hz,rfl,aa⟩⟩
theorem QnG(b:Nat)(t:ByteArray)(s:PS)(rv:Value)(mc mt:Nat)(w:World)(h:RC w b t s rv mc mt) :
 Calls Tryz.prog 179 #[.pointer (some ⟨b,0,none⟩),.func (.func 182) #[] #[]] w (Qap (sL t.data.toList Qe0 s) b t rv mc mt w Qtf):=by
 have h1:w.cell? ⟨b,1,none⟩=some (.int .i64 s.1.kind):=h.at_.cell 1;have h4:w.cell? ⟨b,4,none⟩=some (.string (Qaf s.1.said)):=h.at_.cell 4;have H:=Qab h;clear h;by_cases hk:s.1.kind=5;rotate_left
 ·have HE:=Qab (Qeg (l:=t.data.toList) (chk:=Qe0) hk);have ab:((s.1.kind:Int)==5)=false:=by simp;omega
  clear hk;go_enter func179,ntmps179;go_wp2_with fail;refine(Qbm b 4 _ _ t s.1 s.2 rv mc mt _ H.o.at_ rfl rfl).mono ?_;rintro e w1 ⟨⟨bb,hz,rfl,aa⟩,hm⟩;exact⟨rfl,Qap.err HE.o (Mod.of_below hm) ⟨bb,hz,rfl,aa⟩⟩
 have ab:((s.1.kind:Int)==5)=true:=by simp;omega
 have HK:=Qab hk;clear hk;go_enter func179,ntmps179;go_wp2_with fail;refine(QaF b _ _ _ rfl).mono ?_;rintro e w' ⟨rfl,rfl⟩;go_wp2_with fail;refine(Que _ _ (by have:=H.o.sz.1;omega)).mono ?_;rintro e w1 ⟨rfl,rfl⟩;generalize hC:Qe0 s.1.said=C;have HC:=Qab hC;clear hC;by_cases hc:C=0;rotate_left
 ·have HE:=Qab (QgE (l:=t.data.toList) (chk:=Qe0) HK.o (by rw[HC.o];exact hc));rw[HC.o]at HE;have hc':((C:Int)==0)=false:=by simp;omega
  clear hc;go_wp2_with fail;refine(Qbm b C _ _ t s.1 s.2 rv mc mt _ H.o.at_ rfl rfl).mono ?_;rintro e w2 ⟨⟨bb,hz,rfl,aa⟩,hm⟩;exact⟨rfl,Qap.err HE.o (Mod.of_below hm) ⟨bb,hz,rfl,aa⟩⟩
 subst hc;go_wp2_with fail;refine(QaF b _ _ _ (by rfl)).mono ?_;rintro e w' ⟨rfl,rfl⟩;go_wp2_with fail;refine(QcU b t s rv mc mt _ H.o).mono ?_;rintro e w2 (⟨y,hy,rfl,hc,hm⟩ | ⟨f,hf,⟨bb,hz,rfl,aa⟩,hm⟩)
 ·go_wp2;go_ret;exact Qap.ok (Qf6 HK.o HC.o hy) hm rfl hc
 ·exact⟨rfl,Qap.err (QeV HK.o HC.o hf) hm ⟨bb,hz,rfl,aa⟩⟩
theorem Qiv(p1 p2 g n c er:Nat)(zs:List (L8))(b:Nat)(t:ByteArray)(s:PS)(rv:Value)(mc mt:Nat)(w:World)(h:RC w b t s rv mc mt)(ho:QjD w p1 p2 g n c er zs) :
 Calls Tryz.prog 179 #[.pointer (some ⟨b,0,none⟩),.func (.func 190) #[] #[.pointer (some ⟨p1,0,none⟩),.pointer (some ⟨p2,0,none⟩)]] w (Qap (sL t.data.toList (QcL er zs) s) b t rv mc mt w Qtf):=by
 have h1:w.cell? ⟨b,1,none⟩=some (.int .i64 s.1.kind):=h.at_.cell 1;have h4:w.cell? ⟨b,4,none⟩=some (.string (Qaf s.1.said)):=h.at_.cell 4;have H:=Qab h;clear h;have HO:=Qab ho;clear ho;by_cases hk:s.1.kind=5;rotate_left
 ·have HE:=Qab (Qeg (l:=t.data.toList) (chk:=(QcL er zs)) hk);have ab:((s.1.kind:Int)==5)=false:=by simp;omega
  clear hk;go_enter func179,ntmps179;go_wp2_with fail;refine(Qbm b 4 _ _ t s.1 s.2 rv mc mt _ H.o.at_ rfl rfl).mono ?_;rintro e w1 ⟨⟨bb,hz,rfl,aa⟩,hm⟩;exact⟨rfl,Qap.err HE.o (Mod.of_below hm) ⟨bb,hz,rfl,aa⟩⟩
 have ab:((s.1.kind:Int)==5)=true:=by simp;omega
 have HK:=Qab hk;clear hk;go_enter func179,ntmps179;go_wp2_with fail;refine(QaF b _ _ _ rfl).mono ?_;rintro e w' ⟨rfl,rfl⟩;go_wp2_with fail;refine(Qlh p1 p2 g n c er zs _ _ HO.o).mono ?_;rintro e w1 ⟨rfl,rfl⟩;generalize hC:(QcL er zs) s.1.said=C;have HC:=Qab hC;clear hC;by_cases hc:C=0;rotate_left
 ·have HE:=Qab (QgE (l:=t.data.toList) (chk:=(QcL er zs)) HK.o (by rw[HC.o];exact hc));rw[HC.o]at HE;have hc':((C:Int)==0)=false:=by simp;omega
  clear hc;go_wp2_with fail;refine(Qbm b C _ _ t s.1 s.2 rv mc mt _ H.o.at_ rfl rfl).mono ?_;rintro e w2 ⟨⟨bb,hz,rfl,aa⟩,hm⟩;exact⟨rfl,Qap.err HE.o (Mod.of_below hm) ⟨bb,hz,rfl,aa⟩⟩
 subst hc;go_wp2_with fail;refine(QaF b _ _ _ (by rfl)).mono ?_;rintro e w' ⟨rfl,rfl⟩;go_wp2_with fail;refine(QcU b t s rv mc mt _ H.o).mono ?_;rintro e w2 (⟨y,hy,rfl,hc,hm⟩ | ⟨f,hf,⟨bb,hz,rfl,aa⟩,hm⟩)
 ·go_wp2;go_ret;exact Qap.ok (Qf6 HK.o HC.o hy) hm rfl hc
 ·exact⟨rfl,Qap.err (QeV HK.o HC.o hf) hm ⟨bb,hz,rfl,aa⟩⟩
theorem QkQ(q p1 p2 g n c er:Nat)(zs:List (L8))(b:Nat)(t:ByteArray)(s:PS)(rv:Value)(mc mt:Nat)(w:World)(h:RC w b t s rv mc mt)(ho:QhS w q p1 p2 g n c er zs) :
 Calls Tryz.prog 179 #[.pointer (some ⟨b,0,none⟩),.func (.func 189) #[] #[.pointer (some ⟨q,0,none⟩)]] w (Qap (sL t.data.toList (QdA (QcL er zs)) s) b t rv mc mt w Qtf):=by
 have h1:w.cell? ⟨b,1,none⟩=some (.int .i64 s.1.kind):=h.at_.cell 1;have h4:w.cell? ⟨b,4,none⟩=some (.string (Qaf s.1.said)):=h.at_.cell 4;have H:=Qab h;clear h;have HO:=Qab ho;clear ho;by_cases hk:s.1.kind=5;rotate_left
 ·have HE:=Qab (Qeg (l:=t.data.toList) (chk:=(QdA (QcL er zs))) hk);have ab:((s.1.kind:Int)==5)=false:=by simp;omega
  clear hk;go_enter func179,ntmps179;go_wp2_with fail;refine(Qbm b 4 _ _ t s.1 s.2 rv mc mt _ H.o.at_ rfl rfl).mono ?_;rintro e w1 ⟨⟨bb,hz,rfl,aa⟩,hm⟩;exact⟨rfl,Qap.err HE.o (Mod.of_below hm) ⟨bb,hz,rfl,aa⟩⟩
 have ab:((s.1.kind:Int)==5)=true:=by simp;omega
 have HK:=Qab hk;clear hk;go_enter func179,ntmps179;go_wp2_with fail;refine(QaF b _ _ _ rfl).mono ?_;rintro e w' ⟨rfl,rfl⟩;go_wp2_with fail;refine(Qn1 q p1 p2 g n c er zs _ _ HO.o (by have:=H.o.sz.1;omega)).mono ?_;rintro e w1 ⟨rfl,hb⟩;have H1:=Qab (H.o.below hb);have HB:=Qab (Mod.of_below (b:=b) hb);have h4:w1.cell? ⟨b,4,none⟩=some (.string (Qaf s.1.said)):=H1.o.at_.cell 4;clear hb;generalize hC:(QdA (QcL er zs)) s.1.said=C;have HC:=Qab hC;clear hC;by_cases hc:C=0;rotate_left
 ·have HE:=Qab (QgE (l:=t.data.toList) (chk:=(QdA (QcL er zs))) HK.o (by rw[HC.o];exact hc));rw[HC.o]at HE;have hc':((C:Int)==0)=false:=by simp;omega
  clear hc;go_wp2_with fail;refine(Qbm b C _ _ t s.1 s.2 rv mc mt _ H1.o.at_ rfl rfl).mono ?_;rintro e w2 ⟨⟨bb,hz,rfl,aa⟩,hm⟩;exact⟨rfl,Qap.err HE.o (HB.o.trans (Mod.of_below hm)) ⟨bb,Nat.le_trans HB.o.size hz,rfl,aa⟩⟩
 subst hc;go_wp2_with fail;refine(QaF b _ _ _ (by rfl)).mono ?_;rintro e w' ⟨rfl,rfl⟩;go_wp2_with fail;refine(QcU b t s rv mc mt _ H1.o).mono ?_;rintro e w2 (⟨y,hy,rfl,hc,hm⟩ | ⟨f,hf,⟨bb,hz,rfl,aa⟩,hm⟩)
 ·go_wp2;go_ret;exact Qap.ok (Qf6 HK.o HC.o hy) (HB.o.trans hm) rfl hc
 ·exact⟨rfl,Qap.err (QeV HK.o HC.o hf) (HB.o.trans hm) ⟨bb,Nat.le_trans HB.o.size hz,rfl,aa⟩⟩
end Go.Proofs.YtgnkjijocdmniaaGreatDoor
