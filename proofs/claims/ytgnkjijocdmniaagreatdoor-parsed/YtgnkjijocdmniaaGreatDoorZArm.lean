import Derived.Test.YtgnkjijocdmniaaGreatDoorSize
namespace Go.Proofs.YtgnkjijocdmniaaGreatDoor
set_option linter.unusedVariables false
set_option linter.unusedSimpArgs false
set_option maxRecDepth 100000
set_option maxHeartbeats 4000000
section
open Go.RowKit
attribute [local go_sem ↓] Go.wp_at_zero Go.wp_at_succ
theorem keep_any (hw:List UInt8) (hp:Nat) (d:Int) (b:Nat) (t:ByteArray) (s:PS) (rv:Value) (mc mt:Nat) (w:World) (h:RC w b t s rv mc mt) :
 Calls Tryz.prog 121 #[.pointer (some ⟨b,0,none⟩),headV hw hp,.int .i64 d] w (RPost (passL t.data.toList [[59]] s) b t rv mc mt w (fun _ _ v=>v=.iface 269 (.agg #[.string (strA hw),.int .i64 hp,.int .i64 1,.string ⟨#[]⟩]))):=by
 have H:=hide h
 have hlt:=h.at_.lt
 clear h
 unfold headV
 go_enter Tryz.func121,Tryz.ntmps121
 go_wp2_with fail
 have HP:=hide (pass_any b (w.heap.size+1) 1 1 [[59]] t s rv mc mt _ ((H.out.alloc (.cells #[.string (strA hw),.int .i64 hp] 216)).alloc (.cells (tcells [[59]]).toArray 9)) (txt_newAt _ _ (by simp)) rfl (by decide))
 refine HP.out.mono ?_
 intro e w1 h1
 rcases h1.cases with ⟨y,v,hy,rfl,hv,hc,hm⟩ | ⟨f,hf,⟨bb,hz,rfl,hcc⟩,hm⟩
 rotate_left
 ·exact ⟨rfl,RPost.err hf ((((Mod.refl b w).alloc _).alloc _).trans hm) ⟨bb,by simp at hz;omega,rfl,hcc⟩⟩
 unfold numV at hv
 subst hv
 have hhb:=blk_mod (g:=w.heap.size) (o:=.cells #[.string (strA hw),.int .i64 hp] 216) (blk_alloc (blk_new _ _)) hm (by omega)
 have hh0:w1.cell? ⟨w.heap.size,0,none⟩=some (.string (strA hw)):=blk_cell hhb 0
 have hh1:w1.cell? ⟨w.heap.size,1,none⟩=some (.int .i64 hp):=blk_cell hhb 1
 have HY:=hide hy
 have HC:=hide hc
 have HM:=hide ((((Mod.refl b w).alloc _).alloc _).trans hm)
 clear h1 hy hc hm hhb HP
 go_wp2
 go_ret
 exact RPost.ok HY.out HM.out rfl HC.out
theorem discard_any (hw:List UInt8) (hp:Nat) (d:Int) (b:Nat) (t:ByteArray) (s:PS) (rv:Value) (mc mt:Nat) (w:World) (h:RC w b t s rv mc mt) :
 Calls Tryz.prog 122 #[.pointer (some ⟨b,0,none⟩),headV hw hp,.int .i64 d] w (RPost (passL t.data.toList [[59]] s) b t rv mc mt w (fun _ _ v=>v=.iface 294 (.agg #[.string (strA hw),.int .i64 hp]))):=by
 have H:=hide h
 have hlt:=h.at_.lt
 clear h
 unfold headV
 go_enter Tryz.func122,Tryz.ntmps122
 go_wp2_with fail
 have HP:=hide (pass_any b (w.heap.size+1) 1 1 [[59]] t s rv mc mt _ ((H.out.alloc (.cells #[.string (strA hw),.int .i64 hp] 216)).alloc (.cells (tcells [[59]]).toArray 9)) (txt_newAt _ _ (by simp)) rfl (by decide))
 refine HP.out.mono ?_
 intro e w1 h1
 rcases h1.cases with ⟨y,v,hy,rfl,hv,hc,hm⟩ | ⟨f,hf,⟨bb,hz,rfl,hcc⟩,hm⟩
 rotate_left
 ·exact ⟨rfl,RPost.err hf ((((Mod.refl b w).alloc _).alloc _).trans hm) ⟨bb,by simp at hz;omega,rfl,hcc⟩⟩
 unfold numV at hv
 subst hv
 have hhb:=blk_mod (g:=w.heap.size) (o:=.cells #[.string (strA hw),.int .i64 hp] 216) (blk_alloc (blk_new _ _)) hm (by omega)
 have hh0:w1.cell? ⟨w.heap.size,0,none⟩=some (.string (strA hw)):=blk_cell hhb 0
 have hh1:w1.cell? ⟨w.heap.size,1,none⟩=some (.int .i64 hp):=blk_cell hhb 1
 have HY:=hide hy
 have HC:=hide hc
 have HM:=hide ((((Mod.refl b w).alloc _).alloc _).trans hm)
 clear h1 hy hc hm hhb HP
 go_wp2
 go_ret
 exact RPost.ok HY.out HM.out rfl HC.out
theorem stop_any (hw:List UInt8) (hp:Nat) (d:Int) (b:Nat) (t:ByteArray) (s:PS) (rv:Value) (mc mt:Nat) (w:World) (h:RC w b t s rv mc mt) :
 Calls Tryz.prog 123 #[.pointer (some ⟨b,0,none⟩),headV hw hp,.int .i64 d] w (RPost (passL t.data.toList [[59]] s) b t rv mc mt w (fun _ _ v=>v=.iface 295 (.agg #[.string (strA hw),.int .i64 hp]))):=by
 have H:=hide h
 have hlt:=h.at_.lt
 clear h
 unfold headV
 go_enter Tryz.func123,Tryz.ntmps123
 go_wp2_with fail
 have HP:=hide (pass_any b (w.heap.size+1) 1 1 [[59]] t s rv mc mt _ ((H.out.alloc (.cells #[.string (strA hw),.int .i64 hp] 216)).alloc (.cells (tcells [[59]]).toArray 9)) (txt_newAt _ _ (by simp)) rfl (by decide))
 refine HP.out.mono ?_
 intro e w1 h1
 rcases h1.cases with ⟨y,v,hy,rfl,hv,hc,hm⟩ | ⟨f,hf,⟨bb,hz,rfl,hcc⟩,hm⟩
 rotate_left
 ·exact ⟨rfl,RPost.err hf ((((Mod.refl b w).alloc _).alloc _).trans hm) ⟨bb,by simp at hz;omega,rfl,hcc⟩⟩
 unfold numV at hv
 subst hv
 have hhb:=blk_mod (g:=w.heap.size) (o:=.cells #[.string (strA hw),.int .i64 hp] 216) (blk_alloc (blk_new _ _)) hm (by omega)
 have hh0:w1.cell? ⟨w.heap.size,0,none⟩=some (.string (strA hw)):=blk_cell hhb 0
 have hh1:w1.cell? ⟨w.heap.size,1,none⟩=some (.int .i64 hp):=blk_cell hhb 1
 have HY:=hide hy
 have HC:=hide hc
 have HM:=hide ((((Mod.refl b w).alloc _).alloc _).trans hm)
 clear h1 hy hc hm hhb HP
 go_wp2
 go_ret
 exact RPost.ok HY.out HM.out rfl HC.out
end
section
open Go.RowKit
attribute [local go_sem ↓] Go.wp_at_zero Go.wp_at_succ
def actL (l:List UInt8) (s:PS):Except Flt (List UInt8×PS):=thenL (stringL l (fun _=>0) s) fun x s1=>semi l s1 x
theorem act1_any (hw:List UInt8) (hp:Nat) (d:Int) (pr pk kd:Nat) (b:Nat) (t:ByteArray) (s:PS) (rv:Value) (mc mt:Nat) (w:World) (h:RC w b t s rv mc mt) (hpr:PrAt w pr b) (hpk:w.cell? ⟨pk,0,none⟩=some (.int .i64 kd)) (hpkb:pk≠b) :
 Calls Tryz.prog 178 #[headV hw hp,.int .i64 d,.pointer (some ⟨pr,0,none⟩),.pointer (some ⟨pk,0,none⟩)] w (RPost (actL t.data.toList s) b t rv mc mt w (fun x _ v=>v=.iface 269 (.agg #[.string (strA hw),.int .i64 hp,.int .i64 kd,.string (strA x)]))):=by
 have hlt:=hpr.lt
 have hb:=h.at_.lt
 have h':(w.alloc (.cells #[.string (strA hw),.int .i64 hp] 216)).cell? ⟨pr,0,none⟩=some (.pointer (some ⟨b,0,none⟩)):=by rw [World.cell?_alloc_past _ _ _ hlt];exact hpr.1
 have H:=hide h
 have HPR:=hide hpr
 have HPK:=hide hpk
 clear h hpr
 unfold headV
 go_enter Tryz.func178,Tryz.ntmps178
 go_wp2_with fail
 refine (string_anything b t s rv mc mt _ (H.out.alloc _)).mono ?_
 intro e w1 h1
 rcases h1.cases with ⟨y,v,hy,rfl,hv,hc,hm⟩ | ⟨f,hf,⟨bb,hz,rfl,hcc⟩,hm⟩
 rotate_left
 ·exact ⟨rfl,RPost.err (thenL_err hf) (((Mod.refl b w).alloc _).trans hm) ⟨bb,by simp at hz;omega,rfl,hcc⟩⟩
 unfold strV at hv
 subst hv
 have HY:=hide hy
 have HC:=hide hc
 have HM:=hide (((Mod.refl b w).alloc (.cells #[.string (strA hw),.int .i64 hp] 216)).trans hm)
 have HH:=hide (blk_mod (g:=w.heap.size) (blk_new w (.cells #[.string (strA hw),.int .i64 hp] 216)) hm (by omega))
 have hp1:=(HPR.out.mod HM.out).1
 clear h1 hy hc hm h' hpk
 go_wp2_with fail
 have HP:=hide (pass_any b w1.heap.size 1 1 [[59]] t y.2 rv mc mt _ (HC.out.alloc (.cells (tcells [[59]]).toArray 9)) (txt_newAt _ _ rfl) rfl (by decide))
 refine HP.out.mono ?_
 intro e w2 h2
 rcases h2.cases with ⟨y2,v2,hy2,rfl,hv2,hc2,hm2⟩ | ⟨f,hf,⟨bb,hz,rfl,hcc⟩,hm2⟩
 rotate_left
 ·exact ⟨rfl,RPost.err ((thenL_ok HY.out).trans (thenL_err hf)) ((HM.out.alloc _).trans hm2) ⟨bb,Nat.le_trans (HM.out.alloc _).size hz,rfl,hcc⟩⟩
 unfold numV at hv2
 subst hv2
 have hhb:=blk_mod (blk_alloc HH.out) hm2 (by omega)
 have hh0:w2.cell? ⟨w.heap.size,0,none⟩=some (.string (strA hw)):=blk_cell hhb 0
 have hh1:w2.cell? ⟨w.heap.size,1,none⟩=some (.int .i64 hp):=blk_cell hhb 1
 have HY2:=hide hy2
 have HC2:=hide hc2
 have HM2:=hide ((HM.out.alloc (.cells (tcells [[59]]).toArray 9)).trans hm2)
 have hk2:=cell_mod HPK.out HM2.out hpkb
 clear h2 hy2 hc2 hm2 hhb HP hp1
 go_wp2
 go_ret
 exact RPost.ok ((thenL_ok HY.out).trans (thenL_ok HY2.out)) HM2.out rfl HC2.out
end
section
open Go.RowKit
theorem Tryz.infoCommand:(Tryz.prog.info? 179).map (fun i=>(i.zero,i.size,i.bytes))=some (some .nilIface,1,16):=by kernel_rfl
def blX {α:Type} (X:Nat→Prop) (P:(Nat→Prop)→α→World→Value→Prop) (xs:List α) (w:World) (v:Value):Prop:=
 (xs=[]∧v=.slice none 0 0)∨(xs≠[]∧trX X P xs w v)
theorem blX.keep {α:Type} {X:Nat→Prop} {P:(Nat→Prop)→α→World→Value→Prop} (hP:TreeP P) {xs:List α} {w w':World} {v:Value} (h:blX X P xs w v) (hm:AbvX X w w'):blX X P xs w' v:=by
 rcases h with h | ⟨h1,h2⟩
 ·exact Or.inl h
 ·exact Or.inr ⟨h1,h2.keep hP hm⟩
theorem blX.weak {α:Type} {X Y:Nat→Prop} {P:(Nat→Prop)→α→World→Value→Prop} (hP:TreeP P) {xs:List α} {w:World} {v:Value} (h:blX X P xs w v) (hB:∀ k,X k→k < w.heap.size→Y k):blX Y P xs w v:=by
 rcases h with h | ⟨h1,h2⟩
 ·exact Or.inl h
 ·exact Or.inr ⟨h1,trX.weak hP h1 h2 hB⟩
theorem blX.of_owns {α:Type} {P:(Nat→Prop)→α→World→Value→Prop} (hP:TreeP P) {w:World} {base n:Nat} {e:TypeId} {v:Value} {xs:List α} {vs:List Value} (h:w.ownsRow base e 1 v n vs) (hn:n=xs.length) (hnil:xs=[]→v=.slice none 0 0) (hr:RowP (fun a u=>Gath P base w v a u) xs vs):blX (fromB base) P xs w v:=by
 by_cases hx:xs=[]
 ·exact Or.inl ⟨hx,hnil hx⟩
 ·exact Or.inr ⟨hx,trX.of_owns hP h hn hx hr⟩
theorem blX.form {α:Type} {X:Nat→Prop} {P:(Nat→Prop)→α→World→Value→Prop} {xs:List α} {w:World} {v:Value} (h:blX X P xs w v):∃ a n c,v=.slice a n c:=by
 rcases h with ⟨_,h⟩ | ⟨_,h⟩
 ·exact ⟨_,_,_,h⟩
 ·obtain ⟨g,n,c,h⟩:=h.form
  exact ⟨_,_,_,h⟩
theorem blockMore_mayErr {α:Type} {l:List UInt8} {sub:PS→Except Flt (α×PS)} {f:Nat} {acc:List α} {s:PS} {e:Flt} (h:mayL l [[125]] s=.error e):blockMore l sub (f+1) acc s=.error e:=by rw [blockMore];exact thenL_err h
theorem blockMore_end {α:Type} {l:List UInt8} {sub:PS→Except Flt (α×PS)} {f:Nat} {acc:List α} {s:PS} {y:Nat×PS} (h:mayL l [[125]] s=.ok y) (h1:¬ y.1=0):blockMore l sub (f+1) acc s=.ok (acc,y.2):=by rw [blockMore,thenL_ok h,if_neg h1]
theorem blockMore_subErr {α:Type} {l:List UInt8} {sub:PS→Except Flt (α×PS)} {f:Nat} {acc:List α} {s:PS} {y:Nat×PS} {e:Flt} (h:mayL l [[125]] s=.ok y) (h1:y.1=0) (h2:sub y.2=.error e):blockMore l sub (f+1) acc s=.error e:=by rw [blockMore,thenL_ok h,if_pos h1];exact thenL_err h2
theorem blockMore_go {α:Type} {l:List UInt8} {sub:PS→Except Flt (α×PS)} {f:Nat} {acc:List α} {s:PS} {y:Nat×PS} {z:α×PS} (h:mayL l [[125]] s=.ok y) (h1:y.1=0) (h2:sub y.2=.ok z):blockMore l sub (f+1) acc s=blockMore l sub f (acc++[z.1]) z.2:=by rw [blockMore,thenL_ok h,if_pos h1];exact thenL_ok h2
theorem brace_ne:∀ z∈([[125]]:List (List UInt8)),z≠[]:=by decide
theorem block_any {α:Type} (sub:PS→Except Flt (α×PS)) (P:(Nat→Prop)→α→World→Value→Prop) (d:Int) (b F:Nat) (t:ByteArray) (s:PS) (rv:Value) (mc mt:Nat) (w:World) (h:RC w b t s rv mc mt) (hF:2*t.size+1 < F) (hP:TreeP P) (hS:SubMu t.size sub) (ho:SubOk 143 w b t rv mc mt d sub P) :
 Calls Tryz.prog 184 #[.pointer (some ⟨b,0,none⟩),.int .i64 d] w (RPost (blockL t.data.toList F sub s) b t rv mc mt w (blX (fromB w.heap.size) P)):=by
 have H:=hide h
 have HO:=hide ho
 have HP:=hide hP
 have HSM:=hide hS
 have hlt:=h.at_.lt
 clear h ho hP hS
 obtain ⟨i0,hi,hz0,hz1,hz2⟩:=info_parts Tryz.infoCommand
 go_enter Tryz.func184,Tryz.ntmps184
 go_wp2_with fail
 have hp1:=hide (pass_any b w.heap.size 1 1 [[123]] t s rv mc mt _ (H.out.alloc (.cells (tcells [[123]]).toArray 9)) (txt_newAt _ _ rfl) rfl (by decide))
 refine hp1.out.mono ?_
 intro e w1 h1
 rcases h1.cases with ⟨y,v,hy,rfl,hv,hc,hm⟩ | ⟨f,hf,⟨bb,hz,rfl,hcc⟩,hm⟩
 rotate_left
 ·exact ⟨rfl,RPost.err (thenL_err hf) (((Mod.refl b w).alloc _).trans hm) ⟨bb,by simp at hz;omega,rfl,hcc⟩⟩
 unfold numV at hv
 subst hv
 have HY:=hide hy
 have HC:=hide hc
 have HM1:=hide (((Mod.refl b w).alloc (.cells (tcells [[123]]).toArray 9)).trans hm)
 have hmuL:=HC.out.mu_le
 have hmuF:=HC.out.mu_lt hF
 clear h1 hy hc hm hp1
 go_wp2_with fail
 go_loopw [5] (fun v wr=>∃ (s':PS) (acc:List α) (vs:List Value) (f:Nat),wr.ownsRow w.heap.size 179 1 v acc.length vs∧RowP (fun a u=>Gath P w.heap.size wr v a u) acc vs∧(acc=[]→v=.slice none 0 0)∧RC wr b t s' rv mc mt∧Mod b w wr∧mu t.size s' < f∧acc.length+mu t.size s'≤1300∧blockL t.data.toList F sub s=blockMore t.data.toList sub f acc s') (fun _ wr=>muW wr b t.size)
 case atStart=>
  exact ⟨y.2,[],[],F,World.ownsRow_nil _ _ _ _,trivial,fun _=>rfl,HC.out,HM1.out,hmuF,by simp;omega,thenL_ok HY.out⟩
 case round=>
  obtain ⟨s',acc,vs,f,hown,hrow,hnil,hrc,hmod,hf,hbd,hsp⟩:=hrel
  obtain ⟨f,rfl⟩:∃ g,f=g+1:=⟨f - 1,by omega⟩
  have HR:=hide hrc
  have HMr:=hide hmod
  have HSP:=hide hsp
  have HOW:=hide hown
  have HRW:=hide hrow
  have HNL:=hide hnil
  have hwr:w.heap.size≤wr.heap.size:=hmod.size
  clear hrc hmod hsp hown hrow hnil HC HY hmuL hmuF
  go_wp2_with fail
  refine (may_any b wr.heap.size 1 1 [[125]] t s' rv mc mt _ (HR.out.alloc _) (txt_alloc wr [[125]] _ _ rfl) rfl (by decide)).mono ?_
  intro e w3 h3
  rcases h3.cases with ⟨y3,v3,hy3,rfl,hv3,hc3,hm3⟩ | ⟨f3,hf3,⟨bb,hz,rfl,hcc⟩,hm3⟩
  rotate_left
  ·exact ⟨rfl,RPost.err (HSP.out.trans (blockMore_mayErr hf3)) ((HMr.out.alloc _).trans hm3) ⟨bb,by simp at hz;omega,rfl,hcc⟩⟩
  have hmu3:=mayL_mu (l:=t.data.toList) (by simpa using HR.out.le) HR.out.e0 brace_ne hy3
  rw [bal] at hmu3
  replace hmu3:=hmu3.1
  have hA3:=((Mod.refl b wr).alloc (.cells #[.string ⟨#[125]⟩] 9)).trans hm3
  have HM3:=hide (HMr.out.trans hA3)
  have HY3:=hide hy3
  have HC3:=hide hc3
  have HO3:=hide (ownsRow_mod (b:=b) HOW.out hA3 (by omega))
  have HW3:=hide (HRW.out.imp (fun a u hu=>Gath.mod HP.out (b:=b) (w':=w3) hu hA3 (by omega)))
  unfold numV at hv3
  subst hv3
  clear h3 hy3 hc3 hm3 hA3
  by_cases h1:y3.1=0
  rotate_left
  ·have h1':((y3.1:Int) == 0)=false:=by simp;omega
   have H1:=hide h1
   have HT:=hide (blX.of_owns HP.out HO3.out rfl HNL.out HW3.out)
   clear h1
   go_wp2
   go_ret
   exact RPost.ok (HSP.out.trans (blockMore_end HY3.out H1.out)) HM3.out HT.out HC3.out
  have h1':((y3.1:Int) == 0)=true:=by simp;omega
  have H1:=hide h1
  clear h1
  go_wp2_with fail
  refine (HO.out _ y3.2 HM3.out HC3.out).mono ?_
  intro e w4 h4
  rcases h4.cases with ⟨z4,v4,hy4,rfl,hv4,hc4,hm4⟩ | ⟨f4,hf4,⟨bb,hz,rfl,hcc⟩,hm4⟩
  rotate_left
  ·exact ⟨rfl,RPost.err (HSP.out.trans (blockMore_subErr HY3.out H1.out hf4)) (HM3.out.trans hm4) ⟨bb,Nat.le_trans HM3.out.size hz,rfl,hcc⟩⟩
  have hmu4:=HSM.out y3.2 z4 HC3.out.le HC3.out.e0 hy4
  have HV4:=hide hv4
  obtain ⟨ty4,x4,rfl⟩:=HP.out.form _ _ _ _ hv4
  have HM4:=hide (HM3.out.trans hm4)
  have HY4:=hide hy4
  have HC4:=hide hc4
  have hown4:=ownsRow_mod (b:=b) HO3.out hm4 (by omega)
  have HW4:=hide (HW3.out.imp (fun a u hu=>Gath.mod HP.out (b:=b) (w':=w4) hu hm4 (by omega)))
  have hlt3:=hide (fun k hk=>(HO3.out.lt k hk).2)
  have HG4:=hide (Gath.new HP.out (base:=w.heap.size) HV4.out HM3.out.size hlt3.out)
  have hz4:w.heap.size≤w4.heap.size:=HM4.out.size
  clear h4 hy4 hc4 hm4 hv4
  go_wp2_with (at_builtin;refine wpList_append_own_at _ rfl _ _ 89 rfl w.heap.size 179 i0 .nilIface 1 16 Tryz.underlying89 hi hz0 hz1 hz2 rfl (by decide) _ _ _ rfl (hown4.alloc _) ⟨w4.heap.size,0,none⟩ 1 1 [.iface ty4 x4] rfl rfl ?c1 ?c2 ?c3 ?c4 ?c5 ?_)
  case c1=>
   intro j u hj
   match j,hj with
   | 0,hj=>simp at hj;subst hj;simp [Addr.add]
  case c2=>intro u hu;simp at hu;subst hu;rfl
  case c3=>unfold maxLen;omega
  case c4=>omega
  case c5=>simp;omega
  ·intro v' w5 hown5 hgrow _ hat
   have hrow:∀ k,(u5).ownBlock=some k→w.heap.size≤k:=fun k hk=>(hown4.lt k hk).1
   have HM5:=hide ((HM4.out.alloc (Obj.cells #[.iface ty4 x4] 179)).grown hgrow (fun k hk=>by have:=hrow k hk;omega))
   have HC5:=hide ((HC4.out.alloc (Obj.cells #[.iface ty4 x4] 179)).grown hgrow (fun k hk=>by have:=hrow k hk;omega))
   have HO5:=hide hown5
   have HR5:=hide (RowP.snoc (P:=fun a u=>Gath P w.heap.size w5 v' a u) (HG4.out.grown HP.out hgrow hat) (HW4.out.imp (fun a u hu=>Gath.grown HP.out hu hgrow hat)))
   have hmw:muW w5 b t.size < muW wr b t.size:=by rw [HC5.out.muEq,HR.out.muEq];omega
   have HMW:=hide hmw
   clear hown5 hgrow hmw hown4 hrow hat
   go_wp2
   go_roundw
   case rel=>exact ⟨z4.2,acc++[z4.1],vs++[.iface ty4 x4],f,by simpa using HO5.out,HR5.out,fun hh=>absurd hh (by simp),HC5.out,HM5.out,by omega,by simp;omega,HSP.out.trans (blockMore_go HY3.out H1.out HY4.out)⟩
   case measure=>exact HMW.out
end
section
open Go.RowKit
def armV {α β:Type} (X:Nat→Prop) (P1:(Nat→Prop)→β→World→Value→Prop) (P2:(Nat→Prop)→α→World→Value→Prop) (a:β×List α) (w:World) (v:Value):Prop:=
 ∃ u bv,v=.agg #[u,bv]∧P1 X a.1 w u∧blX X P2 a.2 w bv
theorem fromB_not {b B:Nat} (h:b < B):¬ fromB B b:=by unfold fromB;omega
theorem arm_any {α β:Type} (tst:PS→Except Flt (β×PS)) (P1:(Nat→Prop)→β→World→Value→Prop) (sub:PS→Except Flt (α×PS)) (P2:(Nat→Prop)→α→World→Value→Prop) (d:Int) (b F:Nat) (t:ByteArray) (s:PS) (rv:Value) (mc mt:Nat) (w:World) (h:RC w b t s rv mc mt) (hF:2*t.size+1 < F) (hd0:0≤d) (hd1:d≤100) (hP1:TreeP P1) (hP2:TreeP P2) (hS:SubMu t.size sub) (ho1:SubOk 186 w b t rv mc mt (d+1) tst P1) (ho2:SubOk 143 w b t rv mc mt (d+1) sub P2) :
 Calls Tryz.prog 183 #[.pointer (some ⟨b,0,none⟩),.int .i64 d] w (RPost (armL t.data.toList F tst sub s) b t rv mc mt w (armV (fromB w.heap.size) P1 P2)):=by
 have H:=hide h
 have HO1:=hide ho1
 have HO2:=hide ho2
 have HP1:=hide hP1
 have HP2:=hide hP2
 have HSM:=hide hS
 have hlt:=h.at_.lt
 clear h ho1 ho2 hP1 hP2 hS
 go_enter Tryz.func183,Tryz.ntmps183
 go_wp2_with fail
 have HM0:=hide ((Mod.refl b w).alloc (.cells #[.nilIface,.slice none 0 0] 298))
 refine (HO1.out _ s HM0.out (H.out.alloc _)).mono ?_
 intro e w1 h1
 rcases h1.cases with ⟨y,v,hy,rfl,hv,hc,hm⟩ | ⟨f,hf,⟨bb,hz,rfl,hcc⟩,hm⟩
 rotate_left
 ·exact ⟨rfl,RPost.err (thenL_err hf) (HM0.out.trans hm) ⟨bb,by simp at hz;omega,rfl,hcc⟩⟩
 have HV:=hide hv
 obtain ⟨ty,x,rfl⟩:=HP1.out.form _ _ _ _ hv
 have HY:=hide hy
 have HC:=hide hc
 have HM1:=hide (HM0.out.trans hm)
 have HR1:=hide (blk_mod (blk_new w (.cells #[.nilIface,.slice none 0 0] 298)) hm (by omega))
 have hz1:w.heap.size < w1.heap.size:=blk_lt HR1.out
 clear h1 hy hc hm hv
 go_wp2_with fail
 refine (block_any sub P2 (d+1) b F t y.2 rv mc mt _ HC.out hF HP2.out HSM.out (HO2.out.mod HM1.out)).mono ?_
 intro e w2 h2
 rcases h2.cases with ⟨z,v2,hy2,rfl,hv2,hc2,hm2⟩ | ⟨f,hf,⟨bb,hz,rfl,hcc⟩,hm2⟩
 rotate_left
 ·exact ⟨rfl,RPost.err ((thenL_ok HY.out).trans (thenL_err hf)) (HM1.out.trans hm2) ⟨bb,Nat.le_trans HM1.out.size hz,rfl,hcc⟩⟩
 have HV2:=hide hv2
 obtain ⟨ba,bn,bc,rfl⟩:=hv2.form
 have HV1:=hide (HP1.out.keep _ _ _ _ _ HV.out (hm2.abvX (fromB_not (by simp;omega))))
 have HY2:=hide hy2
 have HC2:=hide hc2
 have HM2:=hide (HM1.out.trans hm2)
 have HR2:=hide (blk_mod HR1.out hm2 (by omega))
 have r0:w2.cell? ⟨w.heap.size,0,none⟩=some .nilIface:=blk_cell HR2.out 0
 have r1:w2.cell? ⟨w.heap.size,1,none⟩=some (.slice none 0 0):=blk_cell HR2.out 1
 have rf:=blk_frozen HR2.out
 clear h2 hy2 hc2 hm2 hv2
 go_wp2
 have hq1:¬ fromB (w.heap.size+1) w.heap.size:=by unfold fromB;omega
 have hq2:¬ fromB w1.heap.size w.heap.size:=by unfold fromB;omega
 have HV1':=HV1.out
 rw [show (w.alloc (.cells #[.nilIface,.slice none 0 0] 298)).heap.size=w.heap.size+1 from by simp] at HV1'
 refine bodyPost_ret (v:=.agg #[.iface ty x,.slice ba bn bc]) (by simp [results,Tryz.results183,go_sem,r0,r1]) rfl (RPost.ok ((thenL_ok HY.out).trans (thenL_ok HY2.out)) ((HM2.out.setNew (Nat.le_refl _) _ _).setNew (Nat.le_refl _) _ _) ⟨_,_,rfl,?_,?_⟩ ((HC2.out.setNew hlt _ _).setNew hlt _ _))
 ·exact HP1.out.weak _ _ _ _ _ (HP1.out.keep _ _ _ _ _ (HP1.out.keep _ _ _ _ _ HV1' (AbvX.set hq1 _ _)) (AbvX.set hq1 _ _)) (fun k hk _=>by unfold fromB at *;omega)
 ·exact blX.weak HP2.out ((HV2.out.keep HP2.out (AbvX.set hq2 _ _)).keep HP2.out (AbvX.set hq2 _ _)) (fun k hk _=>by unfold fromB at *;omega)
end
end Go.Proofs.YtgnkjijocdmniaaGreatDoor
