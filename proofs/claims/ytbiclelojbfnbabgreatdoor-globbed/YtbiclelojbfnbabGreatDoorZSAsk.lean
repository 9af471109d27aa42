import Derived.Deep.RegionLaw
import Derived.Deep.AppendLies
import Derived.Test.YtbiclelojbfnbabGreatDoorMFit
import Derived.Test.YtbiclelojbfnbabGreatDoorZSText
import Derived.Test.YtbiclelojbfnbabGreatDoorZScanAll
namespace Go.Proofs.YtbiclelojbfnbabGreatDoor
set_option linter.unusedVariables false
set_option linter.unusedSimpArgs false
set_option maxRecDepth 100000
set_option maxHeartbeats 4000000
section
open Go.RowKit
attribute [local go_sem ↓] Go.wp_at_zero Go.wp_at_succ
theorem Qsp (l:List UInt8) (h:QdR l≠0):3+QdR l≤l.length:=by
 unfold QdR at h ⊢
 split at h
 ·next hc=>
  rw [if_pos hc]
  have h1:=congrArg List.length hc.2
  simp at h1
  omega
 ·exact absurd rfl h
theorem Qsn (s:SS) (l:List UInt8) (h:l≠[]):1≤(standL s l).2∧(standL s l).2≤l.length:=by
 have hp:=List.length_pos_iff.2 h
 by_cases hv:QdR l=0
 ·rw [(Qf1 hv).2];omega
 ·rw [(Qhs hv).2];have:=Qsp l hv;omega
theorem Qrc {M:Msg} {s:SS} (b:SBd M s) (l:List UInt8):(standL s l).1.length≤100000:=by
 by_cases hv:QdR l=0
 ·rw [(Qf1 hv).1];simp;omega
 ·rw [(Qhs hv).1]
  generalize (l.drop 2).take (QdR l)=x
  unfold QiK
  split
  ·exact Nat.zero_le _
  ·split
   ·next c r _=>
    rw [List.getD_eq_getElem?_getD]
    cases hg:s.told[c.toNat - 48]? with
    | none=>exact Nat.zero_le _
    | some t=>exact b.told t (List.mem_of_getElem? hg)
   ·next c r _=>
    cases hg:s.vals (smallL (c :: r)) with
    | none=>exact Nat.zero_le _
    | some t=>have:=b.vals _ t hg;show t.length≤_;omega
theorem QjI {s:SS} {n:Nat} {l acc:List UInt8} (h:¬ (l≠[]∧acc.length < 1024)):expF s n l acc=acc:=by
 cases n with
 | zero=>rfl
 | succ n=>unfold expF;rw [if_neg h]
theorem QkD {s:SS} {n:Nat} {l acc:List UInt8} (h:l≠[]∧acc.length < 1024):expF s (n+1) l acc=expF s n (l.drop (standL s l).2) (acc++(standL s l).1.take (1024 - acc.length)):=by
 rw [expF,if_pos h]
theorem QoZ (x y:List UInt8):Qes x++Qes y=Qes (x++y):=by simp [Qes]
theorem QeY {B:Nat} {u w w':World} {row:Option Nat} (h:Below B u w) (hg:w.grownBy w' row) (hB:B≤w.heap.size) (hr:∀ k,row=some k→B≤k):Below B u w':=
 ⟨hg.os.trans h.os,hg.tape.trans h.tape,hg.output.trans h.output,Nat.le_trans h.size hg.size,fun k hk=>by
  rw [hg.block k (by omega) (fun e=>by have:=hr k e.symm;omega)]
  exact h.block k hk⟩
structure TxI (w:World) (s:SS) (x:List UInt8) (k:Nat) (acc:List UInt8) (v:Value) (wr:World):Prop where
 kl:k≤x.length
 al:acc.length≤1024
 own:wr.ownsRow w.heap.size 5 1 v acc.length (Qes acc)
 bl:Below w.heap.size w wr
 ex:∃ F,x.length - k < F∧expF s (x.length+1) x []=expF s F (x.drop k) acc
theorem QjB (B sb:Nat) (M:Msg) (s:SS) (x:List UInt8) (w:World) (h:SAt w B sb M s) (hl:x.length≤1000000) :
 Calls Tryz.prog 226 #[.pointer (some ⟨sb,0,none⟩),.string (Qag x)] w fun e w'=>e=.returned (.string (Qag (expL s x)))∧Below w.heap.size w w':=by
 have HS:=Qaa h
 obtain ⟨hv,mb,tv,mv,h⟩:=h
 have c4:w.cell? ⟨sb,4,none⟩=some (.bool s.vs):=h.cell 4
 have hbd:=h.bd
 have HBD:=Qaa hbd
 clear h hbd
 cases hvs:s.vs
 ·have he:expL s x=x:=by unfold expL;rw [hvs];rfl
  have HE:=Qaa he
  rw [hvs] at c4
  clear he
  go_enter Tryz.func226,Tryz.ntmps226
  go_wp2
  go_ret
  exact ⟨by rw [HE.out];rfl,Below.refl _ _⟩
 have he:expL s x=expF s (x.length+1) x []:=by unfold expL;rw [if_pos hvs]
 have HE:=Qaa he
 rw [hvs] at c4
 have hz:=QaD x
 obtain ⟨i0,hi,hz0,hz1,hz2⟩:=info_parts Tryz.infoU8
 clear he hvs
 go_enter Tryz.func226,Tryz.ntmps226
 go_wp2
 go_loopw [5,6,7,8] (fun v a _ _ wr=>∃ (k:Nat) (acc:List UInt8),a=.int .i64 (k:Int)∧TxI w s x k acc v wr) (fun _ a _ _ _=>x.length - (intOf a).toNat)
 case atStart=>exact ⟨0,[],rfl,Nat.zero_le _,Nat.zero_le _,World.ownsRow_nil _ _ _ _,Below.refl _ _,x.length+1,by omega,rfl⟩
 case round=>
  obtain ⟨k,acc,rfl,hI⟩:=hrel
  have HI:=Qaa hI
  have hkl:=hI.kl
  have hal:=hI.al
  have hwr:=hI.bl.size
  obtain ⟨va,vc,hvv⟩:=QaN hI.own
  subst hvv
  have HO:=Qaa hI.own
  clear hI
  by_cases hlt:k < x.length
  rotate_left
  ·have hk:¬ (k:Int) < (x.length:Int):=by omega
   have HR:Hid (expL s x=acc):=by
    obtain ⟨F,hF,hx⟩:=HI.out.ex
    show _=_
    rw [HE.out,hx,List.drop_of_length_le (by omega)]
    exact QjI (fun h=>h.1 rfl)
   have hcv:=Qep wr _ _ acc HO.out
   go_wp2
   go_ret
   exact ⟨by rw [HR.out];rfl,HI.out.bl⟩
  have hk:(k:Int) < (x.length:Int):=by omega
  by_cases ha:acc.length < 1024
  rotate_left
  ·have ha':¬ (acc.length:Int) < 1024:=by omega
   have HR:Hid (expL s x=acc):=by
    obtain ⟨F,hF,hx⟩:=HI.out.ex
    show _=_
    rw [HE.out,hx]
    exact QjI (fun h=>ha h.2)
   have hcv:=Qep wr _ _ acc HO.out
   go_wp2
   go_ret
   exact ⟨by rw [HR.out];rfl,HI.out.bl⟩
  have ha':(acc.length:Int) < 1024:=by omega
  have hex:=Qdo x k
  have hdl:(x.drop k).length=x.length - k:=by simp
  have hne:x.drop k≠[]:=fun e=>by rw [e] at hdl;simp at hdl;omega
  have hsl:=Qsn s (x.drop k) hne
  have hst:=Qrc HBD.out (x.drop k)
  have hdl6:(x.drop k).length≤1000000:=by omega
  rw [hdl] at hsl
  have HX:Hid (∃ F,x.length - (k+(standL s (x.drop k)).2) < F∧expF s (x.length+1) x []=expF s F (x.drop (k+(standL s (x.drop k)).2)) (acc++(standL s (x.drop k)).1.take (1024 - acc.length))):=by
   obtain ⟨F,hF,hx⟩:=HI.out.ex
   obtain ⟨F',rfl⟩:∃ F',F=F'+1:=⟨F - 1,by omega⟩
   refine ⟨F',by omega,?_⟩
   rw [hx,QkD ⟨hne,ha⟩,List.drop_drop]
  have HC:Hid (∀ W,Below wr.heap.size wr W→Calls Tryz.prog 246 #[.pointer (some ⟨sb,0,none⟩),.string (Qag (x.drop k))] W fun e w'=>e=.returned (.tuple #[.string (Qag (standL s (x.drop k)).1),.int .i64 ((standL s (x.drop k)).2:Nat)])∧Below W.heap.size W w'):=fun W hW=>
   Qlw B sb M s (x.drop k) W (HS.out.below (HI.out.bl.trans (hW.mono HI.out.bl.size))) hne hdl6
  generalize standL s (x.drop k)=p at *
  obtain ⟨st,n⟩:=p
  dsimp only at hsl hst HX HC
  obtain ⟨hs1,hs2⟩:=hsl
  obtain ⟨y,hy⟩:∃ y,x.drop k=y:=⟨_,rfl⟩
  rw [hy] at hex HC
  have hsz:=QaD st
  have hk0:(0:Int)≤(k:Int):=by omega
  have hkx:(k:Int)≤(x.length:Int):=by omega
  have hkn:IntKind.i64.wrap ((k:Int)+(n:Int))=(k:Int)+(n:Int):=by rw [IntKind.wrap_i64];omega
  obtain ⟨z,hzz⟩:∃ z,st.take (1024 - acc.length)=z:=⟨_,rfl⟩
  have hzl:z.length≤1024 - acc.length:=by rw [← hzz];simp;omega
  have HZL:=Qaa hzl
  obtain ⟨q,hq0⟩:∃ q:Nat,q=min st.length (1024 - acc.length):=⟨_,rfl⟩
  have hq:min (st.length:Int) (1024 - (acc.length:Int))=(q:Int):=by omega
  have hq1:(q:Int)≤(st.length:Int):=by omega
  have hex2:(Qag st).extract 0 q=Qag z:=by
   rw [Qbk,← hzz,hq0]
   congr 1
   rcases Nat.le_total st.length (1024 - acc.length) with hh | hh
   ·rw [Nat.min_eq_left hh,List.take_of_length_le (Nat.le_refl _),List.take_of_length_le hh]
   ·rw [Nat.min_eq_right hh]
  rw [hzz] at HX
  clear hzz hdl hdl6 hne hy hzl hq0
  go_wp2_with (first | (go_at_call 246;refine (HC.out _ (Below.refl _ _)).mono ?_;rintro e w1 ⟨rfl,hb1⟩;have HB1:=Qaa (HI.out.bl.trans (hb1.mono hwr));have HO1:=Qaa (Qa8 (P:=fun _ _=>False) HO.out (Fr.of_below hb1) (fun _ _ h=>h));clear hb1) | (at_builtin;refine Lib.wpList_append_own_string w1 rfl _ _ 244 9 rfl w.heap.size 5 i0 Tryz.underlying244 Tryz.underlying9 hi hz0 hz1 hz2 _ _ _ rfl HO1.out (Qag z) rfl (by rw [QaD];unfold maxLen;have:=HZL.out;omega) (by rw [QaD];have:=HZL.out;omega) HB1.out.size ?_;intro v5 w5 ho5 hg5 _;have HB5:=Qaa (QeY HB1.out hg5 HB1.out.size (fun k hk=>(HO1.out.lt k hk).1));have HO5:=Qaa ho5;clear ho5 hg5))
  go_roundw
  case rel=>
   refine ⟨k+n,acc++z,by go_num,by omega,by rw [List.length_append];have:=HZL.out;omega,?_,HB5.out,HX.out⟩
   rw [List.length_append,← QoZ]
   exact HO5.out
  case measure=>simp [intOf];omega
end
section
open Go.RowKit
attribute [local go_sem ↓] Go.wp_at_zero Go.wp_at_succ
theorem Qje (v:List UInt8) (key:List (Nat×UInt8)) (pl:List Nat) (k:Nat):(toldTo v key pl k).length≤k+1:=by
 induction k with
 | zero=>exact Nat.le_refl _
 | succ k ih=>rw [toldTo,List.length_append];split <;> simp <;> omega
theorem QnE (v:List UInt8) (key:List (Nat×UInt8)) (pl:List Nat) (k:Nat) (hk:k < key.length) (h:key[k].1≠0):toldTo v key pl (k+1)=toldTo v key pl k++[(v.drop (pl.getD k 0)).take (pl.getD (k+1) 0 - pl.getD k 0)]:=by
 rw [toldTo,if_neg]
 rw [List.getD_eq_getElem?_getD,List.getElem?_eq_getElem hk]
 exact h
theorem Qmm (v:List UInt8) (key:List (Nat×UInt8)) (pl:List Nat) (k:Nat) (hk:k < key.length) (h:key[k].1=0):toldTo v key pl (k+1)=toldTo v key pl k:=by
 rw [toldTo,if_pos,List.append_nil]
 rw [List.getD_eq_getElem?_getD,List.getElem?_eq_getElem hk]
 exact h
theorem Qna (s:ByteArray) (x y:Nat):s.extract x y=Qag ((s.data.toList.drop x).take (y - x)):=by
 apply ByteArray.ext
 apply Array.ext'
 simp [Qag,List.take_drop]
theorem Qar {B:Nat} {u w:World} (h:Below B u w):Below B u w.drew:=⟨h.os,h.tape,h.output,h.size,h.block⟩
theorem QkN (x:ByteArray):∀ u∈[Value.string x],u.oneCell'=true:=by
 intro u hu
 simp at hu
 subst hu
 rfl
theorem Qld (s:ByteArray) (key:List (Nat×UInt8)) (kv:Value) (base gp:Nat) (pl:List Nat) (w:World) (hs:s.size≤1000000) (hkl:key.length≤1000000) (hk:w.ownsRow base 350 2 kv key.length (Qci key)) (hp:w.heap[gp]?=some (.cells (Qez pl) 3)) (hpl:pl.length=key.length+1) (hup:∀ i,i < key.length→pl.getD i 0≤pl.getD (i+1) 0∧pl.getD (i+1) 0≤s.size) :
 Calls Tryz.prog 225 #[.string s,kv,.slice (some ⟨gp,0,none⟩) (key.length+1) (key.length+1)] w fun e w'=>∃ v,e=.returned v∧w'.ownsRow w.heap.size 9 1 v (toldTo s.data.toList key pl key.length).length (QaV (toldTo s.data.toList key pl key.length))∧Below w.heap.size w w':=by
 obtain ⟨ka,kc,hkv⟩:∃ ka kc,kv=.slice ka key.length kc:=by
  rcases hk.2 with ⟨h,h2⟩ | ⟨g,cap,cur,h,_⟩
  ·exact ⟨none,0,by rw [h,h2]⟩
  ·exact ⟨_,_,h⟩
 subst hkv
 have HK:Hid (∀ j,j < key.length→∃ g,ka=some ⟨g,0,none⟩∧g < w.heap.size∧Qt2 w g key):=by
  intro j hj
  rcases hk.2 with ⟨h,h2⟩ | ⟨g,cap,cur,h,hb,hg,_⟩
  ·omega
  ·injection h with h1 h2 h3
   subst h1 h3
   exact ⟨g,rfl,QaM hg,Qt2.of_owns hk⟩
 have HP:=Qaa hp
 have hgp:=QaM hp
 obtain ⟨i0,hi,hz0,hz1,hz2⟩:=info_parts Tryz.infoStr
 clear hk hp
 go_enter Tryz.func225,Tryz.ntmps225
 go_wp2_with fail
 go_loopw [7,14] (fun l i wr=>∃ (k:Nat),k≤key.length∧i=.int .i64 (k:Int)∧wr.ownsRow w.heap.size 9 1 l (toldTo s.data.toList key pl k).length (QaV (toldTo s.data.toList key pl k))∧Below w.heap.size w wr) (fun _ i _=>key.length - (intOf i).toNat)
 case atStart=>
  refine ⟨0,Nat.zero_le _,by go_num,?_,(Below.refl _ _).alloc (Nat.le_refl _) _⟩
  exact World.ownsRow_lit (e:=9) (size:=1) w #[.string s] 1 (Nat.le_refl _) (by unfold maxLen;omega) rfl
 case round=>
  obtain ⟨k,hkk,rfl,hown,hB⟩:=hrel
  have hwr:w.heap.size≤wr.heap.size:=hB.size
  have hlen:=Qje s.data.toList key pl k
  have HB:=Qaa hB
  have HOW:=Qaa hown
  clear hB hown
  by_cases hlt:k < key.length
  rotate_left
  ·have hke:k=key.length:=by omega
   subst hke
   have hk':¬ (key.length:Int) < (key.length:Int):=by omega
   go_wp2
   go_ret
   exact ⟨_,rfl,HOW.out,HB.out⟩
  obtain ⟨g,rfl,hgl,hPc⟩:=HK.out k hlt
  obtain ⟨hp1,hp2⟩:=hPc k hlt
  have c1:wr.cell? ⟨g,k*2,none⟩=some (.int .i64 key[k].1):=by rw [HB.out.cell (p:=⟨g,k*2,none⟩) hgl];exact hp1
  have c2:wr.cell? ⟨g,k*2+1,none⟩=some (.int .u8 key[k].2.toNat):=by rw [HB.out.cell (p:=⟨g,k*2+1,none⟩) hgl];exact hp2
  have hk':(k:Int) < (key.length:Int):=by omega
  have hgr:g < wr.heap.size:=Nat.lt_of_lt_of_le hgl hwr
  have hpr:gp < wr.heap.size:=Nat.lt_of_lt_of_le hgp hwr
  clear hPc hp1 hp2
  by_cases h0:key[k].1=0
  ·have ek:((key[k].1:Int) != 0)=false:=by rw [h0];rfl
   have HS:=Qaa (Qmm s.data.toList key pl k hlt h0)
   go_wp2
   go_roundw
   case rel=>exact ⟨k+1,by omega,by go_num,by rw [HS.out];exact HOW.out.alloc _,HB.out.alloc hwr _⟩
   case measure=>simp [intOf];omega
  ·have ek:((key[k].1:Int) != 0)=true:=by simp;omega
   have HS:=Qaa (QnE s.data.toList key pl k hlt h0)
   obtain ⟨hu1,hu2⟩:=hup k hlt
   have hpb:wr.heap[gp]?=some (.cells (Qez pl) 3):=by rw [HB.out.block gp hgp];exact HP.out
   obtain ⟨x,hx⟩:∃ x,pl.getD k 0=x:=⟨_,rfl⟩
   obtain ⟨y,hy⟩:∃ y,pl.getD (k+1) 0=y:=⟨_,rfl⟩
   have hxe:pl[k]?=some x:=by rw [List.getElem?_eq_getElem (by omega),← hx,List.getD_eq_getElem?_getD,List.getElem?_eq_getElem (show k < pl.length by omega)];rfl
   have hye:pl[k+1]?=some y:=by rw [List.getElem?_eq_getElem (by omega),← hy,List.getD_eq_getElem?_getD,List.getElem?_eq_getElem (show k+1 < pl.length by omega)];rfl
   rw [hx,hy] at HS hu1
   rw [hy] at hu2
   obtain ⟨W,hW⟩:∃ W,W=wr.alloc (.cells #[.int .i64 key[k].1,.int .u8 key[k].2.toNat] 350):=⟨_,rfl⟩
   have hWs:W.heap.size=wr.heap.size+1:=by rw [hW];simp
   have HWB:Hid (Below w.heap.size w W):=by rw [hW];exact HB.out.alloc hwr _
   have HWO:Hid (W.ownsRow w.heap.size 9 1 u7 (toldTo s.data.toList key pl k).length (QaV (toldTo s.data.toList key pl k))):=by rw [hW];exact HOW.out.alloc _
   have hpW:W.heap[gp]?=some (.cells (Qez pl) 3):=by rw [hW];exact Qad hpb
   have p1:W.cell? ⟨gp,k,none⟩=some (.int .i64 (x:Int)):=by rw [Qab hpW];simp [Qez,hxe]
   have p2:W.cell? ⟨gp,k+1,none⟩=some (.int .i64 (y:Int)):=by rw [Qab hpW];simp [Qez,hye]
   have hex:s.extract x y=Qag ((s.data.toList.drop x).take (y - x)):=Qna s x y
   have hxs:x≤s.size:=by omega
   have hb1:(k:Int) < (key.length:Int)+1:=by omega
   have hwp:IntKind.i64.wrap ((k:Int)+1)=(k:Int)+1:=by rw [IntKind.wrap_i64];omega
   have hb2:(k:Int)+1 < (key.length:Int)+1:=by omega
   have hb3:(0:Int)≤(k:Int)+1:=by omega
   have hb4:(x:Int)≤(y:Int):=by omega
   have hb5:(y:Int)≤(s.size:Int):=by omega
   obtain ⟨z,hz⟩:∃ z,(s.data.toList.drop x).take (y - x)=z:=⟨_,rfl⟩
   rw [hz] at HS hex
   have hone:=HWO.out
   generalize hT:toldTo s.data.toList key pl k=T at *
   clear hpb hpW HOW HB hx hy hxe hye hz hone
   go_wp2_with fail
   rw [← hW]
   clear hW
   go_region_law (refine step_append_lies _ rfl (.tmp 22) (.tmp 34) 89 rfl w.heap.size 9 i0 (.string ⟨#[]⟩) 1 16 Tryz.underlying89 hi hz0 hz1 hz2 rfl (by decide) u7 T.length (QaV T) (by simp [Act.eval,Act.put]) (HWO.out.alloc _) ⟨W.heap.size,0,none⟩ 1 1 [.string (Qag z)] (by simp [Act.eval,Act.put]) rfl (cell_one_new _ _ _) (QkN _) (by decide) (by unfold maxLen;omega) (by omega) (by simp;omega) _ rfl ?_;intro g' cap' w5 hown5 hgrow hat hlt5;have HB5:=Qaa (QbE (Qar HWB.out) (by show _≤W.heap.size;omega) hgrow (fun k hk=>(HWO.out.lt k hk).1));have HO5:=Qaa hown5;clear hown5 hgrow;skip)
   all_goals go_wp2
   all_goals refine ⟨⟨k+1,by omega,by go_num,?_,HB5.out⟩,by simp [intOf];omega⟩
   all_goals rw [HS.out,List.length_append,← Qcx]
   all_goals exact HO5.out
end
section
open Go.RowKit
attribute [local go_sem ↓] Go.wp_at_zero Go.wp_at_succ
theorem SlT.get {w:World} {v:Value} {zs:List (List UInt8)} (h:SlT w v zs) (j:Nat) (hj:j < zs.length):∃ g c,v=.slice (some ⟨g,0,none⟩) zs.length c∧g < w.heap.size∧w.cell? ⟨g,j,none⟩=some (.string (Qag zs[j])):=by
 rcases h with ⟨_,rfl⟩ | ⟨g,c,hv,ht⟩
 ·exact absurd hj (Nat.not_lt_zero _)
 ·refine ⟨g,c,hv,?_,?_⟩
  ·obtain ⟨cs,hb,_⟩:=ht;exact QaM hb
  ·have:=ht.at j hj
   rwa [List.getD_eq_getElem?_getD,List.getElem?_eq_getElem hj] at this
theorem SlT.get' {w:World} {la:Option Addr} {n lc:Nat} {zs:List (List UInt8)} (h:SlT w (.slice la n lc) zs) (j:Nat) (hj:j < zs.length):∃ g,la=some ⟨g,0,none⟩∧g < w.heap.size∧w.cell? ⟨g,j,none⟩=some (.string (Qag zs[j])):=by
 obtain ⟨g,c,hv,hg,hc⟩:=h.get j hj
 injection hv with h1 h2 h3
 exact ⟨g,h1,hg,hc⟩
theorem Qik.get' {w:World} {la:Option Addr} {n lc:Nat} {hs:List (List UInt8×List UInt8)} (h:Qik w (.slice la n lc) hs) (j:Nat) (hj:j < hs.length):∃ g,la=some ⟨g,0,none⟩∧g < w.heap.size∧w.cell? ⟨g,j*2,none⟩=some (.string (Qag hs[j].1))∧w.cell? ⟨g,j*2+1,none⟩=some (.string (Qag hs[j].2)):=by
 obtain ⟨g,c,hv,hg,hc⟩:=h.cells j hj
 injection hv with h1 h2 h3
 exact ⟨g,h1,hg,hc⟩
theorem Qjx {α β:Type} (f:α→β) (zs:List α) (k:Nat) (h:k < zs.length):(zs.take (k+1)).map f=(zs.take k).map f++[f zs[k]]:=by
 rw [List.take_succ_eq_append_getElem h,List.map_append];rfl
theorem QeK (B sb:Nat) (M:Msg) (s:SS) (zs:List (List UInt8)) (lv:Value) (w:World) (h:SAt w B sb M s) (hlv:SlT w lv zs) (hl:∀ z∈zs,z.length≤1000000) (hn:zs.length≤1000000) :
 Calls Tryz.prog 184 #[.pointer (some ⟨sb,0,none⟩),lv] w fun e w'=>∃ v,e=.returned v∧w'.ownsRow w.heap.size 9 1 v zs.length (QaV (zs.map (expL s)))∧Below w.heap.size w w':=by
 have HS:=Qaa h
 have HLV:=Qaa hlv
 obtain ⟨la,lc,hll⟩:=hlv.len
 subst hll
 obtain ⟨i0,hi,hz0,hz1,hz2⟩:=info_parts Tryz.infoStr
 clear h hlv
 go_enter Tryz.func184,Tryz.ntmps184
 go_wp2
 go_loopw [5,7,10] (fun v _ i wr=>∃ (k:Nat),k≤zs.length∧i=.int .i64 (k:Int)∧wr.ownsRow w.heap.size 9 1 v k (QaV ((zs.take k).map (expL s)))∧Below w.heap.size w wr) (fun _ _ i _=>zs.length - (intOf i).toNat)
 case atStart=>exact ⟨0,Nat.zero_le _,rfl,World.ownsRow_nil _ _ _ _,Below.refl _ _⟩
 case round=>
  obtain ⟨k,hk,rfl,hown,hB⟩:=hrel
  have hwr:w.heap.size≤wr.heap.size:=hB.size
  obtain ⟨va,vc,hvv⟩:=QaN hown
  subst hvv
  have HB:=Qaa hB
  have HOW:=Qaa hown
  clear hB hown
  by_cases hlt:k < zs.length
  rotate_left
  ·have hke:k=zs.length:=by omega
   subst hke
   have hk':¬ (zs.length:Int) < (zs.length:Int):=by omega
   go_wp2
   go_ret
   refine ⟨_,rfl,?_,HB.out⟩
   have:=HOW.out
   rw [List.take_of_length_le (Nat.le_refl _)] at this
   exact this
  have hk':(k:Int) < (zs.length:Int):=by omega
  obtain ⟨g,hla,hgl,hc⟩:=HLV.out.get' k hlt
  subst hla
  have c1:wr.cell? ⟨g,k,none⟩=some (.string (Qag zs[k])):=by rw [HB.out.cell (p:=⟨g,k,none⟩) hgl];exact hc
  have HC:Hid (∀ W,Below wr.heap.size wr W→Calls Tryz.prog 226 #[.pointer (some ⟨sb,0,none⟩),.string (Qag zs[k])] W fun e w'=>e=.returned (.string (Qag (expL s zs[k])))∧Below W.heap.size W w'):=fun W hW=>
   QjB B sb M s zs[k] W (HS.out.below (HB.out.trans (hW.mono HB.out.size))) (hl _ (List.getElem_mem hlt))
  have HT:=Qaa (Qjx (expL s) zs k hlt)
  generalize zs[k]=z at *
  generalize expL s z=y at *
  clear hc
  go_wp2_with (first | (go_at_call 226;refine (HC.out _ (Below.refl _ _)).mono ?_;rintro e w1 ⟨rfl,hb1⟩;have HB1:=Qaa (HB.out.trans (hb1.mono hwr));have HO1:=Qaa (Qa8 (P:=fun _ _=>False) HOW.out (Fr.of_below hb1) (fun _ _ h=>h));clear hb1) | (at_builtin;refine wpList_append_own _ rfl _ _ 89 rfl w.heap.size 9 i0 _ 1 16 Tryz.underlying89 hi hz0 hz1 hz2 rfl (by decide) _ _ _ rfl (HO1.out.alloc _) ⟨w1.heap.size,0,none⟩ 1 1 [.string (Qag y)] rfl rfl (cell_one_new _ _ _) (QkN _) (by unfold maxLen;omega) (by omega) (by have:=HB1.out.size;simp;omega) ?_;intro v5 w5 ho5 hg5 _;have HB5:=Qaa (QbE HB1.out HB1.out.size hg5 (fun k hk=>(HO1.out.lt k hk).1));have HO5:=Qaa ho5;clear ho5 hg5))
  go_roundw
  case rel=>
   refine ⟨k+1,by omega,by go_num,?_,HB5.out⟩
   rw [HT.out,← Qcx]
   exact HO5.out
  case measure=>simp [intOf];omega
end
section
open Go.RowKit
attribute [local go_sem ↓] Go.wp_at_zero Go.wp_at_succ
theorem Qn8 (x y:List UInt8):((Qag x).toList == (Qag y).toList)=decide (x=y):=by
 rw [show (Qag y).toList=y by rw [ByteArray.toList_eq];rfl]
 exact Qc1 x y
theorem QlQ (h:List UInt8×List UInt8) (n:List UInt8) (w:World) (h1:h.1.length≤1000000) (h2:n.length≤1000000) :
 Calls Tryz.prog 185 #[.agg #[.string (Qag h.1),.string (Qag h.2)],.string (Qag n)] w fun e w'=>e=.returned (.bool (Qb6 h n))∧Below w.heap.size w w':=by
 have he:=Qn8 (smallL h.1) (smallL n)
 have HN:Hid (Qb6 h n=decide (smallL h.1=smallL n)):=rfl
 generalize decide (smallL h.1=smallL n)=b at *
 have HA:=Qaa (QdZ h.1)
 have HB:=Qaa (QdZ n)
 generalize smallL h.1=x at *
 generalize smallL n=y at *
 go_enter Tryz.func185,Tryz.ntmps185
 go_wp2_with fail
 refine (HA.out _ h1).mono ?_
 rintro e w1 ⟨rfl,hb1⟩
 have HB1:=Qaa (((Below.refl w.heap.size w).alloc (Nat.le_refl _) _).trans (hb1.mono (by simp)))
 clear hb1
 go_wp2_with fail
 refine (HB.out _ h2).mono ?_
 rintro e w2 ⟨rfl,hb2⟩
 have HB2:=Qaa (HB1.out.trans (hb2.mono HB1.out.size))
 clear hb2
 go_wp2
 go_ret
 exact ⟨QaU (by rw [HN.out]),HB2.out⟩
theorem QlU (h:List UInt8×List UInt8) (n:List UInt8) (p:Nat) (w:World) (h1:h.1.length≤1000000) (h2:n.length≤1000000) (hp:w.cell? ⟨p,0,none⟩=some (.string (Qag n))) :
 Calls Tryz.prog 228 #[.agg #[.string (Qag h.1),.string (Qag h.2)],.pointer (some ⟨p,0,none⟩)] w fun e w'=>e=.returned (.bool (Qb6 h n))∧Below w.heap.size w w':=by
 have hpl:=Qay hp
 go_enter Tryz.func228,Tryz.ntmps228
 go_wp2_with fail
 refine (QlQ h n _ h1 h2).mono ?_
 rintro e w1 ⟨rfl,hb1⟩
 have HB1:=Qaa (((Below.refl w.heap.size w).alloc (Nat.le_refl _) _).trans (hb1.mono (by simp)))
 clear hb1
 go_wp2
 go_ret
 exact ⟨rfl,HB1.out⟩
end
end Go.Proofs.YtbiclelojbfnbabGreatDoor
