import Derived.Deep.RegionWith
import Derived.Deep.RegionHeld3
import Derived.Deep.DrawnRows
import Derived.Lib.AppendStr
import Derived.Test.YtbiclelojbfnbaaGreatDoorZCLand
import Derived.Test.YtbiclelojbfnbaaGreatDoorZCapital
import Derived.Test.YtbiclelojbfnbaaGreatDoorZQuote
import Derived.Test.YtbiclelojbfnbaaGreatDoorShelf
namespace Go.Proofs.YtbiclelojbfnbaaGreatDoor
set_option linter.unusedVariables false
set_option linter.unusedSimpArgs false
set_option maxRecDepth 100000
set_option maxHeartbeats 4000000
section
open Go.RowKit
attribute [local go_sem ↓] Go.wp_at_zero Go.wp_at_succ
theorem Qef (x:List UInt8) (w:World) (h:x.length≤1000000):Calls Tryz.prog 247 #[.string (Qad x)] w fun e w'=>e=.returned (.string (Qad (smallL x)))∧Below w.heap.size w w':=
 Qe8 (Qad x) w (by rw [Qat];omega)
theorem QmO (s:ByteArray) (w:World) (hs:s.size≤1000000) :
 Calls Tryz.prog 373 #[.string s] w fun e w'=>e=.returned (.int .i64 (nmLen s.data.toList))∧w'=w:=by
 have hm:s.size≤maxLen:=by unfold maxLen;omega
 by_cases h0:s.size=0
 ·have h0':=Qd3 h0
  have hr:nmLen s.data.toList=Qbc s.data.toList:=by rw [← ByteArray.toList_eq,h0'];rfl
  have HR:=Qab hr
  clear hr
  go_enter Tryz.func373,Tryz.ntmps373
  go_wp2_with (go_at_call 309;refine (Qb3 _ _ hm).mono ?_;rintro e w' ⟨rfl,rfl⟩)
  go_ret
  exact ⟨Qct (by rw [HR.out]),rfl⟩
 have h0':=QcI h0
 have h0'':s.toList.isEmpty=false:=by simpa using h0'
 have h1:0 < s.size:=by omega
 have hl:s.data.toList=s[0] :: s.data.toList.drop 1:=by have:=Qbv s 0 h1;rwa [List.drop_zero] at this
 cases hd:QaF (s[0].toNat:Int)
 ·have hr:nmLen s.data.toList=Qbc s.data.toList:=by
   rw [hl];exact if_neg (by rw [hd];decide)
  have HR:=Qab hr
  clear hr hl
  go_enter Tryz.func373,Tryz.ntmps373
  go_wp2_with (first | (go_at_call 309;refine (Qb3 _ _ hm).mono ?_;rintro e w' ⟨rfl,rfl⟩) | (go_at_call 288;refine (Qam _ _).mono ?_;rintro e w' ⟨rfl,rfl⟩))
  go_ret
  exact ⟨Qct (by rw [HR.out]),rfl⟩
 ·have hr:nmLen s.data.toList=1:=by
   rw [hl];exact if_pos hd
  have HR:=Qab hr
  clear hr hl
  go_enter Tryz.func373,Tryz.ntmps373
  go_wp2_with (first | (go_at_call 309;refine (Qb3 _ _ hm).mono ?_;rintro e w' ⟨rfl,rfl⟩) | (go_at_call 288;refine (Qam _ _).mono ?_;rintro e w' ⟨rfl,rfl⟩))
  go_ret
  exact ⟨Qct (by rw [HR.out];rfl),rfl⟩
theorem Tryz.zeroVal:∀ W,(zeroValue 443).run Tryz.prog W=.ok (.agg #[.string ⟨#[]⟩]) W:=by
 intro W
 have h:(Tryz.prog.info? 443).map (fun i=>i.zero)=some (some (.agg #[.string ⟨#[]⟩])):=by kernel_rfl
 cases hi:Tryz.prog.info? 443 with
 | none=>rw [hi] at h;cases h
 | some i=>
  rw [hi] at h
  simp at h
  simp [zeroValue,typeInfo,hi,h]
theorem Tryz.fieldVal (x:ByteArray) (W:World):(Instr.field 443 (.agg #[.string x]) 0).run Tryz.prog W=.ok (.string x) W:=by
 simp [Instr.field,run_underlying Tryz.underlying443,asAgg,Result.andThen,go_sem]
theorem Qtz (s:SS) (x:List UInt8):(Qnb s x).getD (.agg #[.string ⟨#[]⟩])=.agg #[.string (Qad ((s.vals x).getD []))]:=by
 unfold Qnb
 cases s.vals x <;> rfl
theorem Qrm (B sb:Nat) (M:Msg) (s:SS) (x:List UInt8) (w:World) (h:SAt w B sb M s) (hx:x≠[]) (hl:x.length≤1000000) :
 Calls Tryz.prog 374 #[.pointer (some ⟨sb,0,none⟩),.string (Qad x)] w fun e w'=>e=.returned (.string (Qad (QjY s x)))∧Below w.heap.size w w':=by
 obtain ⟨hv,mb,tv,mv,h⟩:=h
 obtain ⟨c,r,rfl⟩:∃ c r,x=c :: r:=by cases x with | nil=>exact absurd rfl hx | cons c r=>exact ⟨c,r,rfl⟩
 have hz:(Qad (c :: r)).size=r.length+1:=rfl
 have hg:(Qad (c :: r))[0]'(by rw [hz];omega)=c:=rfl
 have hl':r.length+1≤1000000:=hl
 have hub:=UInt8.toNat_lt c
 have c5:w.cell? ⟨sb,5,none⟩=some (.map (some mb)):=h.cell 5
 have c6:w.cell? ⟨sb,6,none⟩=some tv:=h.cell 6
 have hlt:=h.lt
 obtain ⟨ta,tc,htv⟩:=h.told.len
 subst htv
 obtain ⟨es,mc,hm,hu⟩:=h.mp
 cases hd:QaF (c.toNat:Int)
 ·have hv':QjY s (c :: r)=(s.vals (smallL (c :: r))).getD []:=if_neg (by rw [hd];decide)
  have HV:=Qab hv'
  have HL:Hid (∀ W,Below w.heap.size w W→(Instr.lookup 319 (.map (some mb)) (.string (Qad (smallL (c :: r)))) false).run Tryz.prog W=.ok (.agg #[.string (Qad ((s.vals (smallL (c :: r))).getD []))]) W):=fun W hW=>by
   rw [QsF Tryz.underlying319 Tryz.underlying9 Tryz.zeroVal (Qal hm hW) hu,Qtz]
  have hfl:=Tryz.fieldVal
  clear hv' h hm hu
  go_enter Tryz.func374,Tryz.ntmps374
  go_wp2_with (go_at_call 288;refine (Qam _ _).mono ?_;rintro e w' ⟨rfl,rfl⟩)
  go_region_held3 (fun w'=>w'.cell? ⟨sb,5,none⟩=some (.map (some mb))) (first | go_keep | exact d5) (first | (go_at_call 247;refine (Qef _ _ hl).mono ?_;rintro e w1 ⟨rfl,hb1⟩;have hb2:=Qa4 hb1;have HB1:=Qab hb2;have d5:w1.cell? ⟨sb,5,none⟩=some (.map (some mb)):=(hb2.cell (p:=⟨sb,5,none⟩) hlt).trans c5;have hlk:=HL.out w1 hb2;clear hb1 hb2;skip))
  all_goals go_wp2
  all_goals go_ret
  all_goals exact ⟨by rw [HV.out];rfl,HB1.out⟩
 ·have hv':QjY s (c :: r)=s.told.getD (c.toNat - 48) []:=if_pos hd
  have HV:=Qab hv'
  have hd':48≤(c.toNat:Int)∧(c.toNat:Int)≤57:=by unfold QaF at hd;simpa using hd
  obtain ⟨hd1,hd2⟩:=hd'
  obtain ⟨d,hdd⟩:∃ d:Nat,c.toNat=d+48:=⟨c.toNat - 48,by omega⟩
  have hd3:(c.toNat:Int) - 48=(d:Int):=by omega
  have hd4:d≤9:=by omega
  have htl:=h.bd.tl
  rw [hdd,Nat.add_sub_cancel] at HV
  clear hdd
  by_cases hlt2:d < s.told.length
  ·have hi:(d:Int) < (s.told.length:Int):=by omega
   obtain ⟨g,hta,hgl⟩:∃ g,ta=some ⟨g,0,none⟩∧w.cell? ⟨g,d,none⟩=some (.string (Qad (s.told.getD d []))):=by
    rcases h.told with ⟨h1,h2⟩ | ⟨g,cc,h1,h2⟩
    ·rw [h2] at hlt2;exact absurd hlt2 (Nat.not_lt_zero _)
    ·injection h1 with h3 h4 h5
     exact ⟨g,h3,h2.at d hlt2⟩
   subst hta
   obtain ⟨z,hzd⟩:∃ z,s.told.getD d []=z:=⟨_,rfl⟩
   rw [hzd] at HV hgl
   clear hv' h hm hu hzd
   go_enter Tryz.func374,Tryz.ntmps374
   go_wp2_with (go_at_call 288;refine (Qam _ _).mono ?_;rintro e w' ⟨rfl,rfl⟩)
   all_goals go_ret
   all_goals exact ⟨by rw [HV.out];rfl,Below.refl _ _⟩
  ·have hi:¬ (d:Int) < (s.told.length:Int):=by omega
   have hn:s.told.getD d []=[]:=by rw [List.getD_eq_getElem?_getD,List.getElem?_eq_none (by omega)];rfl
   have HN:=Qab hn
   clear hv' h hm hu hn
   go_enter Tryz.func374,Tryz.ntmps374
   go_wp2_with (go_at_call 288;refine (Qam _ _).mono ?_;rintro e w' ⟨rfl,rfl⟩)
   all_goals go_ret
   all_goals exact ⟨by rw [HV.out,HN.out];rfl,Below.refl _ _⟩
end
section
open Go.RowKit
attribute [local go_sem ↓] Go.wp_at_zero Go.wp_at_succ
theorem Qlf (l p:List UInt8):Lib.hasPrefix l p=decide (l.take p.length=p):=by
 unfold Lib.hasPrefix
 rw [Bool.eq_iff_iff]
 simp only [List.isPrefixOf_iff_prefix,decide_eq_true_eq]
 rw [List.prefix_iff_eq_take]
 exact ⟨fun h=>h.symm,fun h=>h.symm⟩
theorem QbZ (x:List UInt8) (n:Nat):(Qad x).extract 0 n=Qad (x.take n):=by
 apply ByteArray.ext
 apply Array.ext'
 simp [Qad]
theorem Qgd (x:List UInt8) (n:Nat):(Qad x).extract n x.length=Qad (x.drop n):=by
 apply ByteArray.ext
 apply Array.ext'
 simp [Qad]
 exact List.take_of_length_le (by simp)
theorem Qti (l:List UInt8):nmLen l≤l.length:=by
 cases l with
 | nil=>exact Nat.le_refl _
 | cons c r=>
  show (if QaF c.toNat then 1 else Qbc (c :: r))≤_
  split
  ·simp
  ·exact QdE _
theorem Qh0 {a b:List UInt8} {c d:Int} (h1:a=b) (h2:c=d):Ending.returned (.tuple #[.string (Qad a),.int .i64 c])=.returned (.tuple #[.string (Qad b),.int .i64 d]):=by rw [h1,h2]
theorem Qgv {s:SS} {x:List UInt8} (h:Qfc x=0):(standL s x).1=x.take 1∧(standL s x).2=1:=by
 unfold standL;rw [if_pos h];exact ⟨rfl,rfl⟩
theorem Qh6 {s:SS} {x:List UInt8} (h:Qfc x≠0):(standL s x).1=QjY s ((x.drop 2).take (Qfc x))∧(standL s x).2=3+Qfc x:=by
 unfold standL;rw [if_neg h];exact ⟨rfl,rfl⟩
theorem QlB (B sb:Nat) (M:Msg) (s:SS) (x:List UInt8) (w:World) (h:SAt w B sb M s) (hx:x≠[]) (hl:x.length≤1000000) :
 Calls Tryz.prog 356 #[.pointer (some ⟨sb,0,none⟩),.string (Qad x)] w fun e w'=>e=.returned (.tuple #[.string (Qad (standL s x).1),.int .i64 ((standL s x).2:Nat)])∧Below w.heap.size w w':=by
 have hz:=Qat x
 have hpos:0 < x.length:=List.length_pos_iff.2 hx
 have hpos':(1:Int)≤(x.length:Int):=by omega
 have hex:=QbZ x 1
 have hcp:=Qlf x [36,123]
 have HS:=Qab h
 by_cases hp:x.take 2=[36,123]
 rotate_left
 ·obtain ⟨e1,e2⟩:=Qgv (s:=s) (x:=x) (by unfold Qfc;rw [if_neg (fun h=>hp h.1)])
  have E1:=Qab e1
  have E2:=Qab e2
  rw [show ([36,123]:List UInt8).length=2 from rfl,decide_eq_false hp] at hcp
  have HC:=Qab hcp
  clear e1 e2 hp hcp h hx
  go_enter Tryz.func356,Tryz.ntmps356
  go_wp2_with (go_at_call 372;refine (Tryz.strings_CutPrefix _ _ _).mono ?_;rintro e w' ⟨rfl,rfl⟩;rw [show Lib.hasPrefix (Qad x).data.toList _=false from HC.out])
  go_ret2
  exact ⟨Qh0 E1.out.symm (by rw [E2.out];rfl),Below.refl _ _⟩
 have hd2:(x.drop 2).length=x.length - 2:=by simp
 have hlen2:2≤x.length:=by have:=congrArg List.length hp;simp at this;omega
 have htp:Lib.trimPrefix x [36,123]=x.drop 2:=by unfold Lib.trimPrefix;rw [Qlf,show ([36,123]:List UInt8).length=2 from rfl,decide_eq_true hp];rfl
 rw [show ([36,123]:List UInt8).length=2 from rfl,decide_eq_true hp] at hcp
 have hn:=Qti (x.drop 2)
 have hva:Qfc x=if ((x.drop 2).drop (nmLen (x.drop 2))).take 1=[125] then nmLen (x.drop 2) else 0:=by
  unfold Qfc
  by_cases hq:((x.drop 2).drop (nmLen (x.drop 2))).take 1=[125]
  ·rw [if_pos ⟨hp,hq⟩,if_pos hq]
  ·rw [if_neg (fun h=>hq h.2),if_neg hq]
 obtain ⟨y,hy⟩:∃ y,x.drop 2=y:=⟨_,rfl⟩
 rw [hy] at htp hd2 hn hva
 have hyl:y.length≤1000000:=by omega
 clear hd2
 have HC:=Qab hcp
 have HT:=Qab htp
 have hyz:=Qat y
 obtain ⟨n,hnn⟩:∃ n,nmLen y=n:=⟨_,rfl⟩
 rw [hnn] at hn hva
 have hnl:∀ W,Calls Tryz.prog 373 #[.string (Qad y)] W fun e w'=>e=.returned (.int .i64 (n:Int))∧w'=W:=fun W=>by
  have:=QmO (Qad y) W (by rw [Qat];omega)
  rw [show (Qad y).data.toList=y from rfl,hnn] at this
  exact this
 have HNL:=Qab hnl
 have hex1:=QbZ y n
 have hex2:=Qgd y n
 have hq:=Qlf (y.drop n) [125]
 rw [show ([125]:List UInt8).length=1 from rfl] at hq
 have hn1:(0:Int)≤(n:Int):=by omega
 have hn2:(n:Int)≤(y.length:Int):=by omega
 obtain ⟨nm,hnm⟩:∃ nm,y.take n=nm:=⟨_,rfl⟩
 have hnml:nm.length=n:=by rw [← hnm];simp;omega
 have hnz:=Qat nm
 rw [hnml] at hnz
 rw [hnm] at hex1
 obtain ⟨u,hu⟩:∃ u,y.drop n=u:=⟨_,rfl⟩
 rw [hu] at hex2 hq hva
 have HV:=Qab hva
 by_cases h0:n=0
 ·subst h0
  have hv0:Qfc x=0:=by rw [hva];split <;> rfl
  obtain ⟨e1,e2⟩:=Qgv (s:=s) (x:=x) hv0
  have E1:=Qab e1
  have E2:=Qab e2
  have hnm0:nm=[]:=List.eq_nil_of_length_eq_zero hnml
  subst hnm0
  clear e1 e2 hp hcp h hx htp hy hnl hva hv0 hnn hnm hq hu HV
  go_enter Tryz.func356,Tryz.ntmps356
  go_wp2_with (first | (go_at_call 372;refine (Tryz.strings_CutPrefix _ _ _).mono ?_;rintro e w' ⟨rfl,rfl⟩;rw [show Lib.hasPrefix (Qad x).data.toList _=true from HC.out,show Lib.trimPrefix (Qad x).data.toList _=y from HT.out,show (⟨y.toArray⟩:ByteArray)=Qad y from rfl]) | (go_at_call 373;refine (HNL.out _).mono ?_;rintro e w' ⟨rfl,rfl⟩))
  go_ret2
  exact ⟨Qh0 E1.out.symm (by rw [E2.out];rfl),Below.refl _ _⟩
 have hne:nm≠[]:=fun e=>h0 (by rw [← hnml,e];rfl)
 have hsz:¬ (Qad nm).size=0:=by omega
 have hnz1:=QcI hsz
 have hnz2:(Qad nm).toList.isEmpty=false:=by simpa using hnz1
 by_cases hq1:u.take 1=[125]
 ·rw [if_pos hq1] at hva
  rw [decide_eq_true hq1] at hq
  have HQ:=Qab hq
  obtain ⟨e1,e2⟩:=Qh6 (s:=s) (x:=x) (by rw [hva];exact h0)
  rw [hva] at e1 e2
  rw [hy,hnm] at e1
  have E1:=Qab e1
  have E2:=Qab e2
  have hnl6:nm.length≤1000000:=by omega
  clear e1 e2 hp hcp h hx htp hy hnl hva hnn hnm hq hu HV hq1
  go_enter Tryz.func356,Tryz.ntmps356
  go_wp2_with (first | (go_at_call 372;refine (Tryz.strings_CutPrefix _ _ _).mono ?_;rintro e w' ⟨rfl,rfl⟩;rw [show Lib.hasPrefix (Qad x).data.toList _=true from HC.out,show Lib.trimPrefix (Qad x).data.toList _=y from HT.out,show (⟨y.toArray⟩:ByteArray)=Qad y from rfl]) | (go_at_call 373;refine (HNL.out _).mono ?_;rintro e w' ⟨rfl,rfl⟩) | (go_at_call 301;refine (Tryz.strings_HasPrefix _ _ _).mono ?_;rintro e w' ⟨rfl,rfl⟩;rw [show Lib.hasPrefix (Qad u).data.toList _=true from HQ.out]) | (go_at_call 374;refine (Qrm B sb M s nm _ HS.out hne hnl6).mono ?_;rintro e w1 ⟨rfl,hb1⟩;have HB1:=Qab hb1;clear hb1))
  go_ret2
  exact ⟨Qh0 E1.out.symm (by rw [E2.out];omega),HB1.out⟩
 ·rw [if_neg hq1] at hva
  rw [decide_eq_false hq1] at hq
  have HQ:=Qab hq
  obtain ⟨e1,e2⟩:=Qgv (s:=s) (x:=x) hva
  have E1:=Qab e1
  have E2:=Qab e2
  clear e1 e2 hp hcp h hx htp hy hnl hva hnn hnm hq hu HV hq1
  go_enter Tryz.func356,Tryz.ntmps356
  go_wp2_with (first | (go_at_call 372;refine (Tryz.strings_CutPrefix _ _ _).mono ?_;rintro e w' ⟨rfl,rfl⟩;rw [show Lib.hasPrefix (Qad x).data.toList _=true from HC.out,show Lib.trimPrefix (Qad x).data.toList _=y from HT.out,show (⟨y.toArray⟩:ByteArray)=Qad y from rfl]) | (go_at_call 373;refine (HNL.out _).mono ?_;rintro e w' ⟨rfl,rfl⟩) | (go_at_call 301;refine (Tryz.strings_HasPrefix _ _ _).mono ?_;rintro e w' ⟨rfl,rfl⟩;rw [show Lib.hasPrefix (Qad u).data.toList _=false from HQ.out]))
  go_ret2
  exact ⟨Qh0 E1.out.symm (by rw [E2.out];rfl),Below.refl _ _⟩
end
section
open Go.RowKit
attribute [local go_sem ↓] Go.wp_at_zero Go.wp_at_succ
theorem Qs6 (l:List UInt8) (h:Qfc l≠0):3+Qfc l≤l.length:=by
 unfold Qfc at h ⊢
 split at h
 ·next hc=>
  rw [if_pos hc]
  have h1:=congrArg List.length hc.2
  simp at h1
  omega
 ·exact absurd rfl h
theorem QsL (s:SS) (l:List UInt8) (h:l≠[]):1≤(standL s l).2∧(standL s l).2≤l.length:=by
 have hp:=List.length_pos_iff.2 h
 by_cases hv:Qfc l=0
 ·rw [(Qgv hv).2];omega
 ·rw [(Qh6 hv).2];have:=Qs6 l hv;omega
theorem Qra {M:Msg} {s:SS} (b:SBd M s) (l:List UInt8):(standL s l).1.length≤100000:=by
 by_cases hv:Qfc l=0
 ·rw [(Qgv hv).1];simp;omega
 ·rw [(Qh6 hv).1]
  generalize (l.drop 2).take (Qfc l)=x
  unfold QjY
  split
  ·exact Nat.zero_le _
  ·split
   ·next c r _=>
    rw [List.getD_eq_getElem?_getD]
    cases hg:s.told[c.toNat - 48]? with
    | none=>exact Nat.zero_le _
    | some t=>exact b.told t (List.mem_of_getElem? hg)
   ·next c r _=>
    cases hg:s.vals (smallL (c :: r)) with
    | none=>exact Nat.zero_le _
    | some t=>have:=b.vals _ t hg;show t.length≤_;omega
theorem QkT {s:SS} {n:Nat} {l acc:List UInt8} (h:¬ (l≠[]∧acc.length < 1024)):Qp0 s n l acc=acc:=by
 cases n with
 | zero=>rfl
 | succ n=>unfold Qp0;rw [if_neg h]
theorem QmE {s:SS} {n:Nat} {l acc:List UInt8} (h:l≠[]∧acc.length < 1024):Qp0 s (n+1) l acc=Qp0 s n (l.drop (standL s l).2) (acc++(standL s l).1.take (1024 - acc.length)):=by
 rw [Qp0,if_pos h]
theorem Qqs (x y:List UInt8):Qei x++Qei y=Qei (x++y):=by simp [Qei]
theorem Qe6 {B:Nat} {u w w':World} {row:Option Nat} (h:Below B u w) (hg:w.grownBy w' row) (hB:B≤w.heap.size) (hr:∀ k,row=some k→B≤k):Below B u w':=
 ⟨hg.os.trans h.os,hg.tape.trans h.tape,hg.output.trans h.output,Nat.le_trans h.size hg.size,fun k hk=>by
  rw [hg.block k (by omega) (fun e=>by have:=hr k e.symm;omega)]
  exact h.block k hk⟩
structure TxI (w:World) (s:SS) (x:List UInt8) (k:Nat) (acc:List UInt8) (v:Value) (wr:World):Prop where
 kl:k≤x.length
 al:acc.length≤1024
 own:wr.ownsRow w.heap.size 5 1 v acc.length (Qei acc)
 bl:Below w.heap.size w wr
 ex:∃ F,x.length - k < F∧Qp0 s (x.length+1) x []=Qp0 s F (x.drop k) acc
theorem Qk7 (B sb:Nat) (M:Msg) (s:SS) (x:List UInt8) (w:World) (h:SAt w B sb M s) (hl:x.length≤1000000) :
 Calls Tryz.prog 329 #[.pointer (some ⟨sb,0,none⟩),.string (Qad x)] w fun e w'=>e=.returned (.string (Qad (expL s x)))∧Below w.heap.size w w':=by
 have HS:=Qab h
 obtain ⟨hv,mb,tv,mv,h⟩:=h
 have c4:w.cell? ⟨sb,4,none⟩=some (.bool s.vs):=h.cell 4
 have hbd:=h.bd
 have HBD:=Qab hbd
 clear h hbd
 cases hvs:s.vs
 ·have he:expL s x=x:=by unfold expL;rw [hvs];rfl
  have HE:=Qab he
  rw [hvs] at c4
  clear he
  go_enter Tryz.func329,Tryz.ntmps329
  go_wp2
  go_ret
  exact ⟨by rw [HE.out];rfl,Below.refl _ _⟩
 have he:expL s x=Qp0 s (x.length+1) x []:=by unfold expL;rw [if_pos hvs]
 have HE:=Qab he
 rw [hvs] at c4
 have hz:=Qat x
 obtain ⟨i0,hi,hz0,hz1,hz2⟩:=info_parts Tryz.infoU8
 clear he hvs
 go_enter Tryz.func329,Tryz.ntmps329
 go_wp2
 go_loopw [5,6,7,8] (fun v a _ _ wr=>∃ (k:Nat) (acc:List UInt8),a=.int .i64 (k:Int)∧TxI w s x k acc v wr) (fun _ a _ _ _=>x.length - (intOf a).toNat)
 case atStart=>exact ⟨0,[],rfl,Nat.zero_le _,Nat.zero_le _,World.ownsRow_nil _ _ _ _,Below.refl _ _,x.length+1,by omega,rfl⟩
 case round=>
  obtain ⟨k,acc,rfl,hI⟩:=hrel
  have HI:=Qab hI
  have hkl:=hI.kl
  have hal:=hI.al
  have hwr:=hI.bl.size
  obtain ⟨va,vc,hvv⟩:=QaL hI.own
  subst hvv
  have HO:=Qab hI.own
  clear hI
  by_cases hlt:k < x.length
  rotate_left
  ·have hk:¬ (k:Int) < (x.length:Int):=by omega
   have HR:Hid (expL s x=acc):=by
    obtain ⟨F,hF,hx⟩:=HI.out.ex
    show _=_
    rw [HE.out,hx,List.drop_of_length_le (by omega)]
    exact QkT (fun h=>h.1 rfl)
   have hcv:=Qdz wr _ _ acc HO.out
   go_wp2
   go_ret
   exact ⟨by rw [HR.out];rfl,HI.out.bl⟩
  have hk:(k:Int) < (x.length:Int):=by omega
  by_cases ha:acc.length < 1024
  rotate_left
  ·have ha':¬ (acc.length:Int) < 1024:=by omega
   have HR:Hid (expL s x=acc):=by
    obtain ⟨F,hF,hx⟩:=HI.out.ex
    show _=_
    rw [HE.out,hx]
    exact QkT (fun h=>ha h.2)
   have hcv:=Qdz wr _ _ acc HO.out
   go_wp2
   go_ret
   exact ⟨by rw [HR.out];rfl,HI.out.bl⟩
  have ha':(acc.length:Int) < 1024:=by omega
  have hex:=Qgd x k
  have hdl:(x.drop k).length=x.length - k:=by simp
  have hne:x.drop k≠[]:=fun e=>by rw [e] at hdl;simp at hdl;omega
  have hsl:=QsL s (x.drop k) hne
  have hst:=Qra HBD.out (x.drop k)
  have hdl6:(x.drop k).length≤1000000:=by omega
  rw [hdl] at hsl
  have HX:Hid (∃ F,x.length - (k+(standL s (x.drop k)).2) < F∧Qp0 s (x.length+1) x []=Qp0 s F (x.drop (k+(standL s (x.drop k)).2)) (acc++(standL s (x.drop k)).1.take (1024 - acc.length))):=by
   obtain ⟨F,hF,hx⟩:=HI.out.ex
   obtain ⟨F',rfl⟩:∃ F',F=F'+1:=⟨F - 1,by omega⟩
   refine ⟨F',by omega,?_⟩
   rw [hx,QmE ⟨hne,ha⟩,List.drop_drop]
  have HC:Hid (∀ W,Below wr.heap.size wr W→Calls Tryz.prog 356 #[.pointer (some ⟨sb,0,none⟩),.string (Qad (x.drop k))] W fun e w'=>e=.returned (.tuple #[.string (Qad (standL s (x.drop k)).1),.int .i64 ((standL s (x.drop k)).2:Nat)])∧Below W.heap.size W w'):=fun W hW=>
   QlB B sb M s (x.drop k) W (HS.out.below (HI.out.bl.trans (hW.mono HI.out.bl.size))) hne hdl6
  generalize standL s (x.drop k)=p at *
  obtain ⟨st,n⟩:=p
  dsimp only at hsl hst HX HC
  obtain ⟨hs1,hs2⟩:=hsl
  obtain ⟨y,hy⟩:∃ y,x.drop k=y:=⟨_,rfl⟩
  rw [hy] at hex HC
  have hsz:=Qat st
  have hk0:(0:Int)≤(k:Int):=by omega
  have hkx:(k:Int)≤(x.length:Int):=by omega
  have hkn:IntKind.i64.wrap ((k:Int)+(n:Int))=(k:Int)+(n:Int):=by rw [IntKind.wrap_i64];omega
  obtain ⟨z,hzz⟩:∃ z,st.take (1024 - acc.length)=z:=⟨_,rfl⟩
  have hzl:z.length≤1024 - acc.length:=by rw [← hzz];simp;omega
  have HZL:=Qab hzl
  obtain ⟨q,hq0⟩:∃ q:Nat,q=min st.length (1024 - acc.length):=⟨_,rfl⟩
  have hq:min (st.length:Int) (1024 - (acc.length:Int))=(q:Int):=by omega
  have hq1:(q:Int)≤(st.length:Int):=by omega
  have hex2:(Qad st).extract 0 q=Qad z:=by
   rw [QbZ,← hzz,hq0]
   congr 1
   rcases Nat.le_total st.length (1024 - acc.length) with hh | hh
   ·rw [Nat.min_eq_left hh,List.take_of_length_le (Nat.le_refl _),List.take_of_length_le hh]
   ·rw [Nat.min_eq_right hh]
  rw [hzz] at HX
  clear hzz hdl hdl6 hne hy hzl hq0
  go_wp2_with (first | (go_at_call 356;refine (HC.out _ (Below.refl _ _)).mono ?_;rintro e w1 ⟨rfl,hb1⟩;have HB1:=Qab (HI.out.bl.trans (hb1.mono hwr));have HO1:=Qab (Qbf (P:=fun _ _=>False) HO.out (Fr.of_below hb1) (fun _ _ h=>h));clear hb1) | (at_builtin;refine Lib.wpList_append_own_string w1 rfl _ _ 172 9 rfl w.heap.size 5 i0 Tryz.underlying172 Tryz.underlying9 hi hz0 hz1 hz2 _ _ _ rfl HO1.out (Qad z) rfl (by rw [Qat];unfold maxLen;have:=HZL.out;omega) (by rw [Qat];have:=HZL.out;omega) HB1.out.size ?_;intro v5 w5 ho5 hg5 _;have HB5:=Qab (Qe6 HB1.out hg5 HB1.out.size (fun k hk=>(HO1.out.lt k hk).1));have HO5:=Qab ho5;clear ho5 hg5))
  go_roundw
  case rel=>
   refine ⟨k+n,acc++z,by go_num,by omega,by rw [List.length_append];have:=HZL.out;omega,?_,HB5.out,HX.out⟩
   rw [List.length_append,← Qqs]
   exact HO5.out
  case measure=>simp [intOf];omega
end
end Go.Proofs.YtbiclelojbfnbaaGreatDoor
