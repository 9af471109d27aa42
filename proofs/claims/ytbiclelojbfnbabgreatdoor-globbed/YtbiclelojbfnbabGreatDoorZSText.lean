import Derived.Lib.ConvBytes
import Derived.Lib.AtoiErrMem
import Derived.Deep.RegionWith
import Derived.Deep.RegionHeld3
import Derived.Deep.DrawnRows
import Derived.Lib.AppendStr
import Derived.Test.YtbiclelojbfnbabGreatDoorZCIns
import Derived.Test.YtbiclelojbfnbabGreatDoorZPlainSpace2
import Derived.Test.YtbiclelojbfnbabGreatDoorShelf
import Derived.Test.YtbiclelojbfnbabGreatDoorZWTab
namespace Go.Proofs.YtbiclelojbfnbabGreatDoor
set_option linter.unusedVariables false
set_option linter.unusedSimpArgs false
set_option maxRecDepth 100000
set_option maxHeartbeats 4000000
section
open Go.RowKit
def QcP (s:ByteArray) (k j:Nat):UInt8:=if j < k then Qc5 (s.data.toList.getD j 0) else s.data.toList.getD j 0
theorem Qos (c:UInt8) (h:QdO (c.toNat:Int)=true):((Qc5 c).toNat:Int)=(c.toNat:Int) - 65+97:=by
 have hc:=h
 unfold QdO at hc
 simp at hc
 have e:Qc5 c=c - 65+97:=by unfold Qc5;rw [if_pos h]
 rw [e,UInt8.toNat_add,UInt8.toNat_sub]
 simp
 omega
theorem QpA (c:UInt8) (h:QdO (c.toNat:Int)=false):Qc5 c=c:=by
 unfold Qc5;rw [if_neg (by rw [h];decide)]
theorem Qmb (s:ByteArray) (k j:Nat) (h:QdO ((s.data.toList.getD k 0).toNat:Int)=false):QcP s k j=QcP s (k+1) j:=by
 unfold QcP
 by_cases e:j=k
 ·subst e;rw [if_neg (by omega),if_pos (by omega),QpA _ h]
 ·by_cases l:j < k
  ·rw [if_pos l,if_pos (by omega)]
  ·rw [if_neg l,if_neg (by omega)]
theorem Qkb (s:ByteArray) (k j:Nat) (e:¬ j=k):QcP s k j=QcP s (k+1) j:=by
 unfold QcP
 by_cases l:j < k
 ·rw [if_pos l,if_pos (by omega)]
 ·rw [if_neg l,if_neg (by omega)]
theorem QkH (s:ByteArray) (k:Nat):QcP s (k+1) k=Qc5 (s.data.toList.getD k 0):=by
 unfold QcP;rw [if_pos (by omega)]
theorem QeJ (s:ByteArray) (w:World) (hs:s.size≤140737488355328) :
 Calls Tryz.prog 163 #[.string s] w fun e w'=>e=.returned (.string ⟨(smallL s.data.toList).toArray⟩)∧Below w.heap.size w w':=by
 have hcv:=Lib.run_convert_string_bytes (P:=Tryz.prog) w 9 244 5 s (u:=.string) Tryz.underlying9 Tryz.underlying244 Tryz.underlying5
 have hB:=Lib.bytesWorld_below w 5 s
 have hcell:∀ j,j < s.size→(Lib.bytesWorld w 5 s).cell? ⟨w.heap.size,j,none⟩=some (.int .u8 (QcP s 0 j).toNat):=fun j hj=>by
  rw [Lib.bytesWorld_cell w 5 s j hj];simp [QcP]
 have hfz:∀ j,j < s.size→(Lib.bytesWorld w 5 s).frozen? ⟨w.heap.size,j,none⟩=false:=fun j hj=>by
  unfold World.frozen?;rw [Lib.bytesWorld_at_new];simp [Lib.bytesCells];omega
 have hsz:=Lib.bytesWorld_size w 5 s
 generalize Lib.bytesWorld w 5 s=W1 at hcv hB hcell hfz hsz
 have hlist:∀ (wr:World),(∀ j,j < s.size→wr.cell? ⟨w.heap.size,j,none⟩=some (.int .u8 (QcP s s.size j).toNat))→
  ∀ C,(convert 244 9 (.slice (some ⟨w.heap.size,0,none⟩) s.size C)).run Tryz.prog wr=.ok (.string ⟨(smallL s.data.toList).toArray⟩) wr:=fun wr hw C=>by
  have hl:(smallL s.data.toList).length=s.size:=by simp [smallL]
  have:=run_convert_bytes_back (P:=Tryz.prog) wr 244 9 5 ⟨w.heap.size,0,none⟩ C (smallL s.data.toList) Tryz.underlying244 Tryz.underlying5 Tryz.underlying9 (fun j hj=>by
   rw [QcM,hw j (by omega)]
   have hj':j < s.data.toList.length:=by simp [smallL] at hj;simpa using hj
   simp only [QcP,smallL,List.getElem_map]
   rw [if_pos (by omega),List.getD_eq_getElem?_getD,List.getElem?_eq_getElem hj'];rfl)
  rw [hl] at this
  exact this
 have HL:=Qaa hlist
 clear hlist
 go_enter Tryz.func163,Tryz.ntmps163
 go_wp2_with fail
 generalize grownCap w s.size 0 5=C at *
 go_loopw [4,5,10] (fun _ _ i wr=>∃ k:Nat,k≤s.size∧i=.int .i64 k∧Below w.heap.size w wr∧(∀ j,j < s.size→wr.cell? ⟨w.heap.size,j,none⟩=some (.int .u8 (QcP s k j).toNat))∧(∀ j,j < s.size→wr.frozen? ⟨w.heap.size,j,none⟩=false)∧wr.heap.size=w.heap.size+1) (fun _ _ i _=>s.size - (intOf i).toNat)
 case atStart=>exact ⟨0,by omega,rfl,hB,hcell,hfz,hsz⟩
 case round=>
  obtain ⟨k,hk,rfl,hB',hcell',hfz',hsz'⟩:=hrel
  clear hB hcell hfz hsz hcv
  by_cases hlt:k < s.size
  ·have hck:=hcell' k hlt
   have hfk:=hfz' k hlt
   simp only [QcP] at hck
   rw [if_neg (by omega)] at hck
   generalize hcd:s.data.toList.getD k 0=c at hck
   have HCD:=Qaa hcd
   clear hcd
   have hb:=UInt8.toNat_lt c
   have HC:=Qaa hcell'
   have HF:=Qaa hfz'
   clear hcell' hfz'
   cases hc:QdO (c.toNat:Int)
   ·go_wp2_with (go_at_call 194;refine (Qef _ _).mono ?_;rintro e w' ⟨rfl,rfl⟩)
    refine ⟨⟨k+1,by omega,by go_num,hB',fun j hj=>?_,HF.out,hsz'⟩,by simp [intOf];omega⟩
    rw [HC.out j hj,Qmb s k j (by rw [HCD.out];exact hc)]
   ·have hv:=Qaa (Qos c hc)
    have hc1:65≤(c.toNat:Int)∧(c.toNat:Int)≤90:=by unfold QdO at hc;simpa using hc
    obtain ⟨hc1,hc2⟩:=hc1
    go_wp2_with (go_at_call 194;refine (Qef _ _).mono ?_;rintro e w' ⟨rfl,rfl⟩)
    refine ⟨⟨k+1,by omega,by go_num,?_,fun j hj=>?_,fun j hj=>?_,?_⟩,by simp [intOf];omega⟩
    ·exact hB'.setCell (Nat.le_refl _) _
    ·by_cases e:j=k
     ·subst e
      rw [World.cell?_setCell_same _ _ _ hck,QkH,HCD.out]
      rw [hv.out]
     ·rw [World.cell?_setCell_other _ _ _ _ (by simp [e]),HC.out j hj,Qkb s k j e]
    ·rw [World.frozen?_setCell];exact HF.out j hj
    ·simpa using hsz'
  ·have hk':k=s.size:=by omega
   subst hk'
   have hr:=HL.out wr hcell' C
   go_wp2
   go_ret
   exact ⟨rfl,hB'⟩
end
section
open Go.RowKit
attribute [local go_sem ↓] Go.wp_at_zero Go.wp_at_succ
theorem QdZ (x:List UInt8) (w:World) (h:x.length≤1000000):Calls Tryz.prog 163 #[.string (Qag x)] w fun e w'=>e=.returned (.string (Qag (smallL x)))∧Below w.heap.size w w':=
 QeJ (Qag x) w (by rw [QaD];omega)
theorem QkU (s:ByteArray) (w:World) (hs:s.size≤1000000) :
 Calls Tryz.prog 269 #[.string s] w fun e w'=>e=.returned (.int .i64 (nmLen s.data.toList))∧w'=w:=by
 have hm:s.size≤maxLen:=by unfold maxLen;omega
 by_cases h0:s.size=0
 ·have h0':=QdM h0
  have hr:nmLen s.data.toList=Qa4 s.data.toList:=by rw [← ByteArray.toList_eq,h0'];rfl
  have HR:=Qaa hr
  clear hr
  go_enter Tryz.func269,Tryz.ntmps269
  go_wp2_with (go_at_call 210;refine (QbP _ _ hm).mono ?_;rintro e w' ⟨rfl,rfl⟩)
  go_ret
  exact ⟨Qcb (by rw [HR.out]),rfl⟩
 have h0':=Qcr h0
 have h0'':s.toList.isEmpty=false:=by simpa using h0'
 have h1:0 < s.size:=by omega
 have hl:s.data.toList=s[0] :: s.data.toList.drop 1:=by have:=Qbm s 0 h1;rwa [List.drop_zero] at this
 cases hd:QaE (s[0].toNat:Int)
 ·have hr:nmLen s.data.toList=Qa4 s.data.toList:=by
   rw [hl];exact if_neg (by rw [hd];decide)
  have HR:=Qaa hr
  clear hr hl
  go_enter Tryz.func269,Tryz.ntmps269
  go_wp2_with (first | (go_at_call 210;refine (QbP _ _ hm).mono ?_;rintro e w' ⟨rfl,rfl⟩) | (go_at_call 143;refine (Qaj _ _).mono ?_;rintro e w' ⟨rfl,rfl⟩))
  go_ret
  exact ⟨Qcb (by rw [HR.out]),rfl⟩
 ·have hr:nmLen s.data.toList=1:=by
   rw [hl];exact if_pos hd
  have HR:=Qaa hr
  clear hr hl
  go_enter Tryz.func269,Tryz.ntmps269
  go_wp2_with (first | (go_at_call 210;refine (QbP _ _ hm).mono ?_;rintro e w' ⟨rfl,rfl⟩) | (go_at_call 143;refine (Qaj _ _).mono ?_;rintro e w' ⟨rfl,rfl⟩))
  go_ret
  exact ⟨Qcb (by rw [HR.out];rfl),rfl⟩
theorem Tryz.zeroVal:∀ W,(zeroValue 339).run Tryz.prog W=.ok (.agg #[.string ⟨#[]⟩]) W:=by
 intro W
 have h:(Tryz.prog.info? 339).map (fun i=>i.zero)=some (some (.agg #[.string ⟨#[]⟩])):=by kernel_rfl
 cases hi:Tryz.prog.info? 339 with
 | none=>rw [hi] at h;cases h
 | some i=>
  rw [hi] at h
  simp at h
  simp [zeroValue,typeInfo,hi,h]
theorem Tryz.fieldVal (x:ByteArray) (W:World):(Instr.field 339 (.agg #[.string x]) 0).run Tryz.prog W=.ok (.string x) W:=by
 simp [Instr.field,run_underlying Tryz.underlying339,asAgg,Result.andThen,go_sem]
theorem QrJ (s:SS) (x:List UInt8):(Qme s x).getD (.agg #[.string ⟨#[]⟩])=.agg #[.string (Qag ((s.vals x).getD []))]:=by
 unfold Qme
 cases s.vals x <;> rfl
theorem Qql (B sb:Nat) (M:Msg) (s:SS) (x:List UInt8) (w:World) (h:SAt w B sb M s) (hx:x≠[]) (hl:x.length≤1000000) :
 Calls Tryz.prog 270 #[.pointer (some ⟨sb,0,none⟩),.string (Qag x)] w fun e w'=>e=.returned (.string (Qag (QiK s x)))∧Below w.heap.size w w':=by
 obtain ⟨hv,mb,tv,mv,h⟩:=h
 obtain ⟨c,r,rfl⟩:∃ c r,x=c :: r:=by cases x with | nil=>exact absurd rfl hx | cons c r=>exact ⟨c,r,rfl⟩
 have hz:(Qag (c :: r)).size=r.length+1:=rfl
 have hg:(Qag (c :: r))[0]'(by rw [hz];omega)=c:=rfl
 have hl':r.length+1≤1000000:=hl
 have hub:=UInt8.toNat_lt c
 have c5:w.cell? ⟨sb,5,none⟩=some (.map (some mb)):=h.cell 5
 have c6:w.cell? ⟨sb,6,none⟩=some tv:=h.cell 6
 have hlt:=h.lt
 obtain ⟨ta,tc,htv⟩:=h.told.len
 subst htv
 obtain ⟨es,mc,hm,hu⟩:=h.mp
 cases hd:QaE (c.toNat:Int)
 ·have hv':QiK s (c :: r)=(s.vals (smallL (c :: r))).getD []:=if_neg (by rw [hd];decide)
  have HV:=Qaa hv'
  have HL:Hid (∀ W,Below w.heap.size w W→(Instr.lookup 223 (.map (some mb)) (.string (Qag (smallL (c :: r)))) false).run Tryz.prog W=.ok (.agg #[.string (Qag ((s.vals (smallL (c :: r))).getD []))]) W):=fun W hW=>by
   rw [QrY Tryz.underlying223 Tryz.underlying9 Tryz.zeroVal (Qaq hm hW) hu,QrJ]
  have hfl:=Tryz.fieldVal
  clear hv' h hm hu
  go_enter Tryz.func270,Tryz.ntmps270
  go_wp2_with (go_at_call 143;refine (Qaj _ _).mono ?_;rintro e w' ⟨rfl,rfl⟩)
  go_region_held3 (fun w'=>w'.cell? ⟨sb,5,none⟩=some (.map (some mb))) (first | go_keep | exact d5) (first | (go_at_call 163;refine (QdZ _ _ hl).mono ?_;rintro e w1 ⟨rfl,hb1⟩;have hb2:=QaS hb1;have HB1:=Qaa hb2;have d5:w1.cell? ⟨sb,5,none⟩=some (.map (some mb)):=(hb2.cell (p:=⟨sb,5,none⟩) hlt).trans c5;have hlk:=HL.out w1 hb2;clear hb1 hb2;skip))
  all_goals go_wp2
  all_goals go_ret
  all_goals exact ⟨by rw [HV.out];rfl,HB1.out⟩
 ·have hv':QiK s (c :: r)=s.told.getD (c.toNat - 48) []:=if_pos hd
  have HV:=Qaa hv'
  have hd':48≤(c.toNat:Int)∧(c.toNat:Int)≤57:=by unfold QaE at hd;simpa using hd
  obtain ⟨hd1,hd2⟩:=hd'
  obtain ⟨d,hdd⟩:∃ d:Nat,c.toNat=d+48:=⟨c.toNat - 48,by omega⟩
  have hd3:(c.toNat:Int) - 48=(d:Int):=by omega
  have hd4:d≤9:=by omega
  have htl:=h.bd.tl
  rw [hdd,Nat.add_sub_cancel] at HV
  clear hdd
  by_cases hlt2:d < s.told.length
  ·have hi:(d:Int) < (s.told.length:Int):=by omega
   obtain ⟨g,hta,hgl⟩:∃ g,ta=some ⟨g,0,none⟩∧w.cell? ⟨g,d,none⟩=some (.string (Qag (s.told.getD d []))):=by
    rcases h.told with ⟨h1,h2⟩ | ⟨g,cc,h1,h2⟩
    ·rw [h2] at hlt2;exact absurd hlt2 (Nat.not_lt_zero _)
    ·injection h1 with h3 h4 h5
     exact ⟨g,h3,h2.at d hlt2⟩
   subst hta
   obtain ⟨z,hzd⟩:∃ z,s.told.getD d []=z:=⟨_,rfl⟩
   rw [hzd] at HV hgl
   clear hv' h hm hu hzd
   go_enter Tryz.func270,Tryz.ntmps270
   go_wp2_with (go_at_call 143;refine (Qaj _ _).mono ?_;rintro e w' ⟨rfl,rfl⟩)
   all_goals go_ret
   all_goals exact ⟨by rw [HV.out];rfl,Below.refl _ _⟩
  ·have hi:¬ (d:Int) < (s.told.length:Int):=by omega
   have hn:s.told.getD d []=[]:=by rw [List.getD_eq_getElem?_getD,List.getElem?_eq_none (by omega)];rfl
   have HN:=Qaa hn
   clear hv' h hm hu hn
   go_enter Tryz.func270,Tryz.ntmps270
   go_wp2_with (go_at_call 143;refine (Qaj _ _).mono ?_;rintro e w' ⟨rfl,rfl⟩)
   all_goals go_ret
   all_goals exact ⟨by rw [HV.out,HN.out];rfl,Below.refl _ _⟩
end
section
open Go.RowKit
attribute [local go_sem ↓] Go.wp_at_zero Go.wp_at_succ
theorem QjJ (l p:List UInt8):Lib.hasPrefix l p=decide (l.take p.length=p):=by
 unfold Lib.hasPrefix
 rw [Bool.eq_iff_iff]
 simp only [List.isPrefixOf_iff_prefix,decide_eq_true_eq]
 rw [List.prefix_iff_eq_take]
 exact ⟨fun h=>h.symm,fun h=>h.symm⟩
theorem Qbk (x:List UInt8) (n:Nat):(Qag x).extract 0 n=Qag (x.take n):=by
 apply ByteArray.ext
 apply Array.ext'
 simp [Qag]
theorem Qdo (x:List UInt8) (n:Nat):(Qag x).extract n x.length=Qag (x.drop n):=by
 apply ByteArray.ext
 apply Array.ext'
 simp [Qag]
 exact List.take_of_length_le (by simp)
theorem QrG (l:List UInt8):nmLen l≤l.length:=by
 cases l with
 | nil=>exact Nat.le_refl _
 | cons c r=>
  show (if QaE c.toNat then 1 else Qa4 (c :: r))≤_
  split
  ·simp
  ·exact Qdu _
theorem Qhb {a b:List UInt8} {c d:Int} (h1:a=b) (h2:c=d):Ending.returned (.tuple #[.string (Qag a),.int .i64 c])=.returned (.tuple #[.string (Qag b),.int .i64 d]):=by rw [h1,h2]
theorem Qf1 {s:SS} {x:List UInt8} (h:QdR x=0):(standL s x).1=x.take 1∧(standL s x).2=1:=by
 unfold standL;rw [if_pos h];exact ⟨rfl,rfl⟩
theorem Qhs {s:SS} {x:List UInt8} (h:QdR x≠0):(standL s x).1=QiK s ((x.drop 2).take (QdR x))∧(standL s x).2=3+QdR x:=by
 unfold standL;rw [if_neg h];exact ⟨rfl,rfl⟩
theorem Qlw (B sb:Nat) (M:Msg) (s:SS) (x:List UInt8) (w:World) (h:SAt w B sb M s) (hx:x≠[]) (hl:x.length≤1000000) :
 Calls Tryz.prog 246 #[.pointer (some ⟨sb,0,none⟩),.string (Qag x)] w fun e w'=>e=.returned (.tuple #[.string (Qag (standL s x).1),.int .i64 ((standL s x).2:Nat)])∧Below w.heap.size w w':=by
 have hz:=QaD x
 have hpos:0 < x.length:=List.length_pos_iff.2 hx
 have hpos':(1:Int)≤(x.length:Int):=by omega
 have hex:=Qbk x 1
 have hcp:=QjJ x [36,123]
 have HS:=Qaa h
 by_cases hp:x.take 2=[36,123]
 rotate_left
 ·obtain ⟨e1,e2⟩:=Qf1 (s:=s) (x:=x) (by unfold QdR;rw [if_neg (fun h=>hp h.1)])
  have E1:=Qaa e1
  have E2:=Qaa e2
  rw [show ([36,123]:List UInt8).length=2 from rfl,decide_eq_false hp] at hcp
  have HC:=Qaa hcp
  clear e1 e2 hp hcp h hx
  go_enter Tryz.func246,Tryz.ntmps246
  go_wp2_with (go_at_call 268;refine (Tryz.strings_CutPrefix _ _ _).mono ?_;rintro e w' ⟨rfl,rfl⟩;rw [show Lib.hasPrefix (Qag x).data.toList _=false from HC.out])
  go_ret2
  exact ⟨Qhb E1.out.symm (by rw [E2.out];rfl),Below.refl _ _⟩
 have hd2:(x.drop 2).length=x.length - 2:=by simp
 have hlen2:2≤x.length:=by have:=congrArg List.length hp;simp at this;omega
 have htp:Lib.trimPrefix x [36,123]=x.drop 2:=by unfold Lib.trimPrefix;rw [QjJ,show ([36,123]:List UInt8).length=2 from rfl,decide_eq_true hp];rfl
 rw [show ([36,123]:List UInt8).length=2 from rfl,decide_eq_true hp] at hcp
 have hn:=QrG (x.drop 2)
 have hva:QdR x=if ((x.drop 2).drop (nmLen (x.drop 2))).take 1=[125] then nmLen (x.drop 2) else 0:=by
  unfold QdR
  by_cases hq:((x.drop 2).drop (nmLen (x.drop 2))).take 1=[125]
  ·rw [if_pos ⟨hp,hq⟩,if_pos hq]
  ·rw [if_neg (fun h=>hq h.2),if_neg hq]
 obtain ⟨y,hy⟩:∃ y,x.drop 2=y:=⟨_,rfl⟩
 rw [hy] at htp hd2 hn hva
 have hyl:y.length≤1000000:=by omega
 clear hd2
 have HC:=Qaa hcp
 have HT:=Qaa htp
 have hyz:=QaD y
 obtain ⟨n,hnn⟩:∃ n,nmLen y=n:=⟨_,rfl⟩
 rw [hnn] at hn hva
 have hnl:∀ W,Calls Tryz.prog 269 #[.string (Qag y)] W fun e w'=>e=.returned (.int .i64 (n:Int))∧w'=W:=fun W=>by
  have:=QkU (Qag y) W (by rw [QaD];omega)
  rw [show (Qag y).data.toList=y from rfl,hnn] at this
  exact this
 have HNL:=Qaa hnl
 have hex1:=Qbk y n
 have hex2:=Qdo y n
 have hq:=QjJ (y.drop n) [125]
 rw [show ([125]:List UInt8).length=1 from rfl] at hq
 have hn1:(0:Int)≤(n:Int):=by omega
 have hn2:(n:Int)≤(y.length:Int):=by omega
 obtain ⟨nm,hnm⟩:∃ nm,y.take n=nm:=⟨_,rfl⟩
 have hnml:nm.length=n:=by rw [← hnm];simp;omega
 have hnz:=QaD nm
 rw [hnml] at hnz
 rw [hnm] at hex1
 obtain ⟨u,hu⟩:∃ u,y.drop n=u:=⟨_,rfl⟩
 rw [hu] at hex2 hq hva
 have HV:=Qaa hva
 by_cases h0:n=0
 ·subst h0
  have hv0:QdR x=0:=by rw [hva];split <;> rfl
  obtain ⟨e1,e2⟩:=Qf1 (s:=s) (x:=x) hv0
  have E1:=Qaa e1
  have E2:=Qaa e2
  have hnm0:nm=[]:=List.eq_nil_of_length_eq_zero hnml
  subst hnm0
  clear e1 e2 hp hcp h hx htp hy hnl hva hv0 hnn hnm hq hu HV
  go_enter Tryz.func246,Tryz.ntmps246
  go_wp2_with (first | (go_at_call 268;refine (Tryz.strings_CutPrefix _ _ _).mono ?_;rintro e w' ⟨rfl,rfl⟩;rw [show Lib.hasPrefix (Qag x).data.toList _=true from HC.out,show Lib.trimPrefix (Qag x).data.toList _=y from HT.out,show (⟨y.toArray⟩:ByteArray)=Qag y from rfl]) | (go_at_call 269;refine (HNL.out _).mono ?_;rintro e w' ⟨rfl,rfl⟩))
  go_ret2
  exact ⟨Qhb E1.out.symm (by rw [E2.out];rfl),Below.refl _ _⟩
 have hne:nm≠[]:=fun e=>h0 (by rw [← hnml,e];rfl)
 have hsz:¬ (Qag nm).size=0:=by omega
 have hnz1:=Qcr hsz
 have hnz2:(Qag nm).toList.isEmpty=false:=by simpa using hnz1
 by_cases hq1:u.take 1=[125]
 ·rw [if_pos hq1] at hva
  rw [decide_eq_true hq1] at hq
  have HQ:=Qaa hq
  obtain ⟨e1,e2⟩:=Qhs (s:=s) (x:=x) (by rw [hva];exact h0)
  rw [hva] at e1 e2
  rw [hy,hnm] at e1
  have E1:=Qaa e1
  have E2:=Qaa e2
  have hnl6:nm.length≤1000000:=by omega
  clear e1 e2 hp hcp h hx htp hy hnl hva hnn hnm hq hu HV hq1
  go_enter Tryz.func246,Tryz.ntmps246
  go_wp2_with (first | (go_at_call 268;refine (Tryz.strings_CutPrefix _ _ _).mono ?_;rintro e w' ⟨rfl,rfl⟩;rw [show Lib.hasPrefix (Qag x).data.toList _=true from HC.out,show Lib.trimPrefix (Qag x).data.toList _=y from HT.out,show (⟨y.toArray⟩:ByteArray)=Qag y from rfl]) | (go_at_call 269;refine (HNL.out _).mono ?_;rintro e w' ⟨rfl,rfl⟩) | (go_at_call 156;refine (Tryz.strings_HasPrefix _ _ _).mono ?_;rintro e w' ⟨rfl,rfl⟩;rw [show Lib.hasPrefix (Qag u).data.toList _=true from HQ.out]) | (go_at_call 270;refine (Qql B sb M s nm _ HS.out hne hnl6).mono ?_;rintro e w1 ⟨rfl,hb1⟩;have HB1:=Qaa hb1;clear hb1))
  go_ret2
  exact ⟨Qhb E1.out.symm (by rw [E2.out];omega),HB1.out⟩
 ·rw [if_neg hq1] at hva
  rw [decide_eq_false hq1] at hq
  have HQ:=Qaa hq
  obtain ⟨e1,e2⟩:=Qf1 (s:=s) (x:=x) hva
  have E1:=Qaa e1
  have E2:=Qaa e2
  clear e1 e2 hp hcp h hx htp hy hnl hva hnn hnm hq hu HV hq1
  go_enter Tryz.func246,Tryz.ntmps246
  go_wp2_with (first | (go_at_call 268;refine (Tryz.strings_CutPrefix _ _ _).mono ?_;rintro e w' ⟨rfl,rfl⟩;rw [show Lib.hasPrefix (Qag x).data.toList _=true from HC.out,show Lib.trimPrefix (Qag x).data.toList _=y from HT.out,show (⟨y.toArray⟩:ByteArray)=Qag y from rfl]) | (go_at_call 269;refine (HNL.out _).mono ?_;rintro e w' ⟨rfl,rfl⟩) | (go_at_call 156;refine (Tryz.strings_HasPrefix _ _ _).mono ?_;rintro e w' ⟨rfl,rfl⟩;rw [show Lib.hasPrefix (Qag u).data.toList _=false from HQ.out]))
  go_ret2
  exact ⟨Qhb E1.out.symm (by rw [E2.out];rfl),Below.refl _ _⟩
end
section
open Go.RowKit
def QfL (s:ByteArray) (k j:Nat):UInt8:=if j < k then QsT (s.data.toList.getD j 0) else s.data.toList.getD j 0
theorem Qsb (c:UInt8) (h:Qfr (c.toNat:Int)=true):((QsT c).toNat:Int)=(c.toNat:Int) - 97+65:=by
 have hc:=h
 unfold Qfr at hc
 simp at hc
 have e:QsT c=c - 97+65:=by unfold QsT;rw [if_pos h]
 rw [e,UInt8.toNat_add,UInt8.toNat_sub]
 simp
 omega
theorem QrW (c:UInt8) (h:Qfr (c.toNat:Int)=false):QsT c=c:=by
 unfold QsT;rw [if_neg (by rw [h];decide)]
theorem Qo4 (s:ByteArray) (k j:Nat) (h:Qfr ((s.data.toList.getD k 0).toNat:Int)=false):QfL s k j=QfL s (k+1) j:=by
 unfold QfL
 by_cases e:j=k
 ·subst e;rw [if_neg (by omega),if_pos (by omega),QrW _ h]
 ·by_cases l:j < k
  ·rw [if_pos l,if_pos (by omega)]
  ·rw [if_neg l,if_neg (by omega)]
theorem QmJ (s:ByteArray) (k j:Nat) (e:¬ j=k):QfL s k j=QfL s (k+1) j:=by
 unfold QfL
 by_cases l:j < k
 ·rw [if_pos l,if_pos (by omega)]
 ·rw [if_neg l,if_neg (by omega)]
theorem Qpv (s:ByteArray) (k:Nat):QfL s (k+1) k=QsT (s.data.toList.getD k 0):=by
 unfold QfL;rw [if_pos (by omega)]
theorem Qnu (s:ByteArray) (w:World) (hs:s.size≤140737488355328) :
 Calls Tryz.prog 230 #[.string s] w fun e w'=>e=.returned (.string ⟨(capL s.data.toList).toArray⟩)∧Below w.heap.size w w':=by
 have hcv:=Lib.run_convert_string_bytes (P:=Tryz.prog) w 9 244 5 s (u:=.string) Tryz.underlying9 Tryz.underlying244 Tryz.underlying5
 have hB:=Lib.bytesWorld_below w 5 s
 have hcell:∀ j,j < s.size→(Lib.bytesWorld w 5 s).cell? ⟨w.heap.size,j,none⟩=some (.int .u8 (QfL s 0 j).toNat):=fun j hj=>by
  rw [Lib.bytesWorld_cell w 5 s j hj];simp [QfL]
 have hfz:∀ j,j < s.size→(Lib.bytesWorld w 5 s).frozen? ⟨w.heap.size,j,none⟩=false:=fun j hj=>by
  unfold World.frozen?;rw [Lib.bytesWorld_at_new];simp [Lib.bytesCells];omega
 have hsz:=Lib.bytesWorld_size w 5 s
 generalize Lib.bytesWorld w 5 s=W1 at hcv hB hcell hfz hsz
 have hlist:∀ (wr:World),(∀ j,j < s.size→wr.cell? ⟨w.heap.size,j,none⟩=some (.int .u8 (QfL s s.size j).toNat))→
  ∀ C,(convert 244 9 (.slice (some ⟨w.heap.size,0,none⟩) s.size C)).run Tryz.prog wr=.ok (.string ⟨(capL s.data.toList).toArray⟩) wr:=fun wr hw C=>by
  have hl:(capL s.data.toList).length=s.size:=by simp [capL]
  have:=run_convert_bytes_back (P:=Tryz.prog) wr 244 9 5 ⟨w.heap.size,0,none⟩ C (capL s.data.toList) Tryz.underlying244 Tryz.underlying5 Tryz.underlying9 (fun j hj=>by
   rw [QcM,hw j (by omega)]
   have hj':j < s.data.toList.length:=by simp [capL] at hj;simpa using hj
   simp only [QfL,capL,List.getElem_map]
   rw [if_pos (by omega),List.getD_eq_getElem?_getD,List.getElem?_eq_getElem hj'];rfl)
  rw [hl] at this
  exact this
 have HL:=Qaa hlist
 clear hlist
 go_enter Tryz.func230,Tryz.ntmps230
 go_wp2_with fail
 generalize grownCap w s.size 0 5=C at *
 go_loopw [4,5,10] (fun _ _ i wr=>∃ k:Nat,k≤s.size∧i=.int .i64 k∧Below w.heap.size w wr∧(∀ j,j < s.size→wr.cell? ⟨w.heap.size,j,none⟩=some (.int .u8 (QfL s k j).toNat))∧(∀ j,j < s.size→wr.frozen? ⟨w.heap.size,j,none⟩=false)∧wr.heap.size=w.heap.size+1) (fun _ _ i _=>s.size - (intOf i).toNat)
 case atStart=>exact ⟨0,by omega,rfl,hB,hcell,hfz,hsz⟩
 case round=>
  obtain ⟨k,hk,rfl,hB',hcell',hfz',hsz'⟩:=hrel
  clear hB hcell hfz hsz hcv
  by_cases hlt:k < s.size
  ·have hck:=hcell' k hlt
   have hfk:=hfz' k hlt
   simp only [QfL] at hck
   rw [if_neg (by omega)] at hck
   generalize hcd:s.data.toList.getD k 0=c at hck
   have HCD:=Qaa hcd
   clear hcd
   have hb:=UInt8.toNat_lt c
   have HC:=Qaa hcell'
   have HF:=Qaa hfz'
   clear hcell' hfz'
   cases hc:Qfr (c.toNat:Int)
   ·go_wp2_with (go_at_call 193;refine (Qfu _ _).mono ?_;rintro e w' ⟨rfl,rfl⟩)
    refine ⟨⟨k+1,by omega,by go_num,hB',fun j hj=>?_,HF.out,hsz'⟩,by simp [intOf];omega⟩
    rw [HC.out j hj,Qo4 s k j (by rw [HCD.out];exact hc)]
   ·have hv:=Qaa (Qsb c hc)
    have hc1:97≤(c.toNat:Int)∧(c.toNat:Int)≤122:=by unfold Qfr at hc;simpa using hc
    obtain ⟨hc1,hc2⟩:=hc1
    go_wp2_with (go_at_call 193;refine (Qfu _ _).mono ?_;rintro e w' ⟨rfl,rfl⟩)
    refine ⟨⟨k+1,by omega,by go_num,?_,fun j hj=>?_,fun j hj=>?_,?_⟩,by simp [intOf];omega⟩
    ·exact hB'.setCell (Nat.le_refl _) _
    ·by_cases e:j=k
     ·subst e
      rw [World.cell?_setCell_same _ _ _ hck,Qpv,HCD.out]
      rw [hv.out]
     ·rw [World.cell?_setCell_other _ _ _ _ (by simp [e]),HC.out j hj,QmJ s k j e]
    ·rw [World.frozen?_setCell];exact HF.out j hj
    ·simpa using hsz'
  ·have hk':k=s.size:=by omega
   subst hk'
   have hr:=HL.out wr hcell' C
   go_wp2
   go_ret
   exact ⟨rfl,hB'⟩
end
end Go.Proofs.YtbiclelojbfnbabGreatDoor
