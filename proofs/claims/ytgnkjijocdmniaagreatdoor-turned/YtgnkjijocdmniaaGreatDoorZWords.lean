import Derived.Lib.ConvBytes
import Derived.Lib.AtoiErrMem
import Derived.Deep.RegionWith
import Derived.Deep.RegionHeld3
import Derived.Lib.AppendStr
import Derived.Test.YtgnkjijocdmniaaGreatDoorZInsB
namespace Go.Proofs.YtgnkjijocdmniaaGreatDoor
set_option linter.unusedVariables false
set_option linter.unusedSimpArgs false
set_option maxRecDepth 100000
set_option maxHeartbeats 4000000
open Go.Proofs.Tryz
section
open Go.RowKit
def Qc7 (s:ByteArray) (k j:Nat):UInt8:=if j < k then Qgr (s.data.toList.getD j 0) else s.data.toList.getD j 0
theorem Qs6(c:UInt8)(h:QeB (c.toNat:Int)=true):((Qgr c).toNat:Int)=(c.toNat:Int) - 65+97:=by
 have hc:=h;unfold QeB at hc;simp at hc;have e:Qgr c=c - 65+97:=by unfold Qgr;rw[if_pos h]
 rw[e,UInt8.toNat_add,UInt8.toNat_sub];simp;omega
theorem Qr9(c:UInt8)(h:QeB (c.toNat:Int)=false):Qgr c=c:=by
 unfold Qgr;rw[if_neg (by rw[h];decide)]
theorem Qnh(s:ByteArray)(k j:Nat)(h:QeB ((s.data.toList.getD k 0).toNat:Int)=false):Qc7 s k j=Qc7 s (k+1) j:=by
 unfold Qc7;by_cases e:j=k
 ·subst e;rw[if_neg (by omega),if_pos (by omega),Qr9 _ h]
 ·by_cases l:j<k
  ·rw[if_pos l,if_pos (by omega)]
  ·rw[if_neg l,if_neg (by omega)]
theorem QlV(s:ByteArray)(k j:Nat)(e:¬ j=k):Qc7 s k j=Qc7 s (k+1) j:=by
 unfold Qc7;by_cases l:j<k
 ·rw[if_pos l,if_pos (by omega)]
 ·rw[if_neg l,if_neg (by omega)]
theorem Qov(s:ByteArray)(k:Nat):Qc7 s (k+1) k=Qgr (s.data.toList.getD k 0):=by
 unfold Qc7;rw[if_pos (by omega)]
theorem Qfz(s:ByteArray)(w:World)(hs:s.size<=140737488355328) :
 Calls Tryz.prog 181 #[.string s] w fun e w'=>e=.returned (.string ⟨(zL s.data.toList).toArray⟩)/\Below w.heap.size w w':=by
 have ao:=Lib.run_convert_string_bytes (P:=Tryz.prog) w 9 198 5 s (u:=.string) underlying9 underlying198 underlying5;have hB:=Lib.bytesWorld_below w 5 s
 have ab:∀ j,j<s.size->(Lib.bytesWorld w 5 s).cell? ⟨w.heap.size,j,none⟩=some (.int .u8 (Qc7 s 0 j).toNat):=fun j hj=>by
  rw[Lib.bytesWorld_cell w 5 s j hj];simp[Qc7]
 have ah:∀ j,j<s.size->(Lib.bytesWorld w 5 s).frozen? ⟨w.heap.size,j,none⟩=false:=fun j hj=>by
  unfold World.frozen?;rw[Lib.bytesWorld_at_new];simp[Lib.bytesCells];omega
 have ai:=Lib.bytesWorld_size w 5 s;generalize Lib.bytesWorld w 5 s=W1 at ao hB ab ah ai
 have ac:∀(wr:World),(∀ j,j<s.size->wr.cell? ⟨w.heap.size,j,none⟩=some (.int .u8 (Qc7 s s.size j).toNat))->
  ∀ C,(convert 198 9 (.slice (some ⟨w.heap.size,0,none⟩) s.size C)).run Tryz.prog wr=.ok (.string ⟨(zL s.data.toList).toArray⟩) wr:=fun wr hw C=>by
  have hl:(zL s.data.toList).length=s.size:=by simp[zL]
  have:=run_convert_bytes_back (P:=Tryz.prog) wr 198 9 5 ⟨w.heap.size,0,none⟩ C (zL s.data.toList) underlying198 underlying5 underlying9 (fun j hj=>by
   rw[Qcs,hw j (by omega)];have hj':j<s.data.toList.length:=by simp[zL]at hj;simpa using hj
   simp only[Qc7,zL,List.getElem_map]
   rw [if_pos (by omega),List.getD_eq_getElem?_getD,List.getElem?_eq_getElem hj'];rfl)
  rw[hl]at this;exact this
 have HL:=Qab ac;clear ac;go_enter func181,ntmps181;go_wp2_with fail;generalize grownCap w s.size 0 5=C at *
 go_loopw [4,5,10] (fun _ _ i wr=>∃ k:Nat,k<=s.size/\i=.int .i64 k/\Below w.heap.size w wr/\(∀ j,j<s.size->wr.cell? ⟨w.heap.size,j,none⟩=some (.int .u8 (Qc7 s k j).toNat))/\(∀ j,j<s.size->wr.frozen? ⟨w.heap.size,j,none⟩=false)/\wr.heap.size=w.heap.size+1) (fun _ _ i _=>s.size - (intOf i).toNat)
 case atStart=>exact⟨0,by omega,rfl,hB,ab,ah,ai⟩
 case round=>
  obtain⟨k,hk,rfl,ag,aa,ad,ae⟩:=hrel;clear hB ab ah ai ao;by_cases hlt:k<s.size
  ·have af:=aa k hlt;have hfk:=ad k hlt;simp only[Qc7]at af;rw[if_neg (by omega)]at af;generalize hcd:s.data.toList.getD k 0=c at af;have aj:=Qab hcd;clear hcd;have hb:=UInt8.toNat_lt c;have HC:=Qab aa;have HF:=Qab ad;clear aa ad;cases hc:QeB (c.toNat:Int)
   ·go_wp2_with (go_at_call 220;refine(QeS _ _).mono ?_;rintro e w' ⟨rfl,rfl⟩);refine⟨⟨k+1,by omega,by go_num,ag,fun j hj=>?_,HF.o,ae⟩,by simp[intOf];omega⟩;rw[HC.o j hj,Qnh s k j (by rw[aj.o];exact hc)]
   ·have hv:=Qab (Qs6 c hc);have ak:65<=(c.toNat:Int)/\(c.toNat:Int)<=90:=by unfold QeB at hc;simpa using hc
    obtain⟨ak,hc2⟩:=ak;go_wp2_with (go_at_call 220;refine(QeS _ _).mono ?_;rintro e w' ⟨rfl,rfl⟩);refine⟨⟨k+1,by omega,by go_num,?_,fun j hj=>?_,fun j hj=>?_,?_⟩,by simp[intOf];omega⟩
    ·exact ag.setCell (Nat.le_refl _) _
    ·by_cases e:j=k
     ·subst e;rw[World.cell?_setCell_same _ _ _ af,Qov,aj.o];rw[hv.o]
     ·rw[World.cell?_setCell_other _ _ _ _ (by simp[e]),HC.o j hj,QlV s k j e]
    ·rw[World.frozen?_setCell];exact HF.o j hj
    ·simpa using ae
  ·have ap:k=s.size:=by omega
   subst ap;have hr:=HL.o wr aa C;go_wp2;go_ret;exact⟨rfl,ag⟩
def Qc8 (f:Flt) (w:World) (e:Ending) (w':World):Prop:=
 ∃ b,w.heap.size≤b∧e=.panicked [{ v:=.iface 125 (.pointer (some ⟨b,0,none⟩)),recovered:=false }]∧
  w'.heap[b]?=some (.cells #[.int .i64 f.err,.int .i64 f.pos] 130)
theorem Qbi(er aa:Int)(w:World) :
 Calls Tryz.prog 103 #[.int .i64 er,.int .i64 aa] w fun e w'=>e=.returned (.pointer (some ⟨w.heap.size,0,none⟩))/\w'=w.alloc (.cells #[.int .i64 er,.int .i64 aa] 130):=by
 go_enter func103,ntmps103;go_wp2;go_ret;exact⟨rfl,rfl⟩
theorem QrQ(l:L8)(h:Lib.indexByte l 10<0):(lineLen l:Int)=l.length:=by unfold lineLen;rw[if_pos h]
theorem Qr7(l:L8)(h:¬ Lib.indexByte l 10<0):(lineLen l:Int)=Lib.indexByte l 10+1:=by unfold lineLen;rw[if_neg h];omega
theorem QkU(s:ByteArray)(w:World)(hs:s.size<=140737488355328) :
 Calls Tryz.prog 232 #[.string s] w fun e w'=>e=.returned (.int .i64 (lineLen s.data.toList))/\w'=w:=by
 have aa:=Qik s.data.toList 10;have hge:=Lib.indexByte_ge s.data.toList 10;have h1:=Qab (QrQ s.data.toList);have h2:=Qab (Qr7 s.data.toList);have hl:(s.data.toList.length:Int)=s.size:=by simp
 rw[hl]at aa;have e10:(Int.toNat 10).toUInt8=(10:UInt8):=rfl;by_cases hn:Lib.indexByte s.data.toList 10<0
 ·go_enter func232,ntmps232;go_wp2_with (go_at_call 230;refine(Tryz.strings_IndexByte _ _ _).mono ?_;rintro e w' ⟨rfl,rfl⟩);go_ret;exact⟨Qct (by rw[h1.o hn,hl]),rfl⟩
 ·go_enter func232,ntmps232;go_wp2_with (go_at_call 230;refine(Tryz.strings_IndexByte _ _ _).mono ?_;rintro e w' ⟨rfl,rfl⟩);go_ret;exact⟨Qct (by rw[h2.o (by omega)]),rfl⟩
theorem Qdv(s:ByteArray)(a:Nat):(s.extract a s.size).data.toList=s.data.toList.drop a:=by
 rw[ByteArray.data_extract,Array.toList_extract,List.extract_eq_take_drop];rw[List.take_of_length_le];simp
theorem Qec(s:ByteArray)(a:Nat):(s.extract a s.size).size=s.size - a:=by
 rw[Lib.size_eq,Qdv];simp
theorem Qty(f p:Nat):QbJ f [] p=.ok p:=by cases f<;>rfl
theorem Qqg(f p:Nat)(c:UInt8)(r:L8)(h:Qa8 c.toNat=true):QbJ (f+1) (c::r) p=QbJ f r (p+1):=by
 simp only[QbJ];rw[if_pos h]
theorem QsC(f p:Nat)(c:UInt8)(r:L8)(h:Qa8 c.toNat=false)(h1:c.toNat=35):QbJ (f+1) (c::r) p=QbJ f ((c::r).drop (lineLen (c::r))) (p+lineLen (c::r)):=by
 simp only[QbJ];rw[if_neg (by rw[h];decide),if_pos h1]
theorem Qs3(f p:Nat)(c:UInt8)(r:L8)(h:Qa8 c.toNat=false)(h1:¬ c.toNat=35)(h2:Lib.hasPrefix (c::r) [47,42]=true)(h3:Lib.index (r.drop 1) [42,47]<0):QbJ (f+1) (c::r) p=.error ⟨2,p⟩:=by
 simp only[QbJ];rw[if_neg (by rw[h];decide),if_neg h1,if_pos h2,if_pos h3]
theorem Qs4(f p:Nat)(c:UInt8)(r:L8)(h:Qa8 c.toNat=false)(h1:¬ c.toNat=35)(h2:Lib.hasPrefix (c::r) [47,42]=true)(h3:¬ Lib.index (r.drop 1) [42,47]<0):QbJ (f+1) (c::r) p=QbJ f ((c::r).drop (4+(Lib.index (r.drop 1) [42,47]).toNat)) (p+(4+(Lib.index (r.drop 1) [42,47]).toNat)):=by
 simp only[QbJ];rw[if_neg (by rw[h];decide),if_neg h1,if_pos h2,if_neg h3]
theorem Qs5(f p:Nat)(c:UInt8)(r:L8)(h:Qa8 c.toNat=false)(h1:¬ c.toNat=35)(h2:Lib.hasPrefix (c::r) [47,42]=false):QbJ (f+1) (c::r) p=.ok p:=by
 simp only[QbJ];rw[if_neg (by rw[h];decide),if_neg h1,if_neg (by rw[h2];decide)]
theorem QmJ(l:L8)(a b:UInt8)(h:Lib.hasPrefix l [a,b]=true):2<=l.length:=by
 have:=(List.isPrefixOf_iff_prefix.1 h).length_le;simpa using this
def Qdm (r:Except Flt Nat) (w:World) (e:Ending) (w':World):Prop:=
 match r with
 | .ok n=>e=.returned (.int .i64 n)∧w'=w
 | .error f=>Qc8 f w e w'∧Below w.heap.size w w'
theorem Qdm.ok{r:Except Flt Nat}{n:Nat}{w:World}{x:Int}(h:r=.ok n)(hx:x=n):Qdm r w (.returned (.int .i64 x)) w:=by
 subst h;subst hx;exact⟨rfl,rfl⟩
theorem Qol(er p:Nat)(w:World):Qc8 ⟨er,p⟩ w (.panicked [{ v:=.iface 125 (.pointer (some ⟨w.heap.size,0,none⟩)),recovered:=false }]) (w.alloc (.cells #[.int .i64 er,.int .i64 p] 130)):=by
 refine⟨w.heap.size,Nat.le_refl _,rfl,?_⟩;show(w.heap.push _)[w.heap.size]?=_
 simp
theorem Qdm.err{r:Except Flt Nat}{er p:Nat}{w:World}(h:r=.error ⟨er,p⟩) :
 Qdm r w (.panicked [{ v:=.iface 125 (.pointer (some ⟨w.heap.size,0,none⟩)),recovered:=false }]) (w.alloc (.cells #[.int .i64 er,.int .i64 p] 130)):=by
 subst h;exact⟨Qol er p w,(Below.refl _ _).alloc (Nat.le_refl _) _⟩
theorem Qvq(s:ByteArray)(ab f0:Nat)(m:Int)(w:World)(hs:s.size<=4294967280)(ha:ab<=s.size)(hf:s.size - ab<f0)(hm:w.cell? ⟨1,0,none⟩=some (.int .i64 m)) :
 Calls Tryz.prog 194 #[.string s,.int .i64 ab] w (Qdm (QbJ f0 (s.data.toList.drop ab) ab) w):=by
 go_enter func194,ntmps194;go_wp2_with fail
 go_loop [1,5,6] (fun a _ _=>∃ k f:Nat,k<=s.size/\s.size - k<f/\a=.int .i64 k/\QbJ f0 (s.data.toList.drop ab) ab=QbJ f (s.data.toList.drop k) k) (fun a _ _=>s.size - (intOf a).toNat)
 case atStart=>exact⟨ab,f0,ha,hf,rfl,rfl⟩
 case round=>
  obtain⟨k,f,hk,hkf,rfl,hR⟩:=hrel;obtain⟨f,rfl⟩:∃ g,f=g+1:=⟨f - 1,by omega⟩;have HR:=Qab hR;clear hR;by_cases hlt:k<s.size
  ·have hd:=Qbv s k hlt;obtain⟨rs,hx⟩:∃ rs,s.extract k s.size=rs:=⟨_,rfl⟩;have HL:Hid (rs.data.toList=s.data.toList.drop k):=by rw[<-hx];exact Qdv s k
   have hz:rs.size=s.size - k:=by rw[<-hx];exact Qec s k
   have aj:0<rs.size:=by omega
   have hz1:rs.size<=s.size - k:=by omega
   have HZ:=Qab hz;clear hz
   have h0:rs[0]=s[k]:=by
    have e:=HL.o;rw[hd]at e;have e2:=Qbv rs 0 aj;rw[List.drop_zero,e]at e2;exact(List.cons.inj e2).1.symm
   generalize hcd:s[k]=c at h0 hd;clear hcd;rw[hd]at HR;have HD:=Qab hd;clear hd;cases hb:Qa8 (c.toNat:Int)
   ·by_cases h35:(c.toNat:Int)=35
    ·have HS:=Qab (QsC f k c (s.data.toList.drop (k+1)) hb (by omega));have ai:=QfZ rs.data.toList;have hlp:1<=lineLen rs.data.toList:=by rw[HL.o,HD.o];exact Qd2 _ _
     have ac:rs.data.toList.length=rs.size:=by simp
     rw[ac]at ai;have ae:((c.toNat:Int)==35)=true:=by simpa using h35
     clear h35;have ah:Hid (lineLen (c::s.data.toList.drop (k+1))=lineLen rs.data.toList):=by show _=_;rw[HL.o,HD.o]
     go_wp2_with (first|(go_at_call 231;refine(QcO _ _).mono ?_;rintro e w' ⟨rfl,rfl⟩)|(go_at_call 232;refine(QkU _ _ (by omega)).mono ?_;rintro e w' ⟨rfl,rfl⟩));refine⟨⟨k+lineLen rs.data.toList,f,by omega,by omega,by go_num,?_⟩,by simp[intOf];omega⟩;rw[HR.o,HS.o,ah.o,<-HD.o,List.drop_drop]
    ·have ae:((c.toNat:Int)==35)=false:=by simpa using h35
     cases hp:Lib.hasPrefix rs.data.toList [47,42]
     ·have HS:=Qab (Qs5 f k c (s.data.toList.drop (k+1)) hb (by omega) (by rw[<-HD.o,<-HL.o];exact hp));clear h35;go_wp2_with (first|(go_at_call 231;refine(QcO _ _).mono ?_;rintro e w' ⟨rfl,rfl⟩)|(go_at_call 233;refine(Tryz.strings_HasPrefix _ _ _).mono ?_;rintro e w' ⟨rfl,rfl⟩));go_ret;exact Qdm.ok (by rw[HR.o,HS.o]) rfl
     ·have h2:=QmJ _ _ _ hp;have ac:rs.data.toList.length=rs.size:=by simp
      rw[ac]at h2;obtain⟨rt,af⟩:∃ rt,rs.extract 2 rs.size=rt:=⟨_,rfl⟩
      have ad:Hid (rt.data.toList=(s.data.toList.drop (k+1)).drop 1):=by
       show _=_
       rw[<-af,Qdv,HL.o,HD.o];rfl
      have ak:rt.size=rs.size - 2:=by rw[<-af];exact Qec rs 2
      have hz3:rt.size<=rs.size - 2:=by omega
      have ag:(rt.data.toList.length:Int)=rt.size:=by simp
      have aa:=Qel rt.data.toList [42,47];rw[ag]at aa;have hge:=Lib.index_ge rt.data.toList [42,47];clear ak ac ag;by_cases hi:Lib.index rt.data.toList [42,47]<0
      ·have HS:=Qab (Qs3 f k c (s.data.toList.drop (k+1)) hb (by omega) (by rw[<-HD.o,<-HL.o];exact hp) (by rw[<-ad.o];exact hi));clear h35 aa;go_wp2_with (first|(go_at_call 231;refine(QcO _ _).mono ?_;rintro e w' ⟨rfl,rfl⟩)|(go_at_call 233;refine(Tryz.strings_HasPrefix _ _ _).mono ?_;rintro e w' ⟨rfl,rfl⟩)|(go_at_call 234;refine(Tryz.strings_Index _ _ m _ (by omega) hm).mono ?_;rintro e w' ⟨rfl,rfl⟩)|(go_at_call 103;refine(Qbi _ _ _).mono ?_;rintro e w' ⟨rfl,rfl⟩));exact⟨rfl,Qdm.err (by rw[HR.o,HS.o])⟩
      ·have hroom':Lib.index rt.data.toList [42,47]+2<=rt.size:=by
        rcases aa with h|h
        ·exact absurd h hi
        ·simpa using h
       have HS:=Qab (Qs4 f k c (s.data.toList.drop (k+1)) hb (by omega) (by rw[<-HD.o,<-HL.o];exact hp) (by rw[<-ad.o];exact hi));clear h35 aa;go_wp2_with (first|(go_at_call 231;refine(QcO _ _).mono ?_;rintro e w' ⟨rfl,rfl⟩)|(go_at_call 233;refine(Tryz.strings_HasPrefix _ _ _).mono ?_;rintro e w' ⟨rfl,rfl⟩)|(go_at_call 234;refine(Tryz.strings_Index _ _ m _ (by omega) hm).mono ?_;rintro e w' ⟨rfl,rfl⟩)|(go_at_call 103;refine(Qbi _ _ _).mono ?_;rintro e w' ⟨rfl,rfl⟩));refine⟨⟨k+(4+(Lib.index rt.data.toList [42,47]).toNat),f,by omega,by omega,congrArg _ (by omega),?_⟩,by simp[intOf];omega⟩;rw[HR.o,HS.o,<-ad.o,<-HD.o,List.drop_drop]
   ·have HS:=Qab (Qqg f k c (s.data.toList.drop (k+1)) hb);go_wp2_with (first|(go_at_call 231;refine(QcO _ _).mono ?_;rintro e w' ⟨rfl,rfl⟩));go_round
    case rel=>exact⟨k+1,f,by omega,by omega,by go_num,by rw[HR.o,HS.o]⟩
    case measure=>simp[intOf];omega
  ·go_wp2;go_ret;exact Qdm.ok (by rw[HR.o,List.drop_of_length_le (by simp;omega),Qty]) rfl
theorem QnV(s:ByteArray)(a n:Nat):(s.extract a (a+n)).data.toList=(s.data.toList.drop a).take n:=by
 rw[ByteArray.data_extract,Array.toList_extract,List.extract_eq_take_drop];rw[show a+n - a=n from by omega]
theorem QsQ{W w1:World}(hb:Below W.heap.size W w1):(∀ b o,b<W.heap.size->w1.cell? ⟨b,o,none⟩=W.cell? ⟨b,o,none⟩)/\(∀ b o,b<W.heap.size->w1.frozen? ⟨b,o,none⟩=W.frozen? ⟨b,o,none⟩):=
 ⟨fun b o h=>hb.cell (p:=⟨b,o,none⟩) h,fun b o h=>hb.frozen (p:=⟨b,o,none⟩) h⟩
def wdV (x:Wd):Value:=.agg #[.int .i64 x.kind,.int .i64 x.pos,.string ⟨x.spelt.toArray⟩,.string ⟨x.said.toArray⟩,.int .i64 x.num]
def QaV (r:Except Flt (Wd×Nat)) (w:World) (e:Ending) (w':World):Prop:=
 Below w.heap.size w w'∧
 match r with
 | .ok x=>e=.returned (.tuple #[wdV x.1,.int .i64 x.2])
 | .error f=>Qc8 f w e w'
theorem QaV.ok{r:Except Flt (Wd×Nat)}{x:Wd×Nat}{w w':World}{v:Value}{n:Int}(h:r=.ok x)(hb:Below w.heap.size w w')(hv:v=wdV x.1)(hn:n=x.2):QaV r w (.returned (.tuple #[v,.int .i64 n])) w':=by
 subst h;subst hv;subst hn;exact⟨hb,rfl⟩
theorem QaV.err{r:Except Flt (Wd×Nat)}{f:Flt}{w w':World}{e:Ending}(h:r=.error f)(hb:Below w.heap.size w w')(ht:Qc8 f w e w'):QaV r w e w':=by
 subst h;exact⟨hb,ht⟩
theorem Qc8.up{f:Flt}{w w1 w':World}{e:Ending}(h:Qc8 f w1 e w')(hz:w.heap.size<=w1.heap.size):Qc8 f w e w':=by
 obtain⟨b,hb,h⟩:=h;exact⟨b,Nat.le_trans hz hb,h⟩
theorem QcA(er p:Nat){w w1:World}{b:Nat}(hz:w.heap.size<=w1.heap.size)(hb:b=w1.heap.size) :
 Qc8 ⟨er,p⟩ w (.panicked [{ v:=.iface 125 (.pointer (some ⟨b,0,none⟩)),recovered:=false }]) (w1.alloc (.cells #[.int .i64 er,.int .i64 p] 130)):=by
 subst hb;exact(Qol er p w1).up hz
theorem Qmy(k:Int)(s:ByteArray)(aa n:Nat)(w:World)(hs:s.size<=4294967280)(ha:aa+n<=s.size) :
 Calls Tryz.prog 225 #[.int .i64 k,.string s,.int .i64 aa,.int .i64 n] w fun e w'=>
  e=.returned (.tuple #[.agg #[.int .i64 k,.int .i64 aa,.string ⟨(zL ((s.data.toList.drop aa).take n)).toArray⟩,.string ⟨#[]⟩,.int .i64 0],.int .i64 (aa+n:Nat)])/\Below w.heap.size w w':=by
 obtain⟨rs,hx⟩:∃ rs,s.extract aa (aa+n)=rs:=⟨_,rfl⟩;have HL:Hid (rs.data.toList=(s.data.toList.drop aa).take n):=by rw[<-hx];exact QnV s aa n
 have hz:rs.size<=s.size:=by
  rw[Lib.size_eq,HL.o];simp;omega
 go_enter func225,ntmps225;go_wp2_with fail;refine(Qfz rs _ (by omega)).mono ?_;rintro e w1 ⟨rfl,hb⟩;rw[HL.o];obtain⟨hc,hf⟩:=QsQ hb;have ac:w.heap.size<w1.heap.size:=by have:=hb.size;simp at this;omega
 have HB:=Qab hb;clear hb;go_wp2;have ab:Below w.heap.size w w1:=((Below.refl _ w).alloc (Nat.le_refl _) _).trans (HB.o.mono (by simp));refine bodyPost_ret (v:=.tuple #[.agg #[.int .i64 k,.int .i64 aa,.string ⟨(zL ((s.data.toList.drop aa).take n)).toArray⟩,.string ⟨#[]⟩,.int .i64 0],.int .i64 (aa+n:Nat)]) (by simp[results,results225,go_sem,hc,ac]) rfl ⟨rfl,?_⟩;exact((((ab.setCell (Nat.le_refl _) _).setCell (Nat.le_refl _) _).setCell (Nat.le_refl _) _).setCell (Nat.le_refl _) _).setCell (Nat.le_refl _) _
end
section
open Go.RowKit
attribute [local go_sem ↓] Go.wp_at_zero Go.wp_at_succ
theorem Qeu(x:L8)(w:World)(h:x.length<=1000000):Calls Tryz.prog 181 #[.string (Qaf x)] w fun e w'=>e=.returned (.string (Qaf (zL x)))/\Below w.heap.size w w':=
 Qfz (Qaf x) w (by rw[Qaj];omega)
theorem QoP(s:ByteArray)(w:World)(hs:s.size<=1000000) :
 Calls Tryz.prog 283 #[.string s] w fun e w'=>e=.returned (.int .i64 (nmLen s.data.toList))/\w'=w:=by
 have hm:s.size<=maxLen:=by unfold maxLen;omega
 by_cases h0:s.size=0
 ·have aa:=Qea h0;have hr:nmLen s.data.toList=Qa5 s.data.toList:=by rw[<-ByteArray.toList_eq,aa];rfl
  have HR:=Qab hr;clear hr;go_enter func283,ntmps283;go_wp2_with (go_at_call 226;refine(Qb4 _ _ hm).mono ?_;rintro e w' ⟨rfl,rfl⟩);go_ret;exact⟨Qct (by rw[HR.o]),rfl⟩
 have aa:=QcJ h0;have h0'':s.toList.isEmpty=false:=by simpa using aa
 have h1:0<s.size:=by omega
 have hl:s.data.toList=s[0]::s.data.toList.drop 1:=by have:=Qbv s 0 h1;rwa [List.drop_zero]at this
 cases hd:QaS (s[0].toNat:Int)
 ·have hr:nmLen s.data.toList=Qa5 s.data.toList:=by
   rw[hl];exact if_neg (by rw[hd];decide)
  have HR:=Qab hr;clear hr hl;go_enter func283,ntmps283;go_wp2_with (first|(go_at_call 226;refine(Qb4 _ _ hm).mono ?_;rintro e w' ⟨rfl,rfl⟩)|(go_at_call 227;refine(QaM _ _).mono ?_;rintro e w' ⟨rfl,rfl⟩));go_ret;exact⟨Qct (by rw[HR.o]),rfl⟩
 ·have hr:nmLen s.data.toList=1:=by
   rw[hl];exact if_pos hd
  have HR:=Qab hr;clear hr hl;go_enter func283,ntmps283;go_wp2_with (first|(go_at_call 226;refine(Qb4 _ _ hm).mono ?_;rintro e w' ⟨rfl,rfl⟩)|(go_at_call 227;refine(QaM _ _).mono ?_;rintro e w' ⟨rfl,rfl⟩));go_ret;exact⟨Qct (by rw[HR.o];rfl),rfl⟩
theorem Tryz.zeroVal:∀ W,(zeroValue 354).run Tryz.prog W=.ok (.agg #[.string ⟨#[]⟩]) W:=by
 intro W;have h:(Tryz.prog.info? 354).map (fun i=>i.zero)=some (some (.agg #[.string ⟨#[]⟩])):=by kernel_rfl
 cases hi:Tryz.prog.info? 354 with
 |none=>rw[hi]at h;cases h
 |some i=>
  rw[hi]at h;simp at h;simp[zeroValue,typeInfo,hi,h]
theorem Tryz.fieldVal(x:ByteArray)(W:World):(Instr.field 354 (.agg #[.string x]) 0).run Tryz.prog W=.ok (.string x) W:=by
 simp[Instr.field,run_underlying underlying354,asAgg,Result.andThen,go_sem]
theorem Qvo(s:SS)(x:L8):(QoV s x).getD (.agg #[.string ⟨#[]⟩])=.agg #[.string (Qaf ((s.vals x).getD []))]:=by
 unfold QoV;cases s.vals x<;>rfl
theorem Qup(B sb:Nat)(M:Msg)(s:SS)(x:L8)(w:World)(h:SAt w B sb M s)(hx:x≠[])(hl:x.length<=1000000) :
 Calls Tryz.prog 284 #[.pointer (some ⟨sb,0,none⟩),.string (Qaf x)] w fun e w'=>e=.returned (.string (Qaf (Qk4 s x)))/\Below w.heap.size w w':=by
 obtain⟨hv,mb,tv,mv,h⟩:=h;obtain⟨c,r,rfl⟩:∃ c r,x=c::r:=by cases x with|nil=>exact absurd rfl hx|cons c r=>exact⟨c,r,rfl⟩
 have hz:(Qaf (c::r)).size=r.length+1:=rfl;have hg:(Qaf (c::r))[0]'(by rw[hz];omega)=c:=rfl;have hl':r.length+1<=1000000:=hl;have hub:=UInt8.toNat_lt c;have c5:w.cell? ⟨sb,5,none⟩=some (.map (some mb)):=h.cell 5;have c6:w.cell? ⟨sb,6,none⟩=some tv:=h.cell 6;have ai:=h.lt;obtain⟨ta,tc,ak⟩:=h.told.len;subst ak;obtain⟨es,mc,hm,hu⟩:=h.mp;cases hd:QaS (c.toNat:Int)
 ·have aa:Qk4 s (c::r)=(s.vals (zL (c::r))).getD []:=if_neg (by rw[hd];decide);have HV:=Qab aa
  have HL:Hid (∀ W,Below w.heap.size w W->(Instr.lookup 270 (.map (some mb)) (.string (Qaf (zL (c::r)))) false).run Tryz.prog W=.ok (.agg #[.string (Qaf ((s.vals (zL (c::r))).getD []))]) W):=fun W hW=>by
   rw[QvW underlying270 underlying9 Tryz.zeroVal (Qal hm hW) hu,Qvo]
  have hfl:=Tryz.fieldVal;clear aa h hm hu;go_enter func284,ntmps284;go_wp2_with (go_at_call 227;refine(QaM _ _).mono ?_;rintro e w' ⟨rfl,rfl⟩);go_region_held3 (fun w'=>w'.cell? ⟨sb,5,none⟩=some (.map (some mb))) (first|go_keep|exact d5) (first|(go_at_call 181;refine(Qeu _ _ hl).mono ?_;rintro e w1 ⟨rfl,ac⟩;have ab:=Qbk ac;have af:=Qab ab;have d5:w1.cell? ⟨sb,5,none⟩=some (.map (some mb)):=(ab.cell (p:=⟨sb,5,none⟩) ai).trans c5;have hlk:=HL.o w1 ab;clear ac ab;skip))
  all_goals go_wp2
  all_goals go_ret
  all_goals exact⟨by rw[HV.o];rfl,af.o⟩
 ·have aa:Qk4 s (c::r)=s.told.getD (c.toNat - 48) []:=if_pos hd;have HV:=Qab aa;have ag:48<=(c.toNat:Int)/\(c.toNat:Int)<=57:=by unfold QaS at hd;simpa using hd
  obtain⟨hd1,hd2⟩:=ag;obtain⟨d,ad⟩:∃ d:Nat,c.toNat=d+48:=⟨c.toNat - 48,by omega⟩;have hd3:(c.toNat:Int) - 48=(d:Int):=by omega
  have hd4:d<=9:=by omega
  have htl:=h.bd.tl;rw[ad,Nat.add_sub_cancel]at HV;clear ad;by_cases hlt2:d<s.told.length
  ·have hi:(d:Int)<(s.told.length:Int):=by omega
   obtain⟨g,aj,ah⟩:∃ g,ta=some ⟨g,0,none⟩/\w.cell? ⟨g,d,none⟩=some (.string (Qaf (s.told.getD d []))):=by
    rcases h.told with⟨h1,h2⟩ | ⟨g,cc,h1,h2⟩
    ·rw[h2]at hlt2;exact absurd hlt2 (Nat.not_lt_zero _)
    ·injection h1 with h3 h4 h5
     exact⟨g,h3,h2.at d hlt2⟩
   subst aj;obtain⟨z,ae⟩:∃ z,s.told.getD d []=z:=⟨_,rfl⟩;rw[ae]at HV ah;clear aa h hm hu ae;go_enter func284,ntmps284;go_wp2_with (go_at_call 227;refine(QaM _ _).mono ?_;rintro e w' ⟨rfl,rfl⟩)
   all_goals go_ret
   all_goals exact⟨by rw[HV.o];rfl,Below.refl _ _⟩
  ·have hi:¬(d:Int)<(s.told.length:Int):=by omega
   have hn:s.told.getD d []=[]:=by rw[List.getD_eq_getElem?_getD,List.getElem?_eq_none (by omega)];rfl
   have HN:=Qab hn;clear aa h hm hu hn;go_enter func284,ntmps284;go_wp2_with (go_at_call 227;refine(QaM _ _).mono ?_;rintro e w' ⟨rfl,rfl⟩)
   all_goals go_ret
   all_goals exact⟨by rw[HV.o,HN.o];rfl,Below.refl _ _⟩
end
section
open Go.RowKit
def Qhs (s:ByteArray) (k j:Nat):UInt8:=if j < k then QwN (s.data.toList.getD j 0) else s.data.toList.getD j 0
theorem Qv5(c:UInt8)(h:QjS (c.toNat:Int)=true):((QwN c).toNat:Int)=(c.toNat:Int) - 97+65:=by
 have hc:=h;unfold QjS at hc;simp at hc;have e:QwN c=c - 97+65:=by unfold QwN;rw[if_pos h]
 rw[e,UInt8.toNat_add,UInt8.toNat_sub];simp;omega
theorem QvM(c:UInt8)(h:QjS (c.toNat:Int)=false):QwN c=c:=by
 unfold QwN;rw[if_neg (by rw[h];decide)]
theorem QrT(s:ByteArray)(k j:Nat)(h:QjS ((s.data.toList.getD k 0).toNat:Int)=false):Qhs s k j=Qhs s (k+1) j:=by
 unfold Qhs;by_cases e:j=k
 ·subst e;rw[if_neg (by omega),if_pos (by omega),QvM _ h]
 ·by_cases l:j<k
  ·rw[if_pos l,if_pos (by omega)]
  ·rw[if_neg l,if_neg (by omega)]
theorem QpG(s:ByteArray)(k j:Nat)(e:¬ j=k):Qhs s k j=Qhs s (k+1) j:=by
 unfold Qhs;by_cases l:j<k
 ·rw[if_pos l,if_pos (by omega)]
 ·rw[if_neg l,if_neg (by omega)]
theorem QsE(s:ByteArray)(k:Nat):Qhs s (k+1) k=QwN (s.data.toList.getD k 0):=by
 unfold Qhs;rw[if_pos (by omega)]
theorem QqE(s:ByteArray)(w:World)(hs:s.size<=140737488355328) :
 Calls Tryz.prog 253 #[.string s] w fun e w'=>e=.returned (.string ⟨(capL s.data.toList).toArray⟩)/\Below w.heap.size w w':=by
 have ao:=Lib.run_convert_string_bytes (P:=Tryz.prog) w 9 198 5 s (u:=.string) underlying9 underlying198 underlying5;have hB:=Lib.bytesWorld_below w 5 s
 have ab:∀ j,j<s.size->(Lib.bytesWorld w 5 s).cell? ⟨w.heap.size,j,none⟩=some (.int .u8 (Qhs s 0 j).toNat):=fun j hj=>by
  rw[Lib.bytesWorld_cell w 5 s j hj];simp[Qhs]
 have ah:∀ j,j<s.size->(Lib.bytesWorld w 5 s).frozen? ⟨w.heap.size,j,none⟩=false:=fun j hj=>by
  unfold World.frozen?;rw[Lib.bytesWorld_at_new];simp[Lib.bytesCells];omega
 have ai:=Lib.bytesWorld_size w 5 s;generalize Lib.bytesWorld w 5 s=W1 at ao hB ab ah ai
 have ac:∀(wr:World),(∀ j,j<s.size->wr.cell? ⟨w.heap.size,j,none⟩=some (.int .u8 (Qhs s s.size j).toNat))->
  ∀ C,(convert 198 9 (.slice (some ⟨w.heap.size,0,none⟩) s.size C)).run Tryz.prog wr=.ok (.string ⟨(capL s.data.toList).toArray⟩) wr:=fun wr hw C=>by
  have hl:(capL s.data.toList).length=s.size:=by simp[capL]
  have:=run_convert_bytes_back (P:=Tryz.prog) wr 198 9 5 ⟨w.heap.size,0,none⟩ C (capL s.data.toList) underlying198 underlying5 underlying9 (fun j hj=>by
   rw[Qcs,hw j (by omega)];have hj':j<s.data.toList.length:=by simp[capL]at hj;simpa using hj
   simp only[Qhs,capL,List.getElem_map]
   rw [if_pos (by omega),List.getD_eq_getElem?_getD,List.getElem?_eq_getElem hj'];rfl)
  rw[hl]at this;exact this
 have HL:=Qab ac;clear ac;go_enter func253,ntmps253;go_wp2_with fail;generalize grownCap w s.size 0 5=C at *
 go_loopw [4,5,10] (fun _ _ i wr=>∃ k:Nat,k<=s.size/\i=.int .i64 k/\Below w.heap.size w wr/\(∀ j,j<s.size->wr.cell? ⟨w.heap.size,j,none⟩=some (.int .u8 (Qhs s k j).toNat))/\(∀ j,j<s.size->wr.frozen? ⟨w.heap.size,j,none⟩=false)/\wr.heap.size=w.heap.size+1) (fun _ _ i _=>s.size - (intOf i).toNat)
 case atStart=>exact⟨0,by omega,rfl,hB,ab,ah,ai⟩
 case round=>
  obtain⟨k,hk,rfl,ag,aa,ad,ae⟩:=hrel;clear hB ab ah ai ao;by_cases hlt:k<s.size
  ·have af:=aa k hlt;have hfk:=ad k hlt;simp only[Qhs]at af;rw[if_neg (by omega)]at af;generalize hcd:s.data.toList.getD k 0=c at af;have aj:=Qab hcd;clear hcd;have hb:=UInt8.toNat_lt c;have HC:=Qab aa;have HF:=Qab ad;clear aa ad;cases hc:QjS (c.toNat:Int)
   ·go_wp2_with (go_at_call 257;refine(QgQ _ _).mono ?_;rintro e w' ⟨rfl,rfl⟩);refine⟨⟨k+1,by omega,by go_num,ag,fun j hj=>?_,HF.o,ae⟩,by simp[intOf];omega⟩;rw[HC.o j hj,QrT s k j (by rw[aj.o];exact hc)]
   ·have hv:=Qab (Qv5 c hc);have ak:97<=(c.toNat:Int)/\(c.toNat:Int)<=122:=by unfold QjS at hc;simpa using hc
    obtain⟨ak,hc2⟩:=ak;go_wp2_with (go_at_call 257;refine(QgQ _ _).mono ?_;rintro e w' ⟨rfl,rfl⟩);refine⟨⟨k+1,by omega,by go_num,?_,fun j hj=>?_,fun j hj=>?_,?_⟩,by simp[intOf];omega⟩
    ·exact ag.setCell (Nat.le_refl _) _
    ·by_cases e:j=k
     ·subst e;rw[World.cell?_setCell_same _ _ _ af,QsE,aj.o];rw[hv.o]
     ·rw[World.cell?_setCell_other _ _ _ _ (by simp[e]),HC.o j hj,QpG s k j e]
    ·rw[World.frozen?_setCell];exact HF.o j hj
    ·simpa using ae
  ·have ap:k=s.size:=by omega
   subst ap;have hr:=HL.o wr aa C;go_wp2;go_ret;exact⟨rfl,ag⟩
end
end Go.Proofs.YtgnkjijocdmniaaGreatDoor
