import Derived.Test.YtbiclelojbfnbabGreatDoorZPlainSpace2
import Derived.Test.YtbiclelojbfnbabGreatDoorZSText
import Derived.Test.YtbiclelojbfnbabGreatDoorShelf
namespace Go.Proofs.YtbiclelojbfnbabGreatDoor
set_option linter.unusedVariables false
set_option linter.unusedSimpArgs false
set_option maxRecDepth 100000
set_option maxHeartbeats 4000000
section
open Go.RowKit
def QcR (f:Flt) (w:World) (e:Ending) (w':World):Prop:=
 ∃ b,w.heap.size≤b∧e=.panicked [{ v:=.iface 76 (.pointer (some ⟨b,0,none⟩)),recovered:=false }]∧
  w'.heap[b]?=some (.cells #[.int .i64 f.err,.int .i64 f.pos] 81)
theorem Qau (er at_:Int) (w:World) :
 Calls Tryz.prog 64 #[.int .i64 er,.int .i64 at_] w fun e w'=>e=.returned (.pointer (some ⟨w.heap.size,0,none⟩))∧w'=w.alloc (.cells #[.int .i64 er,.int .i64 at_] 81):=by
 go_enter Tryz.func64,Tryz.ntmps64
 go_wp2
 go_ret
 exact ⟨rfl,rfl⟩
theorem QpE (l:List UInt8) (h:Lib.indexByte l 10 < 0):(lineLen l:Int)=l.length:=by unfold lineLen;rw [if_pos h]
theorem Qor (l:List UInt8) (h:¬ Lib.indexByte l 10 < 0):(lineLen l:Int)=Lib.indexByte l 10+1:=by unfold lineLen;rw [if_neg h];omega
theorem QiD (s:ByteArray) (w:World) (hs:s.size≤140737488355328) :
 Calls Tryz.prog 215 #[.string s] w fun e w'=>e=.returned (.int .i64 (lineLen s.data.toList))∧w'=w:=by
 have hle:=QgS s.data.toList 10
 have hge:=Lib.indexByte_ge s.data.toList 10
 have h1:=Qaa (QpE s.data.toList)
 have h2:=Qaa (Qor s.data.toList)
 have hl:(s.data.toList.length:Int)=s.size:=by simp
 rw [hl] at hle
 have e10:(Int.toNat 10).toUInt8=(10:UInt8):=rfl
 by_cases hn:Lib.indexByte s.data.toList 10 < 0
 ·go_enter Tryz.func215,Tryz.ntmps215
  go_wp2_with (go_at_call 213;refine (Tryz.strings_IndexByte _ _ _).mono ?_;rintro e w' ⟨rfl,rfl⟩)
  go_ret
  exact ⟨Qcb (by rw [h1.out hn,hl]),rfl⟩
 ·go_enter Tryz.func215,Tryz.ntmps215
  go_wp2_with (go_at_call 213;refine (Tryz.strings_IndexByte _ _ _).mono ?_;rintro e w' ⟨rfl,rfl⟩)
  go_ret
  exact ⟨Qcb (by rw [h2.out (by omega)]),rfl⟩
end
section
open Go.RowKit
theorem Qdc (s:ByteArray) (a:Nat):(s.extract a s.size).data.toList=s.data.toList.drop a:=by
 rw [ByteArray.data_extract,Array.toList_extract,List.extract_eq_take_drop]
 rw [List.take_of_length_le]
 simp
theorem QdL (s:ByteArray) (a:Nat):(s.extract a s.size).size=s.size - a:=by
 rw [Lib.size_eq,Qdc];simp
theorem QqM (f p:Nat):QbS f [] p=.ok p:=by cases f <;> rfl
theorem QmV (f p:Nat) (c:UInt8) (r:List UInt8) (h:Qbb c.toNat=true):QbS (f+1) (c :: r) p=QbS f r (p+1):=by
 simp only [QbS];rw [if_pos h]
theorem QpP (f p:Nat) (c:UInt8) (r:List UInt8) (h:Qbb c.toNat=false) (h1:c.toNat=35):QbS (f+1) (c :: r) p=QbS f ((c :: r).drop (lineLen (c :: r))) (p+lineLen (c :: r)):=by
 simp only [QbS];rw [if_neg (by rw [h];decide),if_pos h1]
theorem QoY (f p:Nat) (c:UInt8) (r:List UInt8) (h:Qbb c.toNat=false) (h1:¬ c.toNat=35) (h2:Lib.hasPrefix (c :: r) [47,42]=true) (h3:Lib.index (r.drop 1) [42,47] < 0):QbS (f+1) (c :: r) p=.error ⟨2,p⟩:=by
 simp only [QbS];rw [if_neg (by rw [h];decide),if_neg h1,if_pos h2,if_pos h3]
theorem Qps (f p:Nat) (c:UInt8) (r:List UInt8) (h:Qbb c.toNat=false) (h1:¬ c.toNat=35) (h2:Lib.hasPrefix (c :: r) [47,42]=true) (h3:¬ Lib.index (r.drop 1) [42,47] < 0):QbS (f+1) (c :: r) p=QbS f ((c :: r).drop (4+(Lib.index (r.drop 1) [42,47]).toNat)) (p+(4+(Lib.index (r.drop 1) [42,47]).toNat)):=by
 simp only [QbS];rw [if_neg (by rw [h];decide),if_neg h1,if_pos h2,if_neg h3]
theorem QpI (f p:Nat) (c:UInt8) (r:List UInt8) (h:Qbb c.toNat=false) (h1:¬ c.toNat=35) (h2:Lib.hasPrefix (c :: r) [47,42]=false):QbS (f+1) (c :: r) p=.ok p:=by
 simp only [QbS];rw [if_neg (by rw [h];decide),if_neg h1,if_neg (by rw [h2];decide)]
theorem Qko (l:List UInt8) (a b:UInt8) (h:Lib.hasPrefix l [a,b]=true):2≤l.length:=by
 have:=(List.isPrefixOf_iff_prefix.1 h).length_le
 simpa using this
def Qc0 (r:Except Flt Nat) (w:World) (e:Ending) (w':World):Prop:=
 match r with
 | .ok n=>e=.returned (.int .i64 n)∧w'=w
 | .error f=>QcR f w e w'∧Below w.heap.size w w'
theorem Qc0.ok {r:Except Flt Nat} {n:Nat} {w:World} {x:Int} (h:r=.ok n) (hx:x=n):Qc0 r w (.returned (.int .i64 x)) w:=by
 subst h;subst hx;exact ⟨rfl,rfl⟩
theorem Qlf (er p:Nat) (w:World):QcR ⟨er,p⟩ w (.panicked [{ v:=.iface 76 (.pointer (some ⟨w.heap.size,0,none⟩)),recovered:=false }]) (w.alloc (.cells #[.int .i64 er,.int .i64 p] 81)):=by
 refine ⟨w.heap.size,Nat.le_refl _,rfl,?_⟩
 show (w.heap.push _)[w.heap.size]?=_
 simp
theorem Qc0.err {r:Except Flt Nat} {er p:Nat} {w:World} (h:r=.error ⟨er,p⟩) :
 Qc0 r w (.panicked [{ v:=.iface 76 (.pointer (some ⟨w.heap.size,0,none⟩)),recovered:=false }]) (w.alloc (.cells #[.int .i64 er,.int .i64 p] 81)):=by
 subst h;exact ⟨Qlf er p w,(Below.refl _ _).alloc (Nat.le_refl _) _⟩
theorem Qsi (s:ByteArray) (at_ f0:Nat) (m:Int) (w:World) (hs:s.size≤4294967280) (ha:at_≤s.size) (hf:s.size - at_ < f0) (hm:w.cell? ⟨1,0,none⟩=some (.int .i64 m)) :
 Calls Tryz.prog 176 #[.string s,.int .i64 at_] w (Qc0 (QbS f0 (s.data.toList.drop at_) at_) w):=by
 go_enter Tryz.func176,Tryz.ntmps176
 go_wp2_with fail
 go_loop [1,5,6] (fun a _ _=>∃ k f:Nat,k≤s.size∧s.size - k < f∧a=.int .i64 k∧QbS f0 (s.data.toList.drop at_) at_=QbS f (s.data.toList.drop k) k) (fun a _ _=>s.size - (intOf a).toNat)
 case atStart=>exact ⟨at_,f0,ha,hf,rfl,rfl⟩
 case round=>
  obtain ⟨k,f,hk,hkf,rfl,hR⟩:=hrel
  obtain ⟨f,rfl⟩:∃ g,f=g+1:=⟨f - 1,by omega⟩
  have HR:=Qaa hR
  clear hR
  by_cases hlt:k < s.size
  ·have hd:=Qbm s k hlt
   obtain ⟨rs,hx⟩:∃ rs,s.extract k s.size=rs:=⟨_,rfl⟩
   have HL:Hid (rs.data.toList=s.data.toList.drop k):=by rw [← hx];exact Qdc s k
   have hz:rs.size=s.size - k:=by rw [← hx];exact QdL s k
   have hz0:0 < rs.size:=by omega
   have hz1:rs.size≤s.size - k:=by omega
   have HZ:=Qaa hz
   clear hz
   have h0:rs[0]=s[k]:=by
    have e:=HL.out
    rw [hd] at e
    have e2:=Qbm rs 0 hz0
    rw [List.drop_zero,e] at e2
    exact (List.cons.inj e2).1.symm
   generalize hcd:s[k]=c at h0 hd
   clear hcd
   rw [hd] at HR
   have HD:=Qaa hd
   clear hd
   cases hb:Qbb (c.toNat:Int)
   ·by_cases h35:(c.toNat:Int)=35
    ·have HS:=Qaa (QpP f k c (s.data.toList.drop (k+1)) hb (by omega))
     have hll:=Qjd rs.data.toList
     have hlp:1≤lineLen rs.data.toList:=by rw [HL.out,HD.out];exact QhM _ _
     have hlz:rs.data.toList.length=rs.size:=by simp
     rw [hlz] at hll
     have h35':((c.toNat:Int) == 35)=true:=by simpa using h35
     clear h35
     have HLL:Hid (lineLen (c :: s.data.toList.drop (k+1))=lineLen rs.data.toList):=by show _=_;rw [HL.out,HD.out]
     go_wp2_with (first | (go_at_call 214;refine (Qcw _ _).mono ?_;rintro e w' ⟨rfl,rfl⟩) | (go_at_call 215;refine (QiD _ _ (by omega)).mono ?_;rintro e w' ⟨rfl,rfl⟩))
     refine ⟨⟨k+lineLen rs.data.toList,f,by omega,by omega,by go_num,?_⟩,by simp [intOf];omega⟩
     rw [HR.out,HS.out,HLL.out,← HD.out,List.drop_drop]
    ·have h35':((c.toNat:Int) == 35)=false:=by simpa using h35
     cases hp:Lib.hasPrefix rs.data.toList [47,42]
     ·have HS:=Qaa (QpI f k c (s.data.toList.drop (k+1)) hb (by omega) (by rw [← HD.out,← HL.out];exact hp))
      clear h35
      go_wp2_with (first | (go_at_call 214;refine (Qcw _ _).mono ?_;rintro e w' ⟨rfl,rfl⟩) | (go_at_call 156;refine (Tryz.strings_HasPrefix _ _ _).mono ?_;rintro e w' ⟨rfl,rfl⟩))
      go_ret
      exact Qc0.ok (by rw [HR.out,HS.out]) rfl
     ·have h2:=Qko _ _ _ hp
      have hlz:rs.data.toList.length=rs.size:=by simp
      rw [hlz] at h2
      obtain ⟨rt,hx2⟩:∃ rt,rs.extract 2 rs.size=rt:=⟨_,rfl⟩
      have HL2:Hid (rt.data.toList=(s.data.toList.drop (k+1)).drop 1):=by
       show _=_
       rw [← hx2,Qdc,HL.out,HD.out];rfl
      have hz2:rt.size=rs.size - 2:=by rw [← hx2];exact QdL rs 2
      have hz3:rt.size≤rs.size - 2:=by omega
      have hzz:(rt.data.toList.length:Int)=rt.size:=by simp
      have hroom:=QiN rt.data.toList [42,47]
      rw [hzz] at hroom
      have hge:=Lib.index_ge rt.data.toList [42,47]
      clear hz2 hlz hzz
      by_cases hi:Lib.index rt.data.toList [42,47] < 0
      ·have HS:=Qaa (QoY f k c (s.data.toList.drop (k+1)) hb (by omega) (by rw [← HD.out,← HL.out];exact hp) (by rw [← HL2.out];exact hi))
       clear h35 hroom
       go_wp2_with (first | (go_at_call 214;refine (Qcw _ _).mono ?_;rintro e w' ⟨rfl,rfl⟩) | (go_at_call 156;refine (Tryz.strings_HasPrefix _ _ _).mono ?_;rintro e w' ⟨rfl,rfl⟩) | (go_at_call 216;refine (Tryz.strings_Index _ _ m _ (by omega) hm).mono ?_;rintro e w' ⟨rfl,rfl⟩) | (go_at_call 64;refine (Qau _ _ _).mono ?_;rintro e w' ⟨rfl,rfl⟩))
       exact ⟨rfl,Qc0.err (by rw [HR.out,HS.out])⟩
      ·have hroom':Lib.index rt.data.toList [42,47]+2≤rt.size:=by
        rcases hroom with h | h
        ·exact absurd h hi
        ·simpa using h
       have HS:=Qaa (Qps f k c (s.data.toList.drop (k+1)) hb (by omega) (by rw [← HD.out,← HL.out];exact hp) (by rw [← HL2.out];exact hi))
       clear h35 hroom
       go_wp2_with (first | (go_at_call 214;refine (Qcw _ _).mono ?_;rintro e w' ⟨rfl,rfl⟩) | (go_at_call 156;refine (Tryz.strings_HasPrefix _ _ _).mono ?_;rintro e w' ⟨rfl,rfl⟩) | (go_at_call 216;refine (Tryz.strings_Index _ _ m _ (by omega) hm).mono ?_;rintro e w' ⟨rfl,rfl⟩) | (go_at_call 64;refine (Qau _ _ _).mono ?_;rintro e w' ⟨rfl,rfl⟩))
       refine ⟨⟨k+(4+(Lib.index rt.data.toList [42,47]).toNat),f,by omega,by omega,congrArg _ (by omega),?_⟩,by simp [intOf];omega⟩
       rw [HR.out,HS.out,← HL2.out,← HD.out,List.drop_drop]
   ·have HS:=Qaa (QmV f k c (s.data.toList.drop (k+1)) hb)
    go_wp2_with (first | (go_at_call 214;refine (Qcw _ _).mono ?_;rintro e w' ⟨rfl,rfl⟩))
    go_round
    case rel=>exact ⟨k+1,f,by omega,by omega,by go_num,by rw [HR.out,HS.out]⟩
    case measure=>simp [intOf];omega
  ·go_wp2
   go_ret
   exact Qc0.ok (by rw [HR.out,List.drop_of_length_le (by simp;omega),QqM]) rfl
end
section
open Go.RowKit
theorem Qll (s:ByteArray) (a n:Nat):(s.extract a (a+n)).data.toList=(s.data.toList.drop a).take n:=by
 rw [ByteArray.data_extract,Array.toList_extract,List.extract_eq_take_drop]
 rw [show a+n - a=n from by omega]
theorem Qpe {W w1:World} (hb:Below W.heap.size W w1):(∀ b o,b < W.heap.size→w1.cell? ⟨b,o,none⟩=W.cell? ⟨b,o,none⟩)∧(∀ b o,b < W.heap.size→w1.frozen? ⟨b,o,none⟩=W.frozen? ⟨b,o,none⟩):=
 ⟨fun b o h=>hb.cell (p:=⟨b,o,none⟩) h,fun b o h=>hb.frozen (p:=⟨b,o,none⟩) h⟩
def wdV (x:Wd):Value:=.agg #[.int .i64 x.kind,.int .i64 x.pos,.string ⟨x.spelt.toArray⟩,.string ⟨x.said.toArray⟩,.int .i64 x.num]
def Qap (r:Except Flt (Wd×Nat)) (w:World) (e:Ending) (w':World):Prop:=
 Below w.heap.size w w'∧
 match r with
 | .ok x=>e=.returned (.tuple #[wdV x.1,.int .i64 x.2])
 | .error f=>QcR f w e w'
theorem Qap.ok {r:Except Flt (Wd×Nat)} {x:Wd×Nat} {w w':World} {v:Value} {n:Int} (h:r=.ok x) (hb:Below w.heap.size w w') (hv:v=wdV x.1) (hn:n=x.2):Qap r w (.returned (.tuple #[v,.int .i64 n])) w':=by
 subst h;subst hv;subst hn;exact ⟨hb,rfl⟩
theorem Qap.err {r:Except Flt (Wd×Nat)} {f:Flt} {w w':World} {e:Ending} (h:r=.error f) (hb:Below w.heap.size w w') (ht:QcR f w e w'):Qap r w e w':=by
 subst h;exact ⟨hb,ht⟩
theorem QcR.up {f:Flt} {w w1 w':World} {e:Ending} (h:QcR f w1 e w') (hz:w.heap.size≤w1.heap.size):QcR f w e w':=by
 obtain ⟨b,hb,h⟩:=h
 exact ⟨b,Nat.le_trans hz hb,h⟩
theorem QaY (er p:Nat) {w w1:World} {b:Nat} (hz:w.heap.size≤w1.heap.size) (hb:b=w1.heap.size) :
 QcR ⟨er,p⟩ w (.panicked [{ v:=.iface 76 (.pointer (some ⟨b,0,none⟩)),recovered:=false }]) (w1.alloc (.cells #[.int .i64 er,.int .i64 p] 81)):=by
 subst hb;exact (Qlf er p w1).up hz
theorem Qkt (k:Int) (s:ByteArray) (at_ n:Nat) (w:World) (hs:s.size≤4294967280) (ha:at_+n≤s.size) :
 Calls Tryz.prog 209 #[.int .i64 k,.string s,.int .i64 at_,.int .i64 n] w fun e w'=>
  e=.returned (.tuple #[.agg #[.int .i64 k,.int .i64 at_,.string ⟨(smallL ((s.data.toList.drop at_).take n)).toArray⟩,.string ⟨#[]⟩,.int .i64 0],.int .i64 (at_+n:Nat)])∧Below w.heap.size w w':=by
 obtain ⟨rs,hx⟩:∃ rs,s.extract at_ (at_+n)=rs:=⟨_,rfl⟩
 have HL:Hid (rs.data.toList=(s.data.toList.drop at_).take n):=by rw [← hx];exact Qll s at_ n
 have hz:rs.size≤s.size:=by
  rw [Lib.size_eq,HL.out];simp;omega
 go_enter Tryz.func209,Tryz.ntmps209
 go_wp2_with fail
 refine (QeJ rs _ (by omega)).mono ?_
 rintro e w1 ⟨rfl,hb⟩
 rw [HL.out]
 obtain ⟨hc,hf⟩:=Qpe hb
 have hz1:w.heap.size < w1.heap.size:=by have:=hb.size;simp at this;omega
 have HB:=Qaa hb
 clear hb
 go_wp2
 have hb0:Below w.heap.size w w1:=((Below.refl _ w).alloc (Nat.le_refl _) _).trans (HB.out.mono (by simp))
 refine bodyPost_ret (v:=.tuple #[.agg #[.int .i64 k,.int .i64 at_,.string ⟨(smallL ((s.data.toList.drop at_).take n)).toArray⟩,.string ⟨#[]⟩,.int .i64 0],.int .i64 (at_+n:Nat)]) (by simp [results,Tryz.results209,go_sem,hc,hz1]) rfl ⟨rfl,?_⟩
 exact ((((hb0.setCell (Nat.le_refl _) _).setCell (Nat.le_refl _) _).setCell (Nat.le_refl _) _).setCell (Nat.le_refl _) _).setCell (Nat.le_refl _) _
end
end Go.Proofs.YtbiclelojbfnbabGreatDoor
