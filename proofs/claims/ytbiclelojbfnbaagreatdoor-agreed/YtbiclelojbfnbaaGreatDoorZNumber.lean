import Derived.Test.YtbiclelojbfnbaaGreatDoorZCapital
import Derived.Test.YtbiclelojbfnbaaGreatDoorZPlainAsk
import Derived.Test.YtbiclelojbfnbaaGreatDoorShelf
namespace Go.Proofs.YtbiclelojbfnbaaGreatDoor
set_option linter.unusedVariables false
set_option linter.unusedSimpArgs false
set_option maxRecDepth 100000
set_option maxHeartbeats 4000000
section
open Go.RowKit
def Threw (f:Flt) (w:World) (e:Ending) (w':World):Prop:=
 ∃ b,w.heap.size≤b∧e=.panicked [{ v:=.iface 140 (.pointer (some ⟨b,0,none⟩)),recovered:=false }]∧
  w'.heap[b]?=some (.cells #[.int .i64 f.err,.int .i64 f.pos] 145)
theorem fault_any (er at_:Int) (w:World) :
  Calls Tryz.prog 118 #[.int .i64 er,.int .i64 at_] w fun e w'=>e=.returned (.pointer (some ⟨w.heap.size,0,none⟩))∧w'=w.alloc (.cells #[.int .i64 er,.int .i64 at_] 145):=by
 go_enter Tryz.func118,Tryz.ntmps118
 go_wp2
 go_ret
 exact ⟨rfl,rfl⟩
theorem lineLen_lt (l:List UInt8) (h:Lib.indexByte l 10 < 0):(lineLen l:Int)=l.length:=by unfold lineLen;rw [if_pos h]
theorem lineLen_ge (l:List UInt8) (h:¬ Lib.indexByte l 10 < 0):(lineLen l:Int)=Lib.indexByte l 10+1:=by unfold lineLen;rw [if_neg h];omega
theorem lineLength_any (s:ByteArray) (w:World) (hs:s.size≤140737488355328) :
  Calls Tryz.prog 314 #[.string s] w fun e w'=>e=.returned (.int .i64 (lineLen s.data.toList))∧w'=w:=by
 have hle:=indexByte_lt s.data.toList 10
 have hge:=Lib.indexByte_ge s.data.toList 10
 have h1:=hide (lineLen_lt s.data.toList)
 have h2:=hide (lineLen_ge s.data.toList)
 have hl:(s.data.toList.length:Int)=s.size:=by simp
 rw [hl] at hle
 have e10:(Int.toNat 10).toUInt8=(10:UInt8):=rfl
 by_cases hn:Lib.indexByte s.data.toList 10 < 0
 ·go_enter Tryz.func314,Tryz.ntmps314
  go_wp2_with (go_at_call 312;refine (Tryz.strings_IndexByte _ _ _).mono ?_;rintro e w' ⟨rfl,rfl⟩)
  go_ret
  exact ⟨ret_int (by rw [h1.out hn,hl]),rfl⟩
 ·go_enter Tryz.func314,Tryz.ntmps314
  go_wp2_with (go_at_call 312;refine (Tryz.strings_IndexByte _ _ _).mono ?_;rintro e w' ⟨rfl,rfl⟩)
  go_ret
  exact ⟨ret_int (by rw [h2.out (by omega)]),rfl⟩
end
section
open Go.RowKit
theorem extract_list (s:ByteArray) (a:Nat):(s.extract a s.size).data.toList=s.data.toList.drop a:=by
 rw [ByteArray.data_extract,Array.toList_extract,List.extract_eq_take_drop]
 rw [List.take_of_length_le]
 simp
theorem extract_size (s:ByteArray) (a:Nat):(s.extract a s.size).size=s.size - a:=by
 rw [Lib.size_eq,extract_list];simp
theorem skipF_nil (f p:Nat):skipF f [] p=.ok p:=by cases f <;> rfl
theorem skipF_blank (f p:Nat) (c:UInt8) (r:List UInt8) (h:isBlankN c.toNat=true):skipF (f+1) (c :: r) p=skipF f r (p+1):=by
 simp only [skipF];rw [if_pos h]
theorem skipF_line (f p:Nat) (c:UInt8) (r:List UInt8) (h:isBlankN c.toNat=false) (h1:c.toNat=35):skipF (f+1) (c :: r) p=skipF f ((c :: r).drop (lineLen (c :: r))) (p+lineLen (c :: r)):=by
 simp only [skipF];rw [if_neg (by rw [h];decide),if_pos h1]
theorem skipF_open (f p:Nat) (c:UInt8) (r:List UInt8) (h:isBlankN c.toNat=false) (h1:¬ c.toNat=35) (h2:Lib.hasPrefix (c :: r) [47,42]=true) (h3:Lib.index (r.drop 1) [42,47] < 0):skipF (f+1) (c :: r) p=.error ⟨2,p⟩:=by
 simp only [skipF];rw [if_neg (by rw [h];decide),if_neg h1,if_pos h2,if_pos h3]
theorem skipF_note (f p:Nat) (c:UInt8) (r:List UInt8) (h:isBlankN c.toNat=false) (h1:¬ c.toNat=35) (h2:Lib.hasPrefix (c :: r) [47,42]=true) (h3:¬ Lib.index (r.drop 1) [42,47] < 0):skipF (f+1) (c :: r) p=skipF f ((c :: r).drop (4+(Lib.index (r.drop 1) [42,47]).toNat)) (p+(4+(Lib.index (r.drop 1) [42,47]).toNat)):=by
 simp only [skipF];rw [if_neg (by rw [h];decide),if_neg h1,if_pos h2,if_neg h3]
theorem skipF_stop (f p:Nat) (c:UInt8) (r:List UInt8) (h:isBlankN c.toNat=false) (h1:¬ c.toNat=35) (h2:Lib.hasPrefix (c :: r) [47,42]=false):skipF (f+1) (c :: r) p=.ok p:=by
 simp only [skipF];rw [if_neg (by rw [h];decide),if_neg h1,if_neg (by rw [h2];decide)]
theorem hasPrefix_two (l:List UInt8) (a b:UInt8) (h:Lib.hasPrefix l [a,b]=true):2≤l.length:=by
 have:=(List.isPrefixOf_iff_prefix.1 h).length_le
 simpa using this
def SkipPost (r:Except Flt Nat) (w:World) (e:Ending) (w':World):Prop:=
 match r with
 | .ok n=>e=.returned (.int .i64 n)∧w'=w
 | .error f=>Threw f w e w'∧Below w.heap.size w w'
theorem SkipPost.ok {r:Except Flt Nat} {n:Nat} {w:World} {x:Int} (h:r=.ok n) (hx:x=n):SkipPost r w (.returned (.int .i64 x)) w:=by
 subst h;subst hx;exact ⟨rfl,rfl⟩
theorem threw_new (er p:Nat) (w:World):Threw ⟨er,p⟩ w (.panicked [{ v:=.iface 140 (.pointer (some ⟨w.heap.size,0,none⟩)),recovered:=false }]) (w.alloc (.cells #[.int .i64 er,.int .i64 p] 145)):=by
 refine ⟨w.heap.size,Nat.le_refl _,rfl,?_⟩
 show (w.heap.push _)[w.heap.size]?=_
 simp
theorem SkipPost.err {r:Except Flt Nat} {er p:Nat} {w:World} (h:r=.error ⟨er,p⟩) :
  SkipPost r w (.panicked [{ v:=.iface 140 (.pointer (some ⟨w.heap.size,0,none⟩)),recovered:=false }]) (w.alloc (.cells #[.int .i64 er,.int .i64 p] 145)):=by
 subst h;exact ⟨threw_new er p w,(Below.refl _ _).alloc (Nat.le_refl _) _⟩
theorem skip_any (s:ByteArray) (at_ f0:Nat) (m:Int) (w:World) (hs:s.size≤4294967280) (ha:at_≤s.size) (hf:s.size - at_ < f0) (hm:w.cell? ⟨1,0,none⟩=some (.int .i64 m)) :
  Calls Tryz.prog 260 #[.string s,.int .i64 at_] w (SkipPost (skipF f0 (s.data.toList.drop at_) at_) w):=by
 go_enter Tryz.func260,Tryz.ntmps260
 go_wp2_with fail
 go_loop [1,5,6] (fun a _ _=>∃ k f:Nat,k≤s.size∧s.size - k < f∧a=.int .i64 k∧skipF f0 (s.data.toList.drop at_) at_=skipF f (s.data.toList.drop k) k) (fun a _ _=>s.size - (intOf a).toNat)
 case atStart=>exact ⟨at_,f0,ha,hf,rfl,rfl⟩
 case round=>
  obtain ⟨k,f,hk,hkf,rfl,hR⟩:=hrel
  obtain ⟨f,rfl⟩:∃ g,f=g+1:=⟨f - 1,by omega⟩
  have HR:=hide hR
  clear hR
  by_cases hlt:k < s.size
  ·have hd:=drop_cons s k hlt
   obtain ⟨rs,hx⟩:∃ rs,s.extract k s.size=rs:=⟨_,rfl⟩
   have HL:Hid (rs.data.toList=s.data.toList.drop k):=by rw [← hx];exact extract_list s k
   have hz:rs.size=s.size - k:=by rw [← hx];exact extract_size s k
   have hz0:0 < rs.size:=by omega
   have hz1:rs.size≤s.size - k:=by omega
   have HZ:=hide hz
   clear hz
   have h0:rs[0]=s[k]:=by
    have e:=HL.out
    rw [hd] at e
    have e2:=drop_cons rs 0 hz0
    rw [List.drop_zero,e] at e2
    exact (List.cons.inj e2).1.symm
   generalize hcd:s[k]=c at h0 hd
   clear hcd
   rw [hd] at HR
   have HD:=hide hd
   clear hd
   cases hb:isBlankN (c.toNat:Int)
   ·by_cases h35:(c.toNat:Int)=35
    ·have HS:=hide (skipF_line f k c (s.data.toList.drop (k+1)) hb (by omega))
     have hll:=lineLen_le rs.data.toList
     have hlp:1≤lineLen rs.data.toList:=by rw [HL.out,HD.out];exact lineLen_pos _ _
     have hlz:rs.data.toList.length=rs.size:=by simp
     rw [hlz] at hll
     have h35':((c.toNat:Int) == 35)=true:=by simpa using h35
     clear h35
     have HLL:Hid (lineLen (c :: s.data.toList.drop (k+1))=lineLen rs.data.toList):=by show _=_;rw [HL.out,HD.out]
     go_wp2_with (first | (go_at_call 313;refine (isBlank_any _ _).mono ?_;rintro e w' ⟨rfl,rfl⟩) | (go_at_call 314;refine (lineLength_any _ _ (by omega)).mono ?_;rintro e w' ⟨rfl,rfl⟩))
     refine ⟨⟨k+lineLen rs.data.toList,f,by omega,by omega,by go_num,?_⟩,by simp [intOf];omega⟩
     rw [HR.out,HS.out,HLL.out,← HD.out,List.drop_drop]
    ·have h35':((c.toNat:Int) == 35)=false:=by simpa using h35
     cases hp:Lib.hasPrefix rs.data.toList [47,42]
     ·have HS:=hide (skipF_stop f k c (s.data.toList.drop (k+1)) hb (by omega) (by rw [← HD.out,← HL.out];exact hp))
      clear h35
      go_wp2_with (first | (go_at_call 313;refine (isBlank_any _ _).mono ?_;rintro e w' ⟨rfl,rfl⟩) | (go_at_call 301;refine (Tryz.strings_HasPrefix _ _ _).mono ?_;rintro e w' ⟨rfl,rfl⟩))
      go_ret
      exact SkipPost.ok (by rw [HR.out,HS.out]) rfl
     ·have h2:=hasPrefix_two _ _ _ hp
      have hlz:rs.data.toList.length=rs.size:=by simp
      rw [hlz] at h2
      obtain ⟨rt,hx2⟩:∃ rt,rs.extract 2 rs.size=rt:=⟨_,rfl⟩
      have HL2:Hid (rt.data.toList=(s.data.toList.drop (k+1)).drop 1):=by
       show _=_
       rw [← hx2,extract_list,HL.out,HD.out];rfl
      have hz2:rt.size=rs.size - 2:=by rw [← hx2];exact extract_size rs 2
      have hz3:rt.size≤rs.size - 2:=by omega
      have hzz:(rt.data.toList.length:Int)=rt.size:=by simp
      have hroom:=index_room rt.data.toList [42,47]
      rw [hzz] at hroom
      have hge:=Lib.index_ge rt.data.toList [42,47]
      clear hz2 hlz hzz
      by_cases hi:Lib.index rt.data.toList [42,47] < 0
      ·have HS:=hide (skipF_open f k c (s.data.toList.drop (k+1)) hb (by omega) (by rw [← HD.out,← HL.out];exact hp) (by rw [← HL2.out];exact hi))
       clear h35 hroom
       go_wp2_with (first | (go_at_call 313;refine (isBlank_any _ _).mono ?_;rintro e w' ⟨rfl,rfl⟩) | (go_at_call 301;refine (Tryz.strings_HasPrefix _ _ _).mono ?_;rintro e w' ⟨rfl,rfl⟩) | (go_at_call 315;refine (Tryz.strings_Index _ _ m _ (by omega) hm).mono ?_;rintro e w' ⟨rfl,rfl⟩) | (go_at_call 118;refine (fault_any _ _ _).mono ?_;rintro e w' ⟨rfl,rfl⟩))
       exact ⟨rfl,SkipPost.err (by rw [HR.out,HS.out])⟩
      ·have hroom':Lib.index rt.data.toList [42,47]+2≤rt.size:=by
        rcases hroom with h | h
        ·exact absurd h hi
        ·simpa using h
       have HS:=hide (skipF_note f k c (s.data.toList.drop (k+1)) hb (by omega) (by rw [← HD.out,← HL.out];exact hp) (by rw [← HL2.out];exact hi))
       clear h35 hroom
       go_wp2_with (first | (go_at_call 313;refine (isBlank_any _ _).mono ?_;rintro e w' ⟨rfl,rfl⟩) | (go_at_call 301;refine (Tryz.strings_HasPrefix _ _ _).mono ?_;rintro e w' ⟨rfl,rfl⟩) | (go_at_call 315;refine (Tryz.strings_Index _ _ m _ (by omega) hm).mono ?_;rintro e w' ⟨rfl,rfl⟩) | (go_at_call 118;refine (fault_any _ _ _).mono ?_;rintro e w' ⟨rfl,rfl⟩))
       refine ⟨⟨k+(4+(Lib.index rt.data.toList [42,47]).toNat),f,by omega,by omega,congrArg _ (by omega),?_⟩,by simp [intOf];omega⟩
       rw [HR.out,HS.out,← HL2.out,← HD.out,List.drop_drop]
   ·have HS:=hide (skipF_blank f k c (s.data.toList.drop (k+1)) hb)
    go_wp2_with (first | (go_at_call 313;refine (isBlank_any _ _).mono ?_;rintro e w' ⟨rfl,rfl⟩))
    go_round
    case rel=>exact ⟨k+1,f,by omega,by omega,by go_num,by rw [HR.out,HS.out]⟩
    case measure=>simp [intOf];omega
  ·go_wp2
   go_ret
   exact SkipPost.ok (by rw [HR.out,List.drop_of_length_le (by simp;omega),skipF_nil]) rfl
end
section
open Go.RowKit
theorem extract_take (s:ByteArray) (a n:Nat):(s.extract a (a+n)).data.toList=(s.data.toList.drop a).take n:=by
 rw [ByteArray.data_extract,Array.toList_extract,List.extract_eq_take_drop]
 rw [show a+n - a=n from by omega]
theorem bcell {W w1:World} (hb:Below W.heap.size W w1):(∀ b o,b < W.heap.size→w1.cell? ⟨b,o,none⟩=W.cell? ⟨b,o,none⟩)∧(∀ b o,b < W.heap.size→w1.frozen? ⟨b,o,none⟩=W.frozen? ⟨b,o,none⟩):=
 ⟨fun b o h=>hb.cell (p:=⟨b,o,none⟩) h,fun b o h=>hb.frozen (p:=⟨b,o,none⟩) h⟩
def wdV (x:Wd):Value:=.agg #[.int .i64 x.kind,.int .i64 x.pos,.string ⟨x.spelt.toArray⟩,.string ⟨x.said.toArray⟩,.int .i64 x.num]
def ScanPost (r:Except Flt (Wd×Nat)) (w:World) (e:Ending) (w':World):Prop:=
 Below w.heap.size w w'∧
 match r with
 | .ok x=>e=.returned (.tuple #[wdV x.1,.int .i64 x.2])
 | .error f=>Threw f w e w'
theorem ScanPost.ok {r:Except Flt (Wd×Nat)} {x:Wd×Nat} {w w':World} {v:Value} {n:Int} (h:r=.ok x) (hb:Below w.heap.size w w') (hv:v=wdV x.1) (hn:n=x.2):ScanPost r w (.returned (.tuple #[v,.int .i64 n])) w':=by
 subst h;subst hv;subst hn;exact ⟨hb,rfl⟩
theorem ScanPost.err {r:Except Flt (Wd×Nat)} {f:Flt} {w w':World} {e:Ending} (h:r=.error f) (hb:Below w.heap.size w w') (ht:Threw f w e w'):ScanPost r w e w':=by
 subst h;exact ⟨hb,ht⟩
theorem Threw.up {f:Flt} {w w1 w':World} {e:Ending} (h:Threw f w1 e w') (hz:w.heap.size≤w1.heap.size):Threw f w e w':=by
 obtain ⟨b,hb,h⟩:=h
 exact ⟨b,Nat.le_trans hz hb,h⟩
theorem threw_at (er p:Nat) {w w1:World} {b:Nat} (hz:w.heap.size≤w1.heap.size) (hb:b=w1.heap.size) :
  Threw ⟨er,p⟩ w (.panicked [{ v:=.iface 140 (.pointer (some ⟨b,0,none⟩)),recovered:=false }]) (w1.alloc (.cells #[.int .i64 er,.int .i64 p] 145)):=by
 subst hb;exact (threw_new er p w1).up hz
theorem scanSpelt_any (k:Int) (s:ByteArray) (at_ n:Nat) (w:World) (hs:s.size≤4294967280) (ha:at_+n≤s.size) :
  Calls Tryz.prog 308 #[.int .i64 k,.string s,.int .i64 at_,.int .i64 n] w fun e w'=>
   e=.returned (.tuple #[.agg #[.int .i64 k,.int .i64 at_,.string ⟨(smallL ((s.data.toList.drop at_).take n)).toArray⟩,.string ⟨#[]⟩,.int .i64 0],.int .i64 (at_+n:Nat)])∧Below w.heap.size w w':=by
 obtain ⟨rs,hx⟩:∃ rs,s.extract at_ (at_+n)=rs:=⟨_,rfl⟩
 have HL:Hid (rs.data.toList=(s.data.toList.drop at_).take n):=by rw [← hx];exact extract_take s at_ n
 have hz:rs.size≤s.size:=by
  rw [Lib.size_eq,HL.out];simp;omega
 go_enter Tryz.func308,Tryz.ntmps308
 go_wp2_with fail
 refine (small_any rs _ (by omega)).mono ?_
 rintro e w1 ⟨rfl,hb⟩
 rw [HL.out]
 obtain ⟨hc,hf⟩:=bcell hb
 have hz1:w.heap.size < w1.heap.size:=by have:=hb.size;simp at this;omega
 have HB:=hide hb
 clear hb
 go_wp2
 have hb0:Below w.heap.size w w1:=((Below.refl _ w).alloc (Nat.le_refl _) _).trans (HB.out.mono (by simp))
 refine bodyPost_ret (v:=.tuple #[.agg #[.int .i64 k,.int .i64 at_,.string ⟨(smallL ((s.data.toList.drop at_).take n)).toArray⟩,.string ⟨#[]⟩,.int .i64 0],.int .i64 (at_+n:Nat)]) (by simp [results,Tryz.results308,go_sem,hc,hz1]) rfl ⟨rfl,?_⟩
 exact ((((hb0.setCell (Nat.le_refl _) _).setCell (Nat.le_refl _) _).setCell (Nat.le_refl _) _).setCell (Nat.le_refl _) _).setCell (Nat.le_refl _) _
end
section
open Go.RowKit
def numFrom (v:Nat) (l:List UInt8):Nat:=(l.takeWhile fun c=>isDigitN c.toNat).foldl numStep v
theorem numVal_from (l:List UInt8):numVal l=numFrom 0 l:=rfl
theorem numFrom_nil (v:Nat):numFrom v []=v:=rfl
theorem numFrom_cons (v:Nat) (c:UInt8) (r:List UInt8) (h:isDigitN c.toNat=true):numFrom v (c :: r)=numFrom (numStep v c) r:=by
 simp [numFrom,List.takeWhile_cons,h]
theorem numFrom_stop (v:Nat) (c:UInt8) (r:List UInt8) (h:isDigitN c.toNat=false):numFrom v (c :: r)=v:=by
 simp [numFrom,List.takeWhile_cons,h]
theorem digLen_cons (c:UInt8) (r:List UInt8) (h:isDigitN c.toNat=true):digLen (c :: r)=1+digLen r:=by
 simp [digLen,List.takeWhile_cons,h];omega
theorem digLen_stop (c:UInt8) (r:List UInt8) (h:isDigitN c.toNat=false):digLen (c :: r)=0:=by
 simp [digLen,List.takeWhile_cons,h]
theorem digLen_nil:digLen []=0:=rfl
theorem numStep_le (v:Nat) (c:UInt8):numStep v c≤2147483648:=by unfold numStep;omega
theorem scanNumL_of (rest:List UInt8) (p v j v' n':Nat) (c1 c2:UInt8) (hv:numVal rest=v) (hj:digLen rest=j) (h1:rest.getD j 0=c1)
  (hv':v'=if isM c1 then v*1048576 else if isK c1 then v*1024 else v) (hn':n'=if isM c1 || isK c1 then j+1 else j) (h2:rest.getD n' 0=c2) :
  scanNumL rest p=if letdig c2 then .error ⟨2,p⟩ else if 2147483647 < v' then .error ⟨3,p⟩ else .ok (⟨4,p,[],[],v'⟩,p+n'):=by
 subst hv;subst hj;subst h1;subst hv';subst hn';subst h2
 rfl
theorem byteOf_drop (s:ByteArray) (a j:Nat) (x:Int) (h:x=(a+j:Nat)):(s.data.toList.drop a).getD j 0=byteOf s x:=by
 subst h
 unfold byteOf
 rw [List.getD_eq_getElem?_getD,List.getElem?_drop,Int.toNat_natCast,List.getD_eq_getElem?_getD]
theorem letdig_true {c:UInt8} (h:isLetN (c.toNat:Int)=true∨isDigitN (c.toNat:Int)=true):letdig c=true:=by
 unfold letdig;rcases h with h | h <;> simp [h]
theorem letdig_false {c:UInt8} (h:isLetN (c.toNat:Int)=false) (h':isDigitN (c.toNat:Int)=false):letdig c=false:=by
 unfold letdig;simp [h,h']
theorem five_ways (c:UInt8):((c.toNat:Int) == 77)=true∨(((c.toNat:Int) == 77)=false∧((c.toNat:Int) == 109)=true)∨
  (((c.toNat:Int) == 77)=false∧((c.toNat:Int) == 109)=false∧((c.toNat:Int) == 75)=true)∨
  (((c.toNat:Int) == 77)=false∧((c.toNat:Int) == 109)=false∧((c.toNat:Int) == 75)=false∧((c.toNat:Int) == 107)=true)∨
  (((c.toNat:Int) == 77)=false∧((c.toNat:Int) == 109)=false∧((c.toNat:Int) == 75)=false∧((c.toNat:Int) == 107)=false):=by
 cases ((c.toNat:Int) == 77) <;> cases ((c.toNat:Int) == 109) <;> cases ((c.toNat:Int) == 75) <;> cases ((c.toNat:Int) == 107) <;> simp
theorem isM_of {c:UInt8} (h:((c.toNat:Int) == 77)=true∨((c.toNat:Int) == 109)=true):isM c=true:=by
 unfold isM;simp at h ⊢;omega
theorem isM_not {c:UInt8} (h:((c.toNat:Int) == 77)=false) (h':((c.toNat:Int) == 109)=false):isM c=false:=by
 unfold isM;simp at h h' ⊢;omega
theorem isK_of {c:UInt8} (h:((c.toNat:Int) == 75)=true∨((c.toNat:Int) == 107)=true):isK c=true:=by
 unfold isK;simp at h ⊢;omega
theorem isK_not {c:UInt8} (h:((c.toNat:Int) == 75)=false) (h':((c.toNat:Int) == 107)=false):isK c=false:=by
 unfold isK;simp at h h' ⊢;omega
theorem scanNumber_any (s:ByteArray) (at_:Nat) (w:World) (hs:s.size≤4294967280) (ha:at_≤s.size) :
  Calls Tryz.prog 310 #[.string s,.int .i64 at_] w (ScanPost (scanNumL (s.data.toList.drop at_) at_) w):=by
 go_enter Tryz.func310,Tryz.ntmps310
 go_wp2_with fail
 go_loop [6,7] (fun a b=>∃ j v:Nat,at_+j≤s.size∧v≤2147483648∧a=.int .i64 v∧b=.int .i64 (at_+j:Nat)∧numVal (s.data.toList.drop at_)=numFrom v (s.data.toList.drop (at_+j))∧digLen (s.data.toList.drop at_)=j+digLen (s.data.toList.drop (at_+j))) (fun _ b=>s.size - (intOf b).toNat)
 case atStart=>exact ⟨0,0,by omega,by omega,rfl,by simp,by rw [numVal_from];rfl,by simp⟩
 case round=>
  obtain ⟨j,v,hj,hv,rfl,rfl,hN,hD⟩:=hrel
  have HN:=hide hN
  have HD:=hide hD
  clear hN hD
  by_cases hgo:∃ h:at_+j < s.size,isDigitN (s[at_+j].toNat:Int)=true
  ·obtain ⟨hlt,hdg⟩:=hgo
   have hd:=hide (drop_cons s (at_+j) hlt)
   obtain ⟨c,hc⟩:∃ c,s[at_+j]=c:=⟨_,rfl⟩
   rw [hc] at hdg hd
   have hdg':48≤(c.toNat:Int)∧(c.toNat:Int)≤57:=by unfold isDigitN at hdg;simpa using hdg
   obtain ⟨hd1,hd2⟩:=hdg'
   go_wp2_with (go_at_call 288;refine (isDigit_any _ _).mono ?_;rintro e w' ⟨rfl,rfl⟩)
   refine ⟨⟨j+1,numStep v c,by omega,numStep_le v c,?_,congrArg _ (by omega),?_,?_⟩,by simp [intOf];omega⟩
   ·refine congrArg _ ?_
    unfold numStep
    omega
   ·rw [HN.out,hd.out,numFrom_cons _ _ _ hdg];rfl
   ·rw [HD.out,hd.out,digLen_cons _ _ hdg,show at_+j+1=at_+(j+1) from rfl];omega
  ·have HN':Hid (numVal (s.data.toList.drop at_)=v):=by
    show _=_
    rw [HN.out]
    by_cases hlt:at_+j < s.size
    ·rw [drop_cons s _ hlt,numFrom_stop]
     cases h:isDigitN (s[at_+j].toNat:Int)
     ·rfl
     ·exact absurd ⟨hlt,h⟩ hgo
    ·rw [List.drop_of_length_le (by simp;omega),numFrom_nil]
   have HD':Hid (digLen (s.data.toList.drop at_)=j):=by
    show _=_
    rw [HD.out]
    by_cases hlt:at_+j < s.size
    ·rw [drop_cons s _ hlt,digLen_stop]
     ·rfl
     ·cases h:isDigitN (s[at_+j].toNat:Int)
      ·rfl
      ·exact absurd ⟨hlt,h⟩ hgo
    ·rw [List.drop_of_length_le (by simp;omega),digLen_nil];rfl
   clear HN HD
   have HG:=hide hgo
   clear hgo
   by_cases hlt:at_+j < s.size
   ·have hdg:isDigitN (s[at_+j].toNat:Int)=false:=by
     cases h:isDigitN (s[at_+j].toNat:Int)
     ·rfl
     ·exact absurd ⟨hlt,h⟩ HG.out
    obtain ⟨c,hc⟩:∃ c,s[at_+j]=c:=⟨_,rfl⟩
    rw [hc] at hdg
    clear HG
    go_wp2_with (go_at_call 288;refine (isDigit_any _ _).mono ?_;rintro e w' ⟨rfl,rfl⟩)
    clear hc hdg
    refine (byteAt_of s _ _ (by unfold maxLen;omega) (by omega)).mono ?_
    rintro e w1 ⟨rfl,rfl⟩
    have HC1:=hide (byteOf_drop s at_ j (↑at_+↑j) (by omega))
    generalize byteOf s (↑at_+↑j)=c1 at HC1
    rcases five_ways c1 with h77 | ⟨h77,h109⟩ | ⟨h77,h109,h75⟩ | ⟨h77,h109,h75,h107⟩ | ⟨h77,h109,h75,h107⟩
    ·have HE:Hid (∀ c2,byteOf s (↑at_+↑j+1)=c2→scanNumL (s.data.toList.drop at_) at_=if letdig c2 then .error ⟨2,at_⟩ else if 2147483647 < v*1048576 then .error ⟨3,at_⟩ else .ok (⟨4,at_,[],[],v*1048576⟩,at_+(j+1))):=fun c2 h2=>
      scanNumL_of _ at_ v j (v*1048576) (j+1) c1 c2 HN'.out HD'.out HC1.out (by rw [isM_of (Or.inl h77)];rfl) (by rw [isM_of (Or.inl h77)];rfl) (by rw [byteOf_drop s at_ (j+1) (↑at_+↑j+1) (by omega)];exact h2)
     clear HC1
     go_wp2_with fail
     refine (byteAt_of s _ _ (by unfold maxLen;omega) (by omega)).mono ?_
     rintro e w1 ⟨rfl,rfl⟩
     have HE2:=hide (HE.out _ rfl)
     clear HE
     generalize byteOf s (↑at_+↑j+1)=c2 at HE2
     cases hl:isLetN (c2.toNat:Int)
     ·cases hdd:isDigitN (c2.toNat:Int)
      ·rw [letdig_false hl hdd] at HE2
       by_cases hbig:2147483647 < v*1048576
       ·rw [if_neg (by decide),if_pos hbig] at HE2
        have hbig':(2147483647:Int) < (v:Int)*1024*1024:=by omega
        go_wp2_with (first | (go_at_call 287;refine (isLetter_any _ _).mono ?_;rintro e w' ⟨rfl,rfl⟩) | (go_at_call 288;refine (isDigit_any _ _).mono ?_;rintro e w' ⟨rfl,rfl⟩) | (go_at_call 118;refine (fault_any _ _ _).mono ?_;rintro e w' ⟨rfl,rfl⟩))
        exact ⟨rfl,ScanPost.err HE2.out (((Below.refl _ w).alloc (Nat.le_refl _) _).alloc (by simp) _) (threw_at 3 at_ (by simp) (by simp))⟩
       ·rw [if_neg (by decide),if_neg hbig] at HE2
        go_wp2_with (first | (go_at_call 287;refine (isLetter_any _ _).mono ?_;rintro e w' ⟨rfl,rfl⟩) | (go_at_call 288;refine (isDigit_any _ _).mono ?_;rintro e w' ⟨rfl,rfl⟩) | (go_at_call 118;refine (fault_any _ _ _).mono ?_;rintro e w' ⟨rfl,rfl⟩))
        refine bodyPost_ret (v:=.tuple #[.agg #[.int .i64 4,.int .i64 at_,.string ⟨#[]⟩,.string ⟨#[]⟩,.int .i64 ((v:Int)*1024*1024)],.int .i64 (↑at_+↑j+1)]) (by simp [results,Tryz.results310,go_sem]) rfl (ScanPost.ok HE2.out ((Below.refl _ w).alloc (Nat.le_refl _) _) ?_ ?_)
        ·simp [wdV];try omega
        ·simp;try omega
      ·rw [letdig_true (Or.inr hdd)] at HE2
       rw [if_pos rfl] at HE2
       go_wp2_with (first | (go_at_call 287;refine (isLetter_any _ _).mono ?_;rintro e w' ⟨rfl,rfl⟩) | (go_at_call 288;refine (isDigit_any _ _).mono ?_;rintro e w' ⟨rfl,rfl⟩) | (go_at_call 118;refine (fault_any _ _ _).mono ?_;rintro e w' ⟨rfl,rfl⟩))
       exact ⟨rfl,ScanPost.err HE2.out (((Below.refl _ w).alloc (Nat.le_refl _) _).alloc (by simp) _) (threw_at 2 at_ (by simp) (by simp))⟩
     ·rw [letdig_true (Or.inl hl)] at HE2
      rw [if_pos rfl] at HE2
      go_wp2_with (first | (go_at_call 287;refine (isLetter_any _ _).mono ?_;rintro e w' ⟨rfl,rfl⟩) | (go_at_call 288;refine (isDigit_any _ _).mono ?_;rintro e w' ⟨rfl,rfl⟩) | (go_at_call 118;refine (fault_any _ _ _).mono ?_;rintro e w' ⟨rfl,rfl⟩))
      exact ⟨rfl,ScanPost.err HE2.out (((Below.refl _ w).alloc (Nat.le_refl _) _).alloc (by simp) _) (threw_at 2 at_ (by simp) (by simp))⟩
    ·have HE:Hid (∀ c2,byteOf s (↑at_+↑j+1)=c2→scanNumL (s.data.toList.drop at_) at_=if letdig c2 then .error ⟨2,at_⟩ else if 2147483647 < v*1048576 then .error ⟨3,at_⟩ else .ok (⟨4,at_,[],[],v*1048576⟩,at_+(j+1))):=fun c2 h2=>
      scanNumL_of _ at_ v j (v*1048576) (j+1) c1 c2 HN'.out HD'.out HC1.out (by rw [isM_of (Or.inr h109)];rfl) (by rw [isM_of (Or.inr h109)];rfl) (by rw [byteOf_drop s at_ (j+1) (↑at_+↑j+1) (by omega)];exact h2)
     clear HC1
     go_wp2_with fail
     refine (byteAt_of s _ _ (by unfold maxLen;omega) (by omega)).mono ?_
     rintro e w1 ⟨rfl,rfl⟩
     have HE2:=hide (HE.out _ rfl)
     clear HE
     generalize byteOf s (↑at_+↑j+1)=c2 at HE2
     cases hl:isLetN (c2.toNat:Int)
     ·cases hdd:isDigitN (c2.toNat:Int)
      ·rw [letdig_false hl hdd] at HE2
       by_cases hbig:2147483647 < v*1048576
       ·rw [if_neg (by decide),if_pos hbig] at HE2
        have hbig':(2147483647:Int) < (v:Int)*1024*1024:=by omega
        go_wp2_with (first | (go_at_call 287;refine (isLetter_any _ _).mono ?_;rintro e w' ⟨rfl,rfl⟩) | (go_at_call 288;refine (isDigit_any _ _).mono ?_;rintro e w' ⟨rfl,rfl⟩) | (go_at_call 118;refine (fault_any _ _ _).mono ?_;rintro e w' ⟨rfl,rfl⟩))
        exact ⟨rfl,ScanPost.err HE2.out (((Below.refl _ w).alloc (Nat.le_refl _) _).alloc (by simp) _) (threw_at 3 at_ (by simp) (by simp))⟩
       ·rw [if_neg (by decide),if_neg hbig] at HE2
        go_wp2_with (first | (go_at_call 287;refine (isLetter_any _ _).mono ?_;rintro e w' ⟨rfl,rfl⟩) | (go_at_call 288;refine (isDigit_any _ _).mono ?_;rintro e w' ⟨rfl,rfl⟩) | (go_at_call 118;refine (fault_any _ _ _).mono ?_;rintro e w' ⟨rfl,rfl⟩))
        refine bodyPost_ret (v:=.tuple #[.agg #[.int .i64 4,.int .i64 at_,.string ⟨#[]⟩,.string ⟨#[]⟩,.int .i64 ((v:Int)*1024*1024)],.int .i64 (↑at_+↑j+1)]) (by simp [results,Tryz.results310,go_sem]) rfl (ScanPost.ok HE2.out ((Below.refl _ w).alloc (Nat.le_refl _) _) ?_ ?_)
        ·simp [wdV];try omega
        ·simp;try omega
      ·rw [letdig_true (Or.inr hdd)] at HE2
       rw [if_pos rfl] at HE2
       go_wp2_with (first | (go_at_call 287;refine (isLetter_any _ _).mono ?_;rintro e w' ⟨rfl,rfl⟩) | (go_at_call 288;refine (isDigit_any _ _).mono ?_;rintro e w' ⟨rfl,rfl⟩) | (go_at_call 118;refine (fault_any _ _ _).mono ?_;rintro e w' ⟨rfl,rfl⟩))
       exact ⟨rfl,ScanPost.err HE2.out (((Below.refl _ w).alloc (Nat.le_refl _) _).alloc (by simp) _) (threw_at 2 at_ (by simp) (by simp))⟩
     ·rw [letdig_true (Or.inl hl)] at HE2
      rw [if_pos rfl] at HE2
      go_wp2_with (first | (go_at_call 287;refine (isLetter_any _ _).mono ?_;rintro e w' ⟨rfl,rfl⟩) | (go_at_call 288;refine (isDigit_any _ _).mono ?_;rintro e w' ⟨rfl,rfl⟩) | (go_at_call 118;refine (fault_any _ _ _).mono ?_;rintro e w' ⟨rfl,rfl⟩))
      exact ⟨rfl,ScanPost.err HE2.out (((Below.refl _ w).alloc (Nat.le_refl _) _).alloc (by simp) _) (threw_at 2 at_ (by simp) (by simp))⟩
    ·have HE:Hid (∀ c2,byteOf s (↑at_+↑j+1)=c2→scanNumL (s.data.toList.drop at_) at_=if letdig c2 then .error ⟨2,at_⟩ else if 2147483647 < v*1024 then .error ⟨3,at_⟩ else .ok (⟨4,at_,[],[],v*1024⟩,at_+(j+1))):=fun c2 h2=>
      scanNumL_of _ at_ v j (v*1024) (j+1) c1 c2 HN'.out HD'.out HC1.out (by rw [isM_not h77 h109,isK_of (Or.inl h75)];rfl) (by rw [isM_not h77 h109,isK_of (Or.inl h75)];rfl) (by rw [byteOf_drop s at_ (j+1) (↑at_+↑j+1) (by omega)];exact h2)
     clear HC1
     go_wp2_with fail
     refine (byteAt_of s _ _ (by unfold maxLen;omega) (by omega)).mono ?_
     rintro e w1 ⟨rfl,rfl⟩
     have HE2:=hide (HE.out _ rfl)
     clear HE
     generalize byteOf s (↑at_+↑j+1)=c2 at HE2
     cases hl:isLetN (c2.toNat:Int)
     ·cases hdd:isDigitN (c2.toNat:Int)
      ·rw [letdig_false hl hdd] at HE2
       by_cases hbig:2147483647 < v*1024
       ·rw [if_neg (by decide),if_pos hbig] at HE2
        have hbig':(2147483647:Int) < (v:Int)*1024:=by omega
        go_wp2_with (first | (go_at_call 287;refine (isLetter_any _ _).mono ?_;rintro e w' ⟨rfl,rfl⟩) | (go_at_call 288;refine (isDigit_any _ _).mono ?_;rintro e w' ⟨rfl,rfl⟩) | (go_at_call 118;refine (fault_any _ _ _).mono ?_;rintro e w' ⟨rfl,rfl⟩))
        exact ⟨rfl,ScanPost.err HE2.out (((Below.refl _ w).alloc (Nat.le_refl _) _).alloc (by simp) _) (threw_at 3 at_ (by simp) (by simp))⟩
       ·rw [if_neg (by decide),if_neg hbig] at HE2
        go_wp2_with (first | (go_at_call 287;refine (isLetter_any _ _).mono ?_;rintro e w' ⟨rfl,rfl⟩) | (go_at_call 288;refine (isDigit_any _ _).mono ?_;rintro e w' ⟨rfl,rfl⟩) | (go_at_call 118;refine (fault_any _ _ _).mono ?_;rintro e w' ⟨rfl,rfl⟩))
        refine bodyPost_ret (v:=.tuple #[.agg #[.int .i64 4,.int .i64 at_,.string ⟨#[]⟩,.string ⟨#[]⟩,.int .i64 ((v:Int)*1024)],.int .i64 (↑at_+↑j+1)]) (by simp [results,Tryz.results310,go_sem]) rfl (ScanPost.ok HE2.out ((Below.refl _ w).alloc (Nat.le_refl _) _) ?_ ?_)
        ·simp [wdV];try omega
        ·simp;try omega
      ·rw [letdig_true (Or.inr hdd)] at HE2
       rw [if_pos rfl] at HE2
       go_wp2_with (first | (go_at_call 287;refine (isLetter_any _ _).mono ?_;rintro e w' ⟨rfl,rfl⟩) | (go_at_call 288;refine (isDigit_any _ _).mono ?_;rintro e w' ⟨rfl,rfl⟩) | (go_at_call 118;refine (fault_any _ _ _).mono ?_;rintro e w' ⟨rfl,rfl⟩))
       exact ⟨rfl,ScanPost.err HE2.out (((Below.refl _ w).alloc (Nat.le_refl _) _).alloc (by simp) _) (threw_at 2 at_ (by simp) (by simp))⟩
     ·rw [letdig_true (Or.inl hl)] at HE2
      rw [if_pos rfl] at HE2
      go_wp2_with (first | (go_at_call 287;refine (isLetter_any _ _).mono ?_;rintro e w' ⟨rfl,rfl⟩) | (go_at_call 288;refine (isDigit_any _ _).mono ?_;rintro e w' ⟨rfl,rfl⟩) | (go_at_call 118;refine (fault_any _ _ _).mono ?_;rintro e w' ⟨rfl,rfl⟩))
      exact ⟨rfl,ScanPost.err HE2.out (((Below.refl _ w).alloc (Nat.le_refl _) _).alloc (by simp) _) (threw_at 2 at_ (by simp) (by simp))⟩
    ·have HE:Hid (∀ c2,byteOf s (↑at_+↑j+1)=c2→scanNumL (s.data.toList.drop at_) at_=if letdig c2 then .error ⟨2,at_⟩ else if 2147483647 < v*1024 then .error ⟨3,at_⟩ else .ok (⟨4,at_,[],[],v*1024⟩,at_+(j+1))):=fun c2 h2=>
      scanNumL_of _ at_ v j (v*1024) (j+1) c1 c2 HN'.out HD'.out HC1.out (by rw [isM_not h77 h109,isK_of (Or.inr h107)];rfl) (by rw [isM_not h77 h109,isK_of (Or.inr h107)];rfl) (by rw [byteOf_drop s at_ (j+1) (↑at_+↑j+1) (by omega)];exact h2)
     clear HC1
     go_wp2_with fail
     refine (byteAt_of s _ _ (by unfold maxLen;omega) (by omega)).mono ?_
     rintro e w1 ⟨rfl,rfl⟩
     have HE2:=hide (HE.out _ rfl)
     clear HE
     generalize byteOf s (↑at_+↑j+1)=c2 at HE2
     cases hl:isLetN (c2.toNat:Int)
     ·cases hdd:isDigitN (c2.toNat:Int)
      ·rw [letdig_false hl hdd] at HE2
       by_cases hbig:2147483647 < v*1024
       ·rw [if_neg (by decide),if_pos hbig] at HE2
        have hbig':(2147483647:Int) < (v:Int)*1024:=by omega
        go_wp2_with (first | (go_at_call 287;refine (isLetter_any _ _).mono ?_;rintro e w' ⟨rfl,rfl⟩) | (go_at_call 288;refine (isDigit_any _ _).mono ?_;rintro e w' ⟨rfl,rfl⟩) | (go_at_call 118;refine (fault_any _ _ _).mono ?_;rintro e w' ⟨rfl,rfl⟩))
        exact ⟨rfl,ScanPost.err HE2.out (((Below.refl _ w).alloc (Nat.le_refl _) _).alloc (by simp) _) (threw_at 3 at_ (by simp) (by simp))⟩
       ·rw [if_neg (by decide),if_neg hbig] at HE2
        go_wp2_with (first | (go_at_call 287;refine (isLetter_any _ _).mono ?_;rintro e w' ⟨rfl,rfl⟩) | (go_at_call 288;refine (isDigit_any _ _).mono ?_;rintro e w' ⟨rfl,rfl⟩) | (go_at_call 118;refine (fault_any _ _ _).mono ?_;rintro e w' ⟨rfl,rfl⟩))
        refine bodyPost_ret (v:=.tuple #[.agg #[.int .i64 4,.int .i64 at_,.string ⟨#[]⟩,.string ⟨#[]⟩,.int .i64 ((v:Int)*1024)],.int .i64 (↑at_+↑j+1)]) (by simp [results,Tryz.results310,go_sem]) rfl (ScanPost.ok HE2.out ((Below.refl _ w).alloc (Nat.le_refl _) _) ?_ ?_)
        ·simp [wdV];try omega
        ·simp;try omega
      ·rw [letdig_true (Or.inr hdd)] at HE2
       rw [if_pos rfl] at HE2
       go_wp2_with (first | (go_at_call 287;refine (isLetter_any _ _).mono ?_;rintro e w' ⟨rfl,rfl⟩) | (go_at_call 288;refine (isDigit_any _ _).mono ?_;rintro e w' ⟨rfl,rfl⟩) | (go_at_call 118;refine (fault_any _ _ _).mono ?_;rintro e w' ⟨rfl,rfl⟩))
       exact ⟨rfl,ScanPost.err HE2.out (((Below.refl _ w).alloc (Nat.le_refl _) _).alloc (by simp) _) (threw_at 2 at_ (by simp) (by simp))⟩
     ·rw [letdig_true (Or.inl hl)] at HE2
      rw [if_pos rfl] at HE2
      go_wp2_with (first | (go_at_call 287;refine (isLetter_any _ _).mono ?_;rintro e w' ⟨rfl,rfl⟩) | (go_at_call 288;refine (isDigit_any _ _).mono ?_;rintro e w' ⟨rfl,rfl⟩) | (go_at_call 118;refine (fault_any _ _ _).mono ?_;rintro e w' ⟨rfl,rfl⟩))
      exact ⟨rfl,ScanPost.err HE2.out (((Below.refl _ w).alloc (Nat.le_refl _) _).alloc (by simp) _) (threw_at 2 at_ (by simp) (by simp))⟩
    ·have HE:Hid (∀ c2,byteOf s (↑at_+↑j)=c2→scanNumL (s.data.toList.drop at_) at_=if letdig c2 then .error ⟨2,at_⟩ else if 2147483647 < v then .error ⟨3,at_⟩ else .ok (⟨4,at_,[],[],v⟩,at_+(j))):=fun c2 h2=>
      scanNumL_of _ at_ v j (v) (j) c1 c2 HN'.out HD'.out HC1.out (by rw [isM_not h77 h109,isK_not h75 h107];rfl) (by rw [isM_not h77 h109,isK_not h75 h107];rfl) (by rw [byteOf_drop s at_ (j) (↑at_+↑j) (by omega)];exact h2)
     clear HC1
     go_wp2_with fail
     refine (byteAt_of s _ _ (by unfold maxLen;omega) (by omega)).mono ?_
     rintro e w1 ⟨rfl,rfl⟩
     have HE2:=hide (HE.out _ rfl)
     clear HE
     generalize byteOf s (↑at_+↑j)=c2 at HE2
     cases hl:isLetN (c2.toNat:Int)
     ·cases hdd:isDigitN (c2.toNat:Int)
      ·rw [letdig_false hl hdd] at HE2
       by_cases hbig:2147483647 < v
       ·rw [if_neg (by decide),if_pos hbig] at HE2
        have hbig':(2147483647:Int) < (v:Int):=by omega
        go_wp2_with (first | (go_at_call 287;refine (isLetter_any _ _).mono ?_;rintro e w' ⟨rfl,rfl⟩) | (go_at_call 288;refine (isDigit_any _ _).mono ?_;rintro e w' ⟨rfl,rfl⟩) | (go_at_call 118;refine (fault_any _ _ _).mono ?_;rintro e w' ⟨rfl,rfl⟩))
        exact ⟨rfl,ScanPost.err HE2.out (((Below.refl _ w).alloc (Nat.le_refl _) _).alloc (by simp) _) (threw_at 3 at_ (by simp) (by simp))⟩
       ·rw [if_neg (by decide),if_neg hbig] at HE2
        go_wp2_with (first | (go_at_call 287;refine (isLetter_any _ _).mono ?_;rintro e w' ⟨rfl,rfl⟩) | (go_at_call 288;refine (isDigit_any _ _).mono ?_;rintro e w' ⟨rfl,rfl⟩) | (go_at_call 118;refine (fault_any _ _ _).mono ?_;rintro e w' ⟨rfl,rfl⟩))
        refine bodyPost_ret (v:=.tuple #[.agg #[.int .i64 4,.int .i64 at_,.string ⟨#[]⟩,.string ⟨#[]⟩,.int .i64 ((v:Int))],.int .i64 (↑at_+↑j)]) (by simp [results,Tryz.results310,go_sem]) rfl (ScanPost.ok HE2.out ((Below.refl _ w).alloc (Nat.le_refl _) _) ?_ ?_)
        ·simp [wdV];try omega
        ·simp;try omega
      ·rw [letdig_true (Or.inr hdd)] at HE2
       rw [if_pos rfl] at HE2
       go_wp2_with (first | (go_at_call 287;refine (isLetter_any _ _).mono ?_;rintro e w' ⟨rfl,rfl⟩) | (go_at_call 288;refine (isDigit_any _ _).mono ?_;rintro e w' ⟨rfl,rfl⟩) | (go_at_call 118;refine (fault_any _ _ _).mono ?_;rintro e w' ⟨rfl,rfl⟩))
       exact ⟨rfl,ScanPost.err HE2.out (((Below.refl _ w).alloc (Nat.le_refl _) _).alloc (by simp) _) (threw_at 2 at_ (by simp) (by simp))⟩
     ·rw [letdig_true (Or.inl hl)] at HE2
      rw [if_pos rfl] at HE2
      go_wp2_with (first | (go_at_call 287;refine (isLetter_any _ _).mono ?_;rintro e w' ⟨rfl,rfl⟩) | (go_at_call 288;refine (isDigit_any _ _).mono ?_;rintro e w' ⟨rfl,rfl⟩) | (go_at_call 118;refine (fault_any _ _ _).mono ?_;rintro e w' ⟨rfl,rfl⟩))
      exact ⟨rfl,ScanPost.err HE2.out (((Below.refl _ w).alloc (Nat.le_refl _) _).alloc (by simp) _) (threw_at 2 at_ (by simp) (by simp))⟩
   ·clear HG
    go_wp2_with (go_at_call 288;refine (isDigit_any _ _).mono ?_;rintro e w' ⟨rfl,rfl⟩)
    refine (byteAt_of s _ _ (by unfold maxLen;omega) (by omega)).mono ?_
    rintro e w1 ⟨rfl,rfl⟩
    have HC1:=hide (byteOf_drop s at_ j (↑at_+↑j) (by omega))
    generalize byteOf s (↑at_+↑j)=c1 at HC1
    rcases five_ways c1 with h77 | ⟨h77,h109⟩ | ⟨h77,h109,h75⟩ | ⟨h77,h109,h75,h107⟩ | ⟨h77,h109,h75,h107⟩
    ·have HE:Hid (∀ c2,byteOf s (↑at_+↑j+1)=c2→scanNumL (s.data.toList.drop at_) at_=if letdig c2 then .error ⟨2,at_⟩ else if 2147483647 < v*1048576 then .error ⟨3,at_⟩ else .ok (⟨4,at_,[],[],v*1048576⟩,at_+(j+1))):=fun c2 h2=>
      scanNumL_of _ at_ v j (v*1048576) (j+1) c1 c2 HN'.out HD'.out HC1.out (by rw [isM_of (Or.inl h77)];rfl) (by rw [isM_of (Or.inl h77)];rfl) (by rw [byteOf_drop s at_ (j+1) (↑at_+↑j+1) (by omega)];exact h2)
     clear HC1
     go_wp2_with fail
     refine (byteAt_of s _ _ (by unfold maxLen;omega) (by omega)).mono ?_
     rintro e w1 ⟨rfl,rfl⟩
     have HE2:=hide (HE.out _ rfl)
     clear HE
     generalize byteOf s (↑at_+↑j+1)=c2 at HE2
     cases hl:isLetN (c2.toNat:Int)
     ·cases hdd:isDigitN (c2.toNat:Int)
      ·rw [letdig_false hl hdd] at HE2
       by_cases hbig:2147483647 < v*1048576
       ·rw [if_neg (by decide),if_pos hbig] at HE2
        have hbig':(2147483647:Int) < (v:Int)*1024*1024:=by omega
        go_wp2_with (first | (go_at_call 287;refine (isLetter_any _ _).mono ?_;rintro e w' ⟨rfl,rfl⟩) | (go_at_call 288;refine (isDigit_any _ _).mono ?_;rintro e w' ⟨rfl,rfl⟩) | (go_at_call 118;refine (fault_any _ _ _).mono ?_;rintro e w' ⟨rfl,rfl⟩))
        exact ⟨rfl,ScanPost.err HE2.out (((Below.refl _ w).alloc (Nat.le_refl _) _).alloc (by simp) _) (threw_at 3 at_ (by simp) (by simp))⟩
       ·rw [if_neg (by decide),if_neg hbig] at HE2
        go_wp2_with (first | (go_at_call 287;refine (isLetter_any _ _).mono ?_;rintro e w' ⟨rfl,rfl⟩) | (go_at_call 288;refine (isDigit_any _ _).mono ?_;rintro e w' ⟨rfl,rfl⟩) | (go_at_call 118;refine (fault_any _ _ _).mono ?_;rintro e w' ⟨rfl,rfl⟩))
        refine bodyPost_ret (v:=.tuple #[.agg #[.int .i64 4,.int .i64 at_,.string ⟨#[]⟩,.string ⟨#[]⟩,.int .i64 ((v:Int)*1024*1024)],.int .i64 (↑at_+↑j+1)]) (by simp [results,Tryz.results310,go_sem]) rfl (ScanPost.ok HE2.out ((Below.refl _ w).alloc (Nat.le_refl _) _) ?_ ?_)
        ·simp [wdV];try omega
        ·simp;try omega
      ·rw [letdig_true (Or.inr hdd)] at HE2
       rw [if_pos rfl] at HE2
       go_wp2_with (first | (go_at_call 287;refine (isLetter_any _ _).mono ?_;rintro e w' ⟨rfl,rfl⟩) | (go_at_call 288;refine (isDigit_any _ _).mono ?_;rintro e w' ⟨rfl,rfl⟩) | (go_at_call 118;refine (fault_any _ _ _).mono ?_;rintro e w' ⟨rfl,rfl⟩))
       exact ⟨rfl,ScanPost.err HE2.out (((Below.refl _ w).alloc (Nat.le_refl _) _).alloc (by simp) _) (threw_at 2 at_ (by simp) (by simp))⟩
     ·rw [letdig_true (Or.inl hl)] at HE2
      rw [if_pos rfl] at HE2
      go_wp2_with (first | (go_at_call 287;refine (isLetter_any _ _).mono ?_;rintro e w' ⟨rfl,rfl⟩) | (go_at_call 288;refine (isDigit_any _ _).mono ?_;rintro e w' ⟨rfl,rfl⟩) | (go_at_call 118;refine (fault_any _ _ _).mono ?_;rintro e w' ⟨rfl,rfl⟩))
      exact ⟨rfl,ScanPost.err HE2.out (((Below.refl _ w).alloc (Nat.le_refl _) _).alloc (by simp) _) (threw_at 2 at_ (by simp) (by simp))⟩
    ·have HE:Hid (∀ c2,byteOf s (↑at_+↑j+1)=c2→scanNumL (s.data.toList.drop at_) at_=if letdig c2 then .error ⟨2,at_⟩ else if 2147483647 < v*1048576 then .error ⟨3,at_⟩ else .ok (⟨4,at_,[],[],v*1048576⟩,at_+(j+1))):=fun c2 h2=>
      scanNumL_of _ at_ v j (v*1048576) (j+1) c1 c2 HN'.out HD'.out HC1.out (by rw [isM_of (Or.inr h109)];rfl) (by rw [isM_of (Or.inr h109)];rfl) (by rw [byteOf_drop s at_ (j+1) (↑at_+↑j+1) (by omega)];exact h2)
     clear HC1
     go_wp2_with fail
     refine (byteAt_of s _ _ (by unfold maxLen;omega) (by omega)).mono ?_
     rintro e w1 ⟨rfl,rfl⟩
     have HE2:=hide (HE.out _ rfl)
     clear HE
     generalize byteOf s (↑at_+↑j+1)=c2 at HE2
     cases hl:isLetN (c2.toNat:Int)
     ·cases hdd:isDigitN (c2.toNat:Int)
      ·rw [letdig_false hl hdd] at HE2
       by_cases hbig:2147483647 < v*1048576
       ·rw [if_neg (by decide),if_pos hbig] at HE2
        have hbig':(2147483647:Int) < (v:Int)*1024*1024:=by omega
        go_wp2_with (first | (go_at_call 287;refine (isLetter_any _ _).mono ?_;rintro e w' ⟨rfl,rfl⟩) | (go_at_call 288;refine (isDigit_any _ _).mono ?_;rintro e w' ⟨rfl,rfl⟩) | (go_at_call 118;refine (fault_any _ _ _).mono ?_;rintro e w' ⟨rfl,rfl⟩))
        exact ⟨rfl,ScanPost.err HE2.out (((Below.refl _ w).alloc (Nat.le_refl _) _).alloc (by simp) _) (threw_at 3 at_ (by simp) (by simp))⟩
       ·rw [if_neg (by decide),if_neg hbig] at HE2
        go_wp2_with (first | (go_at_call 287;refine (isLetter_any _ _).mono ?_;rintro e w' ⟨rfl,rfl⟩) | (go_at_call 288;refine (isDigit_any _ _).mono ?_;rintro e w' ⟨rfl,rfl⟩) | (go_at_call 118;refine (fault_any _ _ _).mono ?_;rintro e w' ⟨rfl,rfl⟩))
        refine bodyPost_ret (v:=.tuple #[.agg #[.int .i64 4,.int .i64 at_,.string ⟨#[]⟩,.string ⟨#[]⟩,.int .i64 ((v:Int)*1024*1024)],.int .i64 (↑at_+↑j+1)]) (by simp [results,Tryz.results310,go_sem]) rfl (ScanPost.ok HE2.out ((Below.refl _ w).alloc (Nat.le_refl _) _) ?_ ?_)
        ·simp [wdV];try omega
        ·simp;try omega
      ·rw [letdig_true (Or.inr hdd)] at HE2
       rw [if_pos rfl] at HE2
       go_wp2_with (first | (go_at_call 287;refine (isLetter_any _ _).mono ?_;rintro e w' ⟨rfl,rfl⟩) | (go_at_call 288;refine (isDigit_any _ _).mono ?_;rintro e w' ⟨rfl,rfl⟩) | (go_at_call 118;refine (fault_any _ _ _).mono ?_;rintro e w' ⟨rfl,rfl⟩))
       exact ⟨rfl,ScanPost.err HE2.out (((Below.refl _ w).alloc (Nat.le_refl _) _).alloc (by simp) _) (threw_at 2 at_ (by simp) (by simp))⟩
     ·rw [letdig_true (Or.inl hl)] at HE2
      rw [if_pos rfl] at HE2
      go_wp2_with (first | (go_at_call 287;refine (isLetter_any _ _).mono ?_;rintro e w' ⟨rfl,rfl⟩) | (go_at_call 288;refine (isDigit_any _ _).mono ?_;rintro e w' ⟨rfl,rfl⟩) | (go_at_call 118;refine (fault_any _ _ _).mono ?_;rintro e w' ⟨rfl,rfl⟩))
      exact ⟨rfl,ScanPost.err HE2.out (((Below.refl _ w).alloc (Nat.le_refl _) _).alloc (by simp) _) (threw_at 2 at_ (by simp) (by simp))⟩
    ·have HE:Hid (∀ c2,byteOf s (↑at_+↑j+1)=c2→scanNumL (s.data.toList.drop at_) at_=if letdig c2 then .error ⟨2,at_⟩ else if 2147483647 < v*1024 then .error ⟨3,at_⟩ else .ok (⟨4,at_,[],[],v*1024⟩,at_+(j+1))):=fun c2 h2=>
      scanNumL_of _ at_ v j (v*1024) (j+1) c1 c2 HN'.out HD'.out HC1.out (by rw [isM_not h77 h109,isK_of (Or.inl h75)];rfl) (by rw [isM_not h77 h109,isK_of (Or.inl h75)];rfl) (by rw [byteOf_drop s at_ (j+1) (↑at_+↑j+1) (by omega)];exact h2)
     clear HC1
     go_wp2_with fail
     refine (byteAt_of s _ _ (by unfold maxLen;omega) (by omega)).mono ?_
     rintro e w1 ⟨rfl,rfl⟩
     have HE2:=hide (HE.out _ rfl)
     clear HE
     generalize byteOf s (↑at_+↑j+1)=c2 at HE2
     cases hl:isLetN (c2.toNat:Int)
     ·cases hdd:isDigitN (c2.toNat:Int)
      ·rw [letdig_false hl hdd] at HE2
       by_cases hbig:2147483647 < v*1024
       ·rw [if_neg (by decide),if_pos hbig] at HE2
        have hbig':(2147483647:Int) < (v:Int)*1024:=by omega
        go_wp2_with (first | (go_at_call 287;refine (isLetter_any _ _).mono ?_;rintro e w' ⟨rfl,rfl⟩) | (go_at_call 288;refine (isDigit_any _ _).mono ?_;rintro e w' ⟨rfl,rfl⟩) | (go_at_call 118;refine (fault_any _ _ _).mono ?_;rintro e w' ⟨rfl,rfl⟩))
        exact ⟨rfl,ScanPost.err HE2.out (((Below.refl _ w).alloc (Nat.le_refl _) _).alloc (by simp) _) (threw_at 3 at_ (by simp) (by simp))⟩
       ·rw [if_neg (by decide),if_neg hbig] at HE2
        go_wp2_with (first | (go_at_call 287;refine (isLetter_any _ _).mono ?_;rintro e w' ⟨rfl,rfl⟩) | (go_at_call 288;refine (isDigit_any _ _).mono ?_;rintro e w' ⟨rfl,rfl⟩) | (go_at_call 118;refine (fault_any _ _ _).mono ?_;rintro e w' ⟨rfl,rfl⟩))
        refine bodyPost_ret (v:=.tuple #[.agg #[.int .i64 4,.int .i64 at_,.string ⟨#[]⟩,.string ⟨#[]⟩,.int .i64 ((v:Int)*1024)],.int .i64 (↑at_+↑j+1)]) (by simp [results,Tryz.results310,go_sem]) rfl (ScanPost.ok HE2.out ((Below.refl _ w).alloc (Nat.le_refl _) _) ?_ ?_)
        ·simp [wdV];try omega
        ·simp;try omega
      ·rw [letdig_true (Or.inr hdd)] at HE2
       rw [if_pos rfl] at HE2
       go_wp2_with (first | (go_at_call 287;refine (isLetter_any _ _).mono ?_;rintro e w' ⟨rfl,rfl⟩) | (go_at_call 288;refine (isDigit_any _ _).mono ?_;rintro e w' ⟨rfl,rfl⟩) | (go_at_call 118;refine (fault_any _ _ _).mono ?_;rintro e w' ⟨rfl,rfl⟩))
       exact ⟨rfl,ScanPost.err HE2.out (((Below.refl _ w).alloc (Nat.le_refl _) _).alloc (by simp) _) (threw_at 2 at_ (by simp) (by simp))⟩
     ·rw [letdig_true (Or.inl hl)] at HE2
      rw [if_pos rfl] at HE2
      go_wp2_with (first | (go_at_call 287;refine (isLetter_any _ _).mono ?_;rintro e w' ⟨rfl,rfl⟩) | (go_at_call 288;refine (isDigit_any _ _).mono ?_;rintro e w' ⟨rfl,rfl⟩) | (go_at_call 118;refine (fault_any _ _ _).mono ?_;rintro e w' ⟨rfl,rfl⟩))
      exact ⟨rfl,ScanPost.err HE2.out (((Below.refl _ w).alloc (Nat.le_refl _) _).alloc (by simp) _) (threw_at 2 at_ (by simp) (by simp))⟩
    ·have HE:Hid (∀ c2,byteOf s (↑at_+↑j+1)=c2→scanNumL (s.data.toList.drop at_) at_=if letdig c2 then .error ⟨2,at_⟩ else if 2147483647 < v*1024 then .error ⟨3,at_⟩ else .ok (⟨4,at_,[],[],v*1024⟩,at_+(j+1))):=fun c2 h2=>
      scanNumL_of _ at_ v j (v*1024) (j+1) c1 c2 HN'.out HD'.out HC1.out (by rw [isM_not h77 h109,isK_of (Or.inr h107)];rfl) (by rw [isM_not h77 h109,isK_of (Or.inr h107)];rfl) (by rw [byteOf_drop s at_ (j+1) (↑at_+↑j+1) (by omega)];exact h2)
     clear HC1
     go_wp2_with fail
     refine (byteAt_of s _ _ (by unfold maxLen;omega) (by omega)).mono ?_
     rintro e w1 ⟨rfl,rfl⟩
     have HE2:=hide (HE.out _ rfl)
     clear HE
     generalize byteOf s (↑at_+↑j+1)=c2 at HE2
     cases hl:isLetN (c2.toNat:Int)
     ·cases hdd:isDigitN (c2.toNat:Int)
      ·rw [letdig_false hl hdd] at HE2
       by_cases hbig:2147483647 < v*1024
       ·rw [if_neg (by decide),if_pos hbig] at HE2
        have hbig':(2147483647:Int) < (v:Int)*1024:=by omega
        go_wp2_with (first | (go_at_call 287;refine (isLetter_any _ _).mono ?_;rintro e w' ⟨rfl,rfl⟩) | (go_at_call 288;refine (isDigit_any _ _).mono ?_;rintro e w' ⟨rfl,rfl⟩) | (go_at_call 118;refine (fault_any _ _ _).mono ?_;rintro e w' ⟨rfl,rfl⟩))
        exact ⟨rfl,ScanPost.err HE2.out (((Below.refl _ w).alloc (Nat.le_refl _) _).alloc (by simp) _) (threw_at 3 at_ (by simp) (by simp))⟩
       ·rw [if_neg (by decide),if_neg hbig] at HE2
        go_wp2_with (first | (go_at_call 287;refine (isLetter_any _ _).mono ?_;rintro e w' ⟨rfl,rfl⟩) | (go_at_call 288;refine (isDigit_any _ _).mono ?_;rintro e w' ⟨rfl,rfl⟩) | (go_at_call 118;refine (fault_any _ _ _).mono ?_;rintro e w' ⟨rfl,rfl⟩))
        refine bodyPost_ret (v:=.tuple #[.agg #[.int .i64 4,.int .i64 at_,.string ⟨#[]⟩,.string ⟨#[]⟩,.int .i64 ((v:Int)*1024)],.int .i64 (↑at_+↑j+1)]) (by simp [results,Tryz.results310,go_sem]) rfl (ScanPost.ok HE2.out ((Below.refl _ w).alloc (Nat.le_refl _) _) ?_ ?_)
        ·simp [wdV];try omega
        ·simp;try omega
      ·rw [letdig_true (Or.inr hdd)] at HE2
       rw [if_pos rfl] at HE2
       go_wp2_with (first | (go_at_call 287;refine (isLetter_any _ _).mono ?_;rintro e w' ⟨rfl,rfl⟩) | (go_at_call 288;refine (isDigit_any _ _).mono ?_;rintro e w' ⟨rfl,rfl⟩) | (go_at_call 118;refine (fault_any _ _ _).mono ?_;rintro e w' ⟨rfl,rfl⟩))
       exact ⟨rfl,ScanPost.err HE2.out (((Below.refl _ w).alloc (Nat.le_refl _) _).alloc (by simp) _) (threw_at 2 at_ (by simp) (by simp))⟩
     ·rw [letdig_true (Or.inl hl)] at HE2
      rw [if_pos rfl] at HE2
      go_wp2_with (first | (go_at_call 287;refine (isLetter_any _ _).mono ?_;rintro e w' ⟨rfl,rfl⟩) | (go_at_call 288;refine (isDigit_any _ _).mono ?_;rintro e w' ⟨rfl,rfl⟩) | (go_at_call 118;refine (fault_any _ _ _).mono ?_;rintro e w' ⟨rfl,rfl⟩))
      exact ⟨rfl,ScanPost.err HE2.out (((Below.refl _ w).alloc (Nat.le_refl _) _).alloc (by simp) _) (threw_at 2 at_ (by simp) (by simp))⟩
    ·have HE:Hid (∀ c2,byteOf s (↑at_+↑j)=c2→scanNumL (s.data.toList.drop at_) at_=if letdig c2 then .error ⟨2,at_⟩ else if 2147483647 < v then .error ⟨3,at_⟩ else .ok (⟨4,at_,[],[],v⟩,at_+(j))):=fun c2 h2=>
      scanNumL_of _ at_ v j (v) (j) c1 c2 HN'.out HD'.out HC1.out (by rw [isM_not h77 h109,isK_not h75 h107];rfl) (by rw [isM_not h77 h109,isK_not h75 h107];rfl) (by rw [byteOf_drop s at_ (j) (↑at_+↑j) (by omega)];exact h2)
     clear HC1
     go_wp2_with fail
     refine (byteAt_of s _ _ (by unfold maxLen;omega) (by omega)).mono ?_
     rintro e w1 ⟨rfl,rfl⟩
     have HE2:=hide (HE.out _ rfl)
     clear HE
     generalize byteOf s (↑at_+↑j)=c2 at HE2
     cases hl:isLetN (c2.toNat:Int)
     ·cases hdd:isDigitN (c2.toNat:Int)
      ·rw [letdig_false hl hdd] at HE2
       by_cases hbig:2147483647 < v
       ·rw [if_neg (by decide),if_pos hbig] at HE2
        have hbig':(2147483647:Int) < (v:Int):=by omega
        go_wp2_with (first | (go_at_call 287;refine (isLetter_any _ _).mono ?_;rintro e w' ⟨rfl,rfl⟩) | (go_at_call 288;refine (isDigit_any _ _).mono ?_;rintro e w' ⟨rfl,rfl⟩) | (go_at_call 118;refine (fault_any _ _ _).mono ?_;rintro e w' ⟨rfl,rfl⟩))
        exact ⟨rfl,ScanPost.err HE2.out (((Below.refl _ w).alloc (Nat.le_refl _) _).alloc (by simp) _) (threw_at 3 at_ (by simp) (by simp))⟩
       ·rw [if_neg (by decide),if_neg hbig] at HE2
        go_wp2_with (first | (go_at_call 287;refine (isLetter_any _ _).mono ?_;rintro e w' ⟨rfl,rfl⟩) | (go_at_call 288;refine (isDigit_any _ _).mono ?_;rintro e w' ⟨rfl,rfl⟩) | (go_at_call 118;refine (fault_any _ _ _).mono ?_;rintro e w' ⟨rfl,rfl⟩))
        refine bodyPost_ret (v:=.tuple #[.agg #[.int .i64 4,.int .i64 at_,.string ⟨#[]⟩,.string ⟨#[]⟩,.int .i64 ((v:Int))],.int .i64 (↑at_+↑j)]) (by simp [results,Tryz.results310,go_sem]) rfl (ScanPost.ok HE2.out ((Below.refl _ w).alloc (Nat.le_refl _) _) ?_ ?_)
        ·simp [wdV];try omega
        ·simp;try omega
      ·rw [letdig_true (Or.inr hdd)] at HE2
       rw [if_pos rfl] at HE2
       go_wp2_with (first | (go_at_call 287;refine (isLetter_any _ _).mono ?_;rintro e w' ⟨rfl,rfl⟩) | (go_at_call 288;refine (isDigit_any _ _).mono ?_;rintro e w' ⟨rfl,rfl⟩) | (go_at_call 118;refine (fault_any _ _ _).mono ?_;rintro e w' ⟨rfl,rfl⟩))
       exact ⟨rfl,ScanPost.err HE2.out (((Below.refl _ w).alloc (Nat.le_refl _) _).alloc (by simp) _) (threw_at 2 at_ (by simp) (by simp))⟩
     ·rw [letdig_true (Or.inl hl)] at HE2
      rw [if_pos rfl] at HE2
      go_wp2_with (first | (go_at_call 287;refine (isLetter_any _ _).mono ?_;rintro e w' ⟨rfl,rfl⟩) | (go_at_call 288;refine (isDigit_any _ _).mono ?_;rintro e w' ⟨rfl,rfl⟩) | (go_at_call 118;refine (fault_any _ _ _).mono ?_;rintro e w' ⟨rfl,rfl⟩))
      exact ⟨rfl,ScanPost.err HE2.out (((Below.refl _ w).alloc (Nat.le_refl _) _).alloc (by simp) _) (threw_at 2 at_ (by simp) (by simp))⟩
end
end Go.Proofs.YtbiclelojbfnbaaGreatDoor
