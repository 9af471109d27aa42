import Derived.Test.YtbiclelojbfnbaaGreatDoorZCapital
namespace Go.Proofs.YtbiclelojbfnbaaGreatDoor
set_option linter.unusedVariables false
set_option linter.unusedSimpArgs false
set_option maxRecDepth 100000
set_option maxHeartbeats 4000000
section
open Go.RowKit
theorem Qdg (s:ByteArray) (a:Nat):(s.extract a s.size).data.toList=s.data.toList.drop a:=by
 rw [ByteArray.data_extract,Array.toList_extract,List.extract_eq_take_drop]
 rw [List.take_of_length_le]
 simp
theorem Qd2 (s:ByteArray) (a:Nat):(s.extract a s.size).size=s.size - a:=by
 rw [Lib.size_eq,Qdg];simp
theorem Qrs (f p:Nat):Qb4 f [] p=.ok p:=by cases f <;> rfl
theorem Qnu (f p:Nat) (c:UInt8) (r:List UInt8) (h:Qbe c.toNat=true):Qb4 (f+1) (c :: r) p=Qb4 f r (p+1):=by
 simp only [Qb4];rw [if_pos h]
theorem Qqi (f p:Nat) (c:UInt8) (r:List UInt8) (h:Qbe c.toNat=false) (h1:c.toNat=35):Qb4 (f+1) (c :: r) p=Qb4 f ((c :: r).drop (lineLen (c :: r))) (p+lineLen (c :: r)):=by
 simp only [Qb4];rw [if_neg (by rw [h];decide),if_pos h1]
theorem QqG (f p:Nat) (c:UInt8) (r:List UInt8) (h:Qbe c.toNat=false) (h1:¬ c.toNat=35) (h2:Lib.hasPrefix (c :: r) [47,42]=true) (h3:Lib.index (r.drop 1) [42,47] < 0):Qb4 (f+1) (c :: r) p=.error ⟨2,p⟩:=by
 simp only [Qb4];rw [if_neg (by rw [h];decide),if_neg h1,if_pos h2,if_pos h3]
theorem Qqr (f p:Nat) (c:UInt8) (r:List UInt8) (h:Qbe c.toNat=false) (h1:¬ c.toNat=35) (h2:Lib.hasPrefix (c :: r) [47,42]=true) (h3:¬ Lib.index (r.drop 1) [42,47] < 0):Qb4 (f+1) (c :: r) p=Qb4 f ((c :: r).drop (4+(Lib.index (r.drop 1) [42,47]).toNat)) (p+(4+(Lib.index (r.drop 1) [42,47]).toNat)):=by
 simp only [Qb4];rw [if_neg (by rw [h];decide),if_neg h1,if_pos h2,if_neg h3]
theorem Qpx (f p:Nat) (c:UInt8) (r:List UInt8) (h:Qbe c.toNat=false) (h1:¬ c.toNat=35) (h2:Lib.hasPrefix (c :: r) [47,42]=false):Qb4 (f+1) (c :: r) p=.ok p:=by
 simp only [Qb4];rw [if_neg (by rw [h];decide),if_neg h1,if_neg (by rw [h2];decide)]
theorem QkE (l:List UInt8) (a b:UInt8) (h:Lib.hasPrefix l [a,b]=true):2≤l.length:=by
 have:=(List.isPrefixOf_iff_prefix.1 h).length_le
 simpa using this
def Qdd (r:Except Flt Nat) (w:World) (e:Ending) (w':World):Prop:=
 match r with
 | .ok n=>e=.returned (.int .i64 n)∧w'=w
 | .error f=>Qc6 f w e w'∧Below w.heap.size w w'
theorem Qdd.ok {r:Except Flt Nat} {n:Nat} {w:World} {x:Int} (h:r=.ok n) (hx:x=n):Qdd r w (.returned (.int .i64 x)) w:=by
 subst h;subst hx;exact ⟨rfl,rfl⟩
theorem Qln (er p:Nat) (w:World):Qc6 ⟨er,p⟩ w (.panicked [{ v:=.iface 140 (.pointer (some ⟨w.heap.size,0,none⟩)),recovered:=false }]) (w.alloc (.cells #[.int .i64 er,.int .i64 p] 145)):=by
 refine ⟨w.heap.size,Nat.le_refl _,rfl,?_⟩
 show (w.heap.push _)[w.heap.size]?=_
 simp
theorem Qdd.err {r:Except Flt Nat} {er p:Nat} {w:World} (h:r=.error ⟨er,p⟩) :
 Qdd r w (.panicked [{ v:=.iface 140 (.pointer (some ⟨w.heap.size,0,none⟩)),recovered:=false }]) (w.alloc (.cells #[.int .i64 er,.int .i64 p] 145)):=by
 subst h;exact ⟨Qln er p w,(Below.refl _ _).alloc (Nat.le_refl _) _⟩
theorem QsG (s:ByteArray) (at_ f0:Nat) (m:Int) (w:World) (hs:s.size≤4294967280) (ha:at_≤s.size) (hf:s.size - at_ < f0) (hm:w.cell? ⟨1,0,none⟩=some (.int .i64 m)) :
 Calls Tryz.prog 260 #[.string s,.int .i64 at_] w (Qdd (Qb4 f0 (s.data.toList.drop at_) at_) w):=by
 go_enter Tryz.func260,Tryz.ntmps260
 go_wp2_with fail
 go_loop [1,5,6] (fun a _ _=>∃ k f:Nat,k≤s.size∧s.size - k < f∧a=.int .i64 k∧Qb4 f0 (s.data.toList.drop at_) at_=Qb4 f (s.data.toList.drop k) k) (fun a _ _=>s.size - (intOf a).toNat)
 case atStart=>exact ⟨at_,f0,ha,hf,rfl,rfl⟩
 case round=>
  obtain ⟨k,f,hk,hkf,rfl,hR⟩:=hrel
  obtain ⟨f,rfl⟩:∃ g,f=g+1:=⟨f - 1,by omega⟩
  have HR:=Qab hR
  clear hR
  by_cases hlt:k < s.size
  ·have hd:=Qbv s k hlt
   obtain ⟨rs,hx⟩:∃ rs,s.extract k s.size=rs:=⟨_,rfl⟩
   have HL:Hid (rs.data.toList=s.data.toList.drop k):=by rw [← hx];exact Qdg s k
   have hz:rs.size=s.size - k:=by rw [← hx];exact Qd2 s k
   have hz0:0 < rs.size:=by omega
   have hz1:rs.size≤s.size - k:=by omega
   have HZ:=Qab hz
   clear hz
   have h0:rs[0]=s[k]:=by
    have e:=HL.out
    rw [hd] at e
    have e2:=Qbv rs 0 hz0
    rw [List.drop_zero,e] at e2
    exact (List.cons.inj e2).1.symm
   generalize hcd:s[k]=c at h0 hd
   clear hcd
   rw [hd] at HR
   have HD:=Qab hd
   clear hd
   cases hb:Qbe (c.toNat:Int)
   ·by_cases h35:(c.toNat:Int)=35
    ·have HS:=Qab (Qqi f k c (s.data.toList.drop (k+1)) hb (by omega))
     have hll:=Qj4 rs.data.toList
     have hlp:1≤lineLen rs.data.toList:=by rw [HL.out,HD.out];exact Qi7 _ _
     have hlz:rs.data.toList.length=rs.size:=by simp
     rw [hlz] at hll
     have h35':((c.toNat:Int) == 35)=true:=by simpa using h35
     clear h35
     have HLL:Hid (lineLen (c :: s.data.toList.drop (k+1))=lineLen rs.data.toList):=by show _=_;rw [HL.out,HD.out]
     go_wp2_with (first | (go_at_call 313;refine (QcN _ _).mono ?_;rintro e w' ⟨rfl,rfl⟩) | (go_at_call 314;refine (Qjt _ _ (by omega)).mono ?_;rintro e w' ⟨rfl,rfl⟩))
     refine ⟨⟨k+lineLen rs.data.toList,f,by omega,by omega,by go_num,?_⟩,by simp [intOf];omega⟩
     rw [HR.out,HS.out,HLL.out,← HD.out,List.drop_drop]
    ·have h35':((c.toNat:Int) == 35)=false:=by simpa using h35
     cases hp:Lib.hasPrefix rs.data.toList [47,42]
     ·have HS:=Qab (Qpx f k c (s.data.toList.drop (k+1)) hb (by omega) (by rw [← HD.out,← HL.out];exact hp))
      clear h35
      go_wp2_with (first | (go_at_call 313;refine (QcN _ _).mono ?_;rintro e w' ⟨rfl,rfl⟩) | (go_at_call 301;refine (Tryz.strings_HasPrefix _ _ _).mono ?_;rintro e w' ⟨rfl,rfl⟩))
      go_ret
      exact Qdd.ok (by rw [HR.out,HS.out]) rfl
     ·have h2:=QkE _ _ _ hp
      have hlz:rs.data.toList.length=rs.size:=by simp
      rw [hlz] at h2
      obtain ⟨rt,hx2⟩:∃ rt,rs.extract 2 rs.size=rt:=⟨_,rfl⟩
      have HL2:Hid (rt.data.toList=(s.data.toList.drop (k+1)).drop 1):=by
       show _=_
       rw [← hx2,Qdg,HL.out,HD.out];rfl
      have hz2:rt.size=rs.size - 2:=by rw [← hx2];exact Qd2 rs 2
      have hz3:rt.size≤rs.size - 2:=by omega
      have hzz:(rt.data.toList.length:Int)=rt.size:=by simp
      have hroom:=QjF rt.data.toList [42,47]
      rw [hzz] at hroom
      have hge:=Lib.index_ge rt.data.toList [42,47]
      clear hz2 hlz hzz
      by_cases hi:Lib.index rt.data.toList [42,47] < 0
      ·have HS:=Qab (QqG f k c (s.data.toList.drop (k+1)) hb (by omega) (by rw [← HD.out,← HL.out];exact hp) (by rw [← HL2.out];exact hi))
       clear h35 hroom
       go_wp2_with (first | (go_at_call 313;refine (QcN _ _).mono ?_;rintro e w' ⟨rfl,rfl⟩) | (go_at_call 301;refine (Tryz.strings_HasPrefix _ _ _).mono ?_;rintro e w' ⟨rfl,rfl⟩) | (go_at_call 315;refine (Tryz.strings_Index _ _ m _ (by omega) hm).mono ?_;rintro e w' ⟨rfl,rfl⟩) | (go_at_call 118;refine (QaB _ _ _).mono ?_;rintro e w' ⟨rfl,rfl⟩))
       exact ⟨rfl,Qdd.err (by rw [HR.out,HS.out])⟩
      ·have hroom':Lib.index rt.data.toList [42,47]+2≤rt.size:=by
        rcases hroom with h | h
        ·exact absurd h hi
        ·simpa using h
       have HS:=Qab (Qqr f k c (s.data.toList.drop (k+1)) hb (by omega) (by rw [← HD.out,← HL.out];exact hp) (by rw [← HL2.out];exact hi))
       clear h35 hroom
       go_wp2_with (first | (go_at_call 313;refine (QcN _ _).mono ?_;rintro e w' ⟨rfl,rfl⟩) | (go_at_call 301;refine (Tryz.strings_HasPrefix _ _ _).mono ?_;rintro e w' ⟨rfl,rfl⟩) | (go_at_call 315;refine (Tryz.strings_Index _ _ m _ (by omega) hm).mono ?_;rintro e w' ⟨rfl,rfl⟩) | (go_at_call 118;refine (QaB _ _ _).mono ?_;rintro e w' ⟨rfl,rfl⟩))
       refine ⟨⟨k+(4+(Lib.index rt.data.toList [42,47]).toNat),f,by omega,by omega,congrArg _ (by omega),?_⟩,by simp [intOf];omega⟩
       rw [HR.out,HS.out,← HL2.out,← HD.out,List.drop_drop]
   ·have HS:=Qab (Qnu f k c (s.data.toList.drop (k+1)) hb)
    go_wp2_with (first | (go_at_call 313;refine (QcN _ _).mono ?_;rintro e w' ⟨rfl,rfl⟩))
    go_round
    case rel=>exact ⟨k+1,f,by omega,by omega,by go_num,by rw [HR.out,HS.out]⟩
    case measure=>simp [intOf];omega
  ·go_wp2
   go_ret
   exact Qdd.ok (by rw [HR.out,List.drop_of_length_le (by simp;omega),Qrs]) rfl
end
section
open Go.RowKit
theorem Qmr (s:ByteArray) (a n:Nat):(s.extract a (a+n)).data.toList=(s.data.toList.drop a).take n:=by
 rw [ByteArray.data_extract,Array.toList_extract,List.extract_eq_take_drop]
 rw [show a+n - a=n from by omega]
theorem QpZ {W w1:World} (hb:Below W.heap.size W w1):(∀ b o,b < W.heap.size→w1.cell? ⟨b,o,none⟩=W.cell? ⟨b,o,none⟩)∧(∀ b o,b < W.heap.size→w1.frozen? ⟨b,o,none⟩=W.frozen? ⟨b,o,none⟩):=
 ⟨fun b o h=>hb.cell (p:=⟨b,o,none⟩) h,fun b o h=>hb.frozen (p:=⟨b,o,none⟩) h⟩
def wdV (x:Wd):Value:=.agg #[.int .i64 x.kind,.int .i64 x.pos,.string ⟨x.spelt.toArray⟩,.string ⟨x.said.toArray⟩,.int .i64 x.num]
def Qav (r:Except Flt (Wd×Nat)) (w:World) (e:Ending) (w':World):Prop:=
 Below w.heap.size w w'∧
 match r with
 | .ok x=>e=.returned (.tuple #[wdV x.1,.int .i64 x.2])
 | .error f=>Qc6 f w e w'
theorem Qav.ok {r:Except Flt (Wd×Nat)} {x:Wd×Nat} {w w':World} {v:Value} {n:Int} (h:r=.ok x) (hb:Below w.heap.size w w') (hv:v=wdV x.1) (hn:n=x.2):Qav r w (.returned (.tuple #[v,.int .i64 n])) w':=by
 subst h;subst hv;subst hn;exact ⟨hb,rfl⟩
theorem Qav.err {r:Except Flt (Wd×Nat)} {f:Flt} {w w':World} {e:Ending} (h:r=.error f) (hb:Below w.heap.size w w') (ht:Qc6 f w e w'):Qav r w e w':=by
 subst h;exact ⟨hb,ht⟩
theorem Qc6.up {f:Flt} {w w1 w':World} {e:Ending} (h:Qc6 f w1 e w') (hz:w.heap.size≤w1.heap.size):Qc6 f w e w':=by
 obtain ⟨b,hb,h⟩:=h
 exact ⟨b,Nat.le_trans hz hb,h⟩
theorem Qa5 (er p:Nat) {w w1:World} {b:Nat} (hz:w.heap.size≤w1.heap.size) (hb:b=w1.heap.size) :
 Qc6 ⟨er,p⟩ w (.panicked [{ v:=.iface 140 (.pointer (some ⟨b,0,none⟩)),recovered:=false }]) (w1.alloc (.cells #[.int .i64 er,.int .i64 p] 145)):=by
 subst hb;exact (Qln er p w1).up hz
theorem QkG (k:Int) (s:ByteArray) (at_ n:Nat) (w:World) (hs:s.size≤4294967280) (ha:at_+n≤s.size) :
 Calls Tryz.prog 308 #[.int .i64 k,.string s,.int .i64 at_,.int .i64 n] w fun e w'=>
  e=.returned (.tuple #[.agg #[.int .i64 k,.int .i64 at_,.string ⟨(smallL ((s.data.toList.drop at_).take n)).toArray⟩,.string ⟨#[]⟩,.int .i64 0],.int .i64 (at_+n:Nat)])∧Below w.heap.size w w':=by
 obtain ⟨rs,hx⟩:∃ rs,s.extract at_ (at_+n)=rs:=⟨_,rfl⟩
 have HL:Hid (rs.data.toList=(s.data.toList.drop at_).take n):=by rw [← hx];exact Qmr s at_ n
 have hz:rs.size≤s.size:=by
  rw [Lib.size_eq,HL.out];simp;omega
 go_enter Tryz.func308,Tryz.ntmps308
 go_wp2_with fail
 refine (Qe8 rs _ (by omega)).mono ?_
 rintro e w1 ⟨rfl,hb⟩
 rw [HL.out]
 obtain ⟨hc,hf⟩:=QpZ hb
 have hz1:w.heap.size < w1.heap.size:=by have:=hb.size;simp at this;omega
 have HB:=Qab hb
 clear hb
 go_wp2
 have hb0:Below w.heap.size w w1:=((Below.refl _ w).alloc (Nat.le_refl _) _).trans (HB.out.mono (by simp))
 refine bodyPost_ret (v:=.tuple #[.agg #[.int .i64 k,.int .i64 at_,.string ⟨(smallL ((s.data.toList.drop at_).take n)).toArray⟩,.string ⟨#[]⟩,.int .i64 0],.int .i64 (at_+n:Nat)]) (by simp [results,Tryz.results308,go_sem,hc,hz1]) rfl ⟨rfl,?_⟩
 exact ((((hb0.setCell (Nat.le_refl _) _).setCell (Nat.le_refl _) _).setCell (Nat.le_refl _) _).setCell (Nat.le_refl _) _).setCell (Nat.le_refl _) _
end
section
open Go.RowKit
def Qei (l:List UInt8):List Value:=l.map fun c=>Value.int .u8 c.toNat
theorem Qca (l:List UInt8) (c:UInt8):Qei l++[.int .u8 c.toNat]=Qei (l++[c]):=by simp [Qei]
theorem Tryz.infoU8:(Tryz.prog.info? 5).map (fun i=>(i.zero,i.size,i.bytes))=some (some (.int .u8 0),1,1):=by kernel_rfl
theorem Qdz (wr:World) (base:Nat) (v:Value) (l:List UInt8) (h:wr.ownsRow base 5 1 v l.length (Qei l)) :
 (convert 172 9 v).run Tryz.prog wr=.ok (.string ⟨l.toArray⟩) wr:=by
 obtain ⟨h1,h2 | ⟨g,cap,cur,hv,hg,hb,r⟩⟩:=h
 ·obtain ⟨rfl,h3⟩:=h2
  have:l=[]:=List.eq_nil_of_length_eq_zero h3
  subst this
  rw [run_convert_bytes_string wr 172 9 5 none 0 0 Tryz.underlying172 Tryz.underlying5 Tryz.underlying9]
  rfl
 ·have hc:=World.ownsRow.cells (w:=wr) (base:=base) (e:=5) (size:=1) (v:=v) (n:=l.length) (xs:=Qei l) ⟨h1,Or.inr ⟨g,cap,cur,hv,hg,hb,r⟩⟩ (g:=g) (by rw [hv];rfl)
  rw [hv]
  exact run_convert_bytes_back wr 172 9 5 ⟨g,0,none⟩ cap l Tryz.underlying172 Tryz.underlying5 Tryz.underlying9 (fun j hj=>hc j _ (by simp [Qei,List.getElem?_eq_getElem hj]))
theorem QjL (c:UInt8) (r:List UInt8) (h:(c.toNat:Int)=34):quoteL (c :: r)=some ([],1):=by
 unfold quoteL;rw [if_pos (by omega)]
theorem QpP (c d:UInt8) (r:List UInt8) (h:(c.toNat:Int)=92):quoteL (c :: d :: r)=(quoteL r).map fun x=>(d :: x.1,x.2+2):=by
 rw [quoteL,if_neg (by omega),if_pos (by omega)]
theorem QoI (c:UInt8) (h:(c.toNat:Int)=92):quoteL [c]=none:=by
 unfold quoteL;rw [if_neg (by omega),if_pos (by omega)]
theorem Qqb (c:UInt8) (r:List UInt8) (h:¬ (c.toNat:Int)=34) (h':¬ (c.toNat:Int)=92):quoteL (c :: r)=(quoteL r).map fun x=>(c :: x.1,x.2+1):=by
 rw [quoteL.eq_def];dsimp only;rw [if_neg (by omega),if_neg (by omega)]
def QjA (s:ByteArray) (at_ k:Nat) (acc:List UInt8):Prop:=
 quoteL (s.data.toList.drop (at_+1))=(quoteL (s.data.toList.drop k)).map fun x=>(acc++x.1,x.2+(k - (at_+1)))
theorem QjA.fin {s:ByteArray} {at_ k:Nat} {acc:List UInt8} (h:QjA s at_ k acc) {c:UInt8} {r:List UInt8} (hd:s.data.toList.drop k=c :: r) (hc:(c.toNat:Int)=34) :
 quoteL (s.data.toList.drop (at_+1))=some (acc,1+(k - (at_+1))):=by
 unfold QjA at h;rw [h,hd,QjL c r hc];simp
theorem QjA.one {s:ByteArray} {at_ k:Nat} {acc:List UInt8} (h:QjA s at_ k acc) {c:UInt8} (hd:s.data.toList.drop k=c :: s.data.toList.drop (k+1)) (hc:¬ (c.toNat:Int)=34) (hc':¬ (c.toNat:Int)=92) (hk:at_+1≤k) :
 QjA s at_ (k+1) (acc++[c]):=by
 unfold QjA at h ⊢;rw [h,hd,Qqb c _ hc hc']
 cases quoteL (s.data.toList.drop (k+1)) with
 | none=>rfl
 | some x=>simp;omega
theorem QjA.esc {s:ByteArray} {at_ k:Nat} {acc:List UInt8} (h:QjA s at_ k acc) {c d:UInt8} (hd:s.data.toList.drop k=c :: s.data.toList.drop (k+1)) (hd':s.data.toList.drop (k+1)=d :: s.data.toList.drop (k+1+1)) (hc:(c.toNat:Int)=92) (hk:at_+1≤k) :
 QjA s at_ (k+1+1) (acc++[d]):=by
 unfold QjA at h ⊢;rw [h,hd,hd',QpP c d _ hc]
 cases quoteL (s.data.toList.drop (k+1+1)) with
 | none=>rfl
 | some x=>simp;omega
theorem QjA.esc0 {s:ByteArray} {at_ k:Nat} {acc:List UInt8} (h:QjA s at_ k acc) {c:UInt8} (hd:s.data.toList.drop k=c :: s.data.toList.drop (k+1)) (hd':s.data.toList.drop (k+1)=[]) (hc:(c.toNat:Int)=92) (acc':List UInt8) :
 QjA s at_ (k+1) acc':=by
 unfold QjA at h ⊢;rw [h,hd,hd',QoI c hc];rfl
theorem QjA.past {s:ByteArray} {at_ k:Nat} {acc:List UInt8} (h:QjA s at_ k acc) (hk:s.size≤k):quoteL (s.data.toList.drop (at_+1))=none:=by
 unfold QjA at h;rw [h,List.drop_of_length_le (by simpa using hk)];rfl
theorem Qk1 (s:ByteArray) (at_:Nat) (w:World) (hs:s.size≤4294967280) (ha:at_ < s.size) :
 Calls Tryz.prog 311 #[.string s,.int .i64 at_] w (Qav (quoteR (s.data.toList.drop (at_+1)) at_) w):=by
 obtain ⟨i0,hi,hz0,hz1,hz2⟩:=info_parts Tryz.infoU8
 obtain ⟨R,hR⟩:∃ R,R=quoteR (s.data.toList.drop (at_+1)) at_:=⟨_,rfl⟩
 rw [← hR]
 have HR:=Qab hR
 clear hR
 go_enter Tryz.func311,Tryz.ntmps311
 go_wp2_with fail
 go_loopw [6,7] (fun v i wr=>∃ (k:Nat) (acc:List UInt8),at_+1≤k∧k≤s.size∧i=.int .i64 k∧acc.length≤k∧wr.ownsRow (w.heap.size+1) 5 1 v acc.length (Qei acc)∧Below (w.heap.size+1) (w.alloc (.cells #[.int .i64 0,.int .i64 0,.string ⟨#[]⟩,.string ⟨#[]⟩,.int .i64 0] 256)) wr∧QjA s at_ k acc) (fun _ i _=>s.size - (intOf i).toNat)
 case atStart=>
  refine ⟨at_+1,[],by omega,by omega,by go_num,by simp,World.ownsRow_nil _ _ _ _,Below.refl _ _,?_⟩
  unfold QjA
  cases quoteL (s.data.toList.drop (at_+1)) <;> simp
 case round=>
  obtain ⟨k,acc,hk0,hk,rfl,hal,hown,hB,hQ⟩:=hrel
  have HQ:=Qab hQ
  clear hQ
  by_cases hlt:k < s.size
  ·have hd:=Qab (Qbv s k hlt)
   obtain ⟨c,hc⟩:∃ c,s[k]=c:=⟨_,rfl⟩
   rw [hc] at hd
   by_cases h34:(c.toNat:Int)=34
   ·have h34':((c.toNat:Int) == 34)=true:=by simpa using h34
    have hrun:=Qdz wr _ _ acc hown
    have hcell:∀ o,wr.cell? ⟨w.heap.size,o,none⟩=(w.alloc (.cells #[.int .i64 0,.int .i64 0,.string ⟨#[]⟩,.string ⟨#[]⟩,.int .i64 0] 256)).cell? ⟨w.heap.size,o,none⟩:=fun o=>hB.cell (p:=⟨w.heap.size,o,none⟩) (by show w.heap.size < _;omega)
    have hfz:∀ o,wr.frozen? ⟨w.heap.size,o,none⟩=(w.alloc (.cells #[.int .i64 0,.int .i64 0,.string ⟨#[]⟩,.string ⟨#[]⟩,.int .i64 0] 256)).frozen? ⟨w.heap.size,o,none⟩:=fun o=>hB.frozen (p:=⟨w.heap.size,o,none⟩) (by show w.heap.size < _;omega)
    have HB:=Qab hB
    have HO:=Qab hown
    have HE:=Qab (QjL c (s.data.toList.drop (k+1)) h34)
    clear hB hown h34
    go_wp2
    have hb0:Below w.heap.size w wr:=((Below.refl _ w).alloc (Nat.le_refl _) _).trans (HB.out.mono (by omega))
    refine bodyPost_ret (v:=.tuple #[.agg #[.int .i64 5,.int .i64 at_,.string ⟨#[]⟩,.string ⟨acc.toArray⟩,.int .i64 0],.int .i64 (↑k+1)]) (by simp [results,Tryz.results311,go_sem,hcell]) rfl (Qav.ok (x:=(⟨5,at_,[],acc,0⟩,at_+(1+(1+(k - (at_+1)))))) ?_ ?_ rfl ?_)
    ·rw [HR.out,quoteR,HQ.out.fin hd.out (by simpa using h34')]
    ·exact ((((hb0.setCell (Nat.le_refl _) _).setCell (Nat.le_refl _) _).setCell (Nat.le_refl _) _).setCell (Nat.le_refl _) _).setCell (Nat.le_refl _) _
    ·simp;omega
   ·have h34':((c.toNat:Int) == 34)=false:=by simpa using h34
    by_cases h92:(c.toNat:Int)=92
    ·have h92':((c.toNat:Int) == 92)=true:=by simpa using h92
     by_cases hl2:k+1 < s.size
     ·have hd2:=Qab (Qbv s (k+1) hl2)
      obtain ⟨d,hdd⟩:∃ d,s[k+1]=d:=⟨_,rfl⟩
      rw [hdd] at hd2
      have H34:=Qab h34
      have H92:=Qab h92
      clear h34 h92
      go_wp2_with (at_builtin;refine wpList_append_own _ rfl _ _ 172 rfl (w.heap.size+1) 5 i0 (.int .u8 0) 1 1 Tryz.underlying172 hi hz0 hz1 hz2 rfl (by decide) _ _ _ rfl (hown.alloc _) ⟨wr.heap.size,0,none⟩ 1 1 [.int .u8 d.toNat] rfl rfl ?c1 ?c2 ?c3 ?c4 ?c5 ?_)
      case c1=>
       intro j u hj
       match j,hj with
       | 0,hj=>simp at hj;subst hj;simp [Addr.add]
      case c2=>intro u hu;simp at hu;subst hu;rfl
      case c3=>unfold maxLen;omega
      case c4=>omega
      case c5=>have:=hB.size;simp at this ⊢;omega
      ·intro v' w1 hown' hgrow _
       have hB':=Below.grown (hB.alloc (by have:=hB.size;simp at this;omega) (Obj.cells #[.int .u8 d.toNat] 5)) hgrow (by have:=hB.size;simp at this ⊢;omega) (fun k' hk'=>(hown.lt k' hk').1)
       rw [Qca] at hown'
       clear hB hown hgrow
       go_wp2
       go_roundw
       case rel=>exact ⟨k+1+1,acc++[d],by omega,by omega,by go_num,by simp;omega,by simpa using hown',hB',HQ.out.esc hd.out hd2.out H92.out hk0⟩
       case measure=>simp [intOf];omega
     ·have hd2:Hid (s.data.toList.drop (k+1)=[]):=List.drop_of_length_le (by simp;omega)
      have H34:=Qab h34
      have H92:=Qab h92
      clear h34 h92
      go_wp2_with (at_builtin;refine wpList_append_own _ rfl _ _ 172 rfl (w.heap.size+1) 5 i0 (.int .u8 0) 1 1 Tryz.underlying172 hi hz0 hz1 hz2 rfl (by decide) _ _ _ rfl (hown.alloc _) ⟨wr.heap.size,0,none⟩ 1 1 [.int .u8 c.toNat] rfl rfl ?c1 ?c2 ?c3 ?c4 ?c5 ?_)
      case c1=>
       intro j u hj
       match j,hj with
       | 0,hj=>simp at hj;subst hj;simp [Addr.add]
      case c2=>intro u hu;simp at hu;subst hu;rfl
      case c3=>unfold maxLen;omega
      case c4=>omega
      case c5=>have:=hB.size;simp at this ⊢;omega
      ·intro v' w1 hown' hgrow _
       have hB':=Below.grown (hB.alloc (by have:=hB.size;simp at this;omega) (Obj.cells #[.int .u8 c.toNat] 5)) hgrow (by have:=hB.size;simp at this ⊢;omega) (fun k' hk'=>(hown.lt k' hk').1)
       rw [Qca] at hown'
       clear hB hown hgrow
       go_wp2
       go_roundw
       case rel=>exact ⟨k+1,acc++[c],by omega,by omega,by go_num,by simp;omega,by simpa using hown',hB',HQ.out.esc0 hd.out hd2.out H92.out _⟩
       case measure=>simp [intOf];omega
    ·have h92':((c.toNat:Int) == 92)=false:=by simpa using h92
     have H34:=Qab h34
     have H92:=Qab h92
     clear h34 h92
     go_wp2_with (at_builtin;refine wpList_append_own _ rfl _ _ 172 rfl (w.heap.size+1) 5 i0 (.int .u8 0) 1 1 Tryz.underlying172 hi hz0 hz1 hz2 rfl (by decide) _ _ _ rfl (hown.alloc _) ⟨wr.heap.size,0,none⟩ 1 1 [.int .u8 c.toNat] rfl rfl ?c1 ?c2 ?c3 ?c4 ?c5 ?_)
     case c1=>
      intro j u hj
      match j,hj with
      | 0,hj=>simp at hj;subst hj;simp [Addr.add]
     case c2=>intro u hu;simp at hu;subst hu;rfl
     case c3=>unfold maxLen;omega
     case c4=>omega
     case c5=>have:=hB.size;simp at this ⊢;omega
     ·intro v' w1 hown' hgrow _
      have hB':=Below.grown (hB.alloc (by have:=hB.size;simp at this;omega) (Obj.cells #[.int .u8 c.toNat] 5)) hgrow (by have:=hB.size;simp at this ⊢;omega) (fun k' hk'=>(hown.lt k' hk').1)
      rw [Qca] at hown'
      clear hB hown hgrow
      go_wp2
      go_roundw
      case rel=>exact ⟨k+1,acc++[c],by omega,by omega,by go_num,by simp;omega,by simpa using hown',hB',HQ.out.one hd.out H34.out H92.out hk0⟩
      case measure=>simp [intOf];omega
  ·have HE:Hid (R=.error ⟨2,at_⟩):=by show R=_;rw [HR.out,quoteR,HQ.out.past (by omega)]
   have hz:w.heap.size≤wr.heap.size:=by have:=hB.size;simp at this;omega
   have hb0:Below w.heap.size w wr:=((Below.refl _ w).alloc (Nat.le_refl _) _).trans (hB.mono (by omega))
   clear hown hB HR
   go_wp2_with (go_at_call 118;refine (QaB _ _ _).mono ?_;rintro e w' ⟨rfl,rfl⟩)
   exact ⟨rfl,Qav.err HE.out (hb0.alloc hz _) (Qa5 2 at_ hz rfl)⟩
end
end Go.Proofs.YtbiclelojbfnbaaGreatDoor
