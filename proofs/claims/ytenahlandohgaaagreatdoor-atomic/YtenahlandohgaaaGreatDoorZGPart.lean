import Derived.Test.YtenahlandohgaaaGreatDoorZEStep
import Derived.Test.YtenahlandohgaaaGreatDoorZGRead
import Derived.Test.YtenahlandohgaaaGreatDoorPlainPart
import Derived.Test.YtenahlandohgaaaGreatDoorShelf
namespace Go.Proofs.YtenahlandohgaaaGreatDoor
set_option linter.unusedVariables false
set_option linter.unusedSimpArgs false
set_option maxRecDepth 100000
set_option maxHeartbeats 4000000
section
open Go.RowKit
attribute [local go_sem ↓] Go.wp_at_zero Go.wp_at_succ
structure AD where
 D:Fs
 N:Fs
 p:List Dop
 lf:Lf
def aDo (o:Dop) (A:AD):Nat×AD:=
 if (aWr A.lf).1=0 then
  (if o.kind=1 then (0,⟨A.D,putF A.N o.name o.data,A.p++[o],(aWr A.lf).2⟩)
   else if o.kind=3 then (0,⟨A.D,delF A.N o.name,A.p++[o],(aWr A.lf).2⟩)
   else (0,⟨A.p.foldl doF A.D,A.N,[],(aWr A.lf).2⟩))
 else if o.kind=1∧(aWr A.lf).1=16 then (16,⟨A.D,A.N,A.p++[o],(aWr A.lf).2⟩)
 else ((aWr A.lf).1,⟨A.D,A.N,A.p,(aWr A.lf).2⟩)
def aRun:List Dop→AD→Nat×AD
 | [],A=>(0,A)
 | o :: r,A=>if (aDo o A).1=0 then aRun r (aDo o A).2 else aDo o A
theorem aRun_app:∀ (xs ys:List Dop) (A:AD),aRun (xs++ys) A=if (aRun xs A).1=0 then aRun ys (aRun xs A).2 else aRun xs A
 | [],ys,A=>by simp [aRun]
 | o :: r,ys,A=>by
  show (if (aDo o A).1=0 then aRun (r++ys) (aDo o A).2 else aDo o A)=_
  rw [aRun]
  by_cases h:(aDo o A).1=0
  ·rw [if_pos h,if_pos h];exact aRun_app r ys _
  ·rw [if_neg h,if_neg h,if_neg h]
def sOp:Dop:=⟨0,[],[]⟩
def rOp (x:List UInt8):Dop:=⟨3,x,[]⟩
def AbsD (w:World) (B db bd bn n:Nat) (A:AD):Prop:=∃ pv,DJ w B db bd bn n A.D A.N A.p A.lf.left A.lf.full A.lf.down pv
theorem DJ.mono {w:World} {B db bd bn n m:Nat} {D N:Fs} {p:List Dop} {ql qf:Int} {dn:Bool} {pv:Value} (h:DJ w B db bd bn n D N p ql qf dn pv) (hn:n≤m):DJ w B db bd bn m D N p ql qf dn pv:=
 ⟨h.bb,h.ne,h.blk,h.md.mono hn,h.mn.mono hn,h.row⟩
theorem AbsD.mono {w:World} {B db bd bn n m:Nat} {A:AD} (h:AbsD w B db bd bn n A) (hn:n≤m):AbsD w B db bd bn m A:=by
 obtain ⟨pv,h⟩:=h
 exact ⟨pv,h.mono hn⟩
theorem AbsD.below {w w':World} {B db bd bn n:Nat} {A:AD} (h:AbsD w B db bd bn n A) (hb:Below w.heap.size w w'):AbsD w' B db bd bn n A:=by
 obtain ⟨pv,h⟩:=h
 exact ⟨pv,h.below hb⟩
theorem aDo_w0 {A:AD} (x s:List UInt8) (h:(aWr A.lf).1=0):aDo ⟨1,x,s⟩ A=(0,⟨A.D,putF A.N x s,A.p++[⟨1,x,s⟩],(aWr A.lf).2⟩):=by unfold aDo;rw [if_pos h,if_pos rfl]
theorem aDo_w15 {A:AD} (x s:List UInt8) (h:(aWr A.lf).1=15):aDo ⟨1,x,s⟩ A=(15,⟨A.D,A.N,A.p,(aWr A.lf).2⟩):=by unfold aDo;rw [if_neg (by omega),if_neg (by omega),h]
theorem aDo_w16 {A:AD} (x s:List UInt8) (h:(aWr A.lf).1=16):aDo ⟨1,x,s⟩ A=(16,⟨A.D,A.N,A.p++[⟨1,x,s⟩],(aWr A.lf).2⟩):=by unfold aDo;rw [if_neg (by omega),if_pos ⟨rfl,h⟩]
theorem aDo_r0 {A:AD} (x:List UInt8) (h:(aWr A.lf).1=0):aDo (rOp x) A=(0,⟨A.D,delF A.N x,A.p++[rOp x],(aWr A.lf).2⟩):=by unfold aDo;rw [if_pos h];rfl
theorem aDo_s0 {A:AD} (h:(aWr A.lf).1=0):aDo sOp A=(0,⟨A.p.foldl doF A.D,A.N,[],(aWr A.lf).2⟩):=by unfold aDo;rw [if_pos h];rfl
theorem aDo_ne {A:AD} {o:Dop} (ho:o.kind≠1) (h:(aWr A.lf).1≠0):aDo o A=((aWr A.lf).1,⟨A.D,A.N,A.p,(aWr A.lf).2⟩):=by unfold aDo;rw [if_neg h,if_neg (by intro e;exact ho e.1)]
theorem aDo_len (o:Dop) (A:AD):(aDo o A).2.p.length≤A.p.length+1:=by
 unfold aDo
 repeat' split
 all_goals simp
theorem aRun_len:∀ (l:List Dop) (A:AD),(aRun l A).2.p.length≤A.p.length+l.length
 | [],A=>by simp [aRun]
 | o :: r,A=>by
  rw [aRun]
  have h1:=aDo_len o A
  split
  ·have h2:=aRun_len r (aDo o A).2
   simp only [List.length_cons]
   omega
  ·simp only [List.length_cons]
   omega
theorem aDo_ops (o:Dop) (A:AD) (h:OpsOk A.p) (ho:o.kind=1∨o.kind=3→OpsOk [o]):OpsOk (aDo o A).2.p:=by
 have happ:OpsOk [o]→OpsOk (A.p++[o]):=fun h2 x hx=>by
  rcases List.mem_append.1 hx with hx | hx
  ·exact h x hx
  ·exact h2 x hx
 unfold aDo
 repeat' split
 ·exact happ (ho (Or.inl ‹_›))
 ·exact happ (ho (Or.inr ‹_›))
 ·intro x hx;cases hx
 ·rename_i hk;exact happ (ho (Or.inl hk.1))
 ·exact h
theorem aRun_ops:∀ (l:List Dop) (A:AD),OpsOk A.p→(∀ o∈l,o.kind=1∨o.kind=3→OpsOk [o])→OpsOk (aRun l A).2.p
 | [],A,h,_=>h
 | o :: r,A,h,ho=>by
  rw [aRun]
  split
  ·exact aRun_ops r _ (aDo_ops o A h (ho o (by simp))) (fun x hx=>ho x (by simp [hx]))
  ·exact aDo_ops o A h (ho o (by simp))
theorem aRun_n0 {o:Dop} {r:List Dop} {A:AD} (h:(aDo o A).1≠0):aRun (o :: r) A=aDo o A:=by rw [aRun,if_neg h]
theorem aRun_snoc (l:List Dop) (o:Dop) (A:AD) (h:(aRun l A).1=0):aRun (l++[o]) A=aDo o (aRun l A).2:=by
 rw [aRun_app,if_pos h,aRun]
 by_cases h2:(aDo o (aRun l A).2).1=0
 ·rw [if_pos h2,aRun,← h2]
 ·rw [if_neg h2]
theorem grstep_any (B db bd bn n nb xb:Nat) (A:AD) (x:List UInt8) (w:World) (h:AbsD w B db bd bn n A) (hf:w.heap[nb]?=some (.cells #[.string (strA x)] 9)) (hx:w.heap[xb]?=some (.cells #[dskV db] 113))
 (hn:n≤490000) (hp:A.p.length≤100000) (hs:x.length≤1000) (hh:(A.N x).isSome=true) :
 Calls Tryz.prog 212 #[.pointer (some ⟨xb,0,none⟩),.pointer (some ⟨nb,0,none⟩)] w fun e w'=>e=.returned (errV (aDo (rOp x) A).1)∧AbsD w' B db bd bn (n+1) (aDo (rOp x) A).2∧Fr (PDk B) w w':=by
 obtain ⟨pv,h⟩:=h
 have HD:=hide h
 have HH:=hide hh
 have f0:w.cell? ⟨nb,0,none⟩=some (.string (strA x)):=blk_cell hf 0
 have x0:w.cell? ⟨xb,0,none⟩=some (dskV db):=blk_cell hx 0
 have hmt:=mth_Remove db
 clear h hf hx hh
 go_enter Tryz.func212,Tryz.ntmps212
 go_wp2_with fail
 refine (gremove_any B db bd bn n A.D A.N A.p A.lf pv x _ HD.out (by omega) (by omega) (by omega) HH.out).mono ?_
 rintro e w1 ⟨hF1,⟨hk,rfl,pv1,hD1⟩ | ⟨hk,rfl,pv1,hD1⟩⟩
 ·have HR:=hide (aDo_r0 x hk)
  have HD1:=hide hD1
  have HF1:=hide hF1
  clear hD1 hF1 hk
  go_wp2
  go_ret
  rw [HR.out]
  exact ⟨rfl,⟨_,HD1.out⟩,HF1.out⟩
 ·have HR:=hide (aDo_ne (A:=A) (o:=rOp x) (by show (3:Int)≠1;decide) hk)
  have HD1:=hide (hD1.mono (Nat.le_succ _))
  have HF1:=hide hF1
  have he:errV (aWr A.lf).1=.iface 40 (.int .i64 (((aWr A.lf).1:Nat):Int)):=by unfold errV;rw [if_neg hk]
  rw [he]
  have HEV:=hide he
  clear hD1 hF1 hk he
  go_wp2
  go_ret
  rw [HR.out,HEV.out]
  exact ⟨rfl,⟨_,HD1.out⟩,HF1.out⟩
end
section
open Go.RowKit Go.Maps
open Go.WideElems (Fit rd rg rd_key rd_val rg_of)
theorem nodup_le {α:Type} [BEq α] [LawfulBEq α]:∀ (l m:List α),l.Nodup→(∀ x∈l,x∈m)→l.length≤m.length
 | [],m,_,_=>Nat.zero_le _
 | a :: r,m,hn,hs=>by
  obtain ⟨h1,h2⟩:=List.nodup_cons.1 hn
  have ha:a∈m:=hs a (by simp)
  have hr:=nodup_le r (m.erase a) h2 (fun x hx=>(List.mem_erase_of_ne (fun e=>h1 (by rw [← e];exact hx))).2 (hs x (by simp [hx])))
  have hl:=List.length_erase_of_mem ha
  have:0 < m.length:=List.length_pos_of_mem ha
  simp only [List.length_cons]
  omega
def nmK (k:Lit):List UInt8:=
 match k with
 | .string x=>x
 | _=>[]
theorem mapF_tight {w:World} {b n:Nat} {F:Fs} (h:MapF w b n F) (L:List (List UInt8)) (hL:∀ x,(F x).isSome=true→x∈L):MapF w b L.length F:=by
 obtain ⟨D,⟨es,c,hb,hF,hss,rfl⟩,h2⟩:=h
 have hz:(zeroValue 87).run Tryz.prog w=.ok (.pointer none) w:=by kernel_rfl
 have hkey:∀ e∈es.toList,∃ x,(rg Tryz.prog 9 ptrR e).1=Lit.string x∧x∈L:=fun e he=>by
  obtain ⟨y,hy⟩:=hF.reads e he
  have hkl:=rd_key hy
  obtain ⟨x,hx,hy1,hxl⟩:=Maps.keyOf_str strT hkl
  refine ⟨x,by rw [rg_of hy];exact hy1,hL x ?_⟩
  have hk2:keyOf Tryz.prog 9 e.key=some (Lit.string x):=by rw [hkl,hy1]
  rcases Maps.fit_look true strK mapT hz hb hF hk2 with ⟨_,hno,_⟩ | ⟨e0,y0,_,_,_,_,hat,_⟩
  ·exact absurd rfl (hno e he)
  ·have h0:=Maps.has_true_of_atKey hat
   cases hfx:F x with
   | none=>rw [h2.1 x hfx] at h0;cases h0
   | some s=>rfl
 have hnd:(es.toList.map (fun e=>nmK (rg Tryz.prog 9 ptrR e).1)).Nodup:=by
  have h:=fit_apart strK hF
  rw [List.pairwise_map] at h
  refine List.pairwise_map.2 (List.Pairwise.imp_of_mem (fun {a b} ha hb hab e=>hab ?_) h)
  obtain ⟨x,hx,_⟩:=hkey a ha
  obtain ⟨y,hy,_⟩:=hkey b hb
  rw [hx,hy] at e ⊢
  have e':x=y:=e
  rw [e']
 have hle:=nodup_le (es.toList.map (fun e=>nmK (rg Tryz.prog 9 ptrR e).1)) L hnd (fun k hk=>by
  obtain ⟨e,he,rfl⟩:=List.mem_map.1 hk
  obtain ⟨x,hx,hxl⟩:=hkey e he
  rw [hx]
  exact hxl)
 rw [List.length_map] at hle
 exact ⟨_,⟨es,c,hb,hF,by simpa using hle,rfl⟩,h2⟩
theorem AbsD.tight {w:World} {B db bd bn n:Nat} {A:AD} (h:AbsD w B db bd bn n A) (L:List (List UInt8)) (h1:∀ x,(A.D x).isSome=true→x∈L) (h2:∀ x,(A.N x).isSome=true→x∈L):AbsD w B db bd bn L.length A:=by
 obtain ⟨pv,h⟩:=h
 exact ⟨pv,h.bb,h.ne,h.blk,mapF_tight h.md L h1,mapF_tight h.mn L h2,h.row⟩
end
section
open Go.RowKit Go.Maps
attribute [local go_sem ↓] Go.wp_at_zero Go.wp_at_succ
theorem extract_takeP (x:List UInt8) (n:Nat):(strA x).extract 0 n=strA (x.take n):=by
 apply ByteArray.ext
 apply Array.ext'
 simp [strA]
theorem extract_dropP (x:List UInt8) (n:Nat):(strA x).extract n x.length=strA (x.drop n):=by
 apply ByteArray.ext
 apply Array.ext'
 simp [strA]
 rw [List.take_of_length_le (by simp)]
theorem lcut_any (x y:List UInt8) (c:UInt8) (w:World) (h:∀ b∈x,b≠c) (hl:x.length+y.length≤1000000000) :
 Calls Tryz.prog 279 #[.string (strA (x++c :: y)),.string ⟨#[c]⟩] w fun e w'=>e=.returned (.tuple #[.string (strA x),.string (strA y),.bool true])∧Below w.heap.size w w':=by
 have hI:=hide (Tryz.stringslite_Index_one (strA (x++c :: y)) c w)
 have hix:Lib.indexByte (strA (x++c :: y)).data.toList c=(x.length:Int):=index_at c y x h
 rw [hix] at hI
 have hz:=strA_size (x++c :: y)
 have hlen:(x++c :: y).length=x.length+y.length+1:=by simp;omega
 have HE1:Hid ((strA (x++c :: y)).extract 0 x.length=strA x):=by show _=_;rw [extract_takeP,List.take_left]
 have HE2:Hid ((strA (x++c :: y)).extract (x.length+1) (x.length+y.length+1)=strA y):=by
  show _=_
  rw [← hlen,extract_dropP,List.drop_append,List.drop_of_length_le (by omega),List.nil_append,Nat.add_sub_cancel_left]
  rfl
 rw [hlen] at hz
 clear hix hlen
 generalize strA (x++c :: y)=S at *
 go_enter Tryz.func279,Tryz.ntmps279
 go_wp2_with (go_at_call 265;refine hI.out.mono ?_;rintro e w1 ⟨rfl,hw1⟩;rw [hw1];clear hw1)
 go_quiet (fail)
 all_goals go_wp2
 rw [HE1.out,HE2.out]
 refine bodyPost_ret (v:=.tuple #[.string (strA x),.string (strA y),.bool true]) (by simp [results,Tryz.results279,go_sem]) rfl ?_
 exact ⟨rfl,below_drewN (Below.refl _ _) _⟩
theorem lcut_none (x:List UInt8) (c:UInt8) (w:World) (h:∀ b∈x,b≠c) (hl:x.length≤1000000000) :
 Calls Tryz.prog 279 #[.string (strA x),.string ⟨#[c]⟩] w fun e w'=>e=.returned (.tuple #[.string (strA x),.string ⟨#[]⟩,.bool false])∧Below w.heap.size w w':=by
 have hI:=hide (Tryz.stringslite_Index_one (strA x) c w)
 have hix:Lib.indexByte (strA x).data.toList c = -1:=index_none c x h
 rw [hix] at hI
 clear hix
 go_enter Tryz.func279,Tryz.ntmps279
 go_wp2_with (go_at_call 265;refine hI.out.mono ?_;rintro e w1 ⟨rfl,hw1⟩;rw [hw1];clear hw1)
 refine bodyPost_ret (v:=.tuple #[.string (strA x),.string ⟨#[]⟩,.bool false]) (by simp [results,Tryz.results279,go_sem]) rfl ?_
 exact ⟨rfl,Below.refl _ _⟩
theorem cut_any (x y:List UInt8) (c:UInt8) (w:World) (h:∀ b∈x,b≠c) (hl:x.length+y.length≤1000000000) :
 Calls Tryz.prog 260 #[.string (strA (x++c :: y)),.string ⟨#[c]⟩] w fun e w'=>e=.returned (.tuple #[.string (strA x),.string (strA y),.bool true])∧Below w.heap.size w w':=by
 have hI:=hide (lcut_any x y c w h hl)
 generalize strA (x++c :: y)=S at *
 go_enter Tryz.func260,Tryz.ntmps260
 go_wp2_with (go_at_call 279;refine hI.out.mono ?_;rintro e w1 ⟨rfl,hw1⟩;have HB1:=hide hw1;clear hw1)
 refine bodyPost_ret (v:=.tuple #[.string (strA x),.string (strA y),.bool true]) (by simp [results,Tryz.results260,go_sem]) rfl ?_
 exact ⟨rfl,HB1.out⟩
theorem cut_none (x:List UInt8) (c:UInt8) (w:World) (h:∀ b∈x,b≠c) (hl:x.length≤1000000000) :
 Calls Tryz.prog 260 #[.string (strA x),.string ⟨#[c]⟩] w fun e w'=>e=.returned (.tuple #[.string (strA x),.string ⟨#[]⟩,.bool false])∧Below w.heap.size w w':=by
 have hI:=hide (lcut_none x c w h hl)
 go_enter Tryz.func260,Tryz.ntmps260
 go_wp2_with (go_at_call 279;refine hI.out.mono ?_;rintro e w1 ⟨rfl,hw1⟩;have HB1:=hide hw1;clear hw1)
 refine bodyPost_ret (v:=.tuple #[.string (strA x),.string ⟨#[]⟩,.bool false]) (by simp [results,Tryz.results260,go_sem]) rfl ?_
 exact ⟨rfl,HB1.out⟩
theorem joinedL_cons (p:List UInt8) (r:List (List UInt8)):joinedL (p :: r)=itoaL p.length++58 :: (p++joinedL r):=by
 unfold joinedL
 rw [List.flatMap_cons]
 unfold joinP
 simp
theorem itoa_len8:∀ (k n:Nat),n < 10 ^ (k+1)→(itoaL n).length≤k+1
 | 0,n,h=>by
  unfold itoaL Lib.decDigits
  rw [dif_pos (by simpa using h)]
  simp
 | k+1,n,h=>by
  unfold itoaL Lib.decDigits
  split
  ·simp
  ·have h2:n / 10 < 10 ^ (k+1):=by
    rw [Nat.div_lt_iff_lt_mul (by omega)]
    rw [Nat.pow_succ] at h
    exact h
   have:=itoa_len8 k (n / 10) h2
   unfold itoaL at this
   rw [List.length_append]
   simp only [List.length_singleton]
   omega
def strN (v:Value):Nat:=
 match v with
 | .string s=>s.size
 | _=>0
def PtPost (ps:List (List UInt8)) (w:World) (e:Ending) (w':World):Prop:=
 ∃ v,e=.returned (.tuple #[v,.bool true])∧w'.ownsRow w.heap.size 9 1 v ps.length (tcells ps)∧Below w.heap.size w w'
theorem parted_any (ps:List (List UInt8)) (w:World) (hl:(joinedL ps).length≤100000000) (hn:ps.length≤1000) :
 Calls Tryz.prog 261 #[.string (strA (joinedL ps))] w (PtPost ps w):=by
 obtain ⟨i0,hi,hz0,hz1,hz2⟩:=info_parts Tryz.infoStr
 go_enter Tryz.func261,Tryz.ntmps261
 go_wp2_with fail
 go_loopw [0,4] (fun t v wr=>∃ k:Nat,k≤ps.length∧t=.string (strA (joinedL (ps.drop k)))∧wr.ownsRow w.heap.size 9 1 v (ps.take k).length (tcells (ps.take k))∧Below w.heap.size w wr) (fun t _ _=>strN t)
 case atStart=>exact ⟨0,Nat.zero_le _,rfl,World.ownsRow_nil _ _ _ _,Below.refl _ _⟩
 case round=>
  obtain ⟨k,hk,rfl,hrow,hB⟩:=hrel
  have HRW:=hide hrow
  have HB:=hide hB
  have hsz:=hB.size
  obtain ⟨va,vc,hvv⟩:=owns_len hrow
  subst hvv
  clear hrow hB
  by_cases hlt:k < ps.length
  rotate_left
  ·have hd:ps.drop k=[]:=List.drop_of_length_le (by omega)
   have HTA:Hid (ps.take k=ps):=List.take_of_length_le (by omega)
   rw [hd]
   rw [HTA.out] at HRW ⊢
   have he:(strA (joinedL []))=⟨#[]⟩:=rfl
   rw [he]
   clear hd he
   go_wp2
   go_ret2
   exact ⟨_,rfl,HRW.out,HB.out⟩
  ·have hd:=List.drop_eq_getElem_cons hlt
   have HTK:Hid (ps.take (k+1)=ps.take k++[ps[k]]):=List.take_succ_eq_append_getElem hlt
   have hjl:(joinedL (ps.drop k)).length≤100000000:=by
    have h1:joinedL ps=joinedL (ps.take k)++joinedL (ps.drop k):=by
     unfold joinedL
     rw [← List.flatMap_append,List.take_append_drop]
    rw [h1,List.length_append] at hl
    omega
   rw [hd,joinedL_cons] at hjl ⊢
   have htl:(ps.take k).length≤1000:=by rw [List.length_take];omega
   clear hk
   generalize ps[k]=p at *
   generalize hTT:ps.take k=TT at *
   clear hTT
   generalize htn:TT.length=tn at *
   have HTN:=hide htn
   clear htn
   obtain ⟨R,hR⟩:∃ R,R=joinedL (ps.drop (k+1)):=⟨_,rfl⟩
   rw [← hR] at hjl ⊢
   have HR:=hide hR
   have hpl:p.length+R.length≤100000000:=by simp at hjl;omega
   have hd9:=itoa_len8 8 p.length (by omega)
   have hcut:=cut_any (itoaL p.length) (p++R) 58
   have HAT:Hid (∀ W,Calls Tryz.prog 262 #[.string (strA (itoaL p.length))] W fun e w'=>e=.returned (.tuple #[.int .i64 (p.length:Int),.nilIface])∧∃ t,w'=Lib.bytesWorld W 5 t):=fun W=>Tryz.strconv_Atoi (strA (itoaL p.length)) (p.length:Int) (by rw [strA_size];omega) (atoi_back p.length) W
   have HCUT:Hid (∀ W,Calls Tryz.prog 260 #[.string (strA (itoaL p.length++58 :: (p++R))),.string ⟨#[58]⟩] W fun e w'=>e=.returned (.tuple #[.string (strA (itoaL p.length)),.string (strA (p++R)),.bool true])∧Below W.heap.size W w'):=fun W=>hcut W (fun b hb=>dig_ne (itoa_digs _ b hb) (by unfold isDig;decide)) (by rw [List.length_append];omega)
   have hSz:=strA_size (itoaL p.length++58 :: (p++R))
   have hSl:(itoaL p.length++58 :: (p++R)).length=(itoaL p.length).length+(p.length+R.length)+1:=by simp;omega
   rw [hSl] at hSz
   have hS0:¬ (strA (itoaL p.length++58 :: (p++R))).size=0:=by omega
   have hS1:=toList_sizePos hS0
   have hS2:(strA (itoaL p.length++58 :: (p++R))).toList.isEmpty=false:=by simpa using hS1
   have hzr:=strA_size (p++R)
   rw [List.length_append] at hzr
   have HX1:Hid ((strA (p++R)).extract 0 p.length=strA p):=by show _=_;rw [extract_takeP,List.take_left]
   have HX2:Hid ((strA (p++R)).extract p.length (p.length+R.length)=strA R):=by
    show _=_
    rw [← List.length_append,extract_dropP,List.drop_left]
   have hzR:=strA_size R
   generalize strA (itoaL p.length++58 :: (p++R))=S at *
   generalize strA (itoaL p.length)=DG at *
   generalize strA (p++R)=RS at *
   clear hcut hSl hd hjl hS0 hS1 hR
   go_wp2_with fail
   refine (HCUT.out _).mono ?_
   rintro e w1 ⟨rfl,hb1⟩
   have HB1:=hide (HB.out.trans (hb1.mono hsz))
   have HR1:Hid (w1.ownsRow w.heap.size 9 1 (.slice va tn vc) tn (tcells TT)):=owns_fr (P:=fun _ _=>False) HRW.out (Fr.of_below hb1) (fun _ _ h=>h)
   have hs1:=HB1.out.size
   clear hb1
   go_wp2_with fail
   refine (HAT.out _).mono ?_
   rintro e w2 ⟨rfl,t2,hw2⟩
   have hb2:Below w1.heap.size w1 w2:=by rw [hw2];exact Lib.bytesWorld_below w1 5 t2
   have HB2:=hide (HB1.out.trans (hb2.mono hs1))
   have HR2:Hid (w2.ownsRow w.heap.size 9 1 (.slice va tn vc) tn (tcells TT)):=owns_fr (P:=fun _ _=>False) HR1.out (Fr.of_below hb2) (fun _ _ h=>h)
   have hs2:=HB2.out.size
   clear hb2 hw2
   have hd1:¬ ((p.length:Int) < 0):=by omega
   have hd2:¬ ((p.length:Int)+(R.length:Int) < (p.length:Int)):=by omega
   have hd3:¬ (p.length+R.length < p.length):=by omega
   generalize hpn:p.length=pn at *
   generalize hrn:R.length=rn at *
   have HPN:=hide hpn
   have HRN:=hide hrn
   clear hpn hrn
   go_wp2_with (at_builtin;refine wpList_append_own_at _ rfl _ _ 72 rfl w.heap.size 9 i0 _ 1 16 Tryz.underlying72 hi hz0 hz1 hz2 rfl (by decide) _ _ _ rfl (World.ownsRow.alloc HR2.out _) ⟨w2.heap.size,0,none⟩ 1 1 [.string (RS.extract 0 pn)] rfl rfl (cell_one_new _ _ _) (oneS _) (by unfold maxLen;omega) (by omega) (by simp;omega) ?_;intro v5 w5 ho5 hg5 _ hloc5;have HG5:Hid ((w2.alloc (.cells #[.string (RS.extract 0 pn)] 9)).grownBy w5 (Value.slice va tn vc).ownBlock):=hg5;have HO5:=hide ho5;clear ho5 hg5 hloc5)
   rw [HX2.out]
   rw [HX1.out] at HO5 HG5
   have hrl:=World.ownsRow.lt HR2.out
   have hB5:Below w.heap.size w w5:=below_grown2 HB2.out HB2.out.size HG5.out (fun k hk=>(hrl k hk).1)
   refine ⟨⟨k+1,by omega,by rw [HR.out],?_,hB5⟩,by unfold strN;dsimp only;omega⟩
   rw [HTK.out,← tcells_snoc,List.length_append,HTN.out]
   exact HO5.out
end
end Go.Proofs.YtenahlandohgaaaGreatDoor
