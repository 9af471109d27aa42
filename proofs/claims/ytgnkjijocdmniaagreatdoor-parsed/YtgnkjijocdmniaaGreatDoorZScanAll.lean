import Derived.Test.YtgnkjijocdmniaaGreatDoorNumber
import Derived.Test.YtgnkjijocdmniaaGreatDoorZQLeaf
namespace Go.Proofs.YtgnkjijocdmniaaGreatDoor
set_option linter.unusedVariables false
set_option linter.unusedSimpArgs false
set_option maxRecDepth 100000
set_option maxHeartbeats 4000000
section
open Go.RowKit
def bcells (l:List UInt8):List Value:=l.map fun c=>Value.int .u8 c.toNat
theorem bcells_append (l:List UInt8) (c:UInt8):bcells l++[.int .u8 c.toNat]=bcells (l++[c]):=by simp [bcells]
theorem Tryz.infoU8:(Tryz.prog.info? 5).map (fun i=>(i.zero,i.size,i.bytes))=some (some (.int .u8 0),1,1):=by kernel_rfl
theorem run_bytes_own (wr:World) (base:Nat) (v:Value) (l:List UInt8) (h:wr.ownsRow base 5 1 v l.length (bcells l)) :
 (convert 198 9 v).run Tryz.prog wr=.ok (.string ⟨l.toArray⟩) wr:=by
 obtain ⟨h1,h2 | ⟨g,cap,cur,hv,hg,hb,r⟩⟩:=h
 ·obtain ⟨rfl,h3⟩:=h2
  have:l=[]:=List.eq_nil_of_length_eq_zero h3
  subst this
  rw [run_convert_bytes_string wr 198 9 5 none 0 0 Tryz.underlying198 Tryz.underlying5 Tryz.underlying9]
  rfl
 ·have hc:=World.ownsRow.cells (w:=wr) (base:=base) (e:=5) (size:=1) (v:=v) (n:=l.length) (xs:=bcells l) ⟨h1,Or.inr ⟨g,cap,cur,hv,hg,hb,r⟩⟩ (g:=g) (by rw [hv];rfl)
  rw [hv]
  exact run_convert_bytes_back wr 198 9 5 ⟨g,0,none⟩ cap l Tryz.underlying198 Tryz.underlying5 Tryz.underlying9 (fun j hj=>hc j _ (by simp [bcells,List.getElem?_eq_getElem hj]))
theorem quoteL_end (c:UInt8) (r:List UInt8) (h:(c.toNat:Int)=34):quoteL (c :: r)=some ([],1):=by
 unfold quoteL;rw [if_pos (by omega)]
theorem quoteL_esc (c d:UInt8) (r:List UInt8) (h:(c.toNat:Int)=92):quoteL (c :: d :: r)=(quoteL r).map fun x=>(d :: x.1,x.2+2):=by
 rw [quoteL,if_neg (by omega),if_pos (by omega)]
theorem quoteL_esc0 (c:UInt8) (h:(c.toNat:Int)=92):quoteL [c]=none:=by
 unfold quoteL;rw [if_neg (by omega),if_pos (by omega)]
theorem quoteL_one (c:UInt8) (r:List UInt8) (h:¬ (c.toNat:Int)=34) (h':¬ (c.toNat:Int)=92):quoteL (c :: r)=(quoteL r).map fun x=>(c :: x.1,x.2+1):=by
 rw [quoteL.eq_def];dsimp only;rw [if_neg (by omega),if_neg (by omega)]
def QRel (s:ByteArray) (at_ k:Nat) (acc:List UInt8):Prop:=
 quoteL (s.data.toList.drop (at_+1))=(quoteL (s.data.toList.drop k)).map fun x=>(acc++x.1,x.2+(k - (at_+1)))
theorem QRel.fin {s:ByteArray} {at_ k:Nat} {acc:List UInt8} (h:QRel s at_ k acc) {c:UInt8} {r:List UInt8} (hd:s.data.toList.drop k=c :: r) (hc:(c.toNat:Int)=34) :
 quoteL (s.data.toList.drop (at_+1))=some (acc,1+(k - (at_+1))):=by
 unfold QRel at h;rw [h,hd,quoteL_end c r hc];simp
theorem QRel.one {s:ByteArray} {at_ k:Nat} {acc:List UInt8} (h:QRel s at_ k acc) {c:UInt8} (hd:s.data.toList.drop k=c :: s.data.toList.drop (k+1)) (hc:¬ (c.toNat:Int)=34) (hc':¬ (c.toNat:Int)=92) (hk:at_+1≤k) :
 QRel s at_ (k+1) (acc++[c]):=by
 unfold QRel at h ⊢;rw [h,hd,quoteL_one c _ hc hc']
 cases quoteL (s.data.toList.drop (k+1)) with
 | none=>rfl
 | some x=>simp;omega
theorem QRel.esc {s:ByteArray} {at_ k:Nat} {acc:List UInt8} (h:QRel s at_ k acc) {c d:UInt8} (hd:s.data.toList.drop k=c :: s.data.toList.drop (k+1)) (hd':s.data.toList.drop (k+1)=d :: s.data.toList.drop (k+1+1)) (hc:(c.toNat:Int)=92) (hk:at_+1≤k) :
 QRel s at_ (k+1+1) (acc++[d]):=by
 unfold QRel at h ⊢;rw [h,hd,hd',quoteL_esc c d _ hc]
 cases quoteL (s.data.toList.drop (k+1+1)) with
 | none=>rfl
 | some x=>simp;omega
theorem QRel.esc0 {s:ByteArray} {at_ k:Nat} {acc:List UInt8} (h:QRel s at_ k acc) {c:UInt8} (hd:s.data.toList.drop k=c :: s.data.toList.drop (k+1)) (hd':s.data.toList.drop (k+1)=[]) (hc:(c.toNat:Int)=92) (acc':List UInt8) :
 QRel s at_ (k+1) acc':=by
 unfold QRel at h ⊢;rw [h,hd,hd',quoteL_esc0 c hc];rfl
theorem QRel.past {s:ByteArray} {at_ k:Nat} {acc:List UInt8} (h:QRel s at_ k acc) (hk:s.size≤k):quoteL (s.data.toList.drop (at_+1))=none:=by
 unfold QRel at h;rw [h,List.drop_of_length_le (by simpa using hk)];rfl
theorem scanQuote_any (s:ByteArray) (at_:Nat) (w:World) (hs:s.size≤4294967280) (ha:at_ < s.size) :
 Calls Tryz.prog 229 #[.string s,.int .i64 at_] w (ScanPost (quoteR (s.data.toList.drop (at_+1)) at_) w):=by
 obtain ⟨i0,hi,hz0,hz1,hz2⟩:=info_parts Tryz.infoU8
 obtain ⟨R,hR⟩:∃ R,R=quoteR (s.data.toList.drop (at_+1)) at_:=⟨_,rfl⟩
 rw [← hR]
 have HR:=hide hR
 clear hR
 go_enter Tryz.func229,Tryz.ntmps229
 go_wp2_with fail
 go_loopw [6,7] (fun v i wr=>∃ (k:Nat) (acc:List UInt8),at_+1≤k∧k≤s.size∧i=.int .i64 k∧acc.length≤k∧wr.ownsRow (w.heap.size+1) 5 1 v acc.length (bcells acc)∧Below (w.heap.size+1) (w.alloc (.cells #[.int .i64 0,.int .i64 0,.string ⟨#[]⟩,.string ⟨#[]⟩,.int .i64 0] 206)) wr∧QRel s at_ k acc) (fun _ i _=>s.size - (intOf i).toNat)
 case atStart=>
  refine ⟨at_+1,[],by omega,by omega,by go_num,by simp,World.ownsRow_nil _ _ _ _,Below.refl _ _,?_⟩
  unfold QRel
  cases quoteL (s.data.toList.drop (at_+1)) <;> simp
 case round=>
  obtain ⟨k,acc,hk0,hk,rfl,hal,hown,hB,hQ⟩:=hrel
  have HQ:=hide hQ
  clear hQ
  by_cases hlt:k < s.size
  ·have hd:=hide (drop_cons s k hlt)
   obtain ⟨c,hc⟩:∃ c,s[k]=c:=⟨_,rfl⟩
   rw [hc] at hd
   by_cases h34:(c.toNat:Int)=34
   ·have h34':((c.toNat:Int) == 34)=true:=by simpa using h34
    have hrun:=run_bytes_own wr _ _ acc hown
    have hcell:∀ o,wr.cell? ⟨w.heap.size,o,none⟩=(w.alloc (.cells #[.int .i64 0,.int .i64 0,.string ⟨#[]⟩,.string ⟨#[]⟩,.int .i64 0] 206)).cell? ⟨w.heap.size,o,none⟩:=fun o=>hB.cell (p:=⟨w.heap.size,o,none⟩) (by show w.heap.size < _;omega)
    have hfz:∀ o,wr.frozen? ⟨w.heap.size,o,none⟩=(w.alloc (.cells #[.int .i64 0,.int .i64 0,.string ⟨#[]⟩,.string ⟨#[]⟩,.int .i64 0] 206)).frozen? ⟨w.heap.size,o,none⟩:=fun o=>hB.frozen (p:=⟨w.heap.size,o,none⟩) (by show w.heap.size < _;omega)
    have HB:=hide hB
    have HO:=hide hown
    have HE:=hide (quoteL_end c (s.data.toList.drop (k+1)) h34)
    clear hB hown h34
    go_wp2
    have hb0:Below w.heap.size w wr:=((Below.refl _ w).alloc (Nat.le_refl _) _).trans (HB.out.mono (by omega))
    refine bodyPost_ret (v:=.tuple #[.agg #[.int .i64 5,.int .i64 at_,.string ⟨#[]⟩,.string ⟨acc.toArray⟩,.int .i64 0],.int .i64 (↑k+1)]) (by simp [results,Tryz.results229,go_sem,hcell]) rfl (ScanPost.ok (x:=(⟨5,at_,[],acc,0⟩,at_+(1+(1+(k - (at_+1)))))) ?_ ?_ rfl ?_)
    ·rw [HR.out,quoteR,HQ.out.fin hd.out (by simpa using h34')]
    ·exact ((((hb0.setCell (Nat.le_refl _) _).setCell (Nat.le_refl _) _).setCell (Nat.le_refl _) _).setCell (Nat.le_refl _) _).setCell (Nat.le_refl _) _
    ·simp;omega
   ·have h34':((c.toNat:Int) == 34)=false:=by simpa using h34
    by_cases h92:(c.toNat:Int)=92
    ·have h92':((c.toNat:Int) == 92)=true:=by simpa using h92
     by_cases hl2:k+1 < s.size
     ·have hd2:=hide (drop_cons s (k+1) hl2)
      obtain ⟨d,hdd⟩:∃ d,s[k+1]=d:=⟨_,rfl⟩
      rw [hdd] at hd2
      have H34:=hide h34
      have H92:=hide h92
      clear h34 h92
      go_wp2_with (at_builtin;refine wpList_append_own _ rfl _ _ 198 rfl (w.heap.size+1) 5 i0 (.int .u8 0) 1 1 Tryz.underlying198 hi hz0 hz1 hz2 rfl (by decide) _ _ _ rfl (hown.alloc _) ⟨wr.heap.size,0,none⟩ 1 1 [.int .u8 d.toNat] rfl rfl ?c1 ?c2 ?c3 ?c4 ?c5 ?_)
      case c1=>
       intro j u hj
       match j,hj with
       | 0,hj=>simp at hj;subst hj;simp [Addr.add]
      case c2=>intro u hu;simp at hu;subst hu;rfl
      case c3=>unfold maxLen;omega
      case c4=>omega
      case c5=>have:=hB.size;simp at this ⊢;omega
      ·intro v' w1 hown' hgrow _
       have hB':=Below.grown (hB.alloc (by have:=hB.size;simp at this;omega) (Obj.cells #[.int .u8 d.toNat] 5)) hgrow (by have:=hB.size;simp at this ⊢;omega) (fun k' hk'=>(hown.lt k' hk').1)
       rw [bcells_append] at hown'
       clear hB hown hgrow
       go_wp2
       go_roundw
       case rel=>exact ⟨k+1+1,acc++[d],by omega,by omega,by go_num,by simp;omega,by simpa using hown',hB',HQ.out.esc hd.out hd2.out H92.out hk0⟩
       case measure=>simp [intOf];omega
     ·have hd2:Hid (s.data.toList.drop (k+1)=[]):=List.drop_of_length_le (by simp;omega)
      have H34:=hide h34
      have H92:=hide h92
      clear h34 h92
      go_wp2_with (at_builtin;refine wpList_append_own _ rfl _ _ 198 rfl (w.heap.size+1) 5 i0 (.int .u8 0) 1 1 Tryz.underlying198 hi hz0 hz1 hz2 rfl (by decide) _ _ _ rfl (hown.alloc _) ⟨wr.heap.size,0,none⟩ 1 1 [.int .u8 c.toNat] rfl rfl ?c1 ?c2 ?c3 ?c4 ?c5 ?_)
      case c1=>
       intro j u hj
       match j,hj with
       | 0,hj=>simp at hj;subst hj;simp [Addr.add]
      case c2=>intro u hu;simp at hu;subst hu;rfl
      case c3=>unfold maxLen;omega
      case c4=>omega
      case c5=>have:=hB.size;simp at this ⊢;omega
      ·intro v' w1 hown' hgrow _
       have hB':=Below.grown (hB.alloc (by have:=hB.size;simp at this;omega) (Obj.cells #[.int .u8 c.toNat] 5)) hgrow (by have:=hB.size;simp at this ⊢;omega) (fun k' hk'=>(hown.lt k' hk').1)
       rw [bcells_append] at hown'
       clear hB hown hgrow
       go_wp2
       go_roundw
       case rel=>exact ⟨k+1,acc++[c],by omega,by omega,by go_num,by simp;omega,by simpa using hown',hB',HQ.out.esc0 hd.out hd2.out H92.out _⟩
       case measure=>simp [intOf];omega
    ·have h92':((c.toNat:Int) == 92)=false:=by simpa using h92
     have H34:=hide h34
     have H92:=hide h92
     clear h34 h92
     go_wp2_with (at_builtin;refine wpList_append_own _ rfl _ _ 198 rfl (w.heap.size+1) 5 i0 (.int .u8 0) 1 1 Tryz.underlying198 hi hz0 hz1 hz2 rfl (by decide) _ _ _ rfl (hown.alloc _) ⟨wr.heap.size,0,none⟩ 1 1 [.int .u8 c.toNat] rfl rfl ?c1 ?c2 ?c3 ?c4 ?c5 ?_)
     case c1=>
      intro j u hj
      match j,hj with
      | 0,hj=>simp at hj;subst hj;simp [Addr.add]
     case c2=>intro u hu;simp at hu;subst hu;rfl
     case c3=>unfold maxLen;omega
     case c4=>omega
     case c5=>have:=hB.size;simp at this ⊢;omega
     ·intro v' w1 hown' hgrow _
      have hB':=Below.grown (hB.alloc (by have:=hB.size;simp at this;omega) (Obj.cells #[.int .u8 c.toNat] 5)) hgrow (by have:=hB.size;simp at this ⊢;omega) (fun k' hk'=>(hown.lt k' hk').1)
      rw [bcells_append] at hown'
      clear hB hown hgrow
      go_wp2
      go_roundw
      case rel=>exact ⟨k+1,acc++[c],by omega,by omega,by go_num,by simp;omega,by simpa using hown',hB',HQ.out.one hd.out H34.out H92.out hk0⟩
      case measure=>simp [intOf];omega
  ·have HE:Hid (R=.error ⟨2,at_⟩):=by show R=_;rw [HR.out,quoteR,HQ.out.past (by omega)]
   have hz:w.heap.size≤wr.heap.size:=by have:=hB.size;simp at this;omega
   have hb0:Below w.heap.size w wr:=((Below.refl _ w).alloc (Nat.le_refl _) _).trans (hB.mono (by omega))
   clear hown hB HR
   go_wp2_with (go_at_call 103;refine (fault_any _ _ _).mono ?_;rintro e w' ⟨rfl,rfl⟩)
   exact ⟨rfl,ScanPost.err HE.out (hb0.alloc hz _) (threw_at 2 at_ hz rfl)⟩
end
section
open Go.RowKit
theorem scanSpelt_at (k:Int) (s:ByteArray) (at_ n:Nat) (x:Int) (w:World) (hx:x=n) (hs:s.size≤4294967280) (ha:at_+n≤s.size) :
 Calls Tryz.prog 225 #[.int .i64 k,.string s,.int .i64 at_,.int .i64 x] w fun e w'=>
  e=.returned (.tuple #[.agg #[.int .i64 k,.int .i64 at_,.string ⟨(smallL ((s.data.toList.drop at_).take n)).toArray⟩,.string ⟨#[]⟩,.int .i64 0],.int .i64 (at_+n:Nat)])∧Below w.heap.size w w':=by
 subst hx;exact scanSpelt_any k s at_ n w hs ha
def zeroWd:Obj:=.cells #[.int .i64 0,.int .i64 0,.string ⟨#[]⟩,.string ⟨#[]⟩,.int .i64 0] 206
theorem below_five {w w1:World} (h:Below (w.alloc zeroWd).heap.size (w.alloc zeroWd) w1) (a b c d e:Value) :
 Below w.heap.size w (((((w1.setCell ⟨w.heap.size,0,none⟩ a).setCell ⟨w.heap.size,1,none⟩ b).setCell ⟨w.heap.size,2,none⟩ c).setCell ⟨w.heap.size,3,none⟩ d).setCell ⟨w.heap.size,4,none⟩ e):=by
 have hb0:Below w.heap.size w w1:=((Below.refl _ w).alloc (Nat.le_refl _) _).trans (h.mono (by simp))
 exact ((((hb0.setCell (Nat.le_refl _) _).setCell (Nat.le_refl _) _).setCell (Nat.le_refl _) _).setCell (Nat.le_refl _) _).setCell (Nat.le_refl _) _
theorem scanL_cons (c:UInt8) (r:List UInt8) (p:Nat):scanL (c :: r) p =
 if isLetN c.toNat then .ok (spellL 1 (c :: r) p (nameLen (c :: r)))
 else if c.toNat=58 then
  if nameLen r=0 then .error ⟨2,p⟩ else .ok (spellL 2 (c :: r) p (1+nameLen r))
 else if isDigitN c.toNat then scanNumL (c :: r) p
 else if c.toNat=34 then quoteR r p
 else if isSign c then .ok (spellL 3 (c :: r) p 1)
 else .error ⟨2,p⟩:=rfl
theorem scan_end (s:ByteArray) (at_:Nat) (w:World) (ha:at_=s.size) :
 Calls Tryz.prog 193 #[.string s,.int .i64 at_] w (ScanPost (scanL (s.data.toList.drop at_) at_) w):=by
 have HE:Hid (scanL (s.data.toList.drop at_) at_=.ok (⟨0,at_,[],[],0⟩,at_)):=by
  show _=_
  rw [List.drop_of_length_le (by simp;omega)];rfl
 have ht:((at_:Int) == (s.size:Int))=true:=by simp;omega
 clear ha
 go_enter Tryz.func193,Tryz.ntmps193
 go_wp2
 refine bodyPost_ret (v:=.tuple #[.agg #[.int .i64 0,.int .i64 at_,.string ⟨#[]⟩,.string ⟨#[]⟩,.int .i64 0],.int .i64 at_]) (by simp [results,Tryz.results193,go_sem]) rfl (ScanPost.ok HE.out ?_ rfl rfl)
 exact (Below.refl _ _).alloc (Nat.le_refl _) _
theorem scan_letter (s:ByteArray) (at_:Nat) (c:UInt8) (r:List UInt8) (w:World) (hs:s.size≤4294967280) (hd:s.data.toList.drop at_=c :: r) (hlt:at_ < s.size) (hc:s[at_]=c) (hl:isLetN (c.toNat:Int)=true) :
 Calls Tryz.prog 193 #[.string s,.int .i64 at_] w (ScanPost (scanL (s.data.toList.drop at_) at_) w):=by
 have HE:Hid (scanL (s.data.toList.drop at_) at_=.ok (spellL 1 (s.data.toList.drop at_) at_ (nameLen (s.data.toList.drop at_)))):=by
  show _=_
  rw [hd,scanL_cons,if_pos hl]
 obtain ⟨rs,hx⟩:∃ rs,s.extract at_ s.size=rs:=⟨_,rfl⟩
 have HL:Hid (rs.data.toList=s.data.toList.drop at_):=by rw [← hx];exact extract_list s at_
 have hz:rs.size≤s.size - at_:=by rw [← hx,extract_size];omega
 have hn:=nameLen_le rs.data.toList
 rw [← Lib.size_eq] at hn
 have ht:((at_:Int) == (s.size:Int))=false:=by simp;omega
 have HD:=hide hd
 clear hd
 go_enter Tryz.func193,Tryz.ntmps193
 go_wp2_with (first | (go_at_call 224;refine (isLetter_any _ _).mono ?_;rintro e w' ⟨rfl,rfl⟩) | (go_at_call 226;refine (nameLength_any _ _ (by unfold maxLen;omega)).mono ?_;rintro e w' ⟨rfl,rfl⟩))
 refine (scanSpelt_at 1 s at_ (nameLen rs.data.toList) _ _ rfl hs (by omega)).mono ?_
 rintro e w1 ⟨rfl,hb⟩
 obtain ⟨hcc,hf⟩:=bcell hb
 have hz1:w.heap.size < w1.heap.size:=by have:=hb.size;simp at this;omega
 have HB:=hide hb
 rw [HL.out]
 clear hb
 go_wp2
 refine bodyPost_ret (v:=.tuple #[.agg #[.int .i64 1,.int .i64 at_,.string ⟨(smallL ((s.data.toList.drop at_).take (nameLen (s.data.toList.drop at_)))).toArray⟩,.string ⟨#[]⟩,.int .i64 0],.int .i64 (at_+nameLen (s.data.toList.drop at_):Nat)]) (by simp [results,Tryz.results193,go_sem,hcc,hz1]) rfl (ScanPost.ok HE.out (below_five HB.out _ _ _ _ _) rfl rfl)
theorem scan_tag (s:ByteArray) (at_:Nat) (c:UInt8) (r:List UInt8) (w:World) (hs:s.size≤4294967280) (hd:s.data.toList.drop at_=c :: r) (hlt:at_ < s.size) (hc:s[at_]=c) (hl:isLetN (c.toNat:Int)=false) (h58:(c.toNat:Int)=58) :
 Calls Tryz.prog 193 #[.string s,.int .i64 at_] w (ScanPost (scanL (s.data.toList.drop at_) at_) w):=by
 have HD:Hid (s.data.toList.drop (at_+1)=r):=by
  show _=_
  have:=drop_cons s at_ hlt
  rw [hd] at this
  exact (List.cons.inj this).2.symm
 obtain ⟨rs,hx⟩:∃ rs,s.extract (at_+1) s.size=rs:=⟨_,rfl⟩
 have HL:Hid (rs.data.toList=r):=by show _=_;rw [← hx,extract_list];exact HD.out
 have hz:rs.size≤s.size - (at_+1):=by rw [← hx,extract_size];omega
 have hn:=nameLen_le rs.data.toList
 rw [← Lib.size_eq] at hn
 have ht:((at_:Int) == (s.size:Int))=false:=by simp;omega
 have h58':((c.toNat:Int) == 58)=true:=by simpa using h58
 by_cases h0:nameLen rs.data.toList=0
 ·have HE:Hid (scanL (s.data.toList.drop at_) at_=.error ⟨2,at_⟩):=by
   show _=_
   rw [hd,scanL_cons,if_neg (by rw [hl];decide),if_pos (by omega),if_pos (by rw [← HL.out];exact h0)]
  have h0':((nameLen rs.data.toList:Int) == 0)=true:=by simpa using h0
  clear hd h58 h0
  go_enter Tryz.func193,Tryz.ntmps193
  go_wp2_with (first | (go_at_call 224;refine (isLetter_any _ _).mono ?_;rintro e w' ⟨rfl,rfl⟩) | (go_at_call 226;refine (nameLength_any _ _ (by unfold maxLen;omega)).mono ?_;rintro e w' ⟨rfl,rfl⟩) | (go_at_call 103;refine (fault_any _ _ _).mono ?_;rintro e w' ⟨rfl,rfl⟩))
  exact ⟨rfl,ScanPost.err HE.out (((Below.refl _ w).alloc (Nat.le_refl _) _).alloc (by simp) _) (threw_at 2 at_ (by simp) (by simp))⟩
 ·have HE:Hid (scanL (s.data.toList.drop at_) at_=.ok (spellL 2 (s.data.toList.drop at_) at_ (1+nameLen rs.data.toList))):=by
   show _=_
   rw [hd,scanL_cons,if_neg (by rw [hl];decide),if_pos (by omega),if_neg (by rw [← HL.out];exact h0),HL.out]
  have h0':((nameLen rs.data.toList:Int) == 0)=false:=by simpa using h0
  clear hd h58 h0
  go_enter Tryz.func193,Tryz.ntmps193
  go_wp2_with (first | (go_at_call 224;refine (isLetter_any _ _).mono ?_;rintro e w' ⟨rfl,rfl⟩) | (go_at_call 226;refine (nameLength_any _ _ (by unfold maxLen;omega)).mono ?_;rintro e w' ⟨rfl,rfl⟩) | (go_at_call 103;refine (fault_any _ _ _).mono ?_;rintro e w' ⟨rfl,rfl⟩))
  refine (scanSpelt_at 2 s at_ (1+nameLen rs.data.toList) _ _ (by omega) hs (by omega)).mono ?_
  rintro e w1 ⟨rfl,hb⟩
  obtain ⟨hcc,hf⟩:=bcell hb
  have hz1:w.heap.size < w1.heap.size:=by have:=hb.size;simp at this;omega
  have HB:=hide hb
  generalize 1+nameLen rs.data.toList=n at HE
  clear hb
  go_wp2
  exact bodyPost_ret (v:=.tuple #[.agg #[.int .i64 2,.int .i64 at_,.string ⟨(smallL ((s.data.toList.drop at_).take n)).toArray⟩,.string ⟨#[]⟩,.int .i64 0],.int .i64 (at_+n:Nat)]) (by simp [results,Tryz.results193,go_sem,hcc,hz1]) rfl (ScanPost.ok HE.out (below_five HB.out _ _ _ _ _) rfl rfl)
theorem scan_number (s:ByteArray) (at_:Nat) (c:UInt8) (r:List UInt8) (w:World) (hs:s.size≤4294967280) (hd:s.data.toList.drop at_=c :: r) (hlt:at_ < s.size) (hc:s[at_]=c) (hl:isLetN (c.toNat:Int)=false) (h58:¬ (c.toNat:Int)=58) (hg:isDigitN (c.toNat:Int)=true) :
 Calls Tryz.prog 193 #[.string s,.int .i64 at_] w (ScanPost (scanL (s.data.toList.drop at_) at_) w):=by
 have HE:Hid (scanL (s.data.toList.drop at_) at_=scanNumL (s.data.toList.drop at_) at_):=by
  show _=_
  rw [hd,scanL_cons,if_neg (by rw [hl];decide),if_neg (by omega),if_pos hg]
 have ht:((at_:Int) == (s.size:Int))=false:=by simp;omega
 have h58':((c.toNat:Int) == 58)=false:=by simpa using h58
 have hcl:=hide (fun W=>(scanNumber_any s at_ W hs (by omega)))
 rw [HE.out]
 rw [HE.out] at HE
 generalize scanNumL (s.data.toList.drop at_) at_=R at hcl HE ⊢
 clear hd h58 HE
 go_enter Tryz.func193,Tryz.ntmps193
 go_wp2_with (first | (go_at_call 224;refine (isLetter_any _ _).mono ?_;rintro e w' ⟨rfl,rfl⟩) | (go_at_call 227;refine (isDigit_any _ _).mono ?_;rintro e w' ⟨rfl,rfl⟩))
 refine (hcl.out _).mono ?_
 rintro e w1 ⟨hb,h⟩
 have hz1:w.heap.size < w1.heap.size:=by have:=hb.size;simp at this;omega
 obtain ⟨hcc,hf⟩:=bcell hb
 have HB:=hide hb
 clear hb
 cases R with
 | error f=>
  have h':Threw f (w.alloc zeroWd) e w1:=h
  obtain ⟨b,h1,rfl,h2⟩:=h'
  exact ⟨rfl,ScanPost.err rfl (((Below.refl _ w).alloc (Nat.le_refl _) _).trans (HB.out.mono (by simp))) ⟨b,by simp at h1;omega,rfl,h2⟩⟩
 | ok x=>
  have h':e=.returned (.tuple #[wdV x.1,.int .i64 x.2]):=h
  subst h'
  unfold wdV
  go_wp2
  exact bodyPost_ret (v:=.tuple #[.agg #[.int .i64 x.1.kind,.int .i64 x.1.pos,.string ⟨x.1.spelt.toArray⟩,.string ⟨x.1.said.toArray⟩,.int .i64 x.1.num],.int .i64 x.2]) (by simp [results,Tryz.results193,go_sem,hcc,hz1]) rfl (ScanPost.ok rfl (below_five HB.out _ _ _ _ _) rfl rfl)
theorem scan_quote (s:ByteArray) (at_:Nat) (c:UInt8) (r:List UInt8) (w:World) (hs:s.size≤4294967280) (hd:s.data.toList.drop at_=c :: r) (hlt:at_ < s.size) (hc:s[at_]=c) (hl:isLetN (c.toNat:Int)=false) (h58:¬ (c.toNat:Int)=58) (hg:isDigitN (c.toNat:Int)=false) (h34:(c.toNat:Int)=34) :
 Calls Tryz.prog 193 #[.string s,.int .i64 at_] w (ScanPost (scanL (s.data.toList.drop at_) at_) w):=by
 have HD:Hid (s.data.toList.drop (at_+1)=r):=by
  show _=_
  have:=drop_cons s at_ hlt
  rw [hd] at this
  exact (List.cons.inj this).2.symm
 have HE:Hid (scanL (s.data.toList.drop at_) at_=quoteR (s.data.toList.drop (at_+1)) at_):=by
  show _=_
  rw [hd,scanL_cons,if_neg (by rw [hl];decide),if_neg (by omega),if_neg (by rw [hg];decide),if_pos (by omega),HD.out]
 have ht:((at_:Int) == (s.size:Int))=false:=by simp;omega
 have h58':((c.toNat:Int) == 58)=false:=by simpa using h58
 have h34':((c.toNat:Int) == 34)=true:=by simpa using h34
 have hcl:=hide (fun W=>(scanQuote_any s at_ W hs hlt))
 rw [HE.out]
 rw [HE.out] at HE
 generalize quoteR (s.data.toList.drop (at_+1)) at_=R at hcl HE ⊢
 clear hd h58 HE h34
 go_enter Tryz.func193,Tryz.ntmps193
 go_wp2_with (first | (go_at_call 224;refine (isLetter_any _ _).mono ?_;rintro e w' ⟨rfl,rfl⟩) | (go_at_call 227;refine (isDigit_any _ _).mono ?_;rintro e w' ⟨rfl,rfl⟩))
 refine (hcl.out _).mono ?_
 rintro e w1 ⟨hb,h⟩
 have hz1:w.heap.size < w1.heap.size:=by have:=hb.size;simp at this;omega
 obtain ⟨hcc,hf⟩:=bcell hb
 have HB:=hide hb
 clear hb
 cases R with
 | error f=>
  have h':Threw f (w.alloc zeroWd) e w1:=h
  obtain ⟨b,h1,rfl,h2⟩:=h'
  exact ⟨rfl,ScanPost.err rfl (((Below.refl _ w).alloc (Nat.le_refl _) _).trans (HB.out.mono (by simp))) ⟨b,by simp at h1;omega,rfl,h2⟩⟩
 | ok x=>
  have h':e=.returned (.tuple #[wdV x.1,.int .i64 x.2]):=h
  subst h'
  unfold wdV
  go_wp2
  exact bodyPost_ret (v:=.tuple #[.agg #[.int .i64 x.1.kind,.int .i64 x.1.pos,.string ⟨x.1.spelt.toArray⟩,.string ⟨x.1.said.toArray⟩,.int .i64 x.1.num],.int .i64 x.2]) (by simp [results,Tryz.results193,go_sem,hcc,hz1]) rfl (ScanPost.ok rfl (below_five HB.out _ _ _ _ _) rfl rfl)
def signN (c:UInt8):Int:=Lib.indexByte [59,44,40,41,123,125,91,93] c
theorem signIndex (c:UInt8) (w:World) :
 Calls Tryz.prog 230 #[.string ⟨#[59,44,40,41,123,125,91,93]⟩,.int .u8 c.toNat] w fun e w'=>e=.returned (.int .i64 (signN c))∧w'=w:=by
 have h:=Tryz.strings_IndexByte ⟨#[59,44,40,41,123,125,91,93]⟩ c.toNat w
 have e:((c.toNat:Int).toNat).toUInt8=c:=by simp
 rw [e] at h
 exact h
theorem scan_sign (s:ByteArray) (at_:Nat) (c:UInt8) (r:List UInt8) (w:World) (hs:s.size≤4294967280) (hd:s.data.toList.drop at_=c :: r) (hlt:at_ < s.size) (hc:s[at_]=c) (hl:isLetN (c.toNat:Int)=false) (h58:¬ (c.toNat:Int)=58) (hg:isDigitN (c.toNat:Int)=false) (h34:¬ (c.toNat:Int)=34) (hsg:isSign c=true) :
 Calls Tryz.prog 193 #[.string s,.int .i64 at_] w (ScanPost (scanL (s.data.toList.drop at_) at_) w):=by
 have HE:Hid (scanL (s.data.toList.drop at_) at_=.ok (spellL 3 (s.data.toList.drop at_) at_ 1)):=by
  show _=_
  rw [hd,scanL_cons,if_neg (by rw [hl];decide),if_neg (by omega),if_neg (by rw [hg];decide),if_neg (by omega),if_pos hsg]
 have hsg':0≤signN c:=of_decide_eq_true hsg
 have ht:((at_:Int) == (s.size:Int))=false:=by simp;omega
 have h58':((c.toNat:Int) == 58)=false:=by simpa using h58
 have h34':((c.toNat:Int) == 34)=false:=by simpa using h34
 clear hd h58 h34 hsg
 go_enter Tryz.func193,Tryz.ntmps193
 go_wp2_with (first | (go_at_call 224;refine (isLetter_any _ _).mono ?_;rintro e w' ⟨rfl,rfl⟩) | (go_at_call 227;refine (isDigit_any _ _).mono ?_;rintro e w' ⟨rfl,rfl⟩) | (go_at_call 230;refine (signIndex c _).mono ?_;rintro e w' ⟨rfl,rfl⟩))
 refine (scanSpelt_at 3 s at_ 1 _ _ rfl hs (by omega)).mono ?_
 rintro e w1 ⟨rfl,hb⟩
 obtain ⟨hcc,hf⟩:=bcell hb
 have hz1:w.heap.size < w1.heap.size:=by have:=hb.size;simp at this;omega
 have HB:=hide hb
 clear hb
 go_wp2
 exact bodyPost_ret (v:=.tuple #[.agg #[.int .i64 3,.int .i64 at_,.string ⟨(smallL ((s.data.toList.drop at_).take 1)).toArray⟩,.string ⟨#[]⟩,.int .i64 0],.int .i64 (at_+1:Nat)]) (by simp [results,Tryz.results193,go_sem,hcc,hz1]) rfl (ScanPost.ok HE.out (below_five HB.out _ _ _ _ _) rfl rfl)
theorem scan_bad (s:ByteArray) (at_:Nat) (c:UInt8) (r:List UInt8) (w:World) (hs:s.size≤4294967280) (hd:s.data.toList.drop at_=c :: r) (hlt:at_ < s.size) (hc:s[at_]=c) (hl:isLetN (c.toNat:Int)=false) (h58:¬ (c.toNat:Int)=58) (hg:isDigitN (c.toNat:Int)=false) (h34:¬ (c.toNat:Int)=34) (hsg:isSign c=false) :
 Calls Tryz.prog 193 #[.string s,.int .i64 at_] w (ScanPost (scanL (s.data.toList.drop at_) at_) w):=by
 have HE:Hid (scanL (s.data.toList.drop at_) at_=.error ⟨2,at_⟩):=by
  show _=_
  rw [hd,scanL_cons,if_neg (by rw [hl];decide),if_neg (by omega),if_neg (by rw [hg];decide),if_neg (by omega),if_neg (by rw [hsg];decide)]
 have hsg':¬ 0≤signN c:=of_decide_eq_false hsg
 have ht:((at_:Int) == (s.size:Int))=false:=by simp;omega
 have h58':((c.toNat:Int) == 58)=false:=by simpa using h58
 have h34':((c.toNat:Int) == 34)=false:=by simpa using h34
 clear hd h58 h34 hsg
 go_enter Tryz.func193,Tryz.ntmps193
 go_wp2_with (first | (go_at_call 224;refine (isLetter_any _ _).mono ?_;rintro e w' ⟨rfl,rfl⟩) | (go_at_call 227;refine (isDigit_any _ _).mono ?_;rintro e w' ⟨rfl,rfl⟩) | (go_at_call 230;refine (signIndex c _).mono ?_;rintro e w' ⟨rfl,rfl⟩) | (go_at_call 103;refine (fault_any _ _ _).mono ?_;rintro e w' ⟨rfl,rfl⟩))
 exact ⟨rfl,ScanPost.err HE.out (((Below.refl _ w).alloc (Nat.le_refl _) _).alloc (by simp) _) (threw_at 2 at_ (by simp) (by simp))⟩
theorem scan_any (s:ByteArray) (at_:Nat) (w:World) (hs:s.size≤4294967280) (ha:at_≤s.size) :
 Calls Tryz.prog 193 #[.string s,.int .i64 at_] w (ScanPost (scanL (s.data.toList.drop at_) at_) w):=by
 by_cases h:at_=s.size
 ·exact scan_end s at_ w h
 have hlt:at_ < s.size:=by omega
 have hd:=drop_cons s at_ hlt
 cases hl:isLetN (s[at_].toNat:Int)
 ·by_cases h58:(s[at_].toNat:Int)=58
  ·exact scan_tag s at_ _ _ w hs hd hlt rfl hl h58
  cases hg:isDigitN (s[at_].toNat:Int)
  ·by_cases h34:(s[at_].toNat:Int)=34
   ·exact scan_quote s at_ _ _ w hs hd hlt rfl hl h58 hg h34
   cases hsg:isSign s[at_]
   ·exact scan_bad s at_ _ _ w hs hd hlt rfl hl h58 hg h34 hsg
   ·exact scan_sign s at_ _ _ w hs hd hlt rfl hl h58 hg h34 hsg
  ·exact scan_number s at_ _ _ w hs hd hlt rfl hl h58 hg
 ·exact scan_letter s at_ _ _ w hs hd hlt rfl hl
end
end Go.Proofs.YtgnkjijocdmniaaGreatDoor
