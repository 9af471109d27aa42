import Derived.Test.YtgnkjijocdmniaaGreatDoorNumber
namespace Go.Proofs.YtgnkjijocdmniaaGreatDoor
set_option linter.unusedVariables false
set_option linter.unusedSimpArgs false
set_option maxRecDepth 100000
set_option maxHeartbeats 4000000
open Go.Proofs.Tryz
section
open Go.RowKit
def Qeo (l:L8):List Value:=l.map fun c=>Value.int .u8 c.toNat
theorem Qcb(l:L8)(c:UInt8):Qeo l++[.int .u8 c.toNat]=Qeo (l++[c]):=by simp[Qeo]
theorem Tryz.infoU8:(Tryz.prog.info? 5).map (fun i=>(i.zero,i.size,i.bytes))=some (some (.int .u8 0),1,1):=by kernel_rfl
theorem QdF(wr:World)(base:Nat)(v:Value)(l:L8)(h:wr.ownsRow base 5 1 v l.length (Qeo l)) :
 (convert 198 9 v).run Tryz.prog wr=.ok (.string ⟨l.toArray⟩) wr:=by
 obtain⟨h1,h2 | ⟨g,aa,ab,hv,hg,hb,r⟩⟩:=h
 ·obtain⟨rfl,h3⟩:=h2;have:l=[]:=List.eq_nil_of_length_eq_zero h3;subst this;rw[run_convert_bytes_string wr 198 9 5 none 0 0 underlying198 underlying5 underlying9];rfl
 ·have hc:=World.ownsRow.cells (w:=wr) (base:=base) (e:=5) (size:=1) (v:=v) (n:=l.length) (xs:=Qeo l) ⟨h1,Or.inr ⟨g,aa,ab,hv,hg,hb,r⟩⟩ (g:=g) (by rw[hv];rfl);rw[hv];exact run_convert_bytes_back wr 198 9 5 ⟨g,0,none⟩ aa l underlying198 underlying5 underlying9 (fun j hj=>hc j _ (by simp[Qeo,List.getElem?_eq_getElem hj]))
theorem QlF(c:UInt8)(r:L8)(h:(c.toNat:Int)=34):qL (c::r)=some ([],1):=by
 unfold qL;rw[if_pos (by omega)]
theorem Qsv(c d:UInt8)(r:L8)(h:(c.toNat:Int)=92):qL (c::d::r)=(qL r).map fun x=>(d::x.1,x.2+2):=by
 rw[qL,if_neg (by omega),if_pos (by omega)]
theorem QqH(c:UInt8)(h:(c.toNat:Int)=92):qL [c]=none:=by
 unfold qL;rw[if_neg (by omega),if_pos (by omega)]
theorem QrU(c:UInt8)(r:L8)(h:¬(c.toNat:Int)=34)(h':¬(c.toNat:Int)=92):qL (c::r)=(qL r).map fun x=>(c::x.1,x.2+1):=by
 rw[qL.eq_def];dsimp only;rw[if_neg (by omega),if_neg (by omega)]
def QlM (s:ByteArray) (at_ k:Nat) (acc:L8):Prop:=
 qL (s.data.toList.drop (at_+1))=(qL (s.data.toList.drop k)).map fun x=>(acc++x.1,x.2+(k - (at_+1)))
theorem QlM.fin{s:ByteArray}{aa k:Nat}{ab:L8}(h:QlM s aa k ab){c:UInt8}{r:L8}(hd:s.data.toList.drop k=c::r)(hc:(c.toNat:Int)=34) :
 qL (s.data.toList.drop (aa+1))=some (ab,1+(k - (aa+1))):=by
 unfold QlM at h;rw[h,hd,QlF c r hc];simp
theorem QlM.one{s:ByteArray}{aa k:Nat}{ab:L8}(h:QlM s aa k ab){c:UInt8}(hd:s.data.toList.drop k=c::s.data.toList.drop (k+1))(hc:¬(c.toNat:Int)=34)(ac:¬(c.toNat:Int)=92)(hk:aa+1<=k) :
 QlM s aa (k+1) (ab++[c]):=by
 unfold QlM at h ⊢;rw[h,hd,QrU c _ hc ac]
 cases qL (s.data.toList.drop (k+1))with
 |none=>rfl
 |some x=>simp;omega
theorem QlM.esc{s:ByteArray}{aa k:Nat}{ab:L8}(h:QlM s aa k ab){c d:UInt8}(hd:s.data.toList.drop k=c::s.data.toList.drop (k+1))(ac:s.data.toList.drop (k+1)=d::s.data.toList.drop (k+1+1))(hc:(c.toNat:Int)=92)(hk:aa+1<=k) :
 QlM s aa (k+1+1) (ab++[d]):=by
 unfold QlM at h ⊢;rw[h,hd,ac,Qsv c d _ hc]
 cases qL (s.data.toList.drop (k+1+1))with
 |none=>rfl
 |some x=>simp;omega
theorem QlM.esc0{s:ByteArray}{ab k:Nat}{ac:L8}(h:QlM s ab k ac){c:UInt8}(hd:s.data.toList.drop k=c::s.data.toList.drop (k+1))(ad:s.data.toList.drop (k+1)=[])(hc:(c.toNat:Int)=92)(aa:L8) :
 QlM s ab (k+1) aa:=by
 unfold QlM at h ⊢;rw[h,hd,ad,QqH c hc];rfl
theorem QlM.past{s:ByteArray}{aa k:Nat}{ab:L8}(h:QlM s aa k ab)(hk:s.size<=k):qL (s.data.toList.drop (aa+1))=none:=by
 unfold QlM at h;rw[h,List.drop_of_length_le (by simpa using hk)];rfl
theorem Qmf(s:ByteArray)(ad:Nat)(w:World)(hs:s.size<=4294967280)(ha:ad<s.size) :
 Calls Tryz.prog 229 #[.string s,.int .i64 ad] w (QaV (quoteR (s.data.toList.drop (ad+1)) ad) w):=by
 obtain⟨i0,hi,aq,ar,au⟩:=info_parts Tryz.infoU8;obtain⟨R,hR⟩:∃ R,R=quoteR (s.data.toList.drop (ad+1)) ad:=⟨_,rfl⟩;rw[<-hR];have HR:=Qab hR;clear hR;go_enter func229,ntmps229;go_wp2_with fail
 go_loopw [6,7] (fun v i wr=>∃(k:Nat) (ae:L8),ad+1<=k/\k<=s.size/\i=.int .i64 k/\ae.length<=k/\wr.ownsRow (w.heap.size+1) 5 1 v ae.length (Qeo ae)/\Below (w.heap.size+1) (w.alloc (.cells #[.int .i64 0,.int .i64 0,.string ⟨#[]⟩,.string ⟨#[]⟩,.int .i64 0] 206)) wr/\QlM s ad k ae) (fun _ i _=>s.size - (intOf i).toNat)
 case atStart=>
  refine⟨ad+1,[],by omega,by omega,by go_num,by simp,World.ownsRow_nil _ _ _ _,Below.refl _ _,?_⟩;unfold QlM;cases qL (s.data.toList.drop (ad+1))<;>simp
 case round=>
  obtain⟨k,ae,av,hk,rfl,hal,aa,hB,hQ⟩:=hrel;have HQ:=Qab hQ;clear hQ;by_cases hlt:k<s.size
  ·have hd:=Qab (Qbv s k hlt);obtain⟨c,hc⟩:∃ c,s[k]=c:=⟨_,rfl⟩;rw[hc]at hd;by_cases h34:(c.toNat:Int)=34
   ·have ag:((c.toNat:Int)==34)=true:=by simpa using h34
    have hrun:=QdF wr _ _ ae aa;have ai:∀ o,wr.cell? ⟨w.heap.size,o,none⟩=(w.alloc (.cells #[.int .i64 0,.int .i64 0,.string ⟨#[]⟩,.string ⟨#[]⟩,.int .i64 0] 206)).cell? ⟨w.heap.size,o,none⟩:=fun o=>hB.cell (p:=⟨w.heap.size,o,none⟩) (by show w.heap.size<_;omega)
    have hfz:∀ o,wr.frozen? ⟨w.heap.size,o,none⟩=(w.alloc (.cells #[.int .i64 0,.int .i64 0,.string ⟨#[]⟩,.string ⟨#[]⟩,.int .i64 0] 206)).frozen? ⟨w.heap.size,o,none⟩:=fun o=>hB.frozen (p:=⟨w.heap.size,o,none⟩) (by show w.heap.size<_;omega)
    have HB:=Qab hB;have HO:=Qab aa;have HE:=Qab (QlF c (s.data.toList.drop (k+1)) h34);clear hB aa h34;go_wp2;have ap:Below w.heap.size w wr:=((Below.refl _ w).alloc (Nat.le_refl _) _).trans (HB.o.mono (by omega));refine bodyPost_ret (v:=.tuple #[.agg #[.int .i64 5,.int .i64 ad,.string ⟨#[]⟩,.string ⟨ae.toArray⟩,.int .i64 0],.int .i64 (↑k+1)]) (by simp[results,results229,go_sem,ai]) rfl (QaV.ok (x:=(⟨5,ad,[],ae,0⟩,ad+(1+(1+(k - (ad+1)))))) ?_ ?_ rfl ?_)
    ·rw[HR.o,quoteR,HQ.o.fin hd.o (by simpa using ag)]
    ·exact((((ap.setCell (Nat.le_refl _) _).setCell (Nat.le_refl _) _).setCell (Nat.le_refl _) _).setCell (Nat.le_refl _) _).setCell (Nat.le_refl _) _
    ·simp;omega
   ·have ag:((c.toNat:Int)==34)=false:=by simpa using h34
    by_cases h92:(c.toNat:Int)=92
    ·have ao:((c.toNat:Int)==92)=true:=by simpa using h92
     by_cases hl2:k+1<s.size
     ·have aj:=Qab (Qbv s (k+1) hl2);obtain⟨d,aw⟩:∃ d,s[k+1]=d:=⟨_,rfl⟩;rw[aw]at aj;have ak:=Qab h34;have af:=Qab h92;clear h34 h92;go_wp2_with (at_builtin;refine wpList_append_own _ rfl _ _ 198 rfl (w.heap.size+1) 5 i0 (.int .u8 0) 1 1 underlying198 hi aq ar au rfl (by decide) _ _ _ rfl (aa.alloc _) ⟨wr.heap.size,0,none⟩ 1 1 [.int .u8 d.toNat] rfl rfl ?c1 ?c2 ?c3 ?c4 ?c5 ?_)
      case c1=>
       intro j u hj
       match j,hj with
       |0,hj=>simp at hj;subst hj;simp[Addr.add]
      case c2=>intro u hu;simp at hu;subst hu;rfl
      case c3=>unfold maxLen;omega
      case c4=>omega
      case c5=>have:=hB.size;simp at this ⊢;omega
      ·intro v' w1 ac ab _;have ah:=Below.grown (hB.alloc (by have:=hB.size;simp at this;omega) (Obj.cells #[.int .u8 d.toNat] 5)) ab (by have:=hB.size;simp at this ⊢;omega) (fun k' hk'=>(aa.lt k' hk').1);rw[Qcb]at ac;clear hB aa ab;go_wp2;go_roundw
       case rel=>exact⟨k+1+1,ae++[d],by omega,by omega,by go_num,by simp;omega,by simpa using ac,ah,HQ.o.esc hd.o aj.o af.o av⟩
       case measure=>simp[intOf];omega
     ·have aj:Hid (s.data.toList.drop (k+1)=[]):=List.drop_of_length_le (by simp;omega);have ak:=Qab h34;have af:=Qab h92;clear h34 h92;go_wp2_with (at_builtin;refine wpList_append_own _ rfl _ _ 198 rfl (w.heap.size+1) 5 i0 (.int .u8 0) 1 1 underlying198 hi aq ar au rfl (by decide) _ _ _ rfl (aa.alloc _) ⟨wr.heap.size,0,none⟩ 1 1 [.int .u8 c.toNat] rfl rfl ?c1 ?c2 ?c3 ?c4 ?c5 ?_)
      case c1=>
       intro j u hj
       match j,hj with
       |0,hj=>simp at hj;subst hj;simp[Addr.add]
      case c2=>intro u hu;simp at hu;subst hu;rfl
      case c3=>unfold maxLen;omega
      case c4=>omega
      case c5=>have:=hB.size;simp at this ⊢;omega
      ·intro v' w1 ac ab _;have ah:=Below.grown (hB.alloc (by have:=hB.size;simp at this;omega) (Obj.cells #[.int .u8 c.toNat] 5)) ab (by have:=hB.size;simp at this ⊢;omega) (fun k' hk'=>(aa.lt k' hk').1);rw[Qcb]at ac;clear hB aa ab;go_wp2;go_roundw
       case rel=>exact⟨k+1,ae++[c],by omega,by omega,by go_num,by simp;omega,by simpa using ac,ah,HQ.o.esc0 hd.o aj.o af.o _⟩
       case measure=>simp[intOf];omega
    ·have ao:((c.toNat:Int)==92)=false:=by simpa using h92
     have ak:=Qab h34;have af:=Qab h92;clear h34 h92;go_wp2_with (at_builtin;refine wpList_append_own _ rfl _ _ 198 rfl (w.heap.size+1) 5 i0 (.int .u8 0) 1 1 underlying198 hi aq ar au rfl (by decide) _ _ _ rfl (aa.alloc _) ⟨wr.heap.size,0,none⟩ 1 1 [.int .u8 c.toNat] rfl rfl ?c1 ?c2 ?c3 ?c4 ?c5 ?_)
     case c1=>
      intro j u hj
      match j,hj with
      |0,hj=>simp at hj;subst hj;simp[Addr.add]
     case c2=>intro u hu;simp at hu;subst hu;rfl
     case c3=>unfold maxLen;omega
     case c4=>omega
     case c5=>have:=hB.size;simp at this ⊢;omega
     ·intro v' w1 ac ab _;have ah:=Below.grown (hB.alloc (by have:=hB.size;simp at this;omega) (Obj.cells #[.int .u8 c.toNat] 5)) ab (by have:=hB.size;simp at this ⊢;omega) (fun k' hk'=>(aa.lt k' hk').1);rw[Qcb]at ac;clear hB aa ab;go_wp2;go_roundw
      case rel=>exact⟨k+1,ae++[c],by omega,by omega,by go_num,by simp;omega,by simpa using ac,ah,HQ.o.one hd.o ak.o af.o av⟩
      case measure=>simp[intOf];omega
  ·have HE:Hid (R=.error ⟨2,ad⟩):=by show R=_;rw[HR.o,quoteR,HQ.o.past (by omega)]
   have hz:w.heap.size<=wr.heap.size:=by have:=hB.size;simp at this;omega
   have ap:Below w.heap.size w wr:=((Below.refl _ w).alloc (Nat.le_refl _) _).trans (hB.mono (by omega));clear aa hB HR;go_wp2_with (go_at_call 103;refine(Qbi _ _ _).mono ?_;rintro e w' ⟨rfl,rfl⟩);exact⟨rfl,QaV.err HE.o (ap.alloc hz _) (QcA 2 ad hz rfl)⟩
theorem QfJ(k:Int)(s:ByteArray)(aa n:Nat)(x:Int)(w:World)(hx:x=n)(hs:s.size<=4294967280)(ha:aa+n<=s.size) :
 Calls Tryz.prog 225 #[.int .i64 k,.string s,.int .i64 aa,.int .i64 x] w fun e w'=>
  e=.returned (.tuple #[.agg #[.int .i64 k,.int .i64 aa,.string ⟨(zL ((s.data.toList.drop aa).take n)).toArray⟩,.string ⟨#[]⟩,.int .i64 0],.int .i64 (aa+n:Nat)])/\Below w.heap.size w w':=by
 subst hx;exact Qmy k s aa n w hs ha
def Qq6:Obj:=.cells #[.int .i64 0,.int .i64 0,.string ⟨#[]⟩,.string ⟨#[]⟩,.int .i64 0] 206
theorem Qez{w w1:World}(h:Below (w.alloc Qq6).heap.size (w.alloc Qq6) w1)(a b c d e:Value) :
 Below w.heap.size w (((((w1.setCell ⟨w.heap.size,0,none⟩ a).setCell ⟨w.heap.size,1,none⟩ b).setCell ⟨w.heap.size,2,none⟩ c).setCell ⟨w.heap.size,3,none⟩ d).setCell ⟨w.heap.size,4,none⟩ e):=by
 have aa:Below w.heap.size w w1:=((Below.refl _ w).alloc (Nat.le_refl _) _).trans (h.mono (by simp));exact((((aa.setCell (Nat.le_refl _) _).setCell (Nat.le_refl _) _).setCell (Nat.le_refl _) _).setCell (Nat.le_refl _) _).setCell (Nat.le_refl _) _
theorem Qdk(c:UInt8)(r:L8)(p:Nat):scanL (c::r) p =
 if Qbs c.toNat then .ok (QbD 1 (c::r) p (Qa5 (c::r)))
 else if c.toNat=58 then
  if Qa5 r=0 then .error ⟨2,p⟩else .ok (QbD 2 (c::r) p (1+Qa5 r))
 else if QaS c.toNat then sNL (c::r) p
 else if c.toNat=34 then quoteR r p
 else if Qho c then .ok (QbD 3 (c::r) p 1)
 else .error ⟨2,p⟩:=rfl
theorem Qwj(s:ByteArray)(aa:Nat)(w:World)(ha:aa=s.size) :
 Calls Tryz.prog 193 #[.string s,.int .i64 aa] w (QaV (scanL (s.data.toList.drop aa) aa) w):=by
 have HE:Hid (scanL (s.data.toList.drop aa) aa=.ok (⟨0,aa,[],[],0⟩,aa)):=by
  show _=_
  rw[List.drop_of_length_le (by simp;omega)];rfl
 have ht:((aa:Int)==(s.size:Int))=true:=by simp;omega
 clear ha;go_enter func193,ntmps193;go_wp2;refine bodyPost_ret (v:=.tuple #[.agg #[.int .i64 0,.int .i64 aa,.string ⟨#[]⟩,.string ⟨#[]⟩,.int .i64 0],.int .i64 aa]) (by simp[results,results193,go_sem]) rfl (QaV.ok HE.o ?_ rfl rfl);exact(Below.refl _ _).alloc (Nat.le_refl _) _
theorem QpW(s:ByteArray)(aa:Nat)(c:UInt8)(r:L8)(w:World)(hs:s.size<=4294967280)(hd:s.data.toList.drop aa=c::r)(hlt:aa<s.size)(hc:s[aa]=c)(hl:Qbs (c.toNat:Int)=true) :
 Calls Tryz.prog 193 #[.string s,.int .i64 aa] w (QaV (scanL (s.data.toList.drop aa) aa) w):=by
 have HE:Hid (scanL (s.data.toList.drop aa) aa=.ok (QbD 1 (s.data.toList.drop aa) aa (Qa5 (s.data.toList.drop aa)))):=by
  show _=_
  rw[hd,Qdk,if_pos hl]
 obtain⟨rs,hx⟩:∃ rs,s.extract aa s.size=rs:=⟨_,rfl⟩;have HL:Hid (rs.data.toList=s.data.toList.drop aa):=by rw[<-hx];exact Qdv s aa
 have hz:rs.size<=s.size - aa:=by rw[<-hx,Qec];omega
 have hn:=QcR rs.data.toList;rw[<-Lib.size_eq]at hn;have ht:((aa:Int)==(s.size:Int))=false:=by simp;omega
 have HD:=Qab hd;clear hd;go_enter func193,ntmps193;go_wp2_with (first|(go_at_call 224;refine(QaK _ _).mono ?_;rintro e w' ⟨rfl,rfl⟩)|(go_at_call 226;refine(Qb4 _ _ (by unfold maxLen;omega)).mono ?_;rintro e w' ⟨rfl,rfl⟩));refine(QfJ 1 s aa (Qa5 rs.data.toList) _ _ rfl hs (by omega)).mono ?_;rintro e w1 ⟨rfl,hb⟩;obtain⟨ab,hf⟩:=QsQ hb;have ac:w.heap.size<w1.heap.size:=by have:=hb.size;simp at this;omega
 have HB:=Qab hb;rw[HL.o];clear hb;go_wp2;refine bodyPost_ret (v:=.tuple #[.agg #[.int .i64 1,.int .i64 aa,.string ⟨(zL ((s.data.toList.drop aa).take (Qa5 (s.data.toList.drop aa)))).toArray⟩,.string ⟨#[]⟩,.int .i64 0],.int .i64 (aa+Qa5 (s.data.toList.drop aa):Nat)]) (by simp[results,results193,go_sem,ab,ac]) rfl (QaV.ok HE.o (Qez HB.o _ _ _ _ _) rfl rfl)
theorem QvO(s:ByteArray)(aa:Nat)(c:UInt8)(r:L8)(w:World)(hs:s.size<=4294967280)(hd:s.data.toList.drop aa=c::r)(ae:aa<s.size)(hc:s[aa]=c)(hl:Qbs (c.toNat:Int)=false)(ab:(c.toNat:Int)=58) :
 Calls Tryz.prog 193 #[.string s,.int .i64 aa] w (QaV (scanL (s.data.toList.drop aa) aa) w):=by
 have HD:Hid (s.data.toList.drop (aa+1)=r):=by
  show _=_
  have:=Qbv s aa ae;rw[hd]at this;exact(List.cons.inj this).2.symm
 obtain⟨rs,hx⟩:∃ rs,s.extract (aa+1) s.size=rs:=⟨_,rfl⟩;have HL:Hid (rs.data.toList=r):=by show _=_;rw[<-hx,Qdv];exact HD.o
 have hz:rs.size<=s.size - (aa+1):=by rw[<-hx,Qec];omega
 have hn:=QcR rs.data.toList;rw[<-Lib.size_eq]at hn;have ht:((aa:Int)==(s.size:Int))=false:=by simp;omega
 have h58':((c.toNat:Int)==58)=true:=by simpa using ab
 by_cases h0:Qa5 rs.data.toList=0
 ·have HE:Hid (scanL (s.data.toList.drop aa) aa=.error ⟨2,aa⟩):=by
   show _=_
   rw[hd,Qdk,if_neg (by rw[hl];decide),if_pos (by omega),if_pos (by rw[<-HL.o];exact h0)]
  have ac:((Qa5 rs.data.toList:Int)==0)=true:=by simpa using h0
  clear hd ab h0;go_enter func193,ntmps193;go_wp2_with (first|(go_at_call 224;refine(QaK _ _).mono ?_;rintro e w' ⟨rfl,rfl⟩)|(go_at_call 226;refine(Qb4 _ _ (by unfold maxLen;omega)).mono ?_;rintro e w' ⟨rfl,rfl⟩)|(go_at_call 103;refine(Qbi _ _ _).mono ?_;rintro e w' ⟨rfl,rfl⟩));exact⟨rfl,QaV.err HE.o (((Below.refl _ w).alloc (Nat.le_refl _) _).alloc (by simp) _) (QcA 2 aa (by simp) (by simp))⟩
 ·have HE:Hid (scanL (s.data.toList.drop aa) aa=.ok (QbD 2 (s.data.toList.drop aa) aa (1+Qa5 rs.data.toList))):=by
   show _=_
   rw[hd,Qdk,if_neg (by rw[hl];decide),if_pos (by omega),if_neg (by rw[<-HL.o];exact h0),HL.o]
  have ac:((Qa5 rs.data.toList:Int)==0)=false:=by simpa using h0
  clear hd ab h0;go_enter func193,ntmps193;go_wp2_with (first|(go_at_call 224;refine(QaK _ _).mono ?_;rintro e w' ⟨rfl,rfl⟩)|(go_at_call 226;refine(Qb4 _ _ (by unfold maxLen;omega)).mono ?_;rintro e w' ⟨rfl,rfl⟩)|(go_at_call 103;refine(Qbi _ _ _).mono ?_;rintro e w' ⟨rfl,rfl⟩));refine(QfJ 2 s aa (1+Qa5 rs.data.toList) _ _ (by omega) hs (by omega)).mono ?_;rintro e w1 ⟨rfl,hb⟩;obtain⟨ad,hf⟩:=QsQ hb;have af:w.heap.size<w1.heap.size:=by have:=hb.size;simp at this;omega
  have HB:=Qab hb;generalize 1+Qa5 rs.data.toList=n at HE;clear hb;go_wp2;exact bodyPost_ret (v:=.tuple #[.agg #[.int .i64 2,.int .i64 aa,.string ⟨(zL ((s.data.toList.drop aa).take n)).toArray⟩,.string ⟨#[]⟩,.int .i64 0],.int .i64 (aa+n:Nat)]) (by simp[results,results193,go_sem,ad,af]) rfl (QaV.ok HE.o (Qez HB.o _ _ _ _ _) rfl rfl)
theorem Qo9(s:ByteArray)(aa:Nat)(c:UInt8)(r:L8)(w:World)(hs:s.size<=4294967280)(hd:s.data.toList.drop aa=c::r)(hlt:aa<s.size)(hc:s[aa]=c)(hl:Qbs (c.toNat:Int)=false)(ab:¬(c.toNat:Int)=58)(hg:QaS (c.toNat:Int)=true) :
 Calls Tryz.prog 193 #[.string s,.int .i64 aa] w (QaV (scanL (s.data.toList.drop aa) aa) w):=by
 have HE:Hid (scanL (s.data.toList.drop aa) aa=sNL (s.data.toList.drop aa) aa):=by
  show _=_
  rw[hd,Qdk,if_neg (by rw[hl];decide),if_neg (by omega),if_pos hg]
 have ht:((aa:Int)==(s.size:Int))=false:=by simp;omega
 have h58':((c.toNat:Int)==58)=false:=by simpa using ab
 have ac:=Qab (fun W=>(QkL s aa W hs (by omega)));rw[HE.o];rw[HE.o]at HE;generalize sNL (s.data.toList.drop aa) aa=R at ac HE ⊢;clear hd ab HE;go_enter func193,ntmps193;go_wp2_with (first|(go_at_call 224;refine(QaK _ _).mono ?_;rintro e w' ⟨rfl,rfl⟩)|(go_at_call 227;refine(QaM _ _).mono ?_;rintro e w' ⟨rfl,rfl⟩));refine(ac.o _).mono ?_;rintro e w1 ⟨hb,h⟩;have ae:w.heap.size<w1.heap.size:=by have:=hb.size;simp at this;omega
 obtain⟨ad,hf⟩:=QsQ hb;have HB:=Qab hb;clear hb
 cases R with
 |error f=>
  have h':Qc8 f (w.alloc Qq6) e w1:=h;obtain⟨b,h1,rfl,h2⟩:=h';exact⟨rfl,QaV.err rfl (((Below.refl _ w).alloc (Nat.le_refl _) _).trans (HB.o.mono (by simp))) ⟨b,by simp at h1;omega,rfl,h2⟩⟩
 |ok x=>
  have h':e=.returned (.tuple #[wdV x.1,.int .i64 x.2]):=h;subst h';unfold wdV;go_wp2;exact bodyPost_ret (v:=.tuple #[.agg #[.int .i64 x.1.kind,.int .i64 x.1.pos,.string ⟨x.1.spelt.toArray⟩,.string ⟨x.1.said.toArray⟩,.int .i64 x.1.num],.int .i64 x.2]) (by simp[results,results193,go_sem,ad,ae]) rfl (QaV.ok rfl (Qez HB.o _ _ _ _ _) rfl rfl)
theorem QsI(s:ByteArray)(aa:Nat)(c:UInt8)(r:L8)(w:World)(hs:s.size<=4294967280)(hd:s.data.toList.drop aa=c::r)(ae:aa<s.size)(hc:s[aa]=c)(hl:Qbs (c.toNat:Int)=false)(ac:¬(c.toNat:Int)=58)(hg:QaS (c.toNat:Int)=false)(ab:(c.toNat:Int)=34) :
 Calls Tryz.prog 193 #[.string s,.int .i64 aa] w (QaV (scanL (s.data.toList.drop aa) aa) w):=by
 have HD:Hid (s.data.toList.drop (aa+1)=r):=by
  show _=_
  have:=Qbv s aa ae;rw[hd]at this;exact(List.cons.inj this).2.symm
 have HE:Hid (scanL (s.data.toList.drop aa) aa=quoteR (s.data.toList.drop (aa+1)) aa):=by
  show _=_
  rw[hd,Qdk,if_neg (by rw[hl];decide),if_neg (by omega),if_neg (by rw[hg];decide),if_pos (by omega),HD.o]
 have ht:((aa:Int)==(s.size:Int))=false:=by simp;omega
 have h58':((c.toNat:Int)==58)=false:=by simpa using ac
 have h34':((c.toNat:Int)==34)=true:=by simpa using ab
 have ad:=Qab (fun W=>(Qmf s aa W hs ae));rw[HE.o];rw[HE.o]at HE;generalize quoteR (s.data.toList.drop (aa+1)) aa=R at ad HE ⊢;clear hd ac HE ab;go_enter func193,ntmps193;go_wp2_with (first|(go_at_call 224;refine(QaK _ _).mono ?_;rintro e w' ⟨rfl,rfl⟩)|(go_at_call 227;refine(QaM _ _).mono ?_;rintro e w' ⟨rfl,rfl⟩));refine(ad.o _).mono ?_;rintro e w1 ⟨hb,h⟩;have ag:w.heap.size<w1.heap.size:=by have:=hb.size;simp at this;omega
 obtain⟨af,hf⟩:=QsQ hb;have HB:=Qab hb;clear hb
 cases R with
 |error f=>
  have h':Qc8 f (w.alloc Qq6) e w1:=h;obtain⟨b,h1,rfl,h2⟩:=h';exact⟨rfl,QaV.err rfl (((Below.refl _ w).alloc (Nat.le_refl _) _).trans (HB.o.mono (by simp))) ⟨b,by simp at h1;omega,rfl,h2⟩⟩
 |ok x=>
  have h':e=.returned (.tuple #[wdV x.1,.int .i64 x.2]):=h;subst h';unfold wdV;go_wp2;exact bodyPost_ret (v:=.tuple #[.agg #[.int .i64 x.1.kind,.int .i64 x.1.pos,.string ⟨x.1.spelt.toArray⟩,.string ⟨x.1.said.toArray⟩,.int .i64 x.1.num],.int .i64 x.2]) (by simp[results,results193,go_sem,af,ag]) rfl (QaV.ok rfl (Qez HB.o _ _ _ _ _) rfl rfl)
def Qxp (c:UInt8):Int:=Lib.indexByte [59,44,40,41,123,125,91,93] c
theorem Qon(c:UInt8)(w:World) :
 Calls Tryz.prog 230 #[.string ⟨#[59,44,40,41,123,125,91,93]⟩,.int .u8 c.toNat] w fun e w'=>e=.returned (.int .i64 (Qxp c))/\w'=w:=by
 have h:=Tryz.strings_IndexByte ⟨#[59,44,40,41,123,125,91,93]⟩ c.toNat w;have e:((c.toNat:Int).toNat).toUInt8=c:=by simp
 rw[e]at h;exact h
theorem QuH(s:ByteArray)(aa:Nat)(c:UInt8)(r:L8)(w:World)(hs:s.size<=4294967280)(hd:s.data.toList.drop aa=c::r)(hlt:aa<s.size)(hc:s[aa]=c)(hl:Qbs (c.toNat:Int)=false)(ad:¬(c.toNat:Int)=58)(hg:QaS (c.toNat:Int)=false)(ac:¬(c.toNat:Int)=34)(ab:Qho c=true) :
 Calls Tryz.prog 193 #[.string s,.int .i64 aa] w (QaV (scanL (s.data.toList.drop aa) aa) w):=by
 have HE:Hid (scanL (s.data.toList.drop aa) aa=.ok (QbD 3 (s.data.toList.drop aa) aa 1)):=by
  show _=_
  rw[hd,Qdk,if_neg (by rw[hl];decide),if_neg (by omega),if_neg (by rw[hg];decide),if_neg (by omega),if_pos ab]
 have hsg':0<=Qxp c:=of_decide_eq_true ab;have ht:((aa:Int)==(s.size:Int))=false:=by simp;omega
 have h58':((c.toNat:Int)==58)=false:=by simpa using ad
 have h34':((c.toNat:Int)==34)=false:=by simpa using ac
 clear hd ad ac ab;go_enter func193,ntmps193;go_wp2_with (first|(go_at_call 224;refine(QaK _ _).mono ?_;rintro e w' ⟨rfl,rfl⟩)|(go_at_call 227;refine(QaM _ _).mono ?_;rintro e w' ⟨rfl,rfl⟩)|(go_at_call 230;refine(Qon c _).mono ?_;rintro e w' ⟨rfl,rfl⟩));refine(QfJ 3 s aa 1 _ _ rfl hs (by omega)).mono ?_;rintro e w1 ⟨rfl,hb⟩;obtain⟨ae,hf⟩:=QsQ hb;have af:w.heap.size<w1.heap.size:=by have:=hb.size;simp at this;omega
 have HB:=Qab hb;clear hb;go_wp2;exact bodyPost_ret (v:=.tuple #[.agg #[.int .i64 3,.int .i64 aa,.string ⟨(zL ((s.data.toList.drop aa).take 1)).toArray⟩,.string ⟨#[]⟩,.int .i64 0],.int .i64 (aa+1:Nat)]) (by simp[results,results193,go_sem,ae,af]) rfl (QaV.ok HE.o (Qez HB.o _ _ _ _ _) rfl rfl)
theorem QvK(s:ByteArray)(aa:Nat)(c:UInt8)(r:L8)(w:World)(hs:s.size<=4294967280)(hd:s.data.toList.drop aa=c::r)(hlt:aa<s.size)(hc:s[aa]=c)(hl:Qbs (c.toNat:Int)=false)(ad:¬(c.toNat:Int)=58)(hg:QaS (c.toNat:Int)=false)(ac:¬(c.toNat:Int)=34)(ab:Qho c=false) :
 Calls Tryz.prog 193 #[.string s,.int .i64 aa] w (QaV (scanL (s.data.toList.drop aa) aa) w):=by
 have HE:Hid (scanL (s.data.toList.drop aa) aa=.error ⟨2,aa⟩):=by
  show _=_
  rw[hd,Qdk,if_neg (by rw[hl];decide),if_neg (by omega),if_neg (by rw[hg];decide),if_neg (by omega),if_neg (by rw[ab];decide)]
 have hsg':¬ 0<=Qxp c:=of_decide_eq_false ab;have ht:((aa:Int)==(s.size:Int))=false:=by simp;omega
 have h58':((c.toNat:Int)==58)=false:=by simpa using ad
 have h34':((c.toNat:Int)==34)=false:=by simpa using ac
 clear hd ad ac ab;go_enter func193,ntmps193;go_wp2_with (first|(go_at_call 224;refine(QaK _ _).mono ?_;rintro e w' ⟨rfl,rfl⟩)|(go_at_call 227;refine(QaM _ _).mono ?_;rintro e w' ⟨rfl,rfl⟩)|(go_at_call 230;refine(Qon c _).mono ?_;rintro e w' ⟨rfl,rfl⟩)|(go_at_call 103;refine(Qbi _ _ _).mono ?_;rintro e w' ⟨rfl,rfl⟩));exact⟨rfl,QaV.err HE.o (((Below.refl _ w).alloc (Nat.le_refl _) _).alloc (by simp) _) (QcA 2 aa (by simp) (by simp))⟩
theorem Qvn(s:ByteArray)(aa:Nat)(w:World)(hs:s.size<=4294967280)(ha:aa<=s.size) :
 Calls Tryz.prog 193 #[.string s,.int .i64 aa] w (QaV (scanL (s.data.toList.drop aa) aa) w):=by
 by_cases h:aa=s.size
 ·exact Qwj s aa w h
 have ab:aa<s.size:=by omega
 have hd:=Qbv s aa ab;cases hl:Qbs (s[aa].toNat:Int)
 ·by_cases h58:(s[aa].toNat:Int)=58
  ·exact QvO s aa _ _ w hs hd ab rfl hl h58
  cases hg:QaS (s[aa].toNat:Int)
  ·by_cases h34:(s[aa].toNat:Int)=34
   ·exact QsI s aa _ _ w hs hd ab rfl hl h58 hg h34
   cases hsg:Qho s[aa]
   ·exact QvK s aa _ _ w hs hd ab rfl hl h58 hg h34 hsg
   ·exact QuH s aa _ _ w hs hd ab rfl hl h58 hg h34 hsg
  ·exact Qo9 s aa _ _ w hs hd ab rfl hl h58 hg
 ·exact QpW s aa _ _ w hs hd ab rfl hl
end
section
open Go.RowKit
attribute [local go_sem ↓] Go.wp_at_zero Go.wp_at_succ
theorem QlZ(l p:L8):Lib.hasPrefix l p=decide (l.take p.length=p):=by
 unfold Lib.hasPrefix;rw[Bool.eq_iff_iff];simp only[List.isPrefixOf_iff_prefix,decide_eq_true_eq];rw[List.prefix_iff_eq_take];exact⟨fun h=>h.symm,fun h=>h.symm⟩
theorem Qb1(x:L8)(n:Nat):(Qaf x).extract 0 n=Qaf (x.take n):=by
 apply ByteArray.ext;apply Array.ext';simp[Qaf]
theorem QgT(x:L8)(n:Nat):(Qaf x).extract n x.length=Qaf (x.drop n):=by
 apply ByteArray.ext;apply Array.ext';simp[Qaf];exact List.take_of_length_le (by simp)
theorem Qwb(l:L8):nmLen l<=l.length:=by
 cases l with
 |nil=>exact Nat.le_refl _
 |cons c r=>
  show(if QaS c.toNat then 1 else Qa5 (c::r))<=_
  split
  ·simp
  ·exact QcR _
theorem Qi8{a b:L8}{c d:Int}(h1:a=b)(h2:c=d):Ending.returned (.tuple #[.string (Qaf a),.int .i64 c])=.returned (.tuple #[.string (Qaf b),.int .i64 d]):=by rw[h1,h2]
theorem Qha{s:SS}{x:L8}(h:QeO x=0):(standL s x).1=x.take 1/\(standL s x).2=1:=by
 unfold standL;rw[if_pos h];exact⟨rfl,rfl⟩
theorem Qkh{s:SS}{x:L8}(h:QeO x≠0):(standL s x).1=Qk4 s ((x.drop 2).take (QeO x))/\(standL s x).2=3+QeO x:=by
 unfold standL;rw[if_neg h];exact⟨rfl,rfl⟩
theorem Qn0(B sb:Nat)(M:Msg)(s:SS)(x:L8)(w:World)(h:SAt w B sb M s)(hx:x≠[])(hl:x.length<=1000000) :
 Calls Tryz.prog 266 #[.pointer (some ⟨sb,0,none⟩),.string (Qaf x)] w fun e w'=>e=.returned (.tuple #[.string (Qaf (standL s x).1),.int .i64 ((standL s x).2:Nat)])/\Below w.heap.size w w':=by
 have hz:=Qaj x;have hpos:0<x.length:=List.length_pos_iff.2 hx;have hpos':(1:Int)<=(x.length:Int):=by omega
 have hex:=Qb1 x 1;have ab:=QlZ x [36,123];have HS:=Qab h;by_cases hp:x.take 2=[36,123];rotate_left
 ·obtain⟨e1,e2⟩:=Qha (s:=s) (x:=x) (by unfold QeO;rw[if_neg (fun h=>hp h.1)]);have E1:=Qab e1;have E2:=Qab e2;rw[show([36,123]:L8).length=2 from rfl,decide_eq_false hp]at ab;have HC:=Qab ab;clear e1 e2 hp ab h hx;go_enter func266,ntmps266;go_wp2_with (go_at_call 282;refine(Tryz.strings_CutPrefix _ _ _).mono ?_;rintro e w' ⟨rfl,rfl⟩;rw[show Lib.hasPrefix (Qaf x).data.toList _=false from HC.o]);go_ret2;exact⟨Qi8 E1.o.symm (by rw[E2.o];rfl),Below.refl _ _⟩
 have ar:(x.drop 2).length=x.length - 2:=by simp
 have hlen2:2<=x.length:=by have:=congrArg List.length hp;simp at this;omega
 have af:Lib.trimPrefix x [36,123]=x.drop 2:=by unfold Lib.trimPrefix;rw[QlZ,show([36,123]:L8).length=2 from rfl,decide_eq_true hp];rfl
 rw[show([36,123]:L8).length=2 from rfl,decide_eq_true hp]at ab;have hn:=Qwb (x.drop 2)
 have aa:QeO x=if((x.drop 2).drop (nmLen (x.drop 2))).take 1=[125]then nmLen (x.drop 2)else 0:=by
  unfold QeO;by_cases hq:((x.drop 2).drop (nmLen (x.drop 2))).take 1=[125]
  ·rw[if_pos ⟨hp,hq⟩,if_pos hq]
  ·rw[if_neg (fun h=>hq h.2),if_neg hq]
 obtain⟨y,hy⟩:∃ y,x.drop 2=y:=⟨_,rfl⟩;rw[hy]at af ar hn aa;have hyl:y.length<=1000000:=by omega
 clear ar;have HC:=Qab ab;have HT:=Qab af;have hyz:=Qaj y;obtain⟨n,ae⟩:∃ n,nmLen y=n:=⟨_,rfl⟩;rw[ae]at hn aa
 have ag:∀ W,Calls Tryz.prog 283 #[.string (Qaf y)] W fun e w'=>e=.returned (.int .i64 (n:Int))/\w'=W:=fun W=>by
  have:=QoP (Qaf y) W (by rw[Qaj];omega);rw[show(Qaf y).data.toList=y from rfl,ae]at this;exact this
 have ah:=Qab ag;have ai:=Qb1 y n;have aj:=QgT y n;have hq:=QlZ (y.drop n) [125];rw[show([125]:L8).length=1 from rfl]at hq;have hn1:(0:Int)<=(n:Int):=by omega
 have hn2:(n:Int)<=(y.length:Int):=by omega
 obtain⟨nm,ad⟩:∃ nm,y.take n=nm:=⟨_,rfl⟩;have ac:nm.length=n:=by rw[<-ad];simp;omega
 have ax:=Qaj nm;rw[ac]at ax;rw[ad]at ai;obtain⟨u,hu⟩:∃ u,y.drop n=u:=⟨_,rfl⟩;rw[hu]at aj hq aa;have HV:=Qab aa;by_cases h0:n=0
 ·subst h0;have au:QeO x=0:=by rw[aa];split<;>rfl
  obtain⟨e1,e2⟩:=Qha (s:=s) (x:=x) au;have E1:=Qab e1;have E2:=Qab e2;have ao:nm=[]:=List.eq_nil_of_length_eq_zero ac;subst ao;clear e1 e2 hp ab h hx af hy ag aa au ae ad hq hu HV;go_enter func266,ntmps266;go_wp2_with (first|(go_at_call 282;refine(Tryz.strings_CutPrefix _ _ _).mono ?_;rintro e w' ⟨rfl,rfl⟩;rw[show Lib.hasPrefix (Qaf x).data.toList _=true from HC.o,show Lib.trimPrefix (Qaf x).data.toList _=y from HT.o,show(⟨y.toArray⟩:ByteArray)=Qaf y from rfl])|(go_at_call 283;refine(ah.o _).mono ?_;rintro e w' ⟨rfl,rfl⟩));go_ret2;exact⟨Qi8 E1.o.symm (by rw[E2.o];rfl),Below.refl _ _⟩
 have aw:nm≠[]:=fun e=>h0 (by rw[<-ac,e];rfl)
 have ay:¬(Qaf nm).size=0:=by omega
 have ap:=QcJ ay;have hnz2:(Qaf nm).toList.isEmpty=false:=by simpa using ap
 by_cases hq1:u.take 1=[125]
 ·rw[if_pos hq1]at aa;rw[decide_eq_true hq1]at hq;have HQ:=Qab hq;obtain⟨e1,e2⟩:=Qkh (s:=s) (x:=x) (by rw[aa];exact h0);rw[aa]at e1 e2;rw[hy,ad]at e1;have E1:=Qab e1;have E2:=Qab e2;have ak:nm.length<=1000000:=by omega
  clear e1 e2 hp ab h hx af hy ag aa ae ad hq hu HV hq1;go_enter func266,ntmps266;go_wp2_with (first|(go_at_call 282;refine(Tryz.strings_CutPrefix _ _ _).mono ?_;rintro e w' ⟨rfl,rfl⟩;rw[show Lib.hasPrefix (Qaf x).data.toList _=true from HC.o,show Lib.trimPrefix (Qaf x).data.toList _=y from HT.o,show(⟨y.toArray⟩:ByteArray)=Qaf y from rfl])|(go_at_call 283;refine(ah.o _).mono ?_;rintro e w' ⟨rfl,rfl⟩)|(go_at_call 233;refine(Tryz.strings_HasPrefix _ _ _).mono ?_;rintro e w' ⟨rfl,rfl⟩;rw[show Lib.hasPrefix (Qaf u).data.toList _=true from HQ.o])|(go_at_call 284;refine(Qup B sb M s nm _ HS.o aw ak).mono ?_;rintro e w1 ⟨rfl,aq⟩;have av:=Qab aq;clear aq));go_ret2;exact⟨Qi8 E1.o.symm (by rw[E2.o];omega),av.o⟩
 ·rw[if_neg hq1]at aa;rw[decide_eq_false hq1]at hq;have HQ:=Qab hq;obtain⟨e1,e2⟩:=Qha (s:=s) (x:=x) aa;have E1:=Qab e1;have E2:=Qab e2;clear e1 e2 hp ab h hx af hy ag aa ae ad hq hu HV hq1;go_enter func266,ntmps266;go_wp2_with (first|(go_at_call 282;refine(Tryz.strings_CutPrefix _ _ _).mono ?_;rintro e w' ⟨rfl,rfl⟩;rw[show Lib.hasPrefix (Qaf x).data.toList _=true from HC.o,show Lib.trimPrefix (Qaf x).data.toList _=y from HT.o,show(⟨y.toArray⟩:ByteArray)=Qaf y from rfl])|(go_at_call 283;refine(ah.o _).mono ?_;rintro e w' ⟨rfl,rfl⟩)|(go_at_call 233;refine(Tryz.strings_HasPrefix _ _ _).mono ?_;rintro e w' ⟨rfl,rfl⟩;rw[show Lib.hasPrefix (Qaf u).data.toList _=false from HQ.o]));go_ret2;exact⟨Qi8 E1.o.symm (by rw[E2.o];rfl),Below.refl _ _⟩
theorem Qwg(l:L8)(h:QeO l≠0):3+QeO l<=l.length:=by
 unfold QeO at h ⊢
 split at h
 ·next hc=>
  rw[if_pos hc];have h1:=congrArg List.length hc.2;simp at h1;omega
 ·exact absurd rfl h
theorem QvC(s:SS)(l:L8)(h:l≠[]):1<=(standL s l).2/\(standL s l).2<=l.length:=by
 have hp:=List.length_pos_iff.2 h;by_cases hv:QeO l=0
 ·rw[(Qha hv).2];omega
 ·rw[(Qkh hv).2];have:=Qwg l hv;omega
theorem QtE{M:Msg}{s:SS}(b:SBd M s)(l:L8):(standL s l).1.length<=100000:=by
 by_cases hv:QeO l=0
 ·rw[(Qha hv).1];simp;omega
 ·rw[(Qkh hv).1];generalize (l.drop 2).take (QeO l)=x;unfold Qk4;split
  ·exact Nat.zero_le _
  ·split
   ·next c r _=>
    rw[List.getD_eq_getElem?_getD]
    cases hg:s.told[c.toNat - 48]? with
    |none=>exact Nat.zero_le _
    |some t=>exact b.told t (List.mem_of_getElem? hg)
   ·next c r _=>
    cases hg:s.vals (zL (c::r))with
    |none=>exact Nat.zero_le _
    |some t=>have:=b.vals _ t hg;show t.length<=_;omega
theorem QmH{s:SS}{n:Nat}{l aa:L8}(h:¬(l≠[]/\aa.length<1024)):QoW s n l aa=aa:=by
 cases n with
 |zero=>rfl
 |succ n=>unfold QoW;rw[if_neg h]
theorem Qoe{s:SS}{n:Nat}{l aa:L8}(h:l≠[]/\aa.length<1024):QoW s (n+1) l aa=QoW s n (l.drop (standL s l).2) (aa++(standL s l).1.take (1024 - aa.length)):=by
 rw[QoW,if_pos h]
theorem QrY(x y:L8):Qeo x++Qeo y=Qeo (x++y):=by simp[Qeo]
theorem QfP{B:Nat}{u w w':World}{aa:Option Nat}(h:Below B u w)(hg:w.grownBy w' aa)(hB:B<=w.heap.size)(hr:∀ k,aa=some k->B<=k):Below B u w':=
 ⟨hg.os.trans h.os,hg.tape.trans h.tape,hg.output.trans h.output,Nat.le_trans h.size hg.size,fun k hk=>by
  rw[hg.block k (by omega) (fun e=>by have:=hr k e.symm;omega)]
  exact h.block k hk⟩
structure TxI (w:World) (s:SS) (x:L8) (k:Nat) (acc:L8) (v:Value) (wr:World):Prop where
 kl:k≤x.length
 al:acc.length≤1024
 own:wr.ownsRow w.heap.size 5 1 v acc.length (Qeo acc)
 bl:Below w.heap.size w wr
 ex:∃ F,x.length - k < F∧QoW s (x.length+1) x []=QoW s F (x.drop k) acc
theorem QmW(B sb:Nat)(M:Msg)(s:SS)(x:L8)(w:World)(h:SAt w B sb M s)(hl:x.length<=1000000) :
 Calls Tryz.prog 249 #[.pointer (some ⟨sb,0,none⟩),.string (Qaf x)] w fun e w'=>e=.returned (.string (Qaf (expL s x)))/\Below w.heap.size w w':=by
 have HS:=Qab h;obtain⟨hv,mb,tv,mv,h⟩:=h;have c4:w.cell? ⟨sb,4,none⟩=some (.bool s.vs):=h.cell 4;have ak:=h.bd;have av:=Qab ak;clear h ak;cases hvs:s.vs
 ·have he:expL s x=x:=by unfold expL;rw[hvs];rfl
  have HE:=Qab he;rw[hvs]at c4;clear he;go_enter func249,ntmps249;go_wp2;go_ret;exact⟨by rw[HE.o];rfl,Below.refl _ _⟩
 have he:expL s x=QoW s (x.length+1) x []:=by unfold expL;rw[if_pos hvs]
 have HE:=Qab he;rw[hvs]at c4;have hz:=Qaj x;obtain⟨i0,hi,aD,aE,aF⟩:=info_parts Tryz.infoU8;clear he hvs;go_enter func249,ntmps249;go_wp2
 go_loopw [5,6,7,8] (fun v a _ _ wr=>∃(k:Nat) (aa:L8),a=.int .i64 (k:Int)/\TxI w s x k aa v wr) (fun _ a _ _ _=>x.length - (intOf a).toNat)
 case atStart=>exact⟨0,[],rfl,Nat.zero_le _,Nat.zero_le _,World.ownsRow_nil _ _ _ _,Below.refl _ _,x.length+1,by omega,rfl⟩
 case round=>
  obtain⟨k,aa,rfl,hI⟩:=hrel;have HI:=Qab hI;have hkl:=hI.kl;have hal:=hI.al;have aC:=hI.bl.size;obtain⟨va,vc,aB⟩:=QaD hI.own;subst aB;have HO:=Qab hI.own;clear hI;by_cases hlt:k<x.length;rotate_left
  ·have hk:¬(k:Int)<(x.length:Int):=by omega
   have HR:Hid (expL s x=aa):=by
    obtain⟨F,hF,hx⟩:=HI.o.ex;show _=_
    rw[HE.o,hx,List.drop_of_length_le (by omega)];exact QmH (fun h=>h.1 rfl)
   have ay:=QdF wr _ _ aa HO.o;go_wp2;go_ret;exact⟨by rw[HR.o];rfl,HI.o.bl⟩
  have hk:(k:Int)<(x.length:Int):=by omega
  by_cases ha:aa.length<1024;rotate_left
  ·have ax:¬(aa.length:Int)<1024:=by omega
   have HR:Hid (expL s x=aa):=by
    obtain⟨F,hF,hx⟩:=HI.o.ex;show _=_
    rw[HE.o,hx];exact QmH (fun h=>ha h.2)
   have ay:=QdF wr _ _ aa HO.o;go_wp2;go_ret;exact⟨by rw[HR.o];rfl,HI.o.bl⟩
  have ax:(aa.length:Int)<1024:=by omega
  have az:=QgT x k;have ac:(x.drop k).length=x.length - k:=by simp
  have ad:x.drop k≠[]:=fun e=>by rw[e]at ac;simp at ac;omega
  have ai:=QvC s (x.drop k) ad;have aA:=QtE av.o (x.drop k);have ab:(x.drop k).length<=1000000:=by omega
  rw[ac]at ai
  have HX:Hid (∃ F,x.length - (k+(standL s (x.drop k)).2)<F/\QoW s (x.length+1) x []=QoW s F (x.drop (k+(standL s (x.drop k)).2)) (aa++(standL s (x.drop k)).1.take (1024 - aa.length))):=by
   obtain⟨F,hF,hx⟩:=HI.o.ex;obtain⟨F',rfl⟩:∃ F',F=F'+1:=⟨F - 1,by omega⟩;refine⟨F',by omega,?_⟩;rw[hx,Qoe ⟨ad,ha⟩,List.drop_drop]
  have HC:Hid (∀ W,Below wr.heap.size wr W->Calls Tryz.prog 266 #[.pointer (some ⟨sb,0,none⟩),.string (Qaf (x.drop k))] W fun e w'=>e=.returned (.tuple #[.string (Qaf (standL s (x.drop k)).1),.int .i64 ((standL s (x.drop k)).2:Nat)])/\Below W.heap.size W w'):=fun W hW=>
   Qn0 B sb M s (x.drop k) W (HS.o.below (HI.o.bl.trans (hW.mono HI.o.bl.size))) ad ab
  generalize standL s (x.drop k)=p at *;obtain⟨st,n⟩:=p;dsimp only at ai aA HX HC;obtain⟨hs1,hs2⟩:=ai;obtain⟨y,hy⟩:∃ y,x.drop k=y:=⟨_,rfl⟩;rw[hy]at az HC;have hsz:=Qaj st;have hk0:(0:Int)<=(k:Int):=by omega
  have hkx:(k:Int)<=(x.length:Int):=by omega
  have hkn:IntKind.i64.wrap ((k:Int)+(n:Int))=(k:Int)+(n:Int):=by rw[IntKind.wrap_i64];omega
  obtain⟨z,ae⟩:∃ z,st.take (1024 - aa.length)=z:=⟨_,rfl⟩;have ar:z.length<=1024 - aa.length:=by rw[<-ae];simp;omega
  have ag:=Qab ar;obtain⟨q,aq⟩:∃ q:Nat,q=min st.length (1024 - aa.length):=⟨_,rfl⟩;have hq:min (st.length:Int) (1024 - (aa.length:Int))=(q:Int):=by omega
  have hq1:(q:Int)<=(st.length:Int):=by omega
  have hex2:(Qaf st).extract 0 q=Qaf z:=by
   rw[Qb1,<-ae,aq];congr 1;rcases Nat.le_total st.length (1024 - aa.length)with hh|hh
   ·rw[Nat.min_eq_left hh,List.take_of_length_le (Nat.le_refl _),List.take_of_length_le hh]
   ·rw[Nat.min_eq_right hh]
  rw[ae]at HX;clear ae ac ab ad hy ar aq;go_wp2_with (first|(go_at_call 266;refine(HC.o _ (Below.refl _ _)).mono ?_;rintro e w1 ⟨rfl,ah⟩;have af:=Qab (HI.o.bl.trans (ah.mono aC));have aj:=Qab (QbL (P:=fun _ _=>False) HO.o (Fr.of_below ah) (fun _ _ h=>h));clear ah)|(at_builtin;refine Lib.wpList_append_own_string w1 rfl _ _ 198 9 rfl w.heap.size 5 i0 underlying198 underlying9 hi aD aE aF _ _ _ rfl aj.o (Qaf z) rfl (by rw[Qaj];unfold maxLen;have:=ag.o;omega) (by rw[Qaj];have:=ag.o;omega) af.o.size ?_;intro v5 w5 ap ao _;have au:=Qab (QfP af.o ao af.o.size (fun k hk=>(aj.o.lt k hk).1));have aw:=Qab ap;clear ap ao));go_roundw
  case rel=>
   refine⟨k+n,aa++z,by go_num,by omega,by rw[List.length_append];have:=ag.o;omega,?_,au.o,HX.o⟩;rw[List.length_append,<-QrY];exact aw.o
  case measure=>simp[intOf];omega
end
end Go.Proofs.YtgnkjijocdmniaaGreatDoor
