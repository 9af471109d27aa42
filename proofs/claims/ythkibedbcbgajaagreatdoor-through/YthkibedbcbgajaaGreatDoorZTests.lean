import Derived.Laws.AppendOwn
import Derived.Maps.AppendAt
import Derived.Deep.RegionWith
import Derived.Deep.RegionHeld3
import Derived.Deep.DrawnRows
import Derived.Deep.DeepCutAuto
import Derived.Lib.AppendStr
import Derived.Laws.MakeOwn
import Derived.Test.YthkibedbcbgajaaGreatDoorZPlainCodeLen
import Derived.Test.YthkibedbcbgajaaGreatDoorZScanAll
namespace Go.Proofs.YthkibedbcbgajaaGreatDoor
set_option linter.unusedVariables false
set_option linter.unusedSimpArgs false
set_option maxRecDepth 100000
set_option maxHeartbeats 4000000
open Go.Proofs.Tryz
section
open Go.RowKit
theorem Qal(x:L8):(sA x).size=x.length:=rfl
theorem QbW(x y:L8):sA x++sA y=sA (x++y):=by
 unfold sA;apply ByteArray.ext;simp
theorem QcV(x y:L8):((sA x).toList==y)=decide (x=y):=by
 rw[ByteArray.toList_eq,show(sA x).data.toList=x from rfl,Bool.eq_iff_iff];simp
theorem Qau{w:World}{a:Addr}{v:Value}(h:w.cell? a=some v):a.block<w.heap.size:=by
 rcases Nat.lt_or_ge a.block w.heap.size with h'|h'
 ·exact h'
 ·unfold World.cell? at h;rw[Array.getElem?_eq_none h']at h;cases h
def Qc5 (w:World) (g:Nat) (zs:List (L8)):Prop:=
 ∀ j,j < zs.length→w.cell? ⟨g,j,none⟩=some (.string (sA (zs.getD j [])))
theorem QaT{w w':World}(h:Below w.drew.heap.size w.drew w'):Below w.heap.size w w':=⟨h.os,h.tape,h.output,h.size,h.block⟩
theorem Qag(w:World)(b o:Nat)(v:Value)(cs:Array Value)(ty:TypeId)(h:w.heap[b]?=some (.cells cs ty)):(w.setCell ⟨b,o,none⟩ v).heap[b]?=some (.cells (cs.setIfInBounds o v) ty):=by
 simp only[World.setCell,Array.getElem?_modify];rw[if_pos trivial,h];rfl
theorem Qaa{w:World}{g:Nat}{cs:Array Value}{ty:TypeId}(h:w.heap[g]?=some (.cells cs ty))(o:Nat):w.cell? ⟨g,o,none⟩=cs[o]?:=by
 unfold World.cell?;rw[h];rfl
theorem Qah{w:World}{g:Nat}{cs:Array Value}{ty:TypeId}(h:w.heap[g]?=some (.cells cs ty))(o:Nat):w.frozen? ⟨g,o,none⟩=false:=by
 unfold World.frozen?;rw[h];simp
theorem Qar{w:World}{g:Nat}{o:Obj}(h:w.heap[g]?=some o):g<w.heap.size:=by
 rcases Nat.lt_or_ge g w.heap.size with h'|h'
 ·exact h'
 ·rw[Array.getElem?_eq_none h']at h;cases h
theorem Qac{w:World}{g:Nat}{o o':Obj}(h:w.heap[g]?=some o):(w.alloc o').heap[g]?=some o:=by
 rw[Below.heap_alloc _ _ _ (Qar h)];exact h
theorem Qam(w:World)(o:Obj):(w.alloc o).heap[w.heap.size]?=some o:=by
 show(w.heap.push o)[w.heap.size]?=_
 simp
theorem Qaq{w:World}{g:Nat}{o:Obj}(h:g=w.heap.size):(w.alloc o).heap[g]?=some o:=by subst h;exact Qam w o
theorem Qai{w w':World}{g:Nat}{o:Obj}(h:w.heap[g]?=some o)(hb:Below w.heap.size w w'):w'.heap[g]?=some o:=by
 rw[hb.block g (Qar h)];exact h
theorem Qop{w W:World}{B:Nat}(h:Below B w W)(hB:B<=w.heap.size)(o:Obj):Below B w (W.alloc o):=h.alloc (Nat.le_trans hB h.size) o
def QaD (zs:List (L8)):List Value:=zs.map fun z=>Value.string (sA z)
theorem Qb4(zs:List (L8))(z:L8):QaD zs++[.string (sA z)]=QaD (zs++[z]):=by simp[QaD]
theorem Qlf(zs:List (L8)):(QaD zs).length=zs.length:=by simp[QaD]
theorem Tryz.infoStr:(Tryz.prog.info? 9).map (fun i=>(i.zero,i.size,i.bytes))=some (some (.string ⟨#[]⟩),1,16):=by kernel_rfl
theorem Qc5.of_owns{w:World}{base g n c:Nat}{xs:List (L8)}(h:w.ownsRow base 9 1 (.slice (some ⟨g,0,none⟩) n c) n (QaD xs)):Qc5 w g xs:=fun j hj=>by
 have:=h.cells (g:=g) rfl j (.string (sA (xs.getD j []))) (by simp[QaD,List.getElem?_eq_getElem hj,List.getD_eq_getElem?_getD]);rw[Qbu]at this;exact this
theorem QbB(w:World)(zs:List (L8))(cs:Array Value)(ty:TypeId)(h:cs=(QaD zs).toArray):Qc5 (w.alloc (.cells cs ty)) w.heap.size zs:=fun j hj=>by
 subst h
 have:(w.alloc (.cells (QaD zs).toArray ty)).heap[w.heap.size]?=some (.cells (QaD zs).toArray ty):=by
  show(w.heap.push _)[w.heap.size]?=_
  simp
 unfold World.cell?;rw[this];simp[QaD,List.getD_eq_getElem?_getD,hj]
theorem QbZ{w:World}{g:Nat}(zs:List (L8))(ty:TypeId)(h:g=w.heap.size):Qc5 (w.alloc (.cells (QaD zs).toArray ty)) g zs:=by subst h;exact QbB w zs _ ty rfl
end
section
open Go.RowKit
attribute [local go_sem ↓] Go.wp_at_zero Go.wp_at_succ
def QlM (t:ByteArray) (x:Wd) (p:Nat) (rv:Value) (mc mt:Nat):Array Value:=
 #[.string t,.int .i64 x.kind,.int .i64 x.pos,.string ⟨x.spelt.toArray⟩,.string ⟨x.said.toArray⟩,.int .i64 x.num,.int .i64 p,rv,.map (some mc),.map (some mt)]
def RAt (w:World) (b:Nat) (t:ByteArray) (x:Wd) (p:Nat) (rv:Value) (mc mt:Nat):Prop:=
 w.heap[b]?=some (.cells (QlM t x p rv mc mt) 194)
structure Mod (b:Nat) (w w':World):Prop where
 os:w'.os=w.os
 tape:w'.tape=w.tape
 output:w'.output=w.output
 size:w.heap.size≤w'.heap.size
 block:∀ k,k < w.heap.size→k≠b→w'.heap[k]?=w.heap[k]?
theorem Mod.refl(b:Nat)(w:World):Mod b w w:=⟨rfl,rfl,rfl,Nat.le_refl _,fun _ _ _=>rfl⟩
theorem Mod.trans{b:Nat}{u v w:World}(h:Mod b u v)(k:Mod b v w):Mod b u w:=
 ⟨k.os.trans h.os,k.tape.trans h.tape,k.output.trans h.output,Nat.le_trans h.size k.size,fun i hi hn=>(k.block i (Nat.lt_of_lt_of_le hi h.size) hn).trans (h.block i hi hn)⟩
theorem Mod.of_below{b:Nat}{w w':World}(h:Below w.heap.size w w'):Mod b w w':=
 ⟨h.os,h.tape,h.output,h.size,fun k hk _=>h.block k hk⟩
theorem Mod.below{b:Nat}{w w':World}(h:Mod b w w'){B:Nat}(hB:B<=b)(hb:b<w.heap.size):Below B w w':=
 ⟨h.os,h.tape,h.output,h.size,fun k hk=>h.block k (by omega) (by omega)⟩
theorem Mod.drew{b:Nat}{u w:World}(h:Mod b u w):Mod b u w.drew:=⟨h.os,h.tape,h.output,h.size,h.block⟩
theorem Mod.setCell{b:Nat}{u w:World}(h:Mod b u w)(o:Nat)(v:Value):Mod b u (w.setCell ⟨b,o,none⟩ v):=
 h.trans ⟨rfl,rfl,rfl,by simp[World.setCell],fun k hk hn=>Below.heap_setCell _ _ _ _ hn⟩
theorem Mod.alloc{b:Nat}{u w:World}(h:Mod b u w)(o:Obj):Mod b u (w.alloc o):=
 h.trans ⟨rfl,rfl,rfl,by simp,fun k hk _=>Below.heap_alloc _ _ _ hk⟩
theorem Mod.cell{b:Nat}{w w':World}(h:Mod b w w'){p:Addr}(hp:p.block<w.heap.size)(hn:p.block≠b):w'.cell? p=w.cell? p:=
 World.cell?_of_block (w:=w) (h.block p.block hp hn)
theorem RAt.lt{w:World}{b:Nat}{t:ByteArray}{x:Wd}{p:Nat}{rv:Value}{mc mt:Nat}(h:RAt w b t x p rv mc mt):b<w.heap.size:=by
 rcases Nat.lt_or_ge b w.heap.size with h'|h'
 ·exact h'
 ·unfold RAt at h;rw[Array.getElem?_eq_none h']at h;cases h
theorem RAt.cell{w:World}{b:Nat}{t:ByteArray}{x:Wd}{p:Nat}{rv:Value}{mc mt:Nat}(h:RAt w b t x p rv mc mt)(o:Nat):w.cell? ⟨b,o,none⟩=(QlM t x p rv mc mt)[o]?:=by
 unfold World.cell?;rw[h];rfl
theorem RAt.frozen{w:World}{b:Nat}{t:ByteArray}{x:Wd}{p:Nat}{rv:Value}{mc mt:Nat}(h:RAt w b t x p rv mc mt)(o:Nat):w.frozen? ⟨b,o,none⟩=false:=by
 unfold World.frozen?;rw[h];simp
theorem RAt.mod{w w':World}{b:Nat}{t:ByteArray}{x:Wd}{p:Nat}{rv:Value}{mc mt:Nat}(h:RAt w b t x p rv mc mt)(hb:Below w.heap.size w w'):RAt w' b t x p rv mc mt:=by
 unfold RAt;rw[hb.block b h.lt];exact h
def QcE (r:Except Flt (Wd×Nat)) (b:Nat) (t:ByteArray) (rv:Value) (mc mt:Nat) (w:World) (e:Ending) (w':World):Prop:=
 Mod b w w'∧
 match r with
 | .ok y=>e=.returned (.tuple #[])∧RAt w' b t y.1 y.2 rv mc mt
 | .error f=>QcN f w e w'
theorem QcE.err{r:Except Flt (Wd×Nat)}{b:Nat}{t:ByteArray}{rv:Value}{mc mt:Nat}{f:Flt}{w w':World}{e:Ending}(h:r=.error f)(hb:Mod b w w')(ht:QcN f w e w'):QcE r b t rv mc mt w e w':=by
 subst h;exact⟨hb,ht⟩
theorem QcE.ok{r:Except Flt (Wd×Nat)}{b:Nat}{t:ByteArray}{rv:Value}{mc mt:Nat}{y:Wd×Nat}{w w':World}(h:r=.ok y)(hb:Mod b w w')(ht:RAt w' b t y.1 y.2 rv mc mt):QcE r b t rv mc mt w (.returned (.tuple #[])) w':=by
 subst h;exact⟨hb,rfl,ht⟩
theorem QcW.cases{r:Except Flt Nat}{w w':World}{e:Ending}(h:QcW r w e w') :
 (∃ n,r=.ok n/\e=.returned (.int .i64 n)/\w'=w)\/(∃ f,r=.error f/\QcN f w e w'/\Below w.heap.size w w'):=by
 cases r with
 |ok n=>exact Or.inl ⟨n,rfl,h⟩
 |error f=>exact Or.inr ⟨f,rfl,h⟩
theorem QaK.cases{r:Except Flt (Wd×Nat)}{w w':World}{e:Ending}(h:QaK r w e w') :
 (∃ y,r=.ok y/\e=.returned (.tuple #[wdV y.1,.int .i64 y.2])/\Below w.heap.size w w')\/(∃ f,r=.error f/\QcN f w e w'/\Below w.heap.size w w'):=by
 cases r with
 |ok n=>exact Or.inl ⟨n,rfl,h.2,h.1⟩
 |error f=>exact Or.inr ⟨f,rfl,h.2,h.1⟩
theorem QlG{l:L8}{p:Nat}{f:Flt}(h:Qcg (l.length+1) (l.drop p) p=.error f):nL l p=.error f:=by
 unfold nL;rw[h]
theorem QgM{l:L8}{p n:Nat}(h:Qcg (l.length+1) (l.drop p) p=.ok n):nL l p=Qct (l.drop n) n:=by
 unfold nL;rw[h]
theorem RAt.put{w:World}{b:Nat}{t:ByteArray}{x:Wd}{p:Nat}{rv:Value}{mc mt:Nat}(h:RAt w b t x p rv mc mt)(y:Wd)(q:Nat) :
 RAt ((((((w.setCell ⟨b,1,none⟩ (.int .i64 y.kind)).setCell ⟨b,2,none⟩ (.int .i64 y.pos)).setCell ⟨b,3,none⟩ (.string ⟨y.spelt.toArray⟩)).setCell ⟨b,4,none⟩ (.string ⟨y.said.toArray⟩)).setCell ⟨b,5,none⟩ (.int .i64 y.num)).setCell ⟨b,6,none⟩ (.int .i64 q)) b t y q rv mc mt:=
 Qag _ _ _ _ _ _ (Qag _ _ _ _ _ _ (Qag _ _ _ _ _ _ (Qag _ _ _ _ _ _ (Qag _ _ _ _ _ _ (Qag _ _ _ _ _ _ h)))))
theorem Mod.six{b:Nat}{u w:World}(h:Mod b u w)(o1 o2 o3 o4 o5 o6:Nat)(v1 v2 v3 v4 v5 v6:Value) :
 Mod b u ((((((w.setCell ⟨b,o1,none⟩ v1).setCell ⟨b,o2,none⟩ v2).setCell ⟨b,o3,none⟩ v3).setCell ⟨b,o4,none⟩ v4).setCell ⟨b,o5,none⟩ v5).setCell ⟨b,o6,none⟩ v6):=
 (((((h.setCell _ _).setCell _ _).setCell _ _).setCell _ _).setCell _ _).setCell _ _
theorem QvJ(b:Nat)(t:ByteArray)(x:Wd)(p:Nat)(rv:Value)(mc mt:Nat)(m:Int)(w:World)(hs:t.size<=4294967280)(hp:p<=t.size)(hr:RAt w b t x p rv mc mt)(hm:w.cell? ⟨1,0,none⟩=some (.int .i64 m)) :
 Calls Tryz.prog 121 #[.pointer (some ⟨b,0,none⟩)] w (QcE (nL t.data.toList p) b t rv mc mt w):=by
 have hc:=hr.cell;have hf:=hr.frozen;have h0:w.cell? ⟨b,0,none⟩=some (.string t):=hc 0;have h6:w.cell? ⟨b,6,none⟩=some (.int .i64 p):=hc 6;have HS:=Qab hr;clear hc hr;go_enter func121,ntmps121;go_wp2_with fail;go_region_with (first|(go_at_call 176;refine(Qvx t p (t.data.toList.length+1) m _ hs hp (by simp;omega) (by simpa using hm)).mono ?_;intro e w1 h1;rcases h1.cases with⟨n,hn,rfl,rfl⟩ | ⟨f,hn,⟨bb,hz,rfl,ab⟩,hb⟩;rotate_left;exact⟨rfl,QcE.err (QlG hn) (Mod.of_below (QaT hb)) ⟨bb,hz,rfl,ab⟩⟩;skip)|(go_at_call 175;refine(Qut t _ _ hs (by have:=(QdE _ _ _ _ (by simpa using hp) hn).2;simpa using this)).mono ?_;intro e w1 h2;rcases h2.cases with⟨y,hy,rfl,hb⟩ | ⟨f,hy,⟨bb,hz,rfl,ab⟩,hb⟩;rotate_left;exact⟨rfl,QcE.err ((QgM hn).trans hy) (Mod.of_below (QaT hb)) ⟨bb,hz,rfl,ab⟩⟩;have aa:=HS.o.mod (QaT hb);have c1:=aa.cell 1;have c2:=aa.cell 2;have c3:=aa.cell 3;have c4:=aa.cell 4;have c5:=aa.cell 5;have c6:=aa.cell 6;simp only[QlM]at c1 c2 c3 c4 c5 c6;have f1:=aa.frozen;have ac:=Qab aa;clear aa;unfold wdV;skip))
 all_goals
  go_end0
  first
   |exact QcE.ok ((QgM hn).trans hy) ((Mod.of_below (QaT hb)).six _ _ _ _ _ _ _ _ _ _ _ _) (ac.o.put _ _)
   |exact QcE.ok ((QgM hn).trans hy) ((Mod.of_below (QaT hb)).six _ _ _ _ _ _ _ _ _ _ _ _) (ac.o.put' _ _)
end
section
open Go.RowKit
theorem Qgs(zs:List (L8))(j:Nat)(h:j<zs.length):(zs.map sA).getD j ByteArray.empty=sA (zs.getD j []):=by
 simp[List.getD_eq_getElem?_getD,h]
theorem Qgi(b g n c:Nat)(zs:List (L8))(t:ByteArray)(x:Wd)(p:Nat)(rv:Value)(mc mt:Nat)(w:World)(hr:RAt w b t x p rv mc mt)(hz:Qc5 w g zs)(hn:n=zs.length)(hl:zs.length<=1000) :
 Calls Tryz.prog 205 #[.pointer (some ⟨b,0,none⟩),.slice (some ⟨g,0,none⟩) n c] w fun e w'=>e=.returned (.int .i64 (wL zs x.spelt))/\w'=w:=by
 have h3:w.cell? ⟨b,3,none⟩=some (.string (sA x.spelt)):=hr.cell 3;have hw:=QbC zs x.spelt
 have hi:=Tryz.slices_Index_string g 0 n c (zs.map sA) (sA x.spelt) w (by simp [hn]) (by omega) (fun j hj=>by
  have hj':j<zs.length:=by simpa using hj
  rw [Nat.zero_add,Qgs _ _ hj'];exact hz j hj')
 rw[hn,List.take_of_length_le (by simp)]at hi;have e:=Qm5 zs x.spelt;have e2:Lib.idxOfS (zs.map sA) (sA x.spelt)=(wL zs x.spelt:Int) - 1:=by omega
 rw[e2]at hi;clear e e2;have HI:=Qab hi;clear hi;subst hn;go_enter func205,ntmps205;go_wp2_with (go_at_call 61;refine HI.o.mono ?_;rintro e w' ⟨rfl,rfl⟩);go_ret;exact⟨Qb5 (by omega),rfl⟩
theorem Qay(b:Nat)(B:Bool)(er:Int)(w:World)(hB:B=true) :
 Calls Tryz.prog 174 #[.pointer (some ⟨b,0,none⟩),.bool B,.int .i64 er] w fun e w'=>e=.returned (.tuple #[])/\w'=w:=by
 subst hB;go_enter func174,ntmps174;go_wp2;go_end0;exact⟨rfl,rfl⟩
theorem Qa7(b er:Nat)(B:Bool)(E:Int)(t:ByteArray)(x:Wd)(p:Nat)(rv:Value)(mc mt:Nat)(w:World)(hr:RAt w b t x p rv mc mt)(hB:B=false)(hE:E=er) :
 Calls Tryz.prog 174 #[.pointer (some ⟨b,0,none⟩),.bool B,.int .i64 E] w fun e w'=>QcN ⟨er,x.pos⟩ w e w'/\Below w.heap.size w w':=by
 subst hB;subst hE;have h2:w.cell? ⟨b,2,none⟩=some (.int .i64 x.pos):=hr.cell 2;clear hr;go_enter func174,ntmps174;go_wp2_with (go_at_call 64;refine(Qa4 _ _ _).mono ?_;rintro e w' ⟨rfl,rfl⟩);exact⟨rfl,Qb8 er x.pos (Nat.le_refl _) rfl,(Below.refl _ _).alloc (Nat.le_refl _) _⟩
structure RC (w:World) (b:Nat) (t:ByteArray) (s:PS) (rv:Value) (mc mt:Nat):Prop where
 at_:RAt w b t s.1 s.2 rv mc mt
 le:s.2≤t.size
 m:∃ m,w.cell? ⟨1,0,none⟩=some (.int .i64 m)
 b1:1 < b
 hs:t.size≤600
 sz:s.1.said.length≤600∧s.1.num≤2147483647
 e0:s.1.kind=0→s.1.spelt=[]
 nm:¬ s.1.kind=1→QjX s.1.spelt
theorem RC.step{w w':World}{b:Nat}{t:ByteArray}{s s':PS}{rv aa:Value}{mc mt:Nat}(h:RC w b t s rv mc mt)(hm:Mod b w w')(ha:RAt w' b t s'.1 s'.2 aa mc mt)(hl:s'.2<=t.size)(hz:s'.1.said.length<=600/\s'.1.num<=2147483647)(he:s'.1.kind=0->s'.1.spelt=[])(hn:¬ s'.1.kind=1->QjX s'.1.spelt):RC w' b t s' aa mc mt:=by
 refine⟨ha,hl,?_,h.b1,h.hs,hz,he,hn⟩;obtain⟨m,ab⟩:=h.m;have:=h.at_.lt;exact⟨m,by rw[hm.cell (p:=⟨1,0,none⟩) (by show 1<_;have:=h.b1;omega) (by show 1≠b;have:=h.b1;omega)];exact ab⟩
theorem RC.below{w w':World}{b:Nat}{t:ByteArray}{s:PS}{rv:Value}{mc mt:Nat}(h:RC w b t s rv mc mt)(hb:Below w.heap.size w w'):RC w' b t s rv mc mt:=
 h.step (Mod.of_below hb) (h.at_.mod hb) h.le h.sz h.e0 h.nm
theorem RC.alloc{w:World}{b:Nat}{t:ByteArray}{s:PS}{rv:Value}{mc mt:Nat}(h:RC w b t s rv mc mt)(o:Obj):RC (w.alloc o) b t s rv mc mt:=
 h.below ((Below.refl _ _).alloc (Nat.le_refl _) _)
theorem RC.drew{w:World}{b:Nat}{t:ByteArray}{s:PS}{rv:Value}{mc mt:Nat}(h:RC w b t s rv mc mt):RC w.drew b t s rv mc mt:=
 ⟨h.at_,h.le,h.m,h.b1,h.hs,h.sz,h.e0,h.nm⟩
def Qap {α:Type} (r:Except Flt (α×PS)) (b:Nat) (t:ByteArray) (rv:Value) (mc mt:Nat) (w:World) (val:α→World→Value→Prop) (e:Ending) (w':World):Prop:=
 Mod b w w'∧
 match r with
 | .ok y=>(∃ v,e=.returned v∧val y.1 w' v)∧RC w' b t y.2 rv mc mt
 | .error f=>QcN f w e w'
theorem Qap.cases{α:Type}{r:Except Flt (α×PS)}{b:Nat}{t:ByteArray}{rv:Value}{mc mt:Nat}{w w':World}{aa:α->World->Value->Prop}{e:Ending}(h:Qap r b t rv mc mt w aa e w') :
 (∃ y v,r=.ok y/\e=.returned v/\aa y.1 w' v/\RC w' b t y.2 rv mc mt/\Mod b w w')\/(∃ f,r=.error f/\QcN f w e w'/\Mod b w w'):=by
 obtain⟨hm,h⟩:=h
 cases r with
 |ok y=>obtain⟨⟨v,he,hv⟩,hc⟩:=h;exact Or.inl ⟨y,v,rfl,he,hv,hc,hm⟩
 |error f=>exact Or.inr ⟨f,rfl,h,hm⟩
theorem Qap.ok{α:Type}{r:Except Flt (α×PS)}{b:Nat}{t:ByteArray}{rv:Value}{mc mt:Nat}{w w':World}{aa:α->World->Value->Prop}{v:Value}{y:α×PS}(h:r=.ok y)(hm:Mod b w w')(hv:aa y.1 w' v)(hc:RC w' b t y.2 rv mc mt):Qap r b t rv mc mt w aa (.returned v) w':=by
 subst h;exact⟨hm,⟨v,rfl,hv⟩,hc⟩
theorem Qap.err{α:Type}{r:Except Flt (α×PS)}{b:Nat}{t:ByteArray}{rv:Value}{mc mt:Nat}{w w':World}{aa:α->World->Value->Prop}{e:Ending}{f:Flt}(h:r=.error f)(hm:Mod b w w')(ht:QcN f w e w'):Qap r b t rv mc mt w aa e w':=by
 subst h;exact⟨hm,ht⟩
theorem QcE.cases{r:Except Flt PS}{b:Nat}{t:ByteArray}{rv:Value}{mc mt:Nat}{w w':World}{e:Ending}(h:QcE r b t rv mc mt w e w') :
 (∃ y,r=.ok y/\e=.returned (.tuple #[])/\RAt w' b t y.1 y.2 rv mc mt/\Mod b w w')\/(∃ f,r=.error f/\QcN f w e w'/\Mod b w w'):=by
 obtain⟨hm,h⟩:=h
 cases r with
 |ok y=>exact Or.inl ⟨y,rfl,h.1,h.2,hm⟩
 |error f=>exact Or.inr ⟨f,rfl,h,hm⟩
theorem QcD(b:Nat)(t:ByteArray)(s:PS)(rv:Value)(mc mt:Nat)(w:World)(h:RC w b t s rv mc mt) :
 Calls Tryz.prog 121 #[.pointer (some ⟨b,0,none⟩)] w fun e w'=>
  (∃ y,nL t.data.toList s.2=.ok y/\e=.returned (.tuple #[])/\RC w' b t y rv mc mt/\Mod b w w')\/(∃ f,nL t.data.toList s.2=.error f/\QcN f w e w'/\Mod b w w'):=by
 obtain⟨m,hm⟩:=h.m;refine(QvJ b t s.1 s.2 rv mc mt m w (by have:=h.hs;omega) h.le h.at_ hm).mono ?_;intro e w' hp;rcases hp.cases with⟨y,hy,he,ha,aa⟩|hf
 ·refine Or.inl ⟨y,hy,he,h.step aa ha ?_ ?_ (QhZ t.data.toList s.2 (by simpa using h.le) y hy).2.2.2.1 (Qmi t.data.toList s.2 y hy),aa⟩
  ·have:=(QhZ t.data.toList s.2 (by simpa using h.le) y hy).2.1;simpa using this
  ·have h1:=QoJ t.data.toList s.2 y hy;have h2:=h.hs;have h3:t.data.toList.length=t.size:=by simp
   exact⟨by omega,h1.2⟩
 ·exact Or.inr hf
theorem Qwt{l:L8}{zs:List (L8)}{s:PS}(h:wL zs s.1.spelt=0):mayL l zs s=.ok (0,s):=by unfold mayL;rw[if_pos h]
theorem Qxo{l:L8}{zs:List (L8)}{s y:PS}(h:¬ wL zs s.1.spelt=0)(hn:nL l s.2=.ok y):mayL l zs s=.ok (wL zs s.1.spelt,y):=by unfold mayL;rw[if_neg h,hn]
theorem QvN{l:L8}{zs:List (L8)}{s:PS}{f:Flt}(h:¬ wL zs s.1.spelt=0)(hn:nL l s.2=.error f):mayL l zs s=.error f:=by unfold mayL;rw[if_neg h,hn]
theorem QvP{l:L8}{zs:List (L8)}{s:PS}(h:wL zs s.1.spelt=0):paL l zs s=.error ⟨4,s.1.pos⟩:=by unfold paL;rw[if_pos h]
theorem Qvq{l:L8}{zs:List (L8)}{s y:PS}(h:¬ wL zs s.1.spelt=0)(hn:nL l s.2=.ok y):paL l zs s=.ok (wL zs s.1.spelt,y):=by unfold paL;rw[if_neg h,hn]
theorem Qs1{l:L8}{zs:List (L8)}{s:PS}{f:Flt}(h:¬ wL zs s.1.spelt=0)(hn:nL l s.2=.error f):paL l zs s=.error f:=by unfold paL;rw[if_neg h,hn]
def Qj9 (i:Nat) (_:World) (v:Value):Prop:=v=.int .i64 i
theorem QgI(b g n c:Nat)(zs:List (L8))(t:ByteArray)(s:PS)(rv:Value)(mc mt:Nat)(w:World)(h:RC w b t s rv mc mt)(hz:Qc5 w g zs)(hn:n=zs.length)(hl:zs.length<=1000) :
 Calls Tryz.prog 161 #[.pointer (some ⟨b,0,none⟩),.slice (some ⟨g,0,none⟩) n c] w (Qap (mayL t.data.toList zs s) b t rv mc mt w Qj9):=by
 have hw:=Qab (Qgi b g n c zs t s.1 s.2 rv mc mt w h.at_ hz hn hl);have hle:=QbC zs s.1.spelt;have H:=Qab h;clear hz hn;by_cases h0:wL zs s.1.spelt=0
 ·have aa:¬(0:Int)<(wL zs s.1.spelt:Int):=by omega
  have HE:=Qab (Qwt (l:=t.data.toList) h0);have H0:=Qab h0;clear h0 h;go_enter func161,ntmps161;go_wp2_with (go_at_call 205;refine hw.o.mono ?_;rintro e w' ⟨rfl,rfl⟩);go_ret;exact Qap.ok HE.o (Mod.refl _ _) (by unfold Qj9;rw[H0.o];rfl) H.o
 ·have aa:(0:Int)<(wL zs s.1.spelt:Int):=by omega
  have H0:=Qab h0;clear h0 h;go_enter func161,ntmps161;go_wp2_with (go_at_call 205;refine hw.o.mono ?_;rintro e w' ⟨rfl,rfl⟩);refine(QcD b t s rv mc mt _ H.o).mono ?_;rintro e w1 (⟨y,hy,rfl,hc,hm⟩ | ⟨f,hf,⟨bb,hz,rfl,hcc⟩,hm⟩)
  ·go_wp2;go_ret;exact Qap.ok (Qxo H0.o hy) hm rfl hc
  ·exact⟨rfl,Qap.err (QvN H0.o hf) hm ⟨bb,hz,rfl,hcc⟩⟩
theorem QcF(b g n c:Nat)(zs:List (L8))(t:ByteArray)(s:PS)(rv:Value)(mc mt:Nat)(w:World)(h:RC w b t s rv mc mt)(hz:Qc5 w g zs)(hn:n=zs.length)(hl:zs.length<=1000) :
 Calls Tryz.prog 158 #[.pointer (some ⟨b,0,none⟩),.slice (some ⟨g,0,none⟩) n c] w (Qap (paL t.data.toList zs s) b t rv mc mt w Qj9):=by
 have hw:=Qab (Qgi b g n c zs t s.1 s.2 rv mc mt w h.at_ hz hn hl);have hle:=QbC zs s.1.spelt;have H:=Qab h;clear hz hn;by_cases h0:wL zs s.1.spelt=0
 ·have ab:¬(0:Int)<(wL zs s.1.spelt:Int):=by omega
  have HE:=Qab (QvP (l:=t.data.toList) h0);have H0:=Qab h0;clear h0 h;go_enter func158,ntmps158;go_wp2_with (go_at_call 205;refine hw.o.mono ?_;rintro e w' ⟨rfl,rfl⟩);refine(Qa7 b 4 _ _ t s.1 s.2 rv mc mt _ H.o.at_ (by simp;omega) rfl).mono ?_;rintro e w1 ⟨⟨bb,hz,rfl,aa⟩,hm⟩;exact⟨rfl,Qap.err HE.o (Mod.of_below hm) ⟨bb,hz,rfl,aa⟩⟩
 ·have ab:(0:Int)<(wL zs s.1.spelt:Int):=by omega
  have H0:=Qab h0;clear h0 h;go_enter func158,ntmps158;go_wp2_with (go_at_call 205;refine hw.o.mono ?_;rintro e w' ⟨rfl,rfl⟩);refine(Qay b _ _ _ (by simp;omega)).mono ?_;rintro e w' ⟨rfl,rfl⟩;go_wp2_with fail;refine(QcD b t s rv mc mt _ H.o).mono ?_;rintro e w1 (⟨y,hy,rfl,hc,hm⟩ | ⟨f,hf,⟨bb,hz,rfl,aa⟩,hm⟩)
  ·go_wp2;go_ret;exact Qap.ok (Qvq H0.o hy) hm rfl hc
  ·exact⟨rfl,Qap.err (Qs1 H0.o hf) hm ⟨bb,hz,rfl,aa⟩⟩
def Qv8 (_:L8):Nat:=0
def Qd2 (x:L8):Nat:=if isNameL x then 0 else 7
def Qcm (er:Nat) (zs:List (L8)) (x:L8):Nat:=if 0 < wL zs x then 0 else er
def Qdd (c:L8→Nat) (x:L8):Nat:=c (zL x)
theorem Qtf(x:L8):(sA x).data.toList=x:=rfl
theorem QmO(s:ByteArray)(w:World):Calls Tryz.prog 114 #[.string s] w fun e w'=>e=.returned (.int .i64 0)/\w'=w:=by
 go_enter func114,ntmps114;go_wp2;go_ret;exact⟨rfl,rfl⟩
theorem Qr2(x:L8)(w:World)(hs:x.length<=1000) :
 Calls Tryz.prog 206 #[.string (sA x)] w fun e w'=>e=.returned (.bool (isNameL x))/\w'=w:=by
 have hle:=Qdj x;have ac:(sA x).size=x.length:=rfl;have hL:=Qab (QbE (sA x) w (by rw[ac];unfold maxLen;omega));by_cases h0:x.length=0
 ·have hx:x=[]:=List.eq_nil_of_length_eq_zero h0;subst hx;have aa:(sA []).toList=[]:=Qc3 rfl;have ab:(sA []).toList.isEmpty=true:=by rw[aa];rfl
  go_enter func206,ntmps206;go_wp2;go_ret;exact⟨rfl,rfl⟩
 ·have aa:¬(sA x).toList=[]:=Qbq (by rw[ac];exact h0);have ab:(sA x).toList.isEmpty=false:=by simpa using aa
  go_enter func206,ntmps206;go_wp2_with (go_at_call 210;refine hL.o.mono ?_;rintro e w' ⟨rfl,rfl⟩);go_ret;refine⟨QaF ?_,rfl⟩;rw[Qtf];unfold isNameL
  have:x.isEmpty=false:=by
   cases x with
   |nil=>exact absurd rfl h0
   |cons a r=>rfl
  rw[this,Bool.eq_iff_iff];simp;omega
theorem QsD(x:L8)(w:World)(hs:x.length<=1000) :
 Calls Tryz.prog 164 #[.string (sA x)] w fun e w'=>e=.returned (.int .i64 (Qd2 x))/\w'=w:=by
 have hN:=Qab (Qr2 x w hs);cases h:isNameL x
 ·have HE:Hid (Qd2 x=7):=by show _=_;unfold Qd2;rw[h];rfl
  go_enter func164,ntmps164;go_wp2_with (go_at_call 206;refine hN.o.mono ?_;rintro e w' ⟨rfl,rfl⟩);go_ret;exact⟨Qb5 (by rw[HE.o];rfl),rfl⟩
 ·have HE:Hid (Qd2 x=0):=by show _=_;unfold Qd2;rw[h];rfl
  go_enter func164,ntmps164;go_wp2_with (go_at_call 206;refine hN.o.mono ?_;rintro e w' ⟨rfl,rfl⟩);go_ret;exact⟨Qb5 (by rw[HE.o];rfl),rfl⟩
theorem Qhn(g n c:Nat)(zs:List (L8))(x:L8)(w:World)(hz:Qc5 w g zs)(hn:n=zs.length)(hl:zs.length<=1000) :
 Calls Tryz.prog 37 #[.slice (some ⟨g,0,none⟩) n c,.string (sA x)] w fun e w'=>e=.returned (.bool (decide (0<wL zs x)))/\w'=w:=by
 have hi:=Tryz.slices_Contains_string g 0 n c (zs.map sA) (sA x) w (by simp [hn]) (by omega) (fun j hj=>by
  have hj':j<zs.length:=by simpa using hj
  rw [Nat.zero_add,Qgs _ _ hj'];exact hz j hj')
 rw[hn,List.take_of_length_le (by simp),Qju]at hi;rw[hn];exact hi
def Qi7 (w:World) (p1 p2 g n c er:Nat) (zs:List (L8)):Prop:=
 w.cell? ⟨p1,0,none⟩=some (.slice (some ⟨g,0,none⟩) n c)∧w.cell? ⟨p2,0,none⟩=some (.int .i64 er)∧Qc5 w g zs∧n=zs.length∧zs.length≤1000
theorem QjJ(p1 p2 g n c er:Nat)(zs:List (L8))(x:L8)(w:World)(h:Qi7 w p1 p2 g n c er zs) :
 Calls Tryz.prog 172 #[.string (sA x),.pointer (some ⟨p1,0,none⟩),.pointer (some ⟨p2,0,none⟩)] w fun e w'=>e=.returned (.int .i64 (Qcm er zs x))/\w'=w:=by
 obtain⟨h1,h2,hz,hn,hl⟩:=h;have hC:=Qab (Qhn g n c zs x w hz hn hl);clear hz hn;by_cases h:0<wL zs x
 ·have HE:Hid (Qcm er zs x=0):=by show _=_;unfold Qcm;rw[if_pos h]
  have hd:decide (0<wL zs x)=true:=by simpa using h
  rw[hd]at hC;go_enter func172,ntmps172;go_wp2_with (go_at_call 37;refine hC.o.mono ?_;rintro e w' ⟨rfl,rfl⟩);go_ret;exact⟨Qb5 (by rw[HE.o];rfl),rfl⟩
 ·have HE:Hid (Qcm er zs x=er):=by show _=_;unfold Qcm;rw[if_neg h]
  have hd:decide (0<wL zs x)=false:=by simpa using h
  rw[hd]at hC;go_enter func172,ntmps172;go_wp2_with (go_at_call 37;refine hC.o.mono ?_;rintro e w' ⟨rfl,rfl⟩);go_ret;exact⟨Qb5 (by rw[HE.o]),rfl⟩
theorem Qi0(er:Int)(g n c:Nat)(w:World) :
 Calls Tryz.prog 117 #[.int .i64 er,.slice (some ⟨g,0,none⟩) n c] w fun e w'=>e=.returned (.func (.func 172) #[] #[.pointer (some ⟨w.heap.size+1,0,none⟩),.pointer (some ⟨w.heap.size,0,none⟩)])/\w'=(w.alloc (.cells #[.int .i64 er] 30)).alloc (.cells #[.slice (some ⟨g,0,none⟩) n c] 89):=by
 have hmf:∀(fn:Fn) (first cap:Array Value) (w:World),(Instr.makeFunc fn first cap).run Tryz.prog w=.ok (.func fn first cap) w:=fun _ _ _ _=>rfl
 go_enter func117,ntmps117;go_wp2;go_ret;exact⟨rfl,rfl⟩
theorem Qpy(f:Nat)(a1 a2:Value)(w:World) :
 Calls Tryz.prog 116 #[.func (.func f) #[] #[a1,a2]] w fun e w'=>e=.returned (.func (.func 171) #[] #[.pointer (some ⟨w.heap.size,0,none⟩)])/\w'=w.alloc (.cells #[.func (.func f) #[] #[a1,a2]] 213):=by
 have hmf:∀(fn:Fn) (first cap:Array Value) (w:World),(Instr.makeFunc fn first cap).run Tryz.prog w=.ok (.func fn first cap) w:=fun _ _ _ _=>rfl
 go_enter func116,ntmps116;go_wp2;go_ret;exact⟨rfl,rfl⟩
def QgU (w:World) (q p1 p2 g n c er:Nat) (zs:List (L8)):Prop:=
 w.cell? ⟨q,0,none⟩=some (.func (.func 172) #[] #[.pointer (some ⟨p1,0,none⟩),.pointer (some ⟨p2,0,none⟩)])∧Qi7 w p1 p2 g n c er zs
theorem Qc5.below{w w':World}{g:Nat}{zs:List (L8)}(h:Qc5 w g zs)(hb:Below w.heap.size w w'):Qc5 w' g zs:=fun j hj=>by
 have:=h j hj;rw[hb.cell (p:=⟨g,j,none⟩) (Qau this)];exact this
theorem Qi7.below{w w':World}{p1 p2 g n c er:Nat}{zs:List (L8)}(h:Qi7 w p1 p2 g n c er zs)(hb:Below w.heap.size w w'):Qi7 w' p1 p2 g n c er zs:=by
 obtain⟨h1,h2,h3,h4,h5⟩:=h;exact⟨by rw[hb.cell (p:=⟨p1,0,none⟩) (Qau h1)];exact h1,by rw[hb.cell (p:=⟨p2,0,none⟩) (Qau h2)];exact h2,h3.below hb,h4,h5⟩
theorem Qnq(q p1 p2 g n c er:Nat)(zs:List (L8))(x:L8)(w:World)(h:QgU w q p1 p2 g n c er zs)(hx:x.length<=1000) :
 Calls Tryz.prog 171 #[.string (sA x),.pointer (some ⟨q,0,none⟩)] w fun e w'=>e=.returned (.int .i64 (Qdd (Qcm er zs) x))/\Below w.heap.size w w':=by
 obtain⟨hq,hO⟩:=h;have HO:=Qab hO;have HQ:=Qab hq;clear hO;have hs:=Qab (fun W=>QeQ (sA x) W (by rw[Qal];omega));go_enter func171,ntmps171;go_wp2_with fail;go_region_with (first|(go_at_call 163;refine(hs.o _).mono ?_;rintro e w1 ⟨rfl,hb⟩;have hq1:=(hb.cell (p:=⟨q,0,none⟩) (Qau HQ.o)).trans HQ.o;skip)|(go_at_call 172;refine(QjJ p1 p2 g n c er zs (zL x) _ (HO.o.below (QaT hb))).mono ?_;rintro e w2 ⟨rfl,rfl⟩;skip))
 all_goals go_wp2
 all_goals go_ret
 all_goals exact⟨rfl,QaT hb⟩
def Qsa (x:L8) (_:World) (v:Value):Prop:=v=.string (sA x)
theorem QdB{l:L8}{chk:L8->Nat}{s:PS}(h:¬ s.1.kind=5):sL l chk s=.error ⟨4,s.1.pos⟩:=by unfold sL;rw[if_neg h]
theorem QfH{l:L8}{chk:L8->Nat}{s:PS}(h:s.1.kind=5)(hc:¬ chk s.1.said=0):sL l chk s=.error ⟨chk s.1.said,s.1.pos⟩:=by unfold sL;rw[if_pos h,if_neg hc]
theorem Qfg{l:L8}{chk:L8->Nat}{s y:PS}(h:s.1.kind=5)(hc:chk s.1.said=0)(hn:nL l s.2=.ok y):sL l chk s=.ok (s.1.said,y):=by unfold sL;rw[if_pos h,if_pos hc,hn]
theorem QdW{l:L8}{chk:L8->Nat}{s:PS}{f:Flt}(h:s.1.kind=5)(hc:chk s.1.said=0)(hn:nL l s.2=.error f):sL l chk s=.error f:=by unfold sL;rw[if_pos h,if_pos hc,hn]
theorem Qdw(b:Nat)(t:ByteArray)(s:PS)(rv:Value)(mc mt:Nat)(w:World)(h:RC w b t s rv mc mt) :
 Calls Tryz.prog 160 #[.pointer (some ⟨b,0,none⟩),.func (.func 114) #[] #[]] w (Qap (sL t.data.toList Qv8 s) b t rv mc mt w Qsa):=by
 have h1:w.cell? ⟨b,1,none⟩=some (.int .i64 s.1.kind):=h.at_.cell 1;have h4:w.cell? ⟨b,4,none⟩=some (.string (sA s.1.said)):=h.at_.cell 4;have H:=Qab h;clear h;by_cases hk:s.1.kind=5;rotate_left
 ·have HE:=Qab (QdB (l:=t.data.toList) (chk:=Qv8) hk);have ab:((s.1.kind:Int)==5)=false:=by simp;omega
  clear hk;go_enter func160,ntmps160;go_wp2_with fail;refine(Qa7 b 4 _ _ t s.1 s.2 rv mc mt _ H.o.at_ rfl rfl).mono ?_;rintro e w1 ⟨⟨bb,hz,rfl,aa⟩,hm⟩;exact⟨rfl,Qap.err HE.o (Mod.of_below hm) ⟨bb,hz,rfl,aa⟩⟩
 have ab:((s.1.kind:Int)==5)=true:=by simp;omega
 have HK:=Qab hk;clear hk;go_enter func160,ntmps160;go_wp2_with fail;refine(Qay b _ _ _ rfl).mono ?_;rintro e w' ⟨rfl,rfl⟩;go_wp2_with fail;refine(QmO _ _).mono ?_;rintro e w1 ⟨rfl,rfl⟩;go_wp2_with fail;refine(Qay b _ _ _ (by rfl)).mono ?_;rintro e w' ⟨rfl,rfl⟩;go_wp2_with fail;refine(QcD b t s rv mc mt _ H.o).mono ?_;rintro e w2 (⟨y,hy,rfl,hc,hm⟩ | ⟨f,hf,⟨bb,hz,rfl,aa⟩,hm⟩)
 ·go_wp2;go_ret;exact Qap.ok (Qfg HK.o rfl hy) hm rfl hc
 ·exact⟨rfl,Qap.err (QdW HK.o rfl hf) hm ⟨bb,hz,rfl,aa⟩⟩
theorem QnK(b:Nat)(t:ByteArray)(s:PS)(rv:Value)(mc mt:Nat)(w:World)(h:RC w b t s rv mc mt) :
 Calls Tryz.prog 160 #[.pointer (some ⟨b,0,none⟩),.func (.func 164) #[] #[]] w (Qap (sL t.data.toList Qd2 s) b t rv mc mt w Qsa):=by
 have h1:w.cell? ⟨b,1,none⟩=some (.int .i64 s.1.kind):=h.at_.cell 1;have h4:w.cell? ⟨b,4,none⟩=some (.string (sA s.1.said)):=h.at_.cell 4;have H:=Qab h;clear h;by_cases hk:s.1.kind=5;rotate_left
 ·have HE:=Qab (QdB (l:=t.data.toList) (chk:=Qd2) hk);have ab:((s.1.kind:Int)==5)=false:=by simp;omega
  clear hk;go_enter func160,ntmps160;go_wp2_with fail;refine(Qa7 b 4 _ _ t s.1 s.2 rv mc mt _ H.o.at_ rfl rfl).mono ?_;rintro e w1 ⟨⟨bb,hz,rfl,aa⟩,hm⟩;exact⟨rfl,Qap.err HE.o (Mod.of_below hm) ⟨bb,hz,rfl,aa⟩⟩
 have ab:((s.1.kind:Int)==5)=true:=by simp;omega
 have HK:=Qab hk;clear hk;go_enter func160,ntmps160;go_wp2_with fail;refine(Qay b _ _ _ rfl).mono ?_;rintro e w' ⟨rfl,rfl⟩;go_wp2_with fail;refine(QsD _ _ (by have:=H.o.sz.1;omega)).mono ?_;rintro e w1 ⟨rfl,rfl⟩;generalize hC:Qd2 s.1.said=C;have HC:=Qab hC;clear hC;by_cases hc:C=0;rotate_left
 ·have HE:=Qab (QfH (l:=t.data.toList) (chk:=Qd2) HK.o (by rw[HC.o];exact hc));rw[HC.o]at HE;have hc':((C:Int)==0)=false:=by simp;omega
  clear hc;go_wp2_with fail;refine(Qa7 b C _ _ t s.1 s.2 rv mc mt _ H.o.at_ rfl rfl).mono ?_;rintro e w2 ⟨⟨bb,hz,rfl,aa⟩,hm⟩;exact⟨rfl,Qap.err HE.o (Mod.of_below hm) ⟨bb,hz,rfl,aa⟩⟩
 subst hc;go_wp2_with fail;refine(Qay b _ _ _ (by rfl)).mono ?_;rintro e w' ⟨rfl,rfl⟩;go_wp2_with fail;refine(QcD b t s rv mc mt _ H.o).mono ?_;rintro e w2 (⟨y,hy,rfl,hc,hm⟩ | ⟨f,hf,⟨bb,hz,rfl,aa⟩,hm⟩)
 ·go_wp2;go_ret;exact Qap.ok (Qfg HK.o HC.o hy) hm rfl hc
 ·exact⟨rfl,Qap.err (QdW HK.o HC.o hf) hm ⟨bb,hz,rfl,aa⟩⟩
theorem Qhw(p1 p2 g n c er:Nat)(zs:List (L8))(b:Nat)(t:ByteArray)(s:PS)(rv:Value)(mc mt:Nat)(w:World)(h:RC w b t s rv mc mt)(ho:Qi7 w p1 p2 g n c er zs) :
 Calls Tryz.prog 160 #[.pointer (some ⟨b,0,none⟩),.func (.func 172) #[] #[.pointer (some ⟨p1,0,none⟩),.pointer (some ⟨p2,0,none⟩)]] w (Qap (sL t.data.toList (Qcm er zs) s) b t rv mc mt w Qsa):=by
 have h1:w.cell? ⟨b,1,none⟩=some (.int .i64 s.1.kind):=h.at_.cell 1;have h4:w.cell? ⟨b,4,none⟩=some (.string (sA s.1.said)):=h.at_.cell 4;have H:=Qab h;clear h;have HO:=Qab ho;clear ho;by_cases hk:s.1.kind=5;rotate_left
 ·have HE:=Qab (QdB (l:=t.data.toList) (chk:=(Qcm er zs)) hk);have ab:((s.1.kind:Int)==5)=false:=by simp;omega
  clear hk;go_enter func160,ntmps160;go_wp2_with fail;refine(Qa7 b 4 _ _ t s.1 s.2 rv mc mt _ H.o.at_ rfl rfl).mono ?_;rintro e w1 ⟨⟨bb,hz,rfl,aa⟩,hm⟩;exact⟨rfl,Qap.err HE.o (Mod.of_below hm) ⟨bb,hz,rfl,aa⟩⟩
 have ab:((s.1.kind:Int)==5)=true:=by simp;omega
 have HK:=Qab hk;clear hk;go_enter func160,ntmps160;go_wp2_with fail;refine(Qay b _ _ _ rfl).mono ?_;rintro e w' ⟨rfl,rfl⟩;go_wp2_with fail;refine(QjJ p1 p2 g n c er zs _ _ HO.o).mono ?_;rintro e w1 ⟨rfl,rfl⟩;generalize hC:(Qcm er zs) s.1.said=C;have HC:=Qab hC;clear hC;by_cases hc:C=0;rotate_left
 ·have HE:=Qab (QfH (l:=t.data.toList) (chk:=(Qcm er zs)) HK.o (by rw[HC.o];exact hc));rw[HC.o]at HE;have hc':((C:Int)==0)=false:=by simp;omega
  clear hc;go_wp2_with fail;refine(Qa7 b C _ _ t s.1 s.2 rv mc mt _ H.o.at_ rfl rfl).mono ?_;rintro e w2 ⟨⟨bb,hz,rfl,aa⟩,hm⟩;exact⟨rfl,Qap.err HE.o (Mod.of_below hm) ⟨bb,hz,rfl,aa⟩⟩
 subst hc;go_wp2_with fail;refine(Qay b _ _ _ (by rfl)).mono ?_;rintro e w' ⟨rfl,rfl⟩;go_wp2_with fail;refine(QcD b t s rv mc mt _ H.o).mono ?_;rintro e w2 (⟨y,hy,rfl,hc,hm⟩ | ⟨f,hf,⟨bb,hz,rfl,aa⟩,hm⟩)
 ·go_wp2;go_ret;exact Qap.ok (Qfg HK.o HC.o hy) hm rfl hc
 ·exact⟨rfl,Qap.err (QdW HK.o HC.o hf) hm ⟨bb,hz,rfl,aa⟩⟩
theorem Qjq(q p1 p2 g n c er:Nat)(zs:List (L8))(b:Nat)(t:ByteArray)(s:PS)(rv:Value)(mc mt:Nat)(w:World)(h:RC w b t s rv mc mt)(ho:QgU w q p1 p2 g n c er zs) :
 Calls Tryz.prog 160 #[.pointer (some ⟨b,0,none⟩),.func (.func 171) #[] #[.pointer (some ⟨q,0,none⟩)]] w (Qap (sL t.data.toList (Qdd (Qcm er zs)) s) b t rv mc mt w Qsa):=by
 have h1:w.cell? ⟨b,1,none⟩=some (.int .i64 s.1.kind):=h.at_.cell 1;have h4:w.cell? ⟨b,4,none⟩=some (.string (sA s.1.said)):=h.at_.cell 4;have H:=Qab h;clear h;have HO:=Qab ho;clear ho;by_cases hk:s.1.kind=5;rotate_left
 ·have HE:=Qab (QdB (l:=t.data.toList) (chk:=(Qdd (Qcm er zs))) hk);have ab:((s.1.kind:Int)==5)=false:=by simp;omega
  clear hk;go_enter func160,ntmps160;go_wp2_with fail;refine(Qa7 b 4 _ _ t s.1 s.2 rv mc mt _ H.o.at_ rfl rfl).mono ?_;rintro e w1 ⟨⟨bb,hz,rfl,aa⟩,hm⟩;exact⟨rfl,Qap.err HE.o (Mod.of_below hm) ⟨bb,hz,rfl,aa⟩⟩
 have ab:((s.1.kind:Int)==5)=true:=by simp;omega
 have HK:=Qab hk;clear hk;go_enter func160,ntmps160;go_wp2_with fail;refine(Qay b _ _ _ rfl).mono ?_;rintro e w' ⟨rfl,rfl⟩;go_wp2_with fail;refine(Qnq q p1 p2 g n c er zs _ _ HO.o (by have:=H.o.sz.1;omega)).mono ?_;rintro e w1 ⟨rfl,hb⟩;have H1:=Qab (H.o.below hb);have HB:=Qab (Mod.of_below (b:=b) hb);have h4:w1.cell? ⟨b,4,none⟩=some (.string (sA s.1.said)):=H1.o.at_.cell 4;clear hb;generalize hC:(Qdd (Qcm er zs)) s.1.said=C;have HC:=Qab hC;clear hC;by_cases hc:C=0;rotate_left
 ·have HE:=Qab (QfH (l:=t.data.toList) (chk:=(Qdd (Qcm er zs))) HK.o (by rw[HC.o];exact hc));rw[HC.o]at HE;have hc':((C:Int)==0)=false:=by simp;omega
  clear hc;go_wp2_with fail;refine(Qa7 b C _ _ t s.1 s.2 rv mc mt _ H1.o.at_ rfl rfl).mono ?_;rintro e w2 ⟨⟨bb,hz,rfl,aa⟩,hm⟩;exact⟨rfl,Qap.err HE.o (HB.o.trans (Mod.of_below hm)) ⟨bb,Nat.le_trans HB.o.size hz,rfl,aa⟩⟩
 subst hc;go_wp2_with fail;refine(Qay b _ _ _ (by rfl)).mono ?_;rintro e w' ⟨rfl,rfl⟩;go_wp2_with fail;refine(QcD b t s rv mc mt _ H1.o).mono ?_;rintro e w2 (⟨y,hy,rfl,hc,hm⟩ | ⟨f,hf,⟨bb,hz,rfl,aa⟩,hm⟩)
 ·go_wp2;go_ret;exact Qap.ok (Qfg HK.o HC.o hy) (HB.o.trans hm) rfl hc
 ·exact⟨rfl,Qap.err (QdW HK.o HC.o hf) (HB.o.trans hm) ⟨bb,Nat.le_trans HB.o.size hz,rfl,aa⟩⟩
def muW (w:World) (b n:Nat):Nat:=
 match w.heap[b]? with
 | some (.cells cs _ _)=>2*(n - (intOf (cs.getD 6 undef)).toNat)+(if intOf (cs.getD 1 undef)=0 then 0 else 1)
 | _=>0
theorem RC.muEq{w:World}{b:Nat}{t:ByteArray}{s:PS}{rv:Value}{mc mt:Nat}(h:RC w b t s rv mc mt):muW w b t.size=mu t.size s:=by
 unfold muW;rw[h.at_];simp[QlM,intOf,mu]
theorem Qbe{w w':World}{base b:Nat}{e:TypeId}{size:Nat}{v:Value}{n:Nat}{xs:List Value}(h:w.ownsRow base e size v n xs)(hm:Mod b w w')(hb:b<base):w'.ownsRow base e size v n xs:=by
 obtain⟨h1,h2⟩:=h;refine⟨h1,?_⟩;rcases h2 with h2 | ⟨g,aa,ac,hv,hg,hh,r⟩
 ·exact Or.inl h2
 ·have ab:g<w.heap.size:=by
   rcases Nat.lt_or_ge g w.heap.size with h'|h'
   ·exact h'
   ·rw[Array.getElem?_eq_none h']at hh;cases hh
  exact Or.inr ⟨g,aa,ac,hv,hg,by rw[hm.block g ab (by omega)];exact hh,r⟩
theorem Mod.grown{b:Nat}{u w w':World}{row:Option Nat}(h:Mod b u w)(hg:w.grownBy w' row)(hr:∀ k,row=some k->u.heap.size<=k):Mod b u w':=
 ⟨hg.os.trans h.os,hg.tape.trans h.tape,hg.output.trans h.output,Nat.le_trans h.size hg.size,fun k hk hn=>
  (hg.block k (Nat.lt_of_lt_of_le hk h.size) (fun e=>by have:=hr k e.symm;omega)).trans (h.block k hk hn)⟩
theorem RC.grown{w w':World}{b:Nat}{t:ByteArray}{s:PS}{rv:Value}{mc mt:Nat}{row:Option Nat}(h:RC w b t s rv mc mt)(hg:w.grownBy w' row)(hr:∀ k,row=some k->b<k):RC w' b t s rv mc mt:=by
 have hb:=h.at_.lt;have h1:=h.b1;have aa:∀ k,k<=b->w'.heap[k]?=w.heap[k]?:=fun k hk=>hg.block k (by omega) (fun e=>by have:=hr k e.symm;omega)
 refine⟨by unfold RAt;rw[aa b (Nat.le_refl _)];exact h.at_,h.le,?_,h.b1,h.hs,h.sz,h.e0,h.nm⟩;obtain⟨m,hm⟩:=h.m;exact⟨m,by rw[World.cell?_of_block (a:=⟨1,0,none⟩) (aa 1 (by omega))];exact hm⟩
def Abv (B:Nat) (w w':World):Prop:=∀ k,B≤k→k < w.heap.size→w'.heap[k]?=w.heap[k]?
theorem Mod.abv{b B:Nat}{w w':World}(h:Mod b w w')(hb:b<B):Abv B w w':=fun k hB hk=>h.block k hk (by omega)
theorem Abv.set{B g:Nat}{w:World}(hg:g<B)(o:Nat)(v:Value):Abv B w (w.setCell ⟨g,o,none⟩ v):=fun k hB _=>Below.heap_setCell _ _ _ _ (by show k≠g;omega)
def slB (B:Nat) (xs:List (L8)) (w:World) (v:Value):Prop:=
 ∃ g c,v=.slice (some ⟨g,0,none⟩) xs.length c∧B≤g∧Qc5 w g xs∧xs≠[]
theorem slB.of_owns{w:World}{base n:Nat}{v:Value}{xs:List (L8)}(h:w.ownsRow base 9 1 v n (QaD xs))(hn:n=xs.length)(hx:xs≠[]):slB base xs w v:=by
 subst hn;obtain⟨h1,h2⟩:=h;rcases h2 with⟨_,h3⟩ | ⟨g,aa,ab,hv,hg,r⟩
 ·exact absurd (List.eq_nil_of_length_eq_zero h3) hx
 ·subst hv;exact⟨g,aa,rfl,hg,Qc5.of_owns (base:=base) ⟨h1,Or.inr ⟨g,aa,ab,rfl,hg,r⟩⟩,hx⟩
theorem slB.keep{B:Nat}{xs:List (L8)}{w w':World}{v:Value}(h:slB B xs w v)(hk:Abv B w w'):slB B xs w' v:=by
 obtain⟨g,c,hv,hg,ht,hx⟩:=h;refine⟨g,c,hv,hg,fun j hj=>?_,hx⟩;have:=ht j hj;rw[World.cell?_of_block (w:=w) (a:=⟨g,j,none⟩) (hk g hg (Qau this))];exact this
theorem slB.weak{B B':Nat}{xs:List (L8)}{w:World}{v:Value}(h:slB B xs w v)(hB:B'<=B):slB B' xs w v:=by
 obtain⟨g,c,hv,hg,r⟩:=h;exact⟨g,c,hv,by omega,r⟩
theorem slB.form{B:Nat}{xs:List (L8)}{w:World}{v:Value}(h:slB B xs w v):∃ g n c,v=.slice (some ⟨g,0,none⟩) n c:=by
 obtain⟨g,c,hv,_⟩:=h;exact⟨g,_,c,hv⟩
def Qjy (w:World) (b:Nat) (t:ByteArray) (rv:Value) (mc mt:Nat) (cv:Value) (chk:L8→Nat):Prop:=
 ∀ (W:World) (s:PS),Mod b w W→RC W b t s rv mc mt→Calls Tryz.prog 160 #[.pointer (some ⟨b,0,none⟩),cv] W (Qap (sL t.data.toList chk s) b t rv mc mt W Qsa)
theorem Qjg{l:L8}{chk:L8->Nat}{F:Nat}{s:PS}{f:Flt}(h:mayL l [[91]] s=.error f):sLs l chk F s=.error f:=by unfold sLs;rw[h]
theorem Qe2{l:L8}{chk:L8->Nat}{F:Nat}{s:PS}{f:Flt}{y:Nat×PS}(h:mayL l [[91]] s=.ok y)(h2:sL l chk y.2=.error f):sLs l chk F s=.error f:=by unfold sLs;rw[h];dsimp only;rw[h2]
theorem Ql0{l:L8}{chk:L8->Nat}{F:Nat}{s:PS}{y:Nat×PS}{z:L8×PS}(h:mayL l [[91]] s=.ok y)(h2:sL l chk y.2=.ok z)(h0:y.1=0):sLs l chk F s=.ok ([z.1],z.2):=by unfold sLs;rw[h];dsimp only;rw[h2];dsimp only;rw[if_pos h0]
theorem QkQ{l:L8}{chk:L8->Nat}{F:Nat}{s:PS}{y:Nat×PS}{z:L8×PS}(h:mayL l [[91]] s=.ok y)(h2:sL l chk y.2=.ok z)(h0:¬ y.1=0):sLs l chk F s=moreL l chk F [z.1] z.2:=by unfold sLs;rw[h];dsimp only;rw[h2];dsimp only;rw[if_neg h0]
theorem Qla{l:L8}{chk:L8->Nat}{f:Nat}{aa:List (L8)}{s:PS}{e:Flt}(h:paL l [[44],[93]] s=.error e):moreL l chk (f+1) aa s=.error e:=by rw[moreL,h]
theorem QsR{l:L8}{chk:L8->Nat}{f:Nat}{aa:List (L8)}{s:PS}{y:Nat×PS}(h:paL l [[44],[93]] s=.ok y)(h1:¬ y.1=1):moreL l chk (f+1) aa s=.ok (aa,y.2):=by rw[moreL,h];dsimp only;rw[if_neg h1]
theorem Qm2{l:L8}{chk:L8->Nat}{f:Nat}{aa:List (L8)}{s:PS}{y:Nat×PS}{e:Flt}(h:paL l [[44],[93]] s=.ok y)(h1:y.1=1)(h2:sL l chk y.2=.error e):moreL l chk (f+1) aa s=.error e:=by rw[moreL,h];dsimp only;rw[if_pos h1,h2]
theorem Qvu{l:L8}{chk:L8->Nat}{f:Nat}{aa:List (L8)}{s:PS}{y:Nat×PS}{z:L8×PS}(h:paL l [[44],[93]] s=.ok y)(h1:y.1=1)(h2:sL l chk y.2=.ok z):moreL l chk (f+1) aa s=moreL l chk f (aa++[z.1]) z.2:=by rw[moreL,h];dsimp only;rw[if_pos h1,h2]
theorem RC.mu_le{w:World}{b:Nat}{t:ByteArray}{s:PS}{rv:Value}{mc mt:Nat}(h:RC w b t s rv mc mt):mu t.size s<=1201:=by
 have:=h.hs;unfold mu;split<;>omega
theorem bal(t:ByteArray):t.data.toList.length=t.size:=by simp
theorem Quh:∀ z∈([[44],[93]]:List (L8)),z≠[]:=by decide
theorem Qef(cv:Value)(chk:L8->Nat)(b F:Nat)(t:ByteArray)(s:PS)(rv:Value)(mc mt:Nat)(w:World)(h:RC w b t s rv mc mt)(ho:Qjy w b t rv mc mt cv chk)(hF:mu t.size s<F) :
 Calls Tryz.prog 170 #[.pointer (some ⟨b,0,none⟩),cv] w (Qap (sLs t.data.toList chk F s) b t rv mc mt w (slB w.heap.size)):=by
 have H:=Qab h;have HO:=Qab ho;have aD:=h.at_.lt;clear h ho;go_enter func170,ntmps170;go_wp2_with fail;refine(QgI b w.heap.size 1 1 [[91]] t s rv mc mt _ (H.o.alloc _) (QbB w [[91]] _ _ rfl) rfl (by decide)).mono ?_;intro e w1 h1;rcases h1.cases with⟨y,v,hy,rfl,hv,hc,hm⟩ | ⟨f,hf,⟨bb,hz,rfl,ae⟩,hm⟩
 rotate_left
 ·exact⟨rfl,Qap.err (Qjg hf) (((Mod.refl b w).alloc _).trans hm) ⟨bb,by simp at hz;omega,rfl,ae⟩⟩
 have HM:=Qab (((Mod.refl b w).alloc _).trans hm);have HY:=Qab hy;have HC:=Qab hc;unfold Qj9 at hv;subst hv;clear h1 hy hc hm;by_cases h0:y.1=0
 ·have H0:=Qab h0;have aQ:((y.1:Int)==0)=true:=by simp;omega
  clear h0;go_wp2_with fail;refine(HO.o _ y.2 HM.o HC.o).mono ?_;intro e w2 h2;rcases h2.cases with⟨z,v,ar,rfl,hv,hc,hm⟩ | ⟨f,hf,⟨bb,hz,rfl,ae⟩,hm⟩
  rotate_left
  ·exact⟨rfl,Qap.err (Qe2 HY.o hf) (HM.o.trans hm) ⟨bb,Nat.le_trans HM.o.size hz,rfl,ae⟩⟩
  unfold Qsa at hv;subst hv;have H2:=Qab ar;have aq:=Qab hc;have au:=Qab hm;clear h2 ar hc hm;go_wp2;go_ret;refine Qap.ok (Ql0 HY.o H2.o H0.o) ((HM.o.trans au.o).alloc _) ?_ (aq.o.alloc _);have h1:=HM.o.size;have h2:=au.o.size;exact⟨w2.heap.size,1,rfl,by omega,QbB w2 [z.1] _ _ rfl,by simp⟩
 ·have H0:=Qab h0;have aQ:((y.1:Int)==0)=false:=by simp;omega
  clear h0;go_wp2_with fail;refine(HO.o _ y.2 HM.o HC.o).mono ?_;intro e w2 h2;rcases h2.cases with⟨z,v,ar,rfl,hv,hc,hm⟩ | ⟨f,hf,⟨bb,hz,rfl,ae⟩,hm⟩
  rotate_left
  ·exact⟨rfl,Qap.err (Qe2 HY.o hf) (HM.o.trans hm) ⟨bb,Nat.le_trans HM.o.size hz,rfl,ae⟩⟩
  unfold Qsa at hv;subst hv;have H2:=Qab ar;have aq:=Qab hc;have au:=Qab hm;clear h2 ar hc hm;obtain⟨i0,hi,a1,a0,aU⟩:=info_parts Tryz.infoStr;have ad:=QdJ (l:=t.data.toList) (by simpa using HC.o.le) H2.o;have af:=Qik (l:=t.data.toList) (zs:=[[91]]) (by simpa using H.o.le) H.o.e0 (by decide) HY.o;rw[bal]at af ad;replace af:=af.1;replace ad:=ad.1;have az:=aq.o.mu_le;have aY:w.heap.size<=w2.heap.size:=Nat.le_trans HM.o.size au.o.size;go_wp2_with fail
  go_loopw [5] (fun v wr=>∃(s':PS) (ah:List (L8)) (f:Nat),wr.ownsRow w.heap.size 9 1 v ah.length (QaD ah)/\ah≠[]/\RC wr b t s' rv mc mt/\Mod b w wr/\mu t.size s'<f/\ah.length+mu t.size s'<=1300/\sLs t.data.toList chk F s=moreL t.data.toList chk f ah s') (fun _ wr=>muW wr b t.size)
  case atStart=>
   refine⟨z.2,[z.1],F,?_,by simp,aq.o.alloc _,(HM.o.trans au.o).alloc _,by omega,by simp;omega,QkQ HY.o H2.o H0.o⟩;exact World.ownsRow_lit (e:=9) (size:=1) w2 #[.string (sA z.1)] 1 aY (by unfold maxLen;omega) rfl
  case round=>
   obtain⟨s',ah,f,av,a3,aI,ak,hf,hbd,aJ⟩:=hrel;obtain⟨f,rfl⟩:∃ g,f=g+1:=⟨f - 1,by omega⟩;have HR:=Qab aI;have aL:=Qab ak;have ax:=Qab aJ;have a2:=Qab av;have hwr:w.heap.size<=wr.heap.size:=ak.size;clear aI ak aJ av HC aq HY H2 af ad az;go_wp2_with fail;refine(QcF b wr.heap.size 2 2 [[44],[93]] t s' rv mc mt _ (HR.o.alloc _) (QbB wr [[44],[93]] _ _ rfl) rfl (by decide)).mono ?_;intro e w3 h3;rcases h3.cases with⟨y3,v3,ay,rfl,aM,aG,ap⟩ | ⟨f3,aW,⟨bb,hz,rfl,ae⟩,ap⟩
   rotate_left
   ·exact⟨rfl,Qap.err (ax.o.trans (Qla aW)) ((aL.o.alloc _).trans ap) ⟨bb,by simp at hz;omega,rfl,ae⟩⟩
   have ai:=QhQ (l:=t.data.toList) (by simpa using HR.o.le) HR.o.e0 Quh ay;rw[bal]at ai;replace ai:=ai.1;have ao:=Qab ((aL.o.alloc _).trans ap);have aC:=Qab ay;have aA:=Qab aG;have aE:=Qab (Qbe (a2.o.alloc _) ap aD);unfold Qj9 at aM;subst aM;clear h3 ay aG ap;by_cases h1:y3.1=1;rotate_left
   ·have aT:((y3.1:Int)==1)=false:=by simp;omega
    have H1:=Qab h1;clear h1;go_wp2;go_ret;exact Qap.ok (ax.o.trans (QsR aC.o H1.o)) ao.o (slB.of_owns aE.o rfl a3) aA.o
   have aT:((y3.1:Int)==1)=true:=by simp;omega
   have H1:=Qab h1;clear h1;go_wp2_with fail;refine(HO.o _ y3.2 ao.o aA.o).mono ?_;intro e w4 h4;rcases h4.cases with⟨z4,v4,aB,rfl,aH,aK,aw⟩ | ⟨f4,aP,⟨bb,hz,rfl,ae⟩,aw⟩
   rotate_left
   ·exact⟨rfl,Qap.err (ax.o.trans (Qm2 aC.o H1.o aP)) (ao.o.trans aw) ⟨bb,Nat.le_trans ao.o.size hz,rfl,ae⟩⟩
   have aj:=QdJ (l:=t.data.toList) (by simpa using aA.o.le) aB;rw[bal]at aj;replace aj:=aj.1;unfold Qsa at aH;subst aH;have aN:=Qab (ao.o.trans aw);have aR:=Qab aB;have aZ:=Qab aK;have ab:=Qbe aE.o aw aD;have hw4:w.heap.size<=w4.heap.size:=aN.o.size;clear h4 aB aK aw;go_wp2_with (at_builtin;refine wpList_append_own _ rfl _ _ 89 rfl w.heap.size 9 i0 (.string ⟨#[]⟩) 1 16 underlying89 hi a1 a0 aU rfl (by decide) _ _ _ rfl (ab.alloc _) ⟨w4.heap.size,0,none⟩ 1 1 [.string (sA z4.1)] rfl rfl ?c1 ?c2 ?c3 ?c4 ?c5 ?_)
   case c1=>
    intro j u hj
    match j,hj with
    |0,hj=>simp at hj;subst hj;simp[Addr.add]
   case c2=>intro u hu;simp at hu;subst hu;rfl
   case c3=>unfold maxLen;omega
   case c4=>omega
   case c5=>simp;omega
   ·intro v' w5 aa ac _;have ag:∀ k,(u5).ownBlock=some k->w.heap.size<=k:=fun k hk=>(ab.lt k hk).1
    have aS:=Qab ((aN.o.alloc (Obj.cells #[.string (sA z4.1)] 9)).grown ac ag);have aF:=Qab ((aZ.o.alloc (Obj.cells #[.string (sA z4.1)] 9)).grown ac (fun k hk=>by have:=ag k hk;omega));rw[Qb4]at aa;have aX:=Qab aa;have aO:muW w5 b t.size<muW wr b t.size:=by rw[aF.o.muEq,HR.o.muEq];omega
    have aV:=Qab aO;clear aa ac ab ag aO;go_wp2;go_roundw
    case rel=>exact⟨z4.2,ah++[z4.1],f,by simpa using aX.o,by simp,aF.o,aS.o,by omega,by simp;omega,ax.o.trans (Qvu aC.o H1.o aR.o)⟩
    case measure=>exact aV.o
theorem QaI{w w':World}{b g:Nat}{o:Obj}(h:w.heap[g]?=some o)(hm:Mod b w w')(hn:g≠b):w'.heap[g]?=some o:=by
 rw[hm.block g (Qar h) hn];exact h
theorem QlO(w:World):Calls Tryz.prog 208 #[] w fun e w'=>e=.returned (.slice (some ⟨w.heap.size,0,none⟩) 3 3)/\w'=w.alloc (.cells (QaD [tIs,Qax,QaM]).toArray 9):=by
 go_enter func208,ntmps208;go_wp2;go_ret;exact⟨rfl,rfl⟩
theorem QnL(w:World):Calls Tryz.prog 162 #[] w fun e w'=>e=.returned (.slice (some ⟨w.heap.size,0,none⟩) 3 3)/\w'=w.alloc (.cells (QaD [Qdc,Qc9,Qch]).toArray 9):=by
 go_enter func162,ntmps162;go_wp2;go_ret;exact⟨rfl,rfl⟩
theorem QmB(w:World):Calls Tryz.prog 173 #[] w fun e w'=>e=.returned (.slice (some ⟨w.heap.size,0,none⟩) 2 2)/\w'=w.alloc (.cells (QaD [QfE,Qdl]).toArray 9):=by
 go_enter func173,ntmps173;go_wp2;go_ret;exact⟨rfl,rfl⟩
theorem Mod.setNew{b:Nat}{u w:World}(h:Mod b u w){g:Nat}(hg:u.heap.size<=g)(o:Nat)(v:Value):Mod b u (w.setCell ⟨g,o,none⟩ v):=
 ⟨h.os,h.tape,h.output,by have:=h.size;simpa[World.setCell]using this,fun k hk hn=>(Below.heap_setCell _ _ _ _ (by show k≠g;omega)).trans (h.block k hk hn)⟩
theorem RC.setNew{w:World}{b:Nat}{t:ByteArray}{s:PS}{rv:Value}{mc mt:Nat}(h:RC w b t s rv mc mt){g:Nat}(hg:b<g)(o:Nat)(v:Value):RC (w.setCell ⟨g,o,none⟩ v) b t s rv mc mt:=by
 have h1:=h.b1;refine⟨?_,h.le,?_,h.b1,h.hs,h.sz,h.e0,h.nm⟩
 ·unfold RAt;rw[Below.heap_setCell _ _ _ _ (by show b≠g;omega)];exact h.at_
 ·obtain⟨m,hm⟩:=h.m;exact⟨m,by rw[World.cell?_of_block (w:=w) (a:=⟨1,0,none⟩) (Below.heap_setCell _ _ _ _ (by show 1≠g;omega))];exact hm⟩
theorem QeN{w:World}{g g':Nat}{o:Obj}(h:w.heap[g]?=some o)(hn:g≠g')(k:Nat)(v:Value):(w.setCell ⟨g',k,none⟩ v).heap[g]?=some o:=by
 rw[Below.heap_setCell _ _ _ _ hn];exact h
theorem QoQ{l:L8}{f tag:Nat}{oct aa:Bool}{s:PS}(h:¬ wL [tIs,Qax,QaM] s.1.spelt=0)(ht:¬ tag=0):Qfi l (f+1) tag oct aa s=.error ⟨7,s.1.pos⟩:=by
 rw[Qfi,if_neg h,if_neg ht]
theorem Qm6{l:L8}{f tag:Nat}{oct aa:Bool}{s:PS}{e:Flt}(h:¬ wL [tIs,Qax,QaM] s.1.spelt=0)(ht:tag=0)(hn:nL l s.2=.error e):Qfi l (f+1) tag oct aa s=.error e:=by
 rw[Qfi,if_neg h,if_pos ht,Qcb,hn]
theorem QuP{l:L8}{f tag:Nat}{oct aa:Bool}{s y:PS}(h:¬ wL [tIs,Qax,QaM] s.1.spelt=0)(ht:tag=0)(hn:nL l s.2=.ok y):Qfi l (f+1) tag oct aa s=Qfi l f (wL [tIs,Qax,QaM] s.1.spelt) oct aa y:=by
 rw[Qfi,if_neg h,if_pos ht,Qcb,hn]
theorem Quq{l:L8}{f tag:Nat}{oct aa:Bool}{s:PS}(h:wL [tIs,Qax,QaM] s.1.spelt=0)(h2:wL [QaJ] s.1.spelt=0):Qfi l (f+1) tag oct aa s=.ok ((max tag 1,oct),s):=by
 rw[Qfi,if_pos h,if_pos h2]
theorem QoE{l:L8}{f tag:Nat}{oct:Bool}{s:PS}(h:wL [tIs,Qax,QaM] s.1.spelt=0)(h2:¬ wL [QaJ] s.1.spelt=0):Qfi l (f+1) tag oct true s=.error ⟨7,s.1.pos⟩:=by
 rw[Qfi,if_pos h,if_neg h2,if_pos rfl]
theorem QnH{l:L8}{f tag:Nat}{oct:Bool}{s:PS}{e:Flt}(h:wL [tIs,Qax,QaM] s.1.spelt=0)(h2:¬ wL [QaJ] s.1.spelt=0)(hn:nL l s.2=.error e):Qfi l (f+1) tag oct false s=.error e:=by
 rw[Qfi,if_pos h,if_neg h2,if_neg (by decide),Qcb,hn]
theorem Qon{l:L8}{f tag:Nat}{oct:Bool}{s y:PS}{e:Flt}(h:wL [tIs,Qax,QaM] s.1.spelt=0)(h2:¬ wL [QaJ] s.1.spelt=0)(hn:nL l s.2=.ok y)(hs:sL l (Qcm 7 [Qc2,QdC]) y=.error e):Qfi l (f+1) tag oct false s=.error e:=by
 rw[Qfi,if_pos h,if_neg h2,if_neg (by decide),Qa2 hn];exact Qae hs
theorem QvM{l:L8}{f tag:Nat}{oct:Bool}{s y:PS}{z:L8×PS}(h:wL [tIs,Qax,QaM] s.1.spelt=0)(h2:¬ wL [QaJ] s.1.spelt=0)(hn:nL l s.2=.ok y)(hs:sL l (Qcm 7 [Qc2,QdC]) y=.ok z):Qfi l (f+1) tag oct false s=Qfi l f tag (decide (z.1=Qc2)) true z.2:=by
 rw[Qfi,if_pos h,if_neg h2,if_neg (by decide),Qa2 hn];exact Qad hs
theorem Qvn:∀ z∈[tIs,Qax,QaM],z≠[]:=by decide
theorem QwT:∀ z∈[QaJ],z≠[]:=by decide
theorem Qge{zs:List (L8)}{s:PS}(hz:∀ z∈zs,z≠[])(he:s.1.kind=0->s.1.spelt=[])(h:¬ wL zs s.1.spelt=0):¬ s.1.kind=0:=fun e=>h (by rw[he e];exact QdP zs hz)
def Qht (hw:L8) (hp tag:Nat) (oct:Bool):Array Value:=#[.string (sA hw),.int .i64 hp,.int .i64 tag,.bool oct,.slice none 0 0,.slice none 0 0]
def Qys (hw:L8) (hp:Nat) (o:Nat×Bool) (_:World) (v:Value):Prop:=v=.agg (Qht hw hp o.1 o.2)
theorem QoI(hw:L8)(hp:Nat)(b F:Nat)(t:ByteArray)(s:PS)(rv:Value)(mc mt:Nat)(w:World)(h:RC w b t s rv mc mt)(hF:mu t.size s<F) :
 Calls Tryz.prog 169 #[.pointer (some ⟨b,0,none⟩),.agg #[.string (sA hw),.int .i64 hp]] w (Qap (Qfi t.data.toList F 0 false false s) b t rv mc mt w (Qys hw hp)):=by
 have H:=Qab h;have hlt:=h.at_.lt;clear h;go_enter func169,ntmps169;go_wp2_with fail
 go_loopw [6,7] (fun c6 _ wr=>∃(s':PS) (aa:Nat) (ac av:Bool) (f:Nat),c6=.bool av/\wr.heap[w.heap.size+1+1]?=some (.cells (Qht hw hp aa ac) 211)/\wr.heap[w.heap.size+1]?=some (.cells #[.string ⟨#[]⟩,.int .i64 0,.int .i64 0,.bool false,.slice none 0 0,.slice none 0 0] 211)/\RC wr b t s' rv mc mt/\Mod b w wr/\mu t.size s'<f/\aa<=3/\Qfi t.data.toList F 0 false false s=Qfi t.data.toList f aa ac av s') (fun _ _ wr=>muW wr b t.size)
 case atStart=>
  refine⟨s,0,false,false,F,rfl,?_,?_,((H.o.alloc _).alloc _).alloc _,(((Mod.refl b w).alloc _).alloc _).alloc _,hF,by omega,rfl⟩
  ·exact Qaq (by simp)
  ·exact Qac (Qaq (by simp))
 case round=>
  obtain⟨s',aa,ac,av,f,rfl,hM,hR,aw,ay,hf,aN,aT⟩:=hrel;obtain⟨f,rfl⟩:∃ g,f=g+1:=⟨f - 1,by omega⟩;have HR:=Qab aw;have aU:=Qab ay;have ag:=Qab aT;have HM:=Qab hM;have aP:=Qab hR;have hwr:w.heap.size+1+1<wr.heap.size:=Qar hM;have aL:=Qab (Qgi b wr.heap.size 3 3 [tIs,Qax,QaM] t s'.1 s'.2 rv mc mt _ (aw.alloc (.cells (QaD [tIs,Qax,QaM]).toArray 9)).at_ (QbB wr [tIs,Qax,QaM] _ _ rfl) rfl (by decide));have ak:=QbC [tIs,Qax,QaM] s'.1.spelt;have bc:=Qab (Qge (zs:=[tIs,Qax,QaM]) (s:=s') Qvn aw.e0);have a2:=Qab (Qge (zs:=[QaJ]) (s:=s') QwT aw.e0);clear aw ay aT hM hR;go_wp2_with (go_at_call 208;refine(QlO _).mono ?_;rintro e w' ⟨rfl,rfl⟩);refine aL.o.mono ?_;rintro e w' ⟨rfl,rfl⟩;by_cases h1:wL [tIs,Qax,QaM] s'.1.spelt=0
  ·have H1:=Qab h1;have a1:¬(0:Int)<(wL [tIs,Qax,QaM] s'.1.spelt:Int):=by omega
   obtain⟨W,hW⟩:∃ W,W=wr.alloc (.cells (QaD [tIs,Qax,QaM]).toArray 9):=⟨_,rfl⟩;rw[<-hW];have ar:Hid (RC W b t s' rv mc mt):=by rw[hW];exact HR.o.alloc _
   have ah:Hid (Mod b w W):=by rw[hW];exact aU.o.alloc _
   have az:Hid (W.heap[w.heap.size+1+1]?=some (.cells (Qht hw hp aa ac) 211)):=by rw[hW];exact Qac HM.o
   have aE:Hid (W.heap[w.heap.size+1]?=some (.cells #[.string ⟨#[]⟩,.int .i64 0,.int .i64 0,.bool false,.slice none 0 0,.slice none 0 0] 211)):=by rw[hW];exact Qac aP.o
   have hzW:w.heap.size+1+1<W.heap.size:=Qar az.o;have aR:=Qab (Qgi b W.heap.size 1 1 [QaJ] t s'.1 s'.2 rv mc mt _ (ar.o.alloc (.cells (QaD [QaJ]).toArray 9)).at_ (QbB W [QaJ] _ _ rfl) rfl (by decide));have hle2:=QbC [QaJ] s'.1.spelt;clear h1 aL hW ak;go_wp2_with fail;refine aR.o.mono ?_;rintro e w' ⟨rfl,aO⟩;subst aO;obtain⟨V,hV⟩:∃ V,V=W.alloc (.cells (QaD [QaJ]).toArray 9):=⟨_,rfl⟩;rw[<-hV];have aB:Hid (RC V b t s' rv mc mt):=by rw[hV];exact ar.o.alloc _
   have ap:Hid (Mod b w V):=by rw[hV];exact ah.o.alloc _
   have ad:Hid (V.heap[w.heap.size+1+1]?=some (.cells (Qht hw hp aa ac) 211)):=by rw[hV];exact Qac az.o
   have af:Hid (V.heap[w.heap.size+1]?=some (.cells #[.string ⟨#[]⟩,.int .i64 0,.int .i64 0,.bool false,.slice none 0 0,.slice none 0 0] 211)):=by rw[hV];exact Qac aE.o
   have hzV:w.heap.size+1+1<V.heap.size:=Qar ad.o;clear hV aR;by_cases h2:wL [QaJ] s'.1.spelt=0
   ·have H2:=Qab h2;have aZ:¬(0:Int)<(wL [QaJ] s'.1.spelt:Int):=by omega
    have m0:V.cell? ⟨w.heap.size+1+1,0,none⟩=some (.string (sA hw)):=Qaa ad.o 0;have m1:V.cell? ⟨w.heap.size+1+1,1,none⟩=some (.int .i64 hp):=Qaa ad.o 1;have m2:V.cell? ⟨w.heap.size+1+1,2,none⟩=some (.int .i64 aa):=Qaa ad.o 2;have m3:V.cell? ⟨w.heap.size+1+1,3,none⟩=some (.bool ac):=Qaa ad.o 3;have m4:V.cell? ⟨w.heap.size+1+1,4,none⟩=some (.slice none 0 0):=Qaa ad.o 4;have m5:V.cell? ⟨w.heap.size+1+1,5,none⟩=some (.slice none 0 0):=Qaa ad.o 5;have mf:=Qah ad.o;have r0:V.cell? ⟨w.heap.size+1,0,none⟩=some (.string ⟨#[]⟩):=Qaa af.o 0;have r1:V.cell? ⟨w.heap.size+1,1,none⟩=some (.int .i64 0):=Qaa af.o 1;have r2:V.cell? ⟨w.heap.size+1,2,none⟩=some (.int .i64 0):=Qaa af.o 2;have r3:V.cell? ⟨w.heap.size+1,3,none⟩=some (.bool false):=Qaa af.o 3;have r4:V.cell? ⟨w.heap.size+1,4,none⟩=some (.slice none 0 0):=Qaa af.o 4;have r5:V.cell? ⟨w.heap.size+1,5,none⟩=some (.slice none 0 0):=Qaa af.o 5;have rf:=Qah af.o;clear h2;go_wp2;have ab:b<w.heap.size+1:=by omega
    have ai:b<w.heap.size+1+1:=by omega
    have aq:w.heap.size<=w.heap.size+1:=by omega
    have a7:w.heap.size<=w.heap.size+1+1:=by omega
    refine bodyPost_ret (v:=.agg #[.string (sA hw),.int .i64 hp,.int .i64 (max (aa:Int) 1),.bool ac,.slice none 0 0,.slice none 0 0]) (by simp[results,results169,go_sem,r0,r1,r2,r3,r4,r5]) rfl (Qap.ok (ag.o.trans (Quq H1.o H2.o)) (((((((ap.o.setNew a7 _ _).setNew aq _ _).setNew aq _ _).setNew aq _ _).setNew aq _ _).setNew aq _ _).setNew aq _ _) ?_ (((((((aB.o.setNew ai _ _).setNew ab _ _).setNew ab _ _).setNew ab _ _).setNew ab _ _).setNew ab _ _).setNew ab _ _));unfold Qys Qht;have:(max (aa:Int) 1)=((max aa 1:Nat):Int):=by omega
    rw[this]
   ·have H2:=Qab h2;have aZ:(0:Int)<(wL [QaJ] s'.1.spelt:Int):=by omega
    clear h2;cases av;rotate_left
    ·go_wp2_with fail;refine(Qa7 b 7 _ _ t s'.1 s'.2 rv mc mt _ aB.o.at_ rfl rfl).mono ?_;rintro e w1 ⟨⟨bb,hz,rfl,ae⟩,hm⟩;exact⟨rfl,Qap.err (ag.o.trans (QoE H1.o H2.o)) (ap.o.trans (Mod.of_below hm)) ⟨bb,Nat.le_trans ap.o.size hz,rfl,ae⟩⟩
    go_wp2_with fail;refine(Qay b _ _ _ rfl).mono ?_;rintro e w' ⟨rfl,aO⟩;subst aO;go_wp2_with fail;refine(QcD b t s' rv mc mt _ aB.o).mono ?_;rintro e w2 (⟨y,hy,rfl,hc,hm⟩ | ⟨f2,ax,⟨bb,hz,rfl,ae⟩,hm⟩);rotate_left
    ·exact⟨rfl,Qap.err (ag.o.trans (QnH H1.o H2.o ax)) (ap.o.trans hm) ⟨bb,Nat.le_trans ap.o.size hz,rfl,ae⟩⟩
    have aC:=Qeb (l:=t.data.toList) (s:=s') (by simpa using aB.o.le) (a2.o H2.o) hy;rw[bal]at aC;have aJ:=Qab (ap.o.trans hm);have aI:=Qab hc;have aA:=Qab (QaI ad.o hm (by omega));have aH:=Qab (QaI af.o hm (by omega));have hz2:w.heap.size+1+1<w2.heap.size:=Qar aA.o;have HY:=Qab hy;clear hc hm hy;go_wp2_with (go_at_call 117;refine(Qi0 _ _ _ _ _).mono ?_;rintro e w' ⟨rfl,rfl⟩);obtain⟨U,hU⟩:∃ U,U=((w2.alloc (.cells #[.string ⟨#[105,59,111,99,116,101,116]⟩,.string ⟨#[105,59,97,115,99,105,105,45,99,97,115,101,109,97,112]⟩] 9)).alloc (.cells #[.int .i64 7] 30)).alloc (.cells #[.slice (some ⟨w2.heap.size,0,none⟩) 2 2] 89):=⟨_,rfl⟩
    have a9:Hid (Qi7 U (w2.heap.size+1+1) (w2.heap.size+1) w2.heap.size 2 2 7 [Qc2,QdC]):=by
     rw[hU];refine⟨?_,?_,?_,rfl,by decide⟩
     ·exact Qaa (Qaq (by simp)) 0
     ·exact Qaa (Qac (Qaq (by simp))) 0
     ·exact((QbB w2 [Qc2,QdC] _ _ rfl).below ((Below.refl _ _).alloc (Nat.le_refl _) _)).below ((Below.refl _ _).alloc (Nat.le_refl _) _)
    have aS:Hid (RC U b t y rv mc mt):=by rw[hU];exact((aI.o.alloc _).alloc _).alloc _
    have aG:Hid (Mod b w U):=by rw[hU];exact((aJ.o.alloc _).alloc _).alloc _
    have aW:Hid (U.heap[w.heap.size+1+1]?=some (.cells (Qht hw hp aa ac) 211)):=by rw[hU];exact Qac (Qac (Qac aA.o))
    have a6:Hid (U.heap[w.heap.size+1]?=some (.cells #[.string ⟨#[]⟩,.int .i64 0,.int .i64 0,.bool false,.slice none 0 0,.slice none 0 0] 211)):=by rw[hU];exact Qac (Qac (Qac aH.o))
    rw[<-hU];clear hU;refine(Qhw (w2.heap.size+1+1) (w2.heap.size+1) w2.heap.size 2 2 7 [Qc2,QdC] b t y rv mc mt _ aS.o a9.o).mono ?_;intro e w3 h3;rcases h3.cases with⟨z,v,aD,rfl,hv,aQ,ao⟩ | ⟨f3,a8,⟨bb,hz,rfl,ae⟩,ao⟩
    rotate_left
    ·exact⟨rfl,Qap.err (ag.o.trans (Qon H1.o H2.o HY.o a8)) (aG.o.trans ao) ⟨bb,Nat.le_trans aG.o.size hz,rfl,ae⟩⟩
    unfold Qsa at hv;subst hv;have aj:=QdJ (l:=t.data.toList) (by simpa using aS.o.le) aD;rw[bal]at aj;replace aj:=aj.1;have aX:=Qab (aG.o.trans ao);have a4:=Qab aQ;have aK:=Qab (QaI aW.o ao (by omega));have a5:=Qab (QaI a6.o ao (by omega));have bd:=Qab aD;have m3:w3.cell? ⟨w.heap.size+1+1,3,none⟩=some (.bool ac):=Qaa aK.o 3;have mf:=Qah aK.o;clear h3 aD aQ ao;have ai:b<w.heap.size+1+1:=by omega
    go_wp2;have aM:((sA z.1).toList==[105,59,111,99,116,101,116])=decide (z.1=Qc2):=QcV z.1 Qc2;rw[aM];have au:=a4.o.setNew ai 3 (.bool (decide (z.1=Qc2)));refine⟨⟨z.2,aa,decide (z.1=Qc2),true,f,rfl,Qag _ _ _ _ _ _ aK.o,QeN a5.o (by omega) _ _,au,aX.o.setNew (by omega) _ _,by omega,aN,ag.o.trans (QvM H1.o H2.o HY.o bd.o)⟩,?_⟩;rw[au.muEq,HR.o.muEq];omega
  ·have H1:=Qab h1;have a1:(0:Int)<(wL [tIs,Qax,QaM] s'.1.spelt:Int):=by omega
   have ba:(wr.alloc (.cells (QaD [tIs,Qax,QaM]).toArray 9)).cell? ⟨w.heap.size+1+1,2,none⟩=some (.int .i64 aa):=Qaa (Qac HM.o) 2;have ax:(wr.alloc (.cells (QaD [tIs,Qax,QaM]).toArray 9)).frozen? ⟨w.heap.size+1+1,2,none⟩=false:=Qah (Qac HM.o) 2;have aY:(wL [tIs,Qax,QaM] s'.1.spelt)<=3:=ak;obtain⟨W,hW⟩:∃ W,W=wr.alloc (.cells (QaD [tIs,Qax,QaM]).toArray 9):=⟨_,rfl⟩;rw[<-hW]at ba ax ⊢;have ar:Hid (RC W b t s' rv mc mt):=by rw[hW];exact HR.o.alloc _
   have ah:Hid (Mod b w W):=by rw[hW];exact aU.o.alloc _
   have az:Hid (W.heap[w.heap.size+1+1]?=some (.cells (Qht hw hp aa ac) 211)):=by rw[hW];exact Qac HM.o
   have aE:Hid (W.heap[w.heap.size+1]?=some (.cells #[.string ⟨#[]⟩,.int .i64 0,.int .i64 0,.bool false,.slice none 0 0,.slice none 0 0] 211)):=by rw[hW];exact Qac aP.o
   have HZ:Hid (w.heap.size<=W.heap.size):=ah.o.size;clear h1 aL hW ak;by_cases ht:aa=0
   ·have a0:((aa:Int)==0)=true:=by simp;omega
    have HT:=Qab ht;clear ht;go_wp2_with fail;refine(Qay b _ _ _ rfl).mono ?_;rintro e w' ⟨rfl,rfl⟩;go_wp2_with fail;have a3:b<w.heap.size+1+1:=by omega
    have hsz:=ah.o.size;refine(QcD b t s' rv mc mt _ (ar.o.setNew a3 _ _)).mono ?_;rintro e w2 (⟨y,hy,rfl,hc,hm⟩ | ⟨f2,ax,⟨bb,hz,rfl,ae⟩,hm⟩);rotate_left
    ·exact⟨rfl,Qap.err (ag.o.trans (Qm6 H1.o HT.o ax)) ((ah.o.setNew (by omega) _ _).trans hm) ⟨bb,Nat.le_trans (ah.o.setNew (by omega) _ _).size hz,rfl,ae⟩⟩
    have aC:=Qeb (l:=t.data.toList) (s:=s') (by simpa using ar.o.le) (bc.o H1.o) hy;rw[bal]at aC;have aV:muW w2 b t.size<muW wr b t.size:=by rw[hc.muEq,HR.o.muEq];exact aC
    have aF:=Qab aV;have aI:=Qab hc;have aJ:=Qab ((ah.o.setNew (g:=w.heap.size+1+1) (by omega) 2 (.int .i64 (wL [tIs,Qax,QaM] s'.1.spelt))).trans hm);have aA:=Qab (QaI (b:=b) (g:=w.heap.size+1+1) (Qag _ (w.heap.size+1+1) 2 (.int .i64 (wL [tIs,Qax,QaM] s'.1.spelt)) _ _ az.o) hm (by omega));have aH:=Qab (QaI (QeN aE.o (by omega:w.heap.size+1≠w.heap.size+1+1) 2 (.int .i64 (wL [tIs,Qax,QaM] s'.1.spelt))) hm (by omega));have HY:=Qab hy;clear hc hm aV hy;go_wp2;go_roundw
    case rel=>exact⟨y,wL [tIs,Qax,QaM] s'.1.spelt,ac,av,f,rfl,aA.o,aH.o,aI.o,aJ.o,by omega,aY,ag.o.trans (QuP H1.o HT.o HY.o)⟩
    case measure=>exact aF.o
   ·have a0:((aa:Int)==0)=false:=by simp;omega
    have HT:=Qab ht;clear ht;go_wp2_with fail;refine(Qa7 b 7 _ _ t s'.1 s'.2 rv mc mt _ ar.o.at_ rfl rfl).mono ?_;rintro e w1 ⟨⟨bb,hz,rfl,ae⟩,hm⟩;exact⟨rfl,Qap.err (ag.o.trans (QoQ H1.o HT.o)) (ah.o.trans (Mod.of_below hm)) ⟨bb,Nat.le_trans HZ.o hz,rfl,ae⟩⟩
theorem Qjy.mod{w w':World}{b:Nat}{t:ByteArray}{rv:Value}{mc mt:Nat}{cv:Value}{chk:L8->Nat}(h:Qjy w b t rv mc mt cv chk)(hm:Mod b w w'):Qjy w' b t rv mc mt cv chk:=
 fun W s hW hr=>h W s (hm.trans hW) hr
theorem Qgg(w:World)(b:Nat)(t:ByteArray)(rv:Value)(mc mt:Nat):Qjy w b t rv mc mt (.func (.func 114) #[] #[]) (fun _=>0):=
 fun W s _ hr=>Qdw b t s rv mc mt W hr
def mtV (B:Nat) (hw:L8) (x:Qec) (w:World) (v:Value):Prop:=
 ∃ fv kv,v=.agg #[.string (sA hw),.int .i64 x.pos,.int .i64 x.tag,.bool x.octet,fv,kv]∧slB B x.fr w fv∧slB B x.keys w kv
theorem RC.mu_lt{w:World}{b:Nat}{t:ByteArray}{s:PS}{rv:Value}{mc mt:Nat}(h:RC w b t s rv mc mt){F:Nat}(hF:2*t.size+1<F):mu t.size s<F:=by
 unfold mu;split<;>omega
theorem Qi9(cv:Value)(chk:L8->Nat)(k:Nat)(hw:L8)(hp:Nat)(b F:Nat)(t:ByteArray)(s:PS)(rv:Value)(mc mt:Nat)(w:World)(h:RC w b t s rv mc mt)(ho:Qjy w b t rv mc mt cv chk)(hF:2*t.size+1<F) :
 Calls Tryz.prog 113 #[.pointer (some ⟨b,0,none⟩),.agg #[.string (sA hw),.int .i64 hp],cv] w (Qap (QbQ t.data.toList F chk k hp s) b t rv mc mt w (mtV w.heap.size hw)):=by
 have H:=Qab h;have HO:=Qab ho;have hlt:=h.at_.lt;clear h ho;go_enter func113,ntmps113;go_wp2_with fail;have av:=Qab (((Mod.refl b w).alloc (.cells #[.string (sA hw),.int .i64 hp] 200)).alloc (.cells #[.string ⟨#[]⟩,.int .i64 0,.int .i64 0,.bool false,.slice none 0 0,.slice none 0 0] 211));refine(QoI hw hp b F t s rv mc mt _ ((H.o.alloc _).alloc _) (H.o.mu_lt hF)).mono ?_;intro e w1 h1;rcases h1.cases with⟨o,v,hy,rfl,hv,hc,hm⟩ | ⟨f,hf,⟨bb,hz,rfl,aj⟩,hm⟩
 rotate_left
 ·exact⟨rfl,Qap.err (Qae hf) (av.o.trans hm) ⟨bb,Nat.le_trans av.o.size hz,rfl,aj⟩⟩
 unfold Qys Qht at hv;subst hv;have HY:=Qab hy;have HC:=Qab hc;have aD:=Qab (av.o.trans hm);have ar:=Qab (QaI (g:=w.heap.size+1) (o:=.cells #[.string ⟨#[]⟩,.int .i64 0,.int .i64 0,.bool false,.slice none 0 0,.slice none 0 0] 211) (Qaq (by simp)) hm (by omega));have hz1:w.heap.size+1<w1.heap.size:=Qar ar.o;clear h1 hy hc hm;go_wp2_with fail;obtain⟨V,hV⟩:∃ V,V=w1.alloc (.cells #[.string (sA hw),.int .i64 hp,.int .i64 o.1.1,.bool o.1.2,.slice none 0 0,.slice none 0 0] 211):=⟨_,rfl⟩;have aA:Hid (RC V b t o.2 rv mc mt):=by rw[hV];exact HC.o.alloc _
 have ak:Hid (Mod b w V):=by rw[hV];exact aD.o.alloc _
 have aO:Hid (V.heap[w.heap.size+1]?=some (.cells #[.string ⟨#[]⟩,.int .i64 0,.int .i64 0,.bool false,.slice none 0 0,.slice none 0 0] 211)):=by rw[hV];exact Qac ar.o
 have aG:Hid (V.heap[w1.heap.size]?=some (.cells #[.string (sA hw),.int .i64 hp,.int .i64 o.1.1,.bool o.1.2,.slice none 0 0,.slice none 0 0] 211)):=by rw[hV];exact Qam _ _
 rw[<-hV];have aB:w1.heap.size<V.heap.size:=Qar aG.o;generalize w1.heap.size=M at *;clear hV HC aD ar;refine(Qef cv chk b F t o.2 rv mc mt V aA.o (HO.o.mod ak.o) (aA.o.mu_lt hF)).mono ?_;intro e w2 h2;rcases h2.cases with⟨y2,v2,aF,rfl,aC,aK,af⟩ | ⟨f,hf,⟨bb,hz,rfl,aj⟩,af⟩
 rotate_left
 ·exact⟨rfl,Qap.err ((Qad HY.o).trans (Qae hf)) (ak.o.trans af) ⟨bb,Nat.le_trans ak.o.size hz,rfl,aj⟩⟩
 have au:=aC;obtain⟨g2,n2,c2,rfl⟩:=au.form;have aN:=Qab au;have aJ:=Qab aF;have aP:=Qab aK;have aR:=Qab (ak.o.trans af);have aU:=Qab (QaI aO.o af (by omega));have ab:=Qab (QaI aG.o af (by omega));have hzM2:M<w2.heap.size:=Qar ab.o;have m4:w2.cell? ⟨M,4,none⟩=some (.slice none 0 0):=Qaa ab.o 4;have mf:=Qah ab.o;have aH:b<M:=by omega
 have hwM:w.heap.size+1<M:=by omega
 clear h2 aF aK af au aC;go_wp2_with fail;obtain⟨U,hU⟩:∃ U,U=w2.setCell ⟨M,4,none⟩ (.slice (some ⟨g2,0,none⟩) n2 c2):=⟨_,rfl⟩;have aE:Hid (RC U b t y2.2 rv mc mt):=by rw[hU];exact aP.o.setNew aH _ _
 have ao:Hid (Mod b w U):=by rw[hU];exact aR.o.setNew (by omega) _ _
 have aS:Hid (U.heap[w.heap.size+1]?=some (.cells #[.string ⟨#[]⟩,.int .i64 0,.int .i64 0,.bool false,.slice none 0 0,.slice none 0 0] 211)):=by rw[hU];exact QeN aU.o (by omega) _ _
 have ax:Hid (U.heap[M]?=some (.cells #[.string (sA hw),.int .i64 hp,.int .i64 o.1.1,.bool o.1.2,.slice (some ⟨g2,0,none⟩) n2 c2,.slice none 0 0] 211)):=by rw[hU];exact Qag _ _ _ _ _ _ ab.o
 have aV:Hid (slB V.heap.size y2.1 U (.slice (some ⟨g2,0,none⟩) n2 c2)):=by
  rw[hU];exact aN.o.keep (Abv.set aB _ _)
 rw[<-hU];clear hU mf m4;have aL:M<U.heap.size:=Qar ax.o;refine(Qef (.func (.func 114) #[] #[]) (fun _=>0) b F t y2.2 rv mc mt U aE.o (Qgg _ _ _ _ _ _) (aE.o.mu_lt hF)).mono ?_;intro e w3 h3;rcases h3.cases with⟨y3,v3,ay,rfl,aI,az,ad⟩ | ⟨f,hf,⟨bb,hz,rfl,aj⟩,ad⟩
 rotate_left
 ·exact⟨rfl,Qap.err ((Qad HY.o).trans ((Qad aJ.o).trans (Qae hf))) (ao.o.trans ad) ⟨bb,Nat.le_trans ao.o.size hz,rfl,aj⟩⟩
 have ap:=aI;obtain⟨g3,n3,c3,rfl⟩:=ap.form;have aT:=Qab ap;have aq:=Qab (aV.o.keep (ad.abv (by omega)));have aW:=Qab ay;have aQ:=Qab az;have aM:=Qab (ao.o.trans ad);have ac:=Qab (QaI aS.o ad (by omega));have aa:=Qab (QaI ax.o ad (by omega));have m0:w3.cell? ⟨M,0,none⟩=some (.string (sA hw)):=Qaa aa.o 0;have m1:w3.cell? ⟨M,1,none⟩=some (.int .i64 hp):=Qaa aa.o 1;have m2:w3.cell? ⟨M,2,none⟩=some (.int .i64 o.1.1):=Qaa aa.o 2;have m3:w3.cell? ⟨M,3,none⟩=some (.bool o.1.2):=Qaa aa.o 3;have m4:w3.cell? ⟨M,4,none⟩=some (.slice (some ⟨g2,0,none⟩) n2 c2):=Qaa aa.o 4;have m5:w3.cell? ⟨M,5,none⟩=some (.slice none 0 0):=Qaa aa.o 5;have mf:=Qah aa.o;have r0:w3.cell? ⟨w.heap.size+1,0,none⟩=some (.string ⟨#[]⟩):=Qaa ac.o 0;have r1:w3.cell? ⟨w.heap.size+1,1,none⟩=some (.int .i64 0):=Qaa ac.o 1;have r2:w3.cell? ⟨w.heap.size+1,2,none⟩=some (.int .i64 0):=Qaa ac.o 2;have r3:w3.cell? ⟨w.heap.size+1,3,none⟩=some (.bool false):=Qaa ac.o 3;have r4:w3.cell? ⟨w.heap.size+1,4,none⟩=some (.slice none 0 0):=Qaa ac.o 4;have r5:w3.cell? ⟨w.heap.size+1,5,none⟩=some (.slice none 0 0):=Qaa ac.o 5;have rf:=Qah ac.o;have hne:¬ M=w.heap.size+1:=by omega
 have hne':¬ w.heap.size+1=M:=by omega
 clear h3 ay az ad ap aI;go_wp2;have ae:b<w.heap.size+1:=by omega
 have ag:w.heap.size<=w.heap.size+1:=by omega
 have aw:w.heap.size<=M:=by omega
 have ai:w.heap.size+1<V.heap.size:=by omega
 have ah:w.heap.size+1<U.heap.size:=by omega
 refine bodyPost_ret (v:=.agg #[.string (sA hw),.int .i64 hp,.int .i64 o.1.1,.bool o.1.2,.slice (some ⟨g2,0,none⟩) n2 c2,.slice (some ⟨g3,0,none⟩) n3 c3]) (by simp[results,results113,go_sem,r0,r1,r2,r3,r4,r5]) rfl (Qap.ok ((Qad HY.o).trans ((Qad aJ.o).trans (Qad aW.o))) (((((((aM.o.setNew aw _ _).setNew ag _ _).setNew ag _ _).setNew ag _ _).setNew ag _ _).setNew ag _ _).setNew ag _ _) ⟨_,_,rfl,?_,?_⟩ (((((((aQ.o.setNew aH _ _).setNew ae _ _).setNew ae _ _).setNew ae _ _).setNew ae _ _).setNew ae _ _).setNew ae _ _))
 ·exact(((((((aq.o.keep (Abv.set aB _ _)).keep (Abv.set ai _ _)).keep (Abv.set ai _ _)).keep (Abv.set ai _ _)).keep (Abv.set ai _ _)).keep (Abv.set ai _ _)).keep (Abv.set ai _ _)).weak (by omega)
 ·exact(((((((aT.o.keep (Abv.set aL _ _)).keep (Abv.set ah _ _)).keep (Abv.set ah _ _)).keep (Abv.set ah _ _)).keep (Abv.set ah _ _)).keep (Abv.set ah _ _)).keep (Abv.set ah _ _)).weak (by omega)
end
section
open Go.RowKit
attribute [local go_sem ↓] Go.wp_at_zero Go.wp_at_succ
def Qcj (hw:L8) (hp:Nat):Value:=.agg #[.string (sA hw),.int .i64 hp]
def Qno (w:World) (pr b:Nat):Prop:=w.cell? ⟨pr,0,none⟩=some (.pointer (some ⟨b,0,none⟩))∧pr≠b
theorem Qno.mod{w w':World}{pr b:Nat}(h:Qno w pr b)(hm:Mod b w w'):Qno w' pr b:=
 ⟨by rw[hm.cell (p:=⟨pr,0,none⟩) (Qau h.1) h.2];exact h.1,h.2⟩
theorem Qno.lt{w:World}{pr b:Nat}(h:Qno w pr b):pr<w.heap.size:=Qau (a:=⟨pr,0,none⟩) h.1
theorem Qko(hw:L8)(hp:Nat)(d:Int)(pt:Nat)(B:Bool)(w:World)(h:w.cell? ⟨pt,0,none⟩=some (.bool B)) :
 Calls Tryz.prog 167 #[Qcj hw hp,.int .i64 d,.pointer (some ⟨pt,0,none⟩)] w fun e w'=>e=.returned (.iface 278 (.agg #[.string (sA hw),.int .i64 hp,.bool B]))/\Below w.heap.size w w':=by
 have aa:=Qau h;have h':(w.alloc (.cells #[.string (sA hw),.int .i64 hp] 200)).cell? ⟨pt,0,none⟩=some (.bool B):=by rw[World.cell?_alloc_past _ _ _ aa];exact h
 unfold Qcj;go_enter func167,ntmps167;go_wp2;go_ret;exact⟨rfl,(Below.refl _ _).alloc (Nat.le_refl _) _⟩
theorem Qq8(hw:L8)(hp:Nat)(d:Int)(pr:Nat)(b F:Nat)(t:ByteArray)(s:PS)(rv:Value)(mc mt:Nat)(w:World)(h:RC w b t s rv mc mt)(ab:Qno w pr b)(hF:2*t.size+1<F) :
 Calls Tryz.prog 112 #[Qcj hw hp,.int .i64 d,.pointer (some ⟨pr,0,none⟩)] w (Qap (QbQ t.data.toList F (fun _=>0) 5 hp s) b t rv mc mt w (fun x w' v=>∃ u,v=.iface 215 u/\mtV w.heap.size hw x w' u)):=by
 have ae:=ab.lt;have h':(w.alloc (.cells #[.string (sA hw),.int .i64 hp] 200)).cell? ⟨pr,0,none⟩=some (.pointer (some ⟨b,0,none⟩)):=by rw[World.cell?_alloc_past _ _ _ ae];exact ab.1
 have H:=Qab h;clear h ab;unfold Qcj;go_enter func112,ntmps112;go_wp2_with fail;refine(Qi9 _ (fun _=>0) 5 hw hp b F t s rv mc mt _ (H.o.alloc _) (Qgg _ _ _ _ _ _) hF).mono ?_;intro e w1 h1;rcases h1.cases with⟨y,v,hy,rfl,⟨fv,kv,rfl,aa,ac⟩,hc,hm⟩ | ⟨f,hf,⟨bb,hz,rfl,ag⟩,hm⟩
 rotate_left
 ·exact⟨rfl,Qap.err hf (((Mod.refl b w).alloc _).trans hm) ⟨bb,by simp at hz;omega,rfl,ag⟩⟩
 have HY:=Qab hy;have HC:=Qab hc;have HM:=Qab (((Mod.refl b w).alloc _).trans hm);have af:=Qab (aa.weak (B':=w.heap.size) (by simp));have ad:=Qab (ac.weak (B':=w.heap.size) (by simp));clear h1 hy hc hm;obtain⟨g1,n1,c1,rfl⟩:=aa.form;obtain⟨g2,n2,c2,rfl⟩:=ac.form;clear aa ac;go_wp2;go_ret;exact Qap.ok HY.o HM.o ⟨_,rfl,_,_,rfl,af.o,ad.o⟩ HC.o
theorem Qn4(hw:L8)(hp:Nat)(d:Int)(pr:Nat)(b F:Nat)(t:ByteArray)(s:PS)(rv:Value)(mc mt:Nat)(w:World)(h:RC w b t s rv mc mt)(ab:Qno w pr b)(hF:2*t.size+1<F) :
 Calls Tryz.prog 118 #[Qcj hw hp,.int .i64 d,.pointer (some ⟨pr,0,none⟩)] w (Qap (QbQ t.data.toList F (fun _=>0) 7 hp s) b t rv mc mt w (fun x w' v=>∃ u,v=.iface 219 u/\mtV w.heap.size hw x w' u)):=by
 have ae:=ab.lt;have h':(w.alloc (.cells #[.string (sA hw),.int .i64 hp] 200)).cell? ⟨pr,0,none⟩=some (.pointer (some ⟨b,0,none⟩)):=by rw[World.cell?_alloc_past _ _ _ ae];exact ab.1
 have H:=Qab h;clear h ab;unfold Qcj;go_enter func118,ntmps118;go_wp2_with fail;refine(Qi9 _ (fun _=>0) 7 hw hp b F t s rv mc mt _ (H.o.alloc _) (Qgg _ _ _ _ _ _) hF).mono ?_;intro e w1 h1;rcases h1.cases with⟨y,v,hy,rfl,⟨fv,kv,rfl,aa,ac⟩,hc,hm⟩ | ⟨f,hf,⟨bb,hz,rfl,ag⟩,hm⟩
 rotate_left
 ·exact⟨rfl,Qap.err hf (((Mod.refl b w).alloc _).trans hm) ⟨bb,by simp at hz;omega,rfl,ag⟩⟩
 have HY:=Qab hy;have HC:=Qab hc;have HM:=Qab (((Mod.refl b w).alloc _).trans hm);have af:=Qab (aa.weak (B':=w.heap.size) (by simp));have ad:=Qab (ac.weak (B':=w.heap.size) (by simp));clear h1 hy hc hm;obtain⟨g1,n1,c1,rfl⟩:=aa.form;obtain⟨g2,n2,c2,rfl⟩:=ac.form;clear aa ac;go_wp2;go_ret;exact Qap.ok HY.o HM.o ⟨_,rfl,_,_,rfl,af.o,ad.o⟩ HC.o
theorem Tryz.infoByteE:(Tryz.prog.info? 5).map (fun i=>(i.zero,i.size,i.bytes))=some (some (.int .u8 0),1,1):=by kernel_rfl
theorem Tryz.sizeBuilderE:(Tryz.prog.info? 309).map (fun i=>i.size)=some 2:=by kernel_rfl
theorem Qls(b:Nat)(w:World)(h0:w.cell? ⟨b,0,none⟩=some (.pointer none))(aa:w.shape? b=some (309,2))(hfz:w.frozen? ⟨b,0,none⟩=false) :
 Calls Tryz.prog 236 #[.pointer (some ⟨b,0,none⟩)] w fun e w'=>e=.returned (.tuple #[])/\w'=w.setCell ⟨b,0,none⟩ (.pointer (some ⟨b,0,none⟩)):=by
 obtain⟨j,hj,ab⟩:=Option.map_eq_some_iff.1 Tryz.sizeBuilderE;go_enter func236,ntmps236;go_wp2;rw[Lib.run_to_unsafe w ⟨b,0,none⟩ underlying307 underlying110 hj (by rw[ab];decide) aa (Nat.zero_lt_succ 1)];simp only[Result.andThen];rw[Oper.upon_value];go_wp2;rw[run_callFunc_extern func258 (by kernel_rfl) (by kernel_rfl) (by kernel_rfl) (e:=Extern.AbiNoEscape.same) (by kernel_rfl)];rw[Lib.run_noEscape];simp only[Result.andThen];rw[Oper.upon_value];go_wp2;rw[Lib.run_from_unsafe w ⟨b,0,none⟩ underlying110 underlying307 hj aa (by kernel_rfl)];simp only[Result.andThen];rw[Oper.upon_value];go_wp2;go_end0;exact⟨rfl,rfl⟩
theorem Qld(b:Nat)(w:World)(h0:w.cell? ⟨b,0,none⟩=some (.pointer (some ⟨b,0,none⟩))) :
 Calls Tryz.prog 236 #[.pointer (some ⟨b,0,none⟩)] w fun e w'=>e=.returned (.tuple #[])/\w'=w:=by
 obtain⟨j,hj,_⟩:=Option.map_eq_some_iff.1 Tryz.sizeBuilderE;go_enter func236,ntmps236;go_wp2;rw[Lib.run_neq_ptr_same w _ underlying307 hj];go_wp2;go_end0;exact⟨rfl,rfl⟩
theorem Qk8(B b:Nat)(bs:List Value)(w:World)(h:Lib.IsBuilder 309 5 B b bs w) :
 Calls Tryz.prog 236 #[.pointer (some ⟨b,0,none⟩)] w fun e w'=>e=.returned (.tuple #[])/\Lib.BuilderAt 309 5 B b (.pointer (some ⟨b,0,none⟩)) bs w'/\Below B w w':=by
 rcases h with h|h
 ·refine(Qls b w h.cell0 h.shape h.frozen0).mono ?_;rintro e w' ⟨rfl,rfl⟩;exact⟨rfl,h.used _,(Below.refl B w).setCell (p:=⟨b,0,none⟩) h.1 _⟩
 ·refine(Qld b w h.cell0).mono ?_;rintro e w' ⟨rfl,rfl⟩;exact⟨rfl,h,Below.refl B _⟩
theorem Qe1(B b:Nat)(bs:List Value)(s:ByteArray)(w:World)(h:Lib.IsBuilder 309 5 B b bs w)(hlen:bs.length+s.size<=140737488355328)(hBw:B<=w.heap.size) :
 Calls Tryz.prog 198 #[.pointer (some ⟨b,0,none⟩),.string s] w fun e w'=>e=.returned (.tuple #[.int .i64 s.size,.nilIface])/\Lib.BuilderAt 309 5 B b (.pointer (some ⟨b,0,none⟩)) (bs++Lib.strCells s) w'/\Below B w w':=by
 obtain⟨i0,hi,ak,aj,ai⟩:=info_parts Tryz.infoByteE;go_enter func198,ntmps198;go_wp2_with (go_at_call 236;refine(Qk8 B b bs _ h).mono ?_);rintro e w1 ⟨rfl,h1,ag⟩;obtain⟨hB,v,ad,ac,ap⟩:=h1;have c0:w1.cell? ⟨b,0,none⟩=some (.pointer (some ⟨b,0,none⟩)):=by rw[Lib.cell_of_heap ad];rfl
 have c1:w1.cell? ⟨b,1,none⟩=some v:=by rw[Lib.cell_of_heap ad];rfl
 have hs1:=ag.size;go_wp2_with (at_builtin;refine Lib.wpList_append_own_string _ rfl _ _ 244 9 rfl B 5 i0 underlying244 underlying9 hi ak aj ai _ _ _ rfl ac s rfl (by unfold maxLen;omega) (by omega) (by omega) ?_);intro v' w2 aa ab _;have ah:b<w1.heap.size:=Qar ad
 have ae:w2.heap[b]?=some (.cells #[.pointer (some ⟨b,0,none⟩),v] 309 (0,0)):=by
  rw[ab.block b ah (fun e=>ap e.symm)];exact ad
 have d0:w2.cell? ⟨b,0,none⟩=some (.pointer (some ⟨b,0,none⟩)):=by rw[Lib.cell_of_heap ae];rfl
 have d1:w2.cell? ⟨b,1,none⟩=some v:=by rw[Lib.cell_of_heap ae];rfl
 have f1:w2.frozen? ⟨b,1,none⟩=false:=Lib.frozen_of_heap ae 1
 obtain⟨ao,n',af,rfl⟩:∃ ao n' af,v'=.slice ao n' af:=by
  rcases aa.2 with⟨hv,_⟩ | ⟨g,af,cur,hv,_⟩
  ·exact⟨_,_,_,hv⟩
  ·exact⟨_,_,_,hv⟩
 go_wp2;go_ret2;refine⟨rfl,?_,?_⟩
 ·exact Lib.BuilderAt.put (T:=309) (e:=5) hB ae (bs':=bs++Lib.strCells s) (by simpa[Lib.strCells_length]using aa) (by decide)
 ·exact(ag.grown ab (by omega) (fun k hk=>(ac.lt k hk).1)).setCell (p:=⟨b,1,none⟩) hB _
end
section
open Go.RowKit
def Qce (ps:List (Nat×UInt8)):List Value:=ps.flatMap fun p=>[.int .i64 p.1,.int .u8 p.2.toNat]
theorem Qdr(ps:List (Nat×UInt8))(p:Nat×UInt8):Qce ps++[.int .i64 p.1,.int .u8 p.2.toNat]=Qce (ps++[p]):=by simp[Qce]
theorem Tryz.infoPiece:(Tryz.prog.info? 350).map (fun i=>(i.zero,i.size,i.bytes))=some (some (.agg #[.int .i64 0,.int .u8 0]),2,16):=by kernel_rfl
theorem Qiv(s:ByteArray)(k:Nat)(h:k<s.size):pcL (s.data.toList.drop k) =
 if s[k]=42 then(2,0)::pcL (s.data.toList.drop (k+1))else if s[k]=63 then(1,0)::pcL (s.data.toList.drop (k+1))
 else if h:s[k]=92/\k+1<s.size then(0,s[k+1])::pcL (s.data.toList.drop (k+2))else(0,s[k])::pcL (s.data.toList.drop (k+1)):=by
 rw[Qbf s k h];by_cases h2:k+1<s.size
 ·rw[Qbf s (k+1) h2,pcL];by_cases a1:s[k]=42
  ·simp[a1]
  by_cases a2:s[k]=63
  ·simp[a1,a2]
  by_cases a3:s[k]=92
  ·simp[a1,a2,a3,h2]
  ·simp[a1,a2,a3,h2]
 ·rw[List.drop_of_length_le (by simpa using h2)];simp only[pcL];rw[dif_neg (by omega)];split
  ·rfl
  ·split<;>rfl
theorem QiO(w:World)(x y:Value)(t:TypeId):∀ j u,[x,y][j]?=some u->(w.alloc (.cells #[x,y] t)).cell? ((⟨w.heap.size,0,none⟩:Addr).add j)=some u:=by
 intro j u hj
 match j,hj with
 |0,hj=>simp at hj;subst hj;simp[Addr.add]
 |1,hj=>simp at hj;subst hj;simp[Addr.add]
theorem QiL(a b:Int):∀ u∈[Value.int .i64 a,Value.int .u8 b],u.oneCell'=true:=by
 intro u hu;simp at hu;rcases hu with rfl|rfl<;>rfl
theorem Qbs{B:Nat}{u w w':World}{o:Obj}{row:Option Nat}(h:Below B u w)(hB:B<=w.heap.size)(hg:(w.alloc o).grownBy w' row)(hr:∀ k,row=some k->B<=k):Below B u w':=by
 have ha:=h.alloc hB o
 exact ⟨hg.os.trans ha.os,hg.tape.trans ha.tape,hg.output.trans ha.output,Nat.le_trans ha.size hg.size,fun k hk=>by
  rw[hg.block k (by simp;omega) (fun e=>by have:=hr k e.symm;omega)]
  exact ha.block k hk⟩
theorem QhT(c d:UInt8):((c.toNat:Int)==(d.toNat:Int))=decide (c=d):=by
 by_cases h:c=d
 ·subst h;simp
 ·rw[decide_eq_false h];simp;intro e;exact h (UInt8.toNat_inj.1 (by omega))
theorem Qi1(s:ByteArray)(w:World)(hs:s.size<=4294967280) :
 Calls Tryz.prog 223 #[.string s] w fun e w'=>∃ v,e=.returned v/\w'.ownsRow w.heap.size 350 2 v (pcL s.data.toList).length (Qce (pcL s.data.toList))/\Below w.heap.size w w':=by
 obtain⟨i0,hi,aq,ap,aj⟩:=info_parts Tryz.infoPiece;go_enter func223,ntmps223;go_wp2_with fail
 go_loopw [3,4] (fun l i wr=>∃(k:Nat) (ac:List (Nat×UInt8)),k<=s.size/\i=.int .i64 k/\wr.ownsRow w.heap.size 350 2 l ac.length (Qce ac)/\Below w.heap.size w wr/\ac.length<=k/\pcL s.data.toList=ac++pcL (s.data.toList.drop k)) (fun _ i _=>s.size - (intOf i).toNat)
 case atStart=>exact⟨0,[],by omega,rfl,World.ownsRow_nil _ _ _ _,Below.refl _ _,Nat.le_refl _,rfl⟩
 case round=>
  obtain⟨k,ac,hk,rfl,ao,hB,hal,au⟩:=hrel;have ah:=Qab au;have HB:=Qab hB;have ak:w.heap.size<=wr.heap.size:=hB.size;clear au hB;by_cases hlt:k<s.size;rotate_left
  ·have aw:k=s.size:=by omega
   subst aw;have HD:Hid (pcL (s.data.toList.drop s.size)=[]):=by show _=_;rw[List.drop_of_length_le (by simp)];rfl
   go_wp2;go_ret;refine⟨_,rfl,?_,HB.o⟩;rw[ah.o,HD.o,List.append_nil];exact ao
  have ag:=Qab (Qiv s k hlt);have ad:=Qab ao;have hub:=UInt8.toNat_lt s[k];have av:((s[k].toNat:Int)==42)=decide (s[k]=42):=QhT s[k] 42;have ar:((s[k].toNat:Int)==63)=decide (s[k]=63):=QhT s[k] 63;have ai:((s[k].toNat:Int)==92)=decide (s[k]=92):=QhT s[k] 92;by_cases a1:s[k]=42
  ·rw[decide_eq_true a1]at av;have HP:Hid (pcL (s.data.toList.drop k)=(2,0)::pcL (s.data.toList.drop (k+1))):=by show _=_;rw[ag.o,if_pos a1]
   clear ag a1 ar ai;go_wp2_with (at_builtin;refine wpList_append_own _ rfl _ _ 328 rfl w.heap.size 350 i0 _ 2 16 underlying328 hi aq ap aj rfl (by decide) _ _ _ rfl (ad.o.alloc _) ⟨wr.heap.size,0,none⟩ 1 1 [.int .i64 2,.int .u8 0] rfl rfl (QiO _ _ _ _) (QiL _ _) ?c3 ?c4 ?c5 ?_)
   case c3=>unfold maxLen;omega
   case c4=>omega
   case c5=>first|(simp;omega)|omega
   intro v' w5 aa ab _;have ae:=Qab (Qbs HB.o ak ab (fun k hk=>(ad.o.lt k hk).1));rw[show Qce ac++[.int .i64 2,.int .u8 0]=Qce (ac++[(2,0)])from Qdr ac (2,0)]at aa;have af:=Qab aa;clear aa ab;go_wp2;go_roundw
   case rel=>exact⟨k+1,ac++[(2,0)],by omega,by go_num,by simpa using af.o,ae.o,by simp;omega,by rw[ah.o,HP.o];simp⟩
   case measure=>simp[intOf];omega
  rw[decide_eq_false a1]at av;by_cases a2:s[k]=63
  ·rw[decide_eq_true a2]at ar;have HP:Hid (pcL (s.data.toList.drop k)=(1,0)::pcL (s.data.toList.drop (k+1))):=by show _=_;rw[ag.o,if_neg a1,if_pos a2]
   clear ag a1 a2 ai;go_wp2_with (at_builtin;refine wpList_append_own _ rfl _ _ 328 rfl w.heap.size 350 i0 _ 2 16 underlying328 hi aq ap aj rfl (by decide) _ _ _ rfl (ad.o.alloc _) ⟨wr.heap.size,0,none⟩ 1 1 [.int .i64 1,.int .u8 0] rfl rfl (QiO _ _ _ _) (QiL _ _) ?c3 ?c4 ?c5 ?_)
   case c3=>unfold maxLen;omega
   case c4=>omega
   case c5=>first|(simp;omega)|omega
   intro v' w5 aa ab _;have ae:=Qab (Qbs HB.o ak ab (fun k hk=>(ad.o.lt k hk).1));rw[show Qce ac++[.int .i64 1,.int .u8 0]=Qce (ac++[(1,0)])from Qdr ac (1,0)]at aa;have af:=Qab aa;clear aa ab;go_wp2;go_roundw
   case rel=>exact⟨k+1,ac++[(1,0)],by omega,by go_num,by simpa using af.o,ae.o,by simp;omega,by rw[ah.o,HP.o];simp⟩
   case measure=>simp[intOf];omega
  rw[decide_eq_false a2]at ar;by_cases a3:s[k]=92/\k+1<s.size
  ·rw[decide_eq_true a3.1]at ai;have h2:=a3.2;have ax:((k:Int)+1<(s.size:Int)):=by omega
   have HP:Hid (pcL (s.data.toList.drop k)=(0,s[k+1])::pcL (s.data.toList.drop (k+2))):=by show _=_;rw[ag.o,if_neg a1,if_neg a2,dif_pos a3]
   clear ag a1 a2 a3;go_wp2_with (at_builtin;refine wpList_append_own _ rfl _ _ 328 rfl w.heap.size 350 i0 _ 2 16 underlying328 hi aq ap aj rfl (by decide) _ _ _ rfl (ad.o.alloc _) ⟨wr.heap.size,0,none⟩ 1 1 [.int .i64 0,.int .u8 s[k+1].toNat] rfl rfl (QiO _ _ _ _) (QiL _ _) ?c3 ?c4 ?c5 ?_)
   case c3=>unfold maxLen;omega
   case c4=>omega
   case c5=>first|(simp;omega)|omega
   intro v' w5 aa ab _;have ae:=Qab (Qbs HB.o ak ab (fun k hk=>(ad.o.lt k hk).1));rw[show Qce ac++[.int .i64 0,.int .u8 s[k+1].toNat]=Qce (ac++[(0,s[k+1])])from Qdr ac (0,s[k+1])]at aa;have af:=Qab aa;clear aa ab;go_wp2;go_roundw
   case rel=>exact⟨k+2,ac++[(0,s[k+1])],by omega,by go_num,by simpa using af.o,ae.o,by simp;omega,by rw[ah.o,HP.o];simp⟩
   case measure=>simp[intOf];omega
  have HP:Hid (pcL (s.data.toList.drop k)=(0,s[k])::pcL (s.data.toList.drop (k+1))):=by show _=_;rw[ag.o,if_neg a1,if_neg a2,dif_neg a3]
  clear ag;by_cases a4:s[k]=92
  ·have h2:¬ k+1<s.size:=fun h=>a3 ⟨a4,h⟩
   have ax:¬((k:Int)+1<(s.size:Int)):=by omega
   rw[decide_eq_true a4]at ai;clear a1 a2 a3 a4;go_wp2_with (at_builtin;refine wpList_append_own _ rfl _ _ 328 rfl w.heap.size 350 i0 _ 2 16 underlying328 hi aq ap aj rfl (by decide) _ _ _ rfl (ad.o.alloc _) ⟨wr.heap.size,0,none⟩ 1 1 [.int .i64 0,.int .u8 s[k].toNat] rfl rfl (QiO _ _ _ _) (QiL _ _) ?c3 ?c4 ?c5 ?_)
   case c3=>unfold maxLen;omega
   case c4=>omega
   case c5=>first|(simp;omega)|omega
   intro v' w5 aa ab _;have ae:=Qab (Qbs HB.o ak ab (fun k hk=>(ad.o.lt k hk).1));rw[show Qce ac++[.int .i64 0,.int .u8 s[k].toNat]=Qce (ac++[(0,s[k])])from Qdr ac (0,s[k])]at aa;have af:=Qab aa;clear aa ab;go_wp2;go_roundw
   case rel=>exact⟨k+1,ac++[(0,s[k])],by omega,by go_num,by simpa using af.o,ae.o,by simp;omega,by rw[ah.o,HP.o];simp⟩
   case measure=>simp[intOf];omega
  ·rw[decide_eq_false a4]at ai;clear a1 a2 a3 a4;go_wp2_with (at_builtin;refine wpList_append_own _ rfl _ _ 328 rfl w.heap.size 350 i0 _ 2 16 underlying328 hi aq ap aj rfl (by decide) _ _ _ rfl (ad.o.alloc _) ⟨wr.heap.size,0,none⟩ 1 1 [.int .i64 0,.int .u8 s[k].toNat] rfl rfl (QiO _ _ _ _) (QiL _ _) ?c3 ?c4 ?c5 ?_)
   case c3=>unfold maxLen;omega
   case c4=>omega
   case c5=>first|(simp;omega)|omega
   intro v' w5 aa ab _;have ae:=Qab (Qbs HB.o ak ab (fun k hk=>(ad.o.lt k hk).1));rw[show Qce ac++[.int .i64 0,.int .u8 s[k].toNat]=Qce (ac++[(0,s[k])])from Qdr ac (0,s[k])]at aa;have af:=Qab aa;clear aa ab;go_wp2;go_roundw
   case rel=>exact⟨k+1,ac++[(0,s[k])],by omega,by go_num,by simpa using af.o,ae.o,by simp;omega,by rw[ah.o,HP.o];simp⟩
   case measure=>simp[intOf];omega
end
section
open Go.RowKit
attribute [local go_sem ↓] Go.wp_at_zero Go.wp_at_succ
theorem Qhb(a b:Nat):((a:Int)==(b:Int))=(a==b):=by
 by_cases h:a=b
 ·subst h;simp
 ·have h':¬(a:Int)=(b:Int):=by omega
  rw[beq_eq_false_iff_ne.2 h,beq_eq_false_iff_ne.2 h']
theorem Tryz.infoInt:(Tryz.prog.info? 3).map (fun i=>(i.zero,i.size,i.bytes))=some (some (.int .i64 0),1,8):=by kernel_rfl
def Qex (pl:List Nat):Array Value:=(pl.map fun (n:Nat)=>Value.int .i64 (n:Int)).toArray
theorem QiM(pl:List Nat)(k a:Nat):(Qex pl).setIfInBounds k (.int .i64 (a:Int))=Qex (pl.set k a):=by
 unfold Qex;rw[List.setIfInBounds_toArray,List.map_set]
theorem QrK(n:Nat):madeCells (Value.cells (.int .i64 0)) (n*1)=Qex (List.replicate n 0):=by
 apply Array.ext
 ·rw[size_madeCells];simp[Qex]
 ·intro i h1 h2;have hi:i<n:=by rw[size_madeCells]at h1;omega
  have e1:(Qex (List.replicate n 0))[i]=.int .i64 0:=by simp[Qex]
  rw[e1];simp only[madeCells,Array.getElem_map,Array.getElem_range];have:i % (Value.cells (.int .i64 0)).size=0:=Nat.mod_one _;rw[this];rfl
def Qxx (w:World) (g:Nat) (key:List (Nat×UInt8)):Prop:=
 ∀ j (hj:j < key.length),w.cell? ⟨g,j*2,none⟩=some (.int .i64 key[j].1)∧w.cell? ⟨g,j*2+1,none⟩=some (.int .u8 key[j].2.toNat)
theorem Qnt(aa:List (Nat×UInt8))(j:Nat)(hj:j<aa.length):(Qce aa)[j*2]?=some (.int .i64 aa[j].1)/\(Qce aa)[j*2+1]?=some (.int .u8 aa[j].2.toNat):=by
 induction aa generalizing j with
 |nil=>exact absurd hj (Nat.not_lt_zero _)
 |cons p r ih=>
  cases j with
  |zero=>exact⟨rfl,rfl⟩
  |succ j=>
   have:=ih j (by simpa using hj);have e:Qce (p::r)=.int .i64 p.1 :: .int .u8 p.2.toNat::Qce r:=rfl;have e1:(j+1)*2=j*2+1+1:=by omega
   have e2:(j+1)*2+1=(j*2+1)+1+1:=by omega
   rw[e,e1,List.getElem?_cons_succ,List.getElem?_cons_succ,List.getElem?_cons_succ,List.getElem?_cons_succ];exact this
theorem Qxx.of_owns{w:World}{base g n c:Nat}{aa:List (Nat×UInt8)}(h:w.ownsRow base 350 2 (.slice (some ⟨g,0,none⟩) n c) n (Qce aa)):Qxx w g aa:=fun j hj=>by
 have h1:=h.cells (g:=g) rfl (j*2) _ (Qnt aa j hj).1;have h2:=h.cells (g:=g) rfl (j*2+1) _ (Qnt aa j hj).2;rw[Qbu]at h1 h2;exact⟨h1,h2⟩
def Qwi (p:Nat×UInt8):Value:=.agg #[.int .i64 p.1,.int .u8 p.2.toNat]
theorem Qie(p:Nat×UInt8)(c:UInt8)(w:World) :
 Calls Tryz.prog 245 #[Qwi p,.int .u8 c.toNat] w fun e w'=>e=.returned (.bool (Qfr p c))/\Below w.heap.size w w':=by
 unfold Qwi;have e1:((p.1:Int)==1)=(p.1==1):=Qhb p.1 1;have e0:((p.1:Int)==0)=(p.1==0):=Qhb p.1 0;have ec:((p.2.toNat:Int)==(c.toNat:Int))=(p.2==c):=QhT p.2 c;have HT:Hid (Qfr p c=(p.1==1 || (p.1==0&&p.2==c))):=rfl;generalize (p.1==1)=b1 at *;generalize (p.1==0)=b0 at *;generalize (p.2==c)=bc at *
 cases b1<;>cases b0<;>cases bc <;>
 (go_enter func245,ntmps245
  go_wp2;go_ret
  exact ⟨QaF (by rw [HT.o];rfl),(Below.refl _ _).alloc (Nat.le_refl _) _⟩)
theorem Qdh:∀(l:L8),∀ p∈pcL l,p.1=2->p=(2,0)
 | [],p,hp,_=>by cases hp
 | [c],p,hp,h=>by
  simp only[pcL,List.mem_singleton]at hp;subst hp
  split at h
  ·next hc=>rw[if_pos hc]
  ·next hc=>
   split at h
   ·exact absurd h (fun e=>by cases e)
   ·exact absurd h (fun e=>by cases e)
 |c::d::r,p,hp,h=>by
  rw[pcL]at hp
  split at hp
  ·rcases List.mem_cons.1 hp with rfl|hp
   ·rfl
   ·exact Qdh (d::r) p hp h
  ·split at hp
   ·rcases List.mem_cons.1 hp with rfl|hp
    ·exact absurd h (fun e=>by cases e)
    ·exact Qdh (d::r) p hp h
   ·split at hp
    ·rcases List.mem_cons.1 hp with rfl|hp
     ·exact absurd h (fun e=>by cases e)
     ·exact Qdh r p hp h
    ·rcases List.mem_cons.1 hp with rfl|hp
     ·exact absurd h (fun e=>by cases e)
     ·exact Qdh (d::r) p hp h
theorem QbF{B:Nat}{u w:World}{n:Nat}(h:Below B u w):Below B u (w.drewN n):=⟨h.os,h.tape,h.output,h.size,h.block⟩
theorem Qft{a b:Int}(h:a=b):Value.int .i64 a=Value.int .i64 b:=by rw[h]
theorem Qgf{v:L8}{aa:List (Nat×UInt8)}{i1 i2 i3 j1 j2 j3:Int}{x1 x2 x3 y1 y2 y3:Nat}(h:QhI v aa x1 x2 x3<QhI v aa y1 y2 y3)(a1:i1=x1)(a2:i2=x2)(a3:i3=x3)(b1:j1=y1)(b2:j2=y2)(b3:j3=y3):QhI v aa i1.toNat i2.toNat i3.toNat<QhI v aa j1.toNat j2.toNat j3.toNat:=by
 subst a1 a2 a3 b1 b2 b3;exact h
def Qw3 (key:List (Nat×UInt8)) (v:L8) (B:Nat) (e:Ending) (w':World):Prop:=
 (QaO key v=true∧∃ g,B≤g∧e=.returned (.tuple #[.slice (some ⟨g,0,none⟩) (key.length+1) (key.length+1),.bool true])∧w'.heap[g]?=some (.cells (Qex (plL key v 0)) 3))∨
 (QaO key v=false∧e=.returned (.tuple #[.slice none 0 0,.bool false]))
theorem QtF(s:ByteArray)(aa:List (Nat×UInt8))(kv:Value)(base:Nat)(w:World)(hs:s.size<=1000000)(hkl:aa.length<=1000000)(hk:w.ownsRow base 350 2 kv aa.length (Qce aa))(h2:∀ j (hj:j<aa.length),aa[j].1=2->aa[j]=(2,0)) :
 Calls Tryz.prog 224 #[.string s,kv] w fun e w'=>Qw3 aa s.data.toList w.heap.size e w'/\Below w.heap.size w w':=by
 obtain⟨ka,kc,aJ⟩:∃ ka kc,kv=.slice ka aa.length kc:=by
  rcases hk.2 with⟨h,h2⟩ | ⟨g,aF,aM,h,_⟩
  ·exact⟨none,0,by rw[h,h2]⟩
  ·exact⟨_,_,h⟩
 subst aJ
 have HK:Hid (∀ j,j<aa.length->∃ g,ka=some ⟨g,0,none⟩/\g<w.heap.size/\Qxx w g aa):=by
  intro j hj;rcases hk.2 with⟨h,h2⟩ | ⟨g,aF,aM,h,hb,hg,_⟩
  ·omega
  ·injection h with h1 h2 h3
   subst h1 h3;exact⟨g,rfl,Qar hg,Qxx.of_owns hk⟩
 obtain⟨i0,hi,aL,aK,aH⟩:=info_parts Tryz.infoInt;have av:=run_make (P:=Tryz.prog) w 330 3 i0 _ underlying330 hi aL .i64 .i64 ((aa.length:Int)+1) ((aa.length:Int)+1) (by omega) (Int.le_refl _) (by rw[aH];omega) (by omega);rw[aK,show((aa.length:Int)+1).toNat=aa.length+1 by omega,QrK]at av;obtain⟨W,hW⟩:∃ W,W=w.alloc (.cells (Qex (List.replicate (aa.length+1) 0)) 3):=⟨_,rfl⟩;have ap:W.heap[w.heap.size]?=some (.cells (Qex (List.replicate (aa.length+1) 0)) 3):=by rw[hW];exact Qam _ _
 have aD:Below w.heap.size w W:=by rw[hW];exact(Below.refl _ _).alloc (Nat.le_refl _) _
 rw[<-hW]at av
 have aI:W.cell? ⟨w.heap.size,aa.length,none⟩=some (.int .i64 0):=by
  rw[Qaa ap];simp[Qex]
 have aN:∀ j,W.frozen? ⟨w.heap.size,j,none⟩=false:=Qah ap;clear hW hk;go_enter func224,ntmps224;go_wp2_with fail
 go_loopw [4,5,6,7,8,9] (fun v4 v5 star ends at_ ki wr=>v4=.slice (some ⟨w.heap.size,0,none⟩) (aa.length+1) (aa.length+1)/\v5=.bool false/\∃(st e a k:Nat) (pl:List Nat),star=.int .i64 ((st:Int) - 1)/\ends=.int .i64 (e:Int)/\at_=.int .i64 (a:Int)/\ki=.int .i64 (k:Int)/\Qez s.data.toList aa st e a k pl/\wr.heap[w.heap.size]?=some (.cells (Qex pl) 3)/\Below w.heap.size w wr) (fun _ _ star ends at_ ki _=>QhI s.data.toList aa (intOf star+1).toNat (intOf ends).toNat (intOf at_).toNat)
 case atStart=>
  refine⟨rfl,rfl,0,0,0,0,(List.replicate (aa.length+1) 0).set aa.length s.size,rfl,rfl,rfl,rfl,Qvs _ _ _ (by simp) (by simp),?_,?_⟩
  ·rw[<-QiM];exact Qag _ _ _ _ _ _ ap
  ·exact aD.setCell (Nat.le_refl _) _
 case round=>
  obtain⟨rfl,rfl,st,e,a,k,pl,rfl,rfl,rfl,rfl,hI,ak,hB⟩:=hrel;have hkl':=hI.kl;have aG:=hI.al;have hea:=hI.ea;have hsk:=hI.sk;have ac:s.data.toList.length=s.size:=by simp
  have HI:=Qab hI;have HB:=Qab hB;have ag:=Qab ak;rw[ac]at aG;clear hI hB ak av ap aD aI aN;have pllen:=HI.o.pll
  have ab:∀ j,j<aa.length+1->∃ x,wr.cell? ⟨w.heap.size,j,none⟩=some x:=fun j hj=>by
   rw[Qaa ag.o];exact⟨_,Array.getElem?_eq_getElem (by simp[Qex];omega)⟩
  have ar:∀ j,wr.frozen? ⟨w.heap.size,j,none⟩=false:=Qah ag.o;have aq:w.heap.size<=wr.heap.size:=HB.o.size;by_cases hend:a<s.size\/k<aa.length;rotate_left
  ·have ha:¬(a:Int)<(s.size:Int):=by omega
   have aA:¬(k:Int)<(aa.length:Int):=by omega
   obtain⟨hm,ay⟩:=HI.o.yes (by rw[ac];omega) (by omega);have HM:=Qab hm;rw[ay]at ag;clear hm ay ab ar hend;go_wp2;go_ret2;exact⟨Or.inl ⟨HM.o,w.heap.size,Nat.le_refl _,rfl,ag.o⟩,HB.o⟩
  have hget:∀(ha:a<s.data.toList.length),s.data.toList[a]=s.data.toList.getD a 0:=fun ha=>by rw[List.getD_eq_getElem?_getD,List.getElem?_eq_getElem ha];rfl
  by_cases hkk:k<aa.length;rotate_left
  ·have aA:¬(k:Int)<(aa.length:Int):=by omega
   have af:a<s.size:=by omega
   have ax:(a:Int)<(s.size:Int):=by omega
   have aE:k=aa.length:=by omega
   by_cases h0:st=0
   ·have aw:¬(0:Int)<=(st:Int) - 1:=by omega
    have HN:=Qab (HI.o.never (Or.inl (by rw[ac];exact af)) (fun h=>absurd h hkk) (fun h=>absurd h hkk) (fun h=>h.1 h0));clear ab ar hend;go_wp2_with fail;go_quiet (fail)
    all_goals go_wp2_with fail
    go_ret2;exact⟨Or.inr ⟨HN.o,rfl⟩,QbF HB.o⟩
   ·have aw:(0:Int)<=(st:Int) - 1:=by omega
    have HL:=Qab (HI.o.longer h0 (by rw[ac];exact af) (Or.inl aE));have ai:=Qab (HI.o.muLonger (by rw[ac];exact af));clear ab ar hend;go_wp2_with fail;go_quiet (fail)
    all_goals go_wp2_with fail
    all_goals exact⟨⟨rfl,rfl,st,e+1,e+1,st,pl,rfl,Qft (by omega),Qft (by omega),Qft (by omega),HL.o,ag.o,QbF HB.o⟩,Qgf ai.o (by simp only[intOf];omega) (by simp only[intOf];try omega) (by simp only[intOf];try omega) (by simp only[intOf];omega) (by simp only[intOf];try omega) (by simp only[intOf];try omega)⟩
  obtain⟨g,rfl,au,aB⟩:=HK.o k hkk;obtain⟨az,aC⟩:=aB k hkk;have c1:wr.cell? ⟨g,k*2,none⟩=some (.int .i64 aa[k].1):=by rw[HB.o.cell (p:=⟨g,k*2,none⟩) au];exact az
  have c2:wr.cell? ⟨g,k*2+1,none⟩=some (.int .u8 aa[k].2.toNat):=by rw[HB.o.cell (p:=⟨g,k*2+1,none⟩) au];exact aC
  have aA:(k:Int)<(aa.length:Int):=by omega
  have ek:((aa[k].1:Int)==2)=(aa[k].1==2):=Qhb aa[k].1 2;obtain⟨x,hx⟩:=ab k (by omega);clear aB az aC;by_cases h2k:aa[k].1=2
  ·rw[beq_iff_eq.2 h2k]at ek;have HS:=Qab (HI.o.star hkk (h2 k hkk h2k));have ai:=Qab (HI.o.muStar hkk);clear ab hend;go_wp2_with fail
   all_goals exact⟨⟨rfl,rfl,k+1,a,a,k+1,pl.set k a,Qft (by omega),rfl,rfl,Qft (by omega),HS.o,by rw[<-QiM];exact Qag _ _ _ _ _ _ ag.o,HB.o.setCell (Nat.le_refl _) _⟩,Qgf ai.o (by simp only[intOf];omega) (by simp only[intOf];try omega) (by simp only[intOf];try omega) (by simp only[intOf];omega) (by simp only[intOf];try omega) (by simp only[intOf];try omega)⟩
  rw[beq_eq_false_iff_ne.2 h2k]at ek;by_cases af:a<s.size;rotate_left
  ·have ax:¬(a:Int)<(s.size:Int):=by omega
   have HN:=Qab (HI.o.never (Or.inr hkk) (fun _=>h2k) (fun _ h=>absurd h (by rw[ac];exact af)) (fun h=>af (by rw[<-ac];exact h.2)));clear ab ar hend;go_wp2_with fail;go_quiet (fail)
   all_goals go_wp2_with fail
   all_goals go_ret2
   all_goals exact⟨Or.inr ⟨HN.o,rfl⟩,QbF HB.o⟩
  have ax:(a:Int)<(s.size:Int):=by omega
  have hsa:s.data.toList[a]'(by rw[ac];exact af)=s[a]:=rfl;have aj:g<wr.heap.size:=Nat.lt_of_lt_of_le au aq;cases ht:Qfr aa[k] s[a]
  ·by_cases h0:st=0
   ·have aw:¬(0:Int)<=(st:Int) - 1:=by omega
    have HN:=Qab (HI.o.never (Or.inr hkk) (fun _=>h2k) (fun _ h=>ht) (fun h=>h.1 h0));clear ab hend;go_wp2_with fail;go_region_held3 (fun w'=>w'.cell? ⟨g,k*2,none⟩=some (.int .i64 aa[k].1)/\w'.cell? ⟨g,k*2+1,none⟩=some (.int .u8 aa[k].2.toNat)) (first|go_keep|exact⟨d1,d2⟩) (first|(go_at_call 245;refine(Qie aa[k] s[a] _).mono ?_;rintro e w1 ⟨rfl,ah⟩;rw[ht];have ad:=QaT ah;have ao:=Qab (HB.o.trans (ad.mono aq));have ae:=Qab (Qai ag.o ad);have d1:w1.cell? ⟨g,k*2,none⟩=some (.int .i64 aa[k].1):=(ad.cell (p:=⟨g,k*2,none⟩) aj).trans c1;have d2:w1.cell? ⟨g,k*2+1,none⟩=some (.int .u8 aa[k].2.toNat):=(ad.cell (p:=⟨g,k*2+1,none⟩) aj).trans c2;have dx:w1.cell? ⟨w.heap.size,k,none⟩=some x:=(ad.cell (p:=⟨w.heap.size,k,none⟩) (Qau hx)).trans hx;have dz:∀ j,w1.frozen? ⟨w.heap.size,j,none⟩=false:=Qah ae.o;clear ah ad;skip))
    all_goals go_wp2_with fail
    all_goals go_ret2
    all_goals exact⟨Or.inr ⟨HN.o,rfl⟩,ao.o⟩
   ·have aw:(0:Int)<=(st:Int) - 1:=by omega
    have HL:=Qab (HI.o.longer h0 (by rw[ac];exact af) (Or.inr ⟨hkk,h2k,ht⟩));have ai:=Qab (HI.o.muLonger (by rw[ac];exact af));clear ab hend;go_wp2_with fail;go_region_held3 (fun w'=>w'.cell? ⟨g,k*2,none⟩=some (.int .i64 aa[k].1)/\w'.cell? ⟨g,k*2+1,none⟩=some (.int .u8 aa[k].2.toNat)) (first|go_keep|exact⟨d1,d2⟩) (first|(go_at_call 245;refine(Qie aa[k] s[a] _).mono ?_;rintro e w1 ⟨rfl,ah⟩;rw[ht];have ad:=QaT ah;have ao:=Qab (HB.o.trans (ad.mono aq));have ae:=Qab (Qai ag.o ad);have d1:w1.cell? ⟨g,k*2,none⟩=some (.int .i64 aa[k].1):=(ad.cell (p:=⟨g,k*2,none⟩) aj).trans c1;have d2:w1.cell? ⟨g,k*2+1,none⟩=some (.int .u8 aa[k].2.toNat):=(ad.cell (p:=⟨g,k*2+1,none⟩) aj).trans c2;have dx:w1.cell? ⟨w.heap.size,k,none⟩=some x:=(ad.cell (p:=⟨w.heap.size,k,none⟩) (Qau hx)).trans hx;have dz:∀ j,w1.frozen? ⟨w.heap.size,j,none⟩=false:=Qah ae.o;clear ah ad;skip))
    all_goals go_wp2_with fail
    all_goals exact⟨⟨rfl,rfl,st,e+1,e+1,st,pl,rfl,Qft (by omega),Qft (by omega),Qft (by omega),HL.o,ae.o,ao.o⟩,Qgf ai.o (by simp only[intOf];omega) (by simp only[intOf];try omega) (by simp only[intOf];try omega) (by simp only[intOf];omega) (by simp only[intOf];try omega) (by simp only[intOf];try omega)⟩
  ·have HT:=Qab (HI.o.take hkk (by rw[ac];exact af) h2k ht);have ai:=Qab (HI.o.muTake (by rw[ac];exact af));clear ab hend;go_wp2_with fail;go_region_held3 (fun w'=>w'.cell? ⟨g,k*2,none⟩=some (.int .i64 aa[k].1)/\w'.cell? ⟨g,k*2+1,none⟩=some (.int .u8 aa[k].2.toNat)) (first|go_keep|exact⟨d1,d2⟩) (first|(go_at_call 245;refine(Qie aa[k] s[a] _).mono ?_;rintro e w1 ⟨rfl,ah⟩;rw[ht];have ad:=QaT ah;have ao:=Qab (HB.o.trans (ad.mono aq));have ae:=Qab (Qai ag.o ad);have d1:w1.cell? ⟨g,k*2,none⟩=some (.int .i64 aa[k].1):=(ad.cell (p:=⟨g,k*2,none⟩) aj).trans c1;have d2:w1.cell? ⟨g,k*2+1,none⟩=some (.int .u8 aa[k].2.toNat):=(ad.cell (p:=⟨g,k*2+1,none⟩) aj).trans c2;have dx:w1.cell? ⟨w.heap.size,k,none⟩=some x:=(ad.cell (p:=⟨w.heap.size,k,none⟩) (Qau hx)).trans hx;have dz:∀ j,w1.frozen? ⟨w.heap.size,j,none⟩=false:=Qah ae.o;clear ah ad;skip))
   all_goals go_wp2_with fail
   all_goals exact⟨⟨rfl,rfl,st,e,a+1,k+1,pl.set k a,rfl,rfl,Qft (by omega),Qft (by omega),HT.o,by rw[<-QiM];exact Qag _ _ _ _ _ _ ae.o,ao.o.setCell (Nat.le_refl _) _⟩,Qgf ai.o (by simp only[intOf];omega) (by simp only[intOf];try omega) (by simp only[intOf];try omega) (by simp only[intOf];omega) (by simp only[intOf];try omega) (by simp only[intOf];try omega)⟩
end
end Go.Proofs.YthkibedbcbgajaaGreatDoor
