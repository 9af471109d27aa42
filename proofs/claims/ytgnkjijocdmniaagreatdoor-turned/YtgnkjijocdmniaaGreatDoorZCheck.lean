import Derived.Test.YtgnkjijocdmniaaGreatDoorNext
namespace Go.Proofs.YtgnkjijocdmniaaGreatDoor
set_option linter.unusedVariables false
set_option linter.unusedSimpArgs false
set_option maxRecDepth 100000
set_option maxHeartbeats 4000000
open Go.Proofs.Tryz
section
open Go.RowKit
theorem QgX(zs:List (L8))(j:Nat)(h:j<zs.length):(zs.map Qaf).getD j ByteArray.empty=Qaf (zs.getD j []):=by
 simp[List.getD_eq_getElem?_getD,h]
theorem Qg8(b g n c:Nat)(zs:List (L8))(t:ByteArray)(x:Wd)(p:Nat)(rv:Value)(mc mt:Nat)(w:World)(hr:RAt w b t x p rv mc mt)(hz:TxtAt w g zs)(hn:n=zs.length)(hl:zs.length<=1000) :
 Calls Tryz.prog 219 #[.pointer (some ⟨b,0,none⟩),.slice (some ⟨g,0,none⟩) n c] w fun e w'=>e=.returned (.int .i64 (wL zs x.spelt))/\w'=w:=by
 have h3:w.cell? ⟨b,3,none⟩=some (.string (Qaf x.spelt)):=hr.cell 3;have hw:=QbN zs x.spelt
 have hi:=Tryz.slices_Index_string g 0 n c (zs.map Qaf) (Qaf x.spelt) w (by simp [hn]) (by omega) (fun j hj=>by
  have hj':j<zs.length:=by simpa using hj
  rw [Nat.zero_add,QgX _ _ hj'];exact hz j hj')
 rw[hn,List.take_of_length_le (by simp)]at hi;have e:=QoJ zs x.spelt;have e2:Lib.idxOfS (zs.map Qaf) (Qaf x.spelt)=(wL zs x.spelt:Int) - 1:=by omega
 rw[e2]at hi;clear e e2;have HI:=Qab hi;clear hi;subst hn;go_enter func219,ntmps219;go_wp2_with (go_at_call 100;refine HI.o.mono ?_;rintro e w' ⟨rfl,rfl⟩);go_ret;exact⟨Qct (by omega),rfl⟩
theorem QaF(b:Nat)(B:Bool)(er:Int)(w:World)(hB:B=true) :
 Calls Tryz.prog 192 #[.pointer (some ⟨b,0,none⟩),.bool B,.int .i64 er] w fun e w'=>e=.returned (.tuple #[])/\w'=w:=by
 subst hB;go_enter func192,ntmps192;go_wp2;go_end0;exact⟨rfl,rfl⟩
theorem Qbm(b er:Nat)(B:Bool)(E:Int)(t:ByteArray)(x:Wd)(p:Nat)(rv:Value)(mc mt:Nat)(w:World)(hr:RAt w b t x p rv mc mt)(hB:B=false)(hE:E=er) :
 Calls Tryz.prog 192 #[.pointer (some ⟨b,0,none⟩),.bool B,.int .i64 E] w fun e w'=>Qc8 ⟨er,x.pos⟩ w e w'/\Below w.heap.size w w':=by
 subst hB;subst hE;have h2:w.cell? ⟨b,2,none⟩=some (.int .i64 x.pos):=hr.cell 2;clear hr;go_enter func192,ntmps192;go_wp2_with (go_at_call 103;refine(Qbi _ _ _).mono ?_;rintro e w' ⟨rfl,rfl⟩);exact⟨rfl,QcA er x.pos (Nat.le_refl _) rfl,(Below.refl _ _).alloc (Nat.le_refl _) _⟩
structure RC (w:World) (b:Nat) (t:ByteArray) (s:PS) (rv:Value) (mc mt:Nat):Prop where
 at_:RAt w b t s.1 s.2 rv mc mt
 le:s.2≤t.size
 m:∃ m,w.cell? ⟨1,0,none⟩=some (.int .i64 m)
 b1:1 < b
 hs:t.size≤600
 sz:s.1.said.length≤600∧s.1.num≤2147483647
 e0:s.1.kind=0→s.1.spelt=[]
 nm:¬ s.1.kind=1→Qld s.1.spelt
theorem RC.step{w w':World}{b:Nat}{t:ByteArray}{s s':PS}{rv aa:Value}{mc mt:Nat}(h:RC w b t s rv mc mt)(hm:Mod b w w')(ha:RAt w' b t s'.1 s'.2 aa mc mt)(hl:s'.2<=t.size)(hz:s'.1.said.length<=600/\s'.1.num<=2147483647)(he:s'.1.kind=0->s'.1.spelt=[])(hn:¬ s'.1.kind=1->Qld s'.1.spelt):RC w' b t s' aa mc mt:=by
 refine⟨ha,hl,?_,h.b1,h.hs,hz,he,hn⟩;obtain⟨m,ab⟩:=h.m;have:=h.at_.lt;exact⟨m,by rw[hm.cell (p:=⟨1,0,none⟩) (by show 1<_;have:=h.b1;omega) (by show 1≠b;have:=h.b1;omega)];exact ab⟩
theorem RC.below{w w':World}{b:Nat}{t:ByteArray}{s:PS}{rv:Value}{mc mt:Nat}(h:RC w b t s rv mc mt)(hb:Below w.heap.size w w'):RC w' b t s rv mc mt:=
 h.step (Mod.of_below hb) (h.at_.mod hb) h.le h.sz h.e0 h.nm
theorem RC.alloc{w:World}{b:Nat}{t:ByteArray}{s:PS}{rv:Value}{mc mt:Nat}(h:RC w b t s rv mc mt)(o:Obj):RC (w.alloc o) b t s rv mc mt:=
 h.below ((Below.refl _ _).alloc (Nat.le_refl _) _)
theorem RC.drew{w:World}{b:Nat}{t:ByteArray}{s:PS}{rv:Value}{mc mt:Nat}(h:RC w b t s rv mc mt):RC w.drew b t s rv mc mt:=
 ⟨h.at_,h.le,h.m,h.b1,h.hs,h.sz,h.e0,h.nm⟩
def Qap {α:Type} (r:Except Flt (α×PS)) (b:Nat) (t:ByteArray) (rv:Value) (mc mt:Nat) (w:World) (val:α→World→Value→Prop) (e:Ending) (w':World):Prop:=
 Mod b w w'∧
 match r with
 | .ok y=>(∃ v,e=.returned v∧val y.1 w' v)∧RC w' b t y.2 rv mc mt
 | .error f=>Qc8 f w e w'
theorem Qap.cases{α:Type}{r:Except Flt (α×PS)}{b:Nat}{t:ByteArray}{rv:Value}{mc mt:Nat}{w w':World}{aa:α->World->Value->Prop}{e:Ending}(h:Qap r b t rv mc mt w aa e w') :
 (∃ y v,r=.ok y/\e=.returned v/\aa y.1 w' v/\RC w' b t y.2 rv mc mt/\Mod b w w')\/(∃ f,r=.error f/\Qc8 f w e w'/\Mod b w w'):=by
 obtain⟨hm,h⟩:=h
 cases r with
 |ok y=>obtain⟨⟨v,he,hv⟩,hc⟩:=h;exact Or.inl ⟨y,v,rfl,he,hv,hc,hm⟩
 |error f=>exact Or.inr ⟨f,rfl,h,hm⟩
theorem Qap.ok{α:Type}{r:Except Flt (α×PS)}{b:Nat}{t:ByteArray}{rv:Value}{mc mt:Nat}{w w':World}{aa:α->World->Value->Prop}{v:Value}{y:α×PS}(h:r=.ok y)(hm:Mod b w w')(hv:aa y.1 w' v)(hc:RC w' b t y.2 rv mc mt):Qap r b t rv mc mt w aa (.returned v) w':=by
 subst h;exact⟨hm,⟨v,rfl,hv⟩,hc⟩
theorem Qap.err{α:Type}{r:Except Flt (α×PS)}{b:Nat}{t:ByteArray}{rv:Value}{mc mt:Nat}{w w':World}{aa:α->World->Value->Prop}{e:Ending}{f:Flt}(h:r=.error f)(hm:Mod b w w')(ht:Qc8 f w e w'):Qap r b t rv mc mt w aa e w':=by
 subst h;exact⟨hm,ht⟩
theorem Qc5.cases{r:Except Flt PS}{b:Nat}{t:ByteArray}{rv:Value}{mc mt:Nat}{w w':World}{e:Ending}(h:Qc5 r b t rv mc mt w e w') :
 (∃ y,r=.ok y/\e=.returned (.tuple #[])/\RAt w' b t y.1 y.2 rv mc mt/\Mod b w w')\/(∃ f,r=.error f/\Qc8 f w e w'/\Mod b w w'):=by
 obtain⟨hm,h⟩:=h
 cases r with
 |ok y=>exact Or.inl ⟨y,rfl,h.1,h.2,hm⟩
 |error f=>exact Or.inr ⟨f,rfl,h,hm⟩
theorem QcU(b:Nat)(t:ByteArray)(s:PS)(rv:Value)(mc mt:Nat)(w:World)(h:RC w b t s rv mc mt) :
 Calls Tryz.prog 141 #[.pointer (some ⟨b,0,none⟩)] w fun e w'=>
  (∃ y,nL t.data.toList s.2=.ok y/\e=.returned (.tuple #[])/\RC w' b t y rv mc mt/\Mod b w w')\/(∃ f,nL t.data.toList s.2=.error f/\Qc8 f w e w'/\Mod b w w'):=by
 obtain⟨m,hm⟩:=h.m;refine(Qwd b t s.1 s.2 rv mc mt m w (by have:=h.hs;omega) h.le h.at_ hm).mono ?_;intro e w' hp;rcases hp.cases with⟨y,hy,he,ha,aa⟩|hf
 ·refine Or.inl ⟨y,hy,he,h.step aa ha ?_ ?_ (Qby t.data.toList s.2 (by simpa using h.le) y hy).2.2.2.1 (QoR t.data.toList s.2 y hy),aa⟩
  ·have:=(Qby t.data.toList s.2 (by simpa using h.le) y hy).2.1;simpa using this
  ·have h1:=Qkm t.data.toList s.2 y hy;have h2:=h.hs;have h3:t.data.toList.length=t.size:=by simp
   exact⟨by omega,h1.2⟩
 ·exact Or.inr hf
theorem Qw9{l:L8}{zs:List (L8)}{s:PS}(h:wL zs s.1.spelt=0):mayL l zs s=.ok (0,s):=by unfold mayL;rw[if_pos h]
theorem QwW{l:L8}{zs:List (L8)}{s y:PS}(h:¬ wL zs s.1.spelt=0)(hn:nL l s.2=.ok y):mayL l zs s=.ok (wL zs s.1.spelt,y):=by unfold mayL;rw[if_neg h,hn]
theorem Qv8{l:L8}{zs:List (L8)}{s:PS}{f:Flt}(h:¬ wL zs s.1.spelt=0)(hn:nL l s.2=.error f):mayL l zs s=.error f:=by unfold mayL;rw[if_neg h,hn]
theorem Qvc{l:L8}{zs:List (L8)}{s:PS}(h:wL zs s.1.spelt=0):paL l zs s=.error ⟨4,s.1.pos⟩:=by unfold paL;rw[if_pos h]
theorem Qv6{l:L8}{zs:List (L8)}{s y:PS}(h:¬ wL zs s.1.spelt=0)(hn:nL l s.2=.ok y):paL l zs s=.ok (wL zs s.1.spelt,y):=by unfold paL;rw[if_neg h,hn]
theorem QtY{l:L8}{zs:List (L8)}{s:PS}{f:Flt}(h:¬ wL zs s.1.spelt=0)(hn:nL l s.2=.error f):paL l zs s=.error f:=by unfold paL;rw[if_neg h,hn]
def QlE (i:Nat) (_:World) (v:Value):Prop:=v=.int .i64 i
theorem QhT(b g n c:Nat)(zs:List (L8))(t:ByteArray)(s:PS)(rv:Value)(mc mt:Nat)(w:World)(h:RC w b t s rv mc mt)(hz:TxtAt w g zs)(hn:n=zs.length)(hl:zs.length<=1000) :
 Calls Tryz.prog 180 #[.pointer (some ⟨b,0,none⟩),.slice (some ⟨g,0,none⟩) n c] w (Qap (mayL t.data.toList zs s) b t rv mc mt w QlE):=by
 have hw:=Qab (Qg8 b g n c zs t s.1 s.2 rv mc mt w h.at_ hz hn hl);have hle:=QbN zs s.1.spelt;have H:=Qab h;clear hz hn;by_cases h0:wL zs s.1.spelt=0
 ·have aa:¬(0:Int)<(wL zs s.1.spelt:Int):=by omega
  have HE:=Qab (Qw9 (l:=t.data.toList) h0);have H0:=Qab h0;clear h0 h;go_enter func180,ntmps180;go_wp2_with (go_at_call 219;refine hw.o.mono ?_;rintro e w' ⟨rfl,rfl⟩);go_ret;exact Qap.ok HE.o (Mod.refl _ _) (by unfold QlE;rw[H0.o];rfl) H.o
 ·have aa:(0:Int)<(wL zs s.1.spelt:Int):=by omega
  have H0:=Qab h0;clear h0 h;go_enter func180,ntmps180;go_wp2_with (go_at_call 219;refine hw.o.mono ?_;rintro e w' ⟨rfl,rfl⟩);refine(QcU b t s rv mc mt _ H.o).mono ?_;rintro e w1 (⟨y,hy,rfl,hc,hm⟩ | ⟨f,hf,⟨bb,hz,rfl,hcc⟩,hm⟩)
  ·go_wp2;go_ret;exact Qap.ok (QwW H0.o hy) hm rfl hc
  ·exact⟨rfl,Qap.err (Qv8 H0.o hf) hm ⟨bb,hz,rfl,hcc⟩⟩
theorem QcV(b g n c:Nat)(zs:List (L8))(t:ByteArray)(s:PS)(rv:Value)(mc mt:Nat)(w:World)(h:RC w b t s rv mc mt)(hz:TxtAt w g zs)(hn:n=zs.length)(hl:zs.length<=1000) :
 Calls Tryz.prog 177 #[.pointer (some ⟨b,0,none⟩),.slice (some ⟨g,0,none⟩) n c] w (Qap (paL t.data.toList zs s) b t rv mc mt w QlE):=by
 have hw:=Qab (Qg8 b g n c zs t s.1 s.2 rv mc mt w h.at_ hz hn hl);have hle:=QbN zs s.1.spelt;have H:=Qab h;clear hz hn;by_cases h0:wL zs s.1.spelt=0
 ·have ab:¬(0:Int)<(wL zs s.1.spelt:Int):=by omega
  have HE:=Qab (Qvc (l:=t.data.toList) h0);have H0:=Qab h0;clear h0 h;go_enter func177,ntmps177;go_wp2_with (go_at_call 219;refine hw.o.mono ?_;rintro e w' ⟨rfl,rfl⟩);refine(Qbm b 4 _ _ t s.1 s.2 rv mc mt _ H.o.at_ (by simp;omega) rfl).mono ?_;rintro e w1 ⟨⟨bb,hz,rfl,aa⟩,hm⟩;exact⟨rfl,Qap.err HE.o (Mod.of_below hm) ⟨bb,hz,rfl,aa⟩⟩
 ·have ab:(0:Int)<(wL zs s.1.spelt:Int):=by omega
  have H0:=Qab h0;clear h0 h;go_enter func177,ntmps177;go_wp2_with (go_at_call 219;refine hw.o.mono ?_;rintro e w' ⟨rfl,rfl⟩);refine(QaF b _ _ _ (by simp;omega)).mono ?_;rintro e w' ⟨rfl,rfl⟩;go_wp2_with fail;refine(QcU b t s rv mc mt _ H.o).mono ?_;rintro e w1 (⟨y,hy,rfl,hc,hm⟩ | ⟨f,hf,⟨bb,hz,rfl,aa⟩,hm⟩)
  ·go_wp2;go_ret;exact Qap.ok (Qv6 H0.o hy) hm rfl hc
  ·exact⟨rfl,Qap.err (QtY H0.o hf) hm ⟨bb,hz,rfl,aa⟩⟩
def QwF (_:L8):Nat:=0
def Qe0 (x:L8):Nat:=if isNameL x then 0 else 7
def QcL (er:Nat) (zs:List (L8)) (x:L8):Nat:=if 0 < wL zs x then 0 else er
def QdA (c:L8→Nat) (x:L8):Nat:=c (zL x)
theorem Qt2(x:L8):(Qaf x).data.toList=x:=rfl
theorem Qn9(s:ByteArray)(w:World):Calls Tryz.prog 134 #[.string s] w fun e w'=>e=.returned (.int .i64 0)/\w'=w:=by
 go_enter func134,ntmps134;go_wp2;go_ret;exact⟨rfl,rfl⟩
theorem QrX(x:L8)(w:World)(hs:x.length<=1000) :
 Calls Tryz.prog 221 #[.string (Qaf x)] w fun e w'=>e=.returned (.bool (isNameL x))/\w'=w:=by
 have hle:=QcR x;have ac:(Qaf x).size=x.length:=rfl;have hL:=Qab (Qb4 (Qaf x) w (by rw[ac];unfold maxLen;omega));by_cases h0:x.length=0
 ·have hx:x=[]:=List.eq_nil_of_length_eq_zero h0;subst hx;have aa:(Qaf []).toList=[]:=Qea rfl;have ab:(Qaf []).toList.isEmpty=true:=by rw[aa];rfl
  go_enter func221,ntmps221;go_wp2;go_ret;exact⟨rfl,rfl⟩
 ·have aa:¬(Qaf x).toList=[]:=QcJ (by rw[ac];exact h0);have ab:(Qaf x).toList.isEmpty=false:=by simpa using aa
  go_enter func221,ntmps221;go_wp2_with (go_at_call 226;refine hL.o.mono ?_;rintro e w' ⟨rfl,rfl⟩);go_ret;refine⟨QaZ ?_,rfl⟩;rw[Qt2];unfold isNameL
  have:x.isEmpty=false:=by
   cases x with
   |nil=>exact absurd rfl h0
   |cons a r=>rfl
  rw[this,Bool.eq_iff_iff];simp;omega
theorem Que(x:L8)(w:World)(hs:x.length<=1000) :
 Calls Tryz.prog 182 #[.string (Qaf x)] w fun e w'=>e=.returned (.int .i64 (Qe0 x))/\w'=w:=by
 have hN:=Qab (QrX x w hs);cases h:isNameL x
 ·have HE:Hid (Qe0 x=7):=by show _=_;unfold Qe0;rw[h];rfl
  go_enter func182,ntmps182;go_wp2_with (go_at_call 221;refine hN.o.mono ?_;rintro e w' ⟨rfl,rfl⟩);go_ret;exact⟨Qct (by rw[HE.o];rfl),rfl⟩
 ·have HE:Hid (Qe0 x=0):=by show _=_;unfold Qe0;rw[h];rfl
  go_enter func182,ntmps182;go_wp2_with (go_at_call 221;refine hN.o.mono ?_;rintro e w' ⟨rfl,rfl⟩);go_ret;exact⟨Qct (by rw[HE.o];rfl),rfl⟩
theorem Qil(g n c:Nat)(zs:List (L8))(x:L8)(w:World)(hz:TxtAt w g zs)(hn:n=zs.length)(hl:zs.length<=1000) :
 Calls Tryz.prog 64 #[.slice (some ⟨g,0,none⟩) n c,.string (Qaf x)] w fun e w'=>e=.returned (.bool (decide (0<wL zs x)))/\w'=w:=by
 have hi:=Tryz.slices_Contains_string g 0 n c (zs.map Qaf) (Qaf x) w (by simp [hn]) (by omega) (fun j hj=>by
  have hj':j<zs.length:=by simpa using hj
  rw [Nat.zero_add,QgX _ _ hj'];exact hz j hj')
 rw[hn,List.take_of_length_le (by simp),QkD]at hi;rw[hn];exact hi
def QjD (w:World) (p1 p2 g n c er:Nat) (zs:List (L8)):Prop:=
 w.cell? ⟨p1,0,none⟩=some (.slice (some ⟨g,0,none⟩) n c)∧w.cell? ⟨p2,0,none⟩=some (.int .i64 er)∧TxtAt w g zs∧n=zs.length∧zs.length≤1000
theorem Qlh(p1 p2 g n c er:Nat)(zs:List (L8))(x:L8)(w:World)(h:QjD w p1 p2 g n c er zs) :
 Calls Tryz.prog 190 #[.string (Qaf x),.pointer (some ⟨p1,0,none⟩),.pointer (some ⟨p2,0,none⟩)] w fun e w'=>e=.returned (.int .i64 (QcL er zs x))/\w'=w:=by
 obtain⟨h1,h2,hz,hn,hl⟩:=h;have hC:=Qab (Qil g n c zs x w hz hn hl);clear hz hn;by_cases h:0<wL zs x
 ·have HE:Hid (QcL er zs x=0):=by show _=_;unfold QcL;rw[if_pos h]
  have hd:decide (0<wL zs x)=true:=by simpa using h
  rw[hd]at hC;go_enter func190,ntmps190;go_wp2_with (go_at_call 64;refine hC.o.mono ?_;rintro e w' ⟨rfl,rfl⟩);go_ret;exact⟨Qct (by rw[HE.o];rfl),rfl⟩
 ·have HE:Hid (QcL er zs x=er):=by show _=_;unfold QcL;rw[if_neg h]
  have hd:decide (0<wL zs x)=false:=by simpa using h
  rw[hd]at hC;go_enter func190,ntmps190;go_wp2_with (go_at_call 64;refine hC.o.mono ?_;rintro e w' ⟨rfl,rfl⟩);go_ret;exact⟨Qct (by rw[HE.o]),rfl⟩
theorem Qj8(er:Int)(g n c:Nat)(w:World) :
 Calls Tryz.prog 137 #[.int .i64 er,.slice (some ⟨g,0,none⟩) n c] w fun e w'=>e=.returned (.func (.func 190) #[] #[.pointer (some ⟨w.heap.size+1,0,none⟩),.pointer (some ⟨w.heap.size,0,none⟩)])/\w'=(w.alloc (.cells #[.int .i64 er] 33)).alloc (.cells #[.slice (some ⟨g,0,none⟩) n c] 61):=by
 have hmf:∀(fn:Fn) (first cap:Array Value) (w:World),(Instr.makeFunc fn first cap).run Tryz.prog w=.ok (.func fn first cap) w:=fun _ _ _ _=>rfl
 go_enter func137,ntmps137;go_wp2;go_ret;exact⟨rfl,rfl⟩
theorem Qo2(f:Nat)(a1 a2:Value)(w:World) :
 Calls Tryz.prog 136 #[.func (.func f) #[] #[a1,a2]] w fun e w'=>e=.returned (.func (.func 189) #[] #[.pointer (some ⟨w.heap.size,0,none⟩)])/\w'=w.alloc (.cells #[.func (.func f) #[] #[a1,a2]] 229):=by
 have hmf:∀(fn:Fn) (first cap:Array Value) (w:World),(Instr.makeFunc fn first cap).run Tryz.prog w=.ok (.func fn first cap) w:=fun _ _ _ _=>rfl
 go_enter func136,ntmps136;go_wp2;go_ret;exact⟨rfl,rfl⟩
def QhS (w:World) (q p1 p2 g n c er:Nat) (zs:List (L8)):Prop:=
 w.cell? ⟨q,0,none⟩=some (.func (.func 190) #[] #[.pointer (some ⟨p1,0,none⟩),.pointer (some ⟨p2,0,none⟩)])∧QjD w p1 p2 g n c er zs
theorem TxtAt.below{w w':World}{g:Nat}{zs:List (L8)}(h:TxtAt w g zs)(hb:Below w.heap.size w w'):TxtAt w' g zs:=fun j hj=>by
 have:=h j hj;rw[hb.cell (p:=⟨g,j,none⟩) (Qau this)];exact this
theorem QjD.below{w w':World}{p1 p2 g n c er:Nat}{zs:List (L8)}(h:QjD w p1 p2 g n c er zs)(hb:Below w.heap.size w w'):QjD w' p1 p2 g n c er zs:=by
 obtain⟨h1,h2,h3,h4,h5⟩:=h;exact⟨by rw[hb.cell (p:=⟨p1,0,none⟩) (Qau h1)];exact h1,by rw[hb.cell (p:=⟨p2,0,none⟩) (Qau h2)];exact h2,h3.below hb,h4,h5⟩
theorem Qn1(q p1 p2 g n c er:Nat)(zs:List (L8))(x:L8)(w:World)(h:QhS w q p1 p2 g n c er zs)(hx:x.length<=1000) :
 Calls Tryz.prog 189 #[.string (Qaf x),.pointer (some ⟨q,0,none⟩)] w fun e w'=>e=.returned (.int .i64 (QdA (QcL er zs) x))/\Below w.heap.size w w':=by
 obtain⟨hq,hO⟩:=h;have HO:=Qab hO;have HQ:=Qab hq;clear hO;have hs:=Qab (fun W=>Qfz (Qaf x) W (by rw[Qaj];omega));go_enter func189,ntmps189;go_wp2_with fail;go_region_with (first|(go_at_call 181;refine(hs.o _).mono ?_;rintro e w1 ⟨rfl,hb⟩;have hq1:=(hb.cell (p:=⟨q,0,none⟩) (Qau HQ.o)).trans HQ.o;skip)|(go_at_call 190;refine(Qlh p1 p2 g n c er zs (zL x) _ (HO.o.below (Qbk hb))).mono ?_;rintro e w2 ⟨rfl,rfl⟩;skip))
 all_goals go_wp2
 all_goals go_ret
 all_goals exact⟨rfl,Qbk hb⟩
end
end Go.Proofs.YtgnkjijocdmniaaGreatDoor
