import Derived.Deep.DeepCutAuto
import Derived.Test.YtgnkjijocdmniaaGreatDoorZMPieces
namespace Go.Proofs.YtgnkjijocdmniaaGreatDoor
set_option linter.unusedVariables false
set_option linter.unusedSimpArgs false
set_option maxRecDepth 100000
set_option maxHeartbeats 4000000
open Go.Proofs.Tryz
open Go.RowKit
attribute [local go_sem ↓] Go.wp_at_zero Go.wp_at_succ
variable{α:Type}{B F a b base c f g mc mt n pr tag:Nat}{P:(Nat->Prop)->α->World->Value->Prop}{X:Nat->Prop}{acc:List α}{chk:L8->Nat}{d i rv u v:Value}{e:Flt}{l:L8}{o:Obj}{oct:Bool}{s:PS}{sub:PS->Qb (α×PS)}{t:ByteArray}{w w':World}{xs zs:Qa}{y:Nat×PS}{z:L8×PS}
theorem BA(zs:Qa)(j:Nat)(h:j<zs.length):(zs.map sA).getD j ByteArray.empty=sA (zs.getD j []):=by
 simp[List.getD_eq_getElem?_getD,h]
theorem G0(b g n c:Nat)(zs:Qa)(t:ByteArray)(x:Wd)(p:Nat)(l:Value)(i k:Nat)(w:World)(f:RAt w b t x p l i k)(hz:Zx w g zs)(hn:n=zs.length)(q:zs.length<=1000) :
 Calls prog 219 #[.pointer (some ⟨b,0,none⟩),.slice (some ⟨g,0,none⟩) n c] w fun e w'=>e=.returned (.int .i64 (wL zs x.spelt))/\w'=w:=by
 have m:w.cell? ⟨b,3,none⟩=some (.string (sA x.spelt)):=f.cell 3;have r:=JP zs x.spelt
 have hi:=Tryz.slices_Index_string g 0 n c (zs.map sA) (sA x.spelt) w (by simp [hn]) (by omega) (fun j hj=>by
  have hj':j<zs.length:=by simpa using hj
  rw [Nat.zero_add,BA _ _ hj'];exact hz j hj')
 rw[hn,List.take_of_length_le (by simp)]at hi;have e:=DK zs x.spelt;have a:Lib.idxOfS (zs.map sA) (sA x.spelt)=(wL zs x.spelt:Int) - 1:=by omega
 rw[a]at hi;clear e a;have d:=I hi;clear hi;subst hn;go_enter func219,ntmps219;go_wp2_with (go_at_call 100;refine d.o.mono ?_;rintro e w' ⟨rfl,rfl⟩);go_ret;exact⟨Yg (by omega),rfl⟩
theorem Zv(b:Nat)(B:Bool)(a:Int)(w:World)(c:B=true) :
 Calls prog 192 #[.pointer (some ⟨b,0,none⟩),.bool B,.int .i64 a] w fun e w'=>e=.returned (.tuple #[])/\w'=w:=by
 subst c;go_enter func192,ntmps192;go_wp2;go_end0;exact⟨rfl,rfl⟩
theorem XB(b a:Nat)(B:Bool)(E:Int)(t:ByteArray)(x:Wd)(p:Nat)(j:Value)(g i:Nat)(w:World)(c:RAt w b t x p j g i)(d:B=false)(f:E=a) :
 Calls prog 192 #[.pointer (some ⟨b,0,none⟩),.bool B,.int .i64 E] w fun e w'=>ZS ⟨a,x.pos⟩ w e w'/\Below w.heap.size w w':=by
 subst d;subst f;have k:w.cell? ⟨b,2,none⟩=some (.int .i64 x.pos):=c.cell 2;clear c;go_enter func192,ntmps192;go_wp2_with (go_at_call 103;refine(Xn _ _ _).mono ?_;rintro e w' ⟨rfl,rfl⟩);exact⟨rfl,YT a x.pos Ql rfl,Qp _⟩
structure RC (w:World) (b:Nat) (t:ByteArray) (s:PS) (rv:Value) (mc mt:Nat):Prop where
 at_:RAt w b t s.1 s.2 rv mc mt
 le:s.2<=t.size
 m:∃ m,w.cell? ⟨1,0,none⟩=some (.int .i64 m)
 b1:1 < b
 hs:t.size<=600
 sz:s.1.said.length<=600∧s.1.num<=2147483647
 e0:s.1.kind=0->s.1.spelt=[]
 nm:¬ s.1.kind=1->Vk s.1.spelt
theorem RC.step{s':PS}{l:Value}(h:RC w b t s l a c)(g:Mod b w w')(e:RAt w' b t s'.1 s'.2 d a c)(f:s'.2<=t.size)(k:s'.1.said.length<=600/\s'.1.num<=2147483647)(he:s'.1.kind=0->s'.1.spelt=[])(j:¬ s'.1.kind=1->Vk s'.1.spelt):RC w' b t s' d a c:=by
 refine⟨e,f,?_,h.b1,h.hs,k,he,j⟩;obtain⟨m,i⟩:=h.m;have:=h.at_.lt;exact⟨m,by rw[g.cell (p:=⟨1,0,none⟩) (by show 1<_;have:=h.b1;omega) (by show 1≠b;have:=h.b1;omega)];exact i⟩
theorem RC.below(h:RC w b t s rv mc mt)(hb:Below w.heap.size w w'):RC w' b t s rv mc mt:=
 h.step (Mod.of_below hb) (h.at_.mod hb) h.le h.sz h.e0 h.nm
theorem RC.alloc{w:World}{b:Nat}{t:ByteArray}{s:PS}{rv:Value}{mc mt:Nat}(h:RC w b t s rv mc mt)(o:Obj):RC (w.alloc o) b t s rv mc mt:=
 h.below (Qp _)
theorem RC.drew{w:World}{b:Nat}{t:ByteArray}{s:PS}{rv:Value}{mc mt:Nat}(h:RC w b t s rv mc mt):RC w.drew b t s rv mc mt:=
 ⟨h.at_,h.le,h.m,h.b1,h.hs,h.sz,h.e0,h.nm⟩
def Qf{α:Type}(r:Qb (α×PS))(b:Nat)(t:ByteArray)(rv:Value)(mc mt:Nat)(w:World)(val:α->World->Value->Prop)(e:Ending)(w':World):Prop:=
 Mod b w w'/\
 match r with
 | .ok y=>(∃ v,e=.returned v/\val y.1 w' v)/\RC w' b t y.2 rv mc mt
 | .error f=>ZS f w e w'
theorem Qf.cases{α:Type}{r:Qb (α×PS)}{b:Nat}{t:ByteArray}{g:Value}{c d:Nat}{w w':World}{i:α->World->Value->Prop}{e:Ending}(h:Qf r b t g c d w i e w') :
 (∃ y v,r=.ok y/\e=.returned v/\i y.1 w' v/\RC w' b t y.2 g c d/\Mod b w w')\/(∃ f,r=.error f/\ZS f w e w'/\Mod b w w'):=by
 obtain⟨a,h⟩:=h
 cases r with
 |ok y=>obtain⟨⟨v,he,k⟩,j⟩:=h;exact Qd ⟨y,v,rfl,he,k,j,a⟩
 |error f=>exact Qc ⟨f,rfl,h,a⟩
theorem Qf.ok{α:Type}{r:Qb (α×PS)}{b:Nat}{t:ByteArray}{d:Value}{a c:Nat}{w w':World}{e:α->World->Value->Prop}{v:Value}{y:α×PS}(h:r=.ok y)(g:Mod b w w')(i:e y.1 w' v)(f:RC w' b t y.2 d a c):Qf r b t d a c w e (.returned v) w':=by
 subst h;exact⟨g,⟨v,rfl,i⟩,f⟩
theorem Qf.err{r:Qb (α×PS)}{d:Nat}{j:α->World->Value->Prop}{e:Ending}{f:Flt}(h:r=.error f)(a:Mod b w w')(c:ZS f w e w'):Qf r b t i d g w j e w':=by
 subst h;exact⟨a,c⟩
theorem Jp.cases{r:Qb PS}{b:Nat}{t:ByteArray}{g:Value}{c d:Nat}{w w':World}{e:Ending}(h:Jp r b t g c d w e w') :
 (∃ y,r=.ok y/\e=.returned (.tuple #[])/\RAt w' b t y.1 y.2 g c d/\Mod b w w')\/(∃ f,r=.error f/\ZS f w e w'/\Mod b w w'):=by
 obtain⟨a,h⟩:=h
 cases r with
 |ok y=>exact Qd ⟨y,rfl,h.1,h.2,a⟩
 |error f=>exact Qc ⟨f,rfl,h,a⟩
theorem YD(b:Nat)(t:ByteArray)(s:PS)(g:Value)(c d:Nat)(w:World)(h:RC w b t s g c d) :
 Calls prog 141 #[.pointer (some ⟨b,0,none⟩)] w fun e w'=>
  (∃ y,nL t.data.toList s.2=.ok y/\e=.returned (.tuple #[])/\RC w' b t y g c d/\Mod b w w')\/(∃ f,nL t.data.toList s.2=.error f/\ZS f w e w'/\Mod b w w'):=by
 obtain⟨m,l⟩:=h.m;refine(RL b t s.1 s.2 g c d m w (by have:=h.hs;omega) h.le h.at_ l).mono ?_;intro e w' n;rcases n.cases with⟨y,a,he,k,i⟩|hf
 ·refine Qd ⟨y,a,he,h.step i k ?_ ?_ (Uy t.data.toList s.2 (by simpa using h.le) y a).2.2.2.1 (Ha t.data.toList s.2 y a),i⟩
  ·have:=(Uy t.data.toList s.2 (by simpa using h.le) y a).2.1;simpa using this
  ·have j:=Ca t.data.toList s.2 y a;have o:=h.hs;have p:t.data.toList.length=t.size:=by simp
   exact⟨by omega,j.2⟩
 ·exact Qc hf
theorem S5(h:wL zs s.1.spelt=0):mayL l zs s=.ok (0,s):=by unfold mayL;rw[if_pos h]
theorem S7{y:PS}(h:¬ wL zs s.1.spelt=0)(a:nL l s.2=.ok y):mayL l zs s=.ok (wL zs s.1.spelt,y):=by unfold mayL;rw[if_neg h,a]
theorem Sm{f:Flt}(h:¬ wL zs s.1.spelt=0)(a:nL l s.2=.error f):mayL l zs s=.error f:=by unfold mayL;rw[if_neg h,a]
theorem RG(h:wL zs s.1.spelt=0):paL l zs s=.error ⟨4,s.1.pos⟩:=by unfold paL;rw[if_pos h]
theorem SG{y:PS}(h:¬ wL zs s.1.spelt=0)(a:nL l s.2=.ok y):paL l zs s=.ok (wL zs s.1.spelt,y):=by unfold paL;rw[if_neg h,a]
theorem Pb{f:Flt}(h:¬ wL zs s.1.spelt=0)(a:nL l s.2=.error f):paL l zs s=.error f:=by unfold paL;rw[if_neg h,a]
def XG(i:Nat)(_:World)(v:Value):Prop:=v=.int .i64 i
theorem Vd(b g n c:Nat)(zs:Qa)(t:ByteArray)(s:PS)(k:Value)(i j:Nat)(w:World)(h:RC w b t s k i j)(d:Zx w g zs)(m:n=zs.length)(u:zs.length<=1000) :
 Calls prog 180 #[.pointer (some ⟨b,0,none⟩),.slice (some ⟨g,0,none⟩) n c] w (Qf (mayL t.data.toList zs s) b t k i j w XG):=by
 have p:=I (G0 b g n c zs t s.1 s.2 k i j w h.at_ d m u);have x:=JP zs s.1.spelt;have H:=I h;clear d m;by_cases h0:wL zs s.1.spelt=0
 ·have r:¬(0:Int)<(wL zs s.1.spelt:Int):=by omega
  have q:=I (S5 (l:=t.data.toList) h0);have a:=I h0;clear h0 h;go_enter func180,ntmps180;go_wp2_with (go_at_call 219;refine p.o.mono ?_;rintro e v ⟨rfl,rfl⟩);go_ret;exact Qf.ok q.o (Mod.refl _ _) (by unfold XG;rw[a.o];rfl) H.o
 ·have r:(0:Int)<(wL zs s.1.spelt:Int):=by omega
  have a:=I h0;clear h0 h;go_enter func180,ntmps180;go_wp2_with (go_at_call 219;refine p.o.mono ?_;rintro e v ⟨rfl,rfl⟩);refine(YD b t s k i j _ H.o).mono ?_;rintro e z (⟨y,hy,rfl,hc,hm⟩ | ⟨f,hf,⟨bb,d,rfl,hcc⟩,hm⟩)
  ·go_wp2;go_ret;exact Qf.ok (S7 a.o hy) hm rfl hc
  ·exact⟨rfl,Qf.err (Sm a.o hf) hm ⟨bb,d,rfl,hcc⟩⟩
theorem Jo(b g n c:Nat)(zs:Qa)(t:ByteArray)(s:PS)(k:Value)(i j:Nat)(w:World)(h:RC w b t s k i j)(a:Zx w g zs)(r:n=zs.length)(A:zs.length<=1000) :
 Calls prog 177 #[.pointer (some ⟨b,0,none⟩),.slice (some ⟨g,0,none⟩) n c] w (Qf (paL t.data.toList zs s) b t k i j w XG):=by
 have u:=I (G0 b g n c zs t s.1 s.2 k i j w h.at_ a r A);have C:=JP zs s.1.spelt;have H:=I h;clear a r;by_cases h0:wL zs s.1.spelt=0
 ·have z:¬(0:Int)<(wL zs s.1.spelt:Int):=by omega
  have x:=I (RG (l:=t.data.toList) h0);have m:=I h0;clear h0 h;go_enter func177,ntmps177;go_wp2_with (go_at_call 219;refine u.o.mono ?_;rintro e v ⟨rfl,rfl⟩);refine(XB b 4 _ _ t s.1 s.2 k i j _ H.o.at_ (by simp;omega) rfl).mono ?_;rintro e B ⟨⟨p,a,rfl,q⟩,d⟩;exact⟨rfl,Qf.err x.o (Mod.of_below d) ⟨p,a,rfl,q⟩⟩
 ·have z:(0:Int)<(wL zs s.1.spelt:Int):=by omega
  have m:=I h0;clear h0 h;go_enter func177,ntmps177;go_wp2_with (go_at_call 219;refine u.o.mono ?_;rintro e v ⟨rfl,rfl⟩);refine(Zv b _ _ _ (by simp;omega)).mono ?_;rintro e v ⟨rfl,rfl⟩;go_wp2_with fail;refine(YD b t s k i j _ H.o).mono ?_;rintro e B (⟨y,hy,rfl,hc,d⟩ | ⟨f,hf,⟨p,a,rfl,q⟩,d⟩)
  ·go_wp2;go_ret;exact Qf.ok (SG m.o hy) d rfl hc
  ·exact⟨rfl,Qf.err (Pb m.o hf) d ⟨p,a,rfl,q⟩⟩
def EO(_:L8):Nat:=0
def Kp(x:L8):Nat:=if Z3 x then 0 else 7
def Xv(er:Nat)(zs:Qa)(x:L8):Nat:=if 0<wL zs x then 0 else er
def Ks(c:L8->Nat)(x:L8):Nat:=c (zL x)
theorem Ra(x:L8):(sA x).data.toList=x:=rfl
theorem Ih(s:ByteArray)(w:World):Calls prog 134 #[.string s] w fun e w'=>e=.returned (.int .i64 0)/\w'=w:=by
 go_enter func134,ntmps134;go_wp2;go_ret;exact⟨rfl,rfl⟩
theorem On(x:L8)(w:World)(j:x.length<=1000) :
 Calls prog 221 #[.string (sA x)] w fun e w'=>e=.returned (.bool (Z3 x))/\w'=w:=by
 have i:=Uu x;have c:(sA x).size=x.length:=rfl;have f:=I (Uq (sA x) w (by rw[c];unfold maxLen;omega));by_cases h0:x.length=0
 ·have g:x=[]:=Xz h0;subst g;have b:(sA []).toList=[]:=VF rfl;have d:(sA []).toList.isEmpty=true:=by rw[b];rfl
  go_enter func221,ntmps221;go_wp2;go_ret;exact⟨rfl,rfl⟩
 ·have b:¬(sA x).toList=[]:=VI (by rw[c];exact h0);have d:(sA x).toList.isEmpty=false:=by simpa using b
  go_enter func221,ntmps221;go_wp2_with (go_at_call 226;refine f.o.mono ?_;rintro e w' ⟨rfl,rfl⟩);go_ret;refine⟨QS ?_,rfl⟩;rw[Ra];unfold Z3
  have:x.isEmpty=false:=by
   cases x with
   |nil=>exact absurd rfl h0
   |cons a r=>rfl
  rw[this,Zo];simp;omega
theorem PN(x:L8)(w:World)(c:x.length<=1000) :
 Calls prog 182 #[.string (sA x)] w fun e w'=>e=.returned (.int .i64 (Kp x))/\w'=w:=by
 have b:=I (On x w c);cases h:Z3 x
 ·have a:Hid (Kp x=7):=by show _=_;unfold Kp;rw[h];rfl
  go_enter func182,ntmps182;go_wp2_with (go_at_call 221;refine b.o.mono ?_;rintro e w' ⟨rfl,rfl⟩);go_ret;exact⟨Yg (by rw[a.o];rfl),rfl⟩
 ·have a:Hid (Kp x=0):=by show _=_;unfold Kp;rw[h];rfl
  go_enter func182,ntmps182;go_wp2_with (go_at_call 221;refine b.o.mono ?_;rintro e w' ⟨rfl,rfl⟩);go_ret;exact⟨Yg (by rw[a.o];rfl),rfl⟩
theorem BX(g n c:Nat)(zs:Qa)(x:L8)(w:World)(hz:Zx w g zs)(hn:n=zs.length)(a:zs.length<=1000) :
 Calls prog 64 #[.slice (some ⟨g,0,none⟩) n c,.string (sA x)] w fun e w'=>e=.returned (.bool (decide (0<wL zs x)))/\w'=w:=by
 have hi:=Tryz.slices_Contains_string g 0 n c (zs.map sA) (sA x) w (by simp [hn]) (by omega) (fun j hj=>by
  have hj':j<zs.length:=by simpa using hj
  rw [Nat.zero_add,BA _ _ hj'];exact hz j hj')
 rw[hn,List.take_of_length_le (by simp),FL]at hi;rw[hn];exact hi
def Jq(w:World)(p1 p2 g n c er:Nat)(zs:Qa):Prop:=
 w.cell? ⟨p1,0,none⟩=some (.slice (some ⟨g,0,none⟩) n c)/\w.cell? ⟨p2,0,none⟩=some (.int .i64 er)/\Zx w g zs/\n=zs.length/\zs.length<=1000
theorem CN(p1 p2 g n c a:Nat)(zs:Qa)(x:L8)(w:World)(h:Jq w p1 p2 g n c a zs) :
 Calls prog 190 #[.string (sA x),.pointer (some ⟨p1,0,none⟩),.pointer (some ⟨p2,0,none⟩)] w fun e w'=>e=.returned (.int .i64 (Xv a zs x))/\w'=w:=by
 obtain⟨l,m,j,i,k⟩:=h;have b:=I (BX g n c zs x w j i k);clear j i;by_cases h:0<wL zs x
 ·have d:Hid (Xv a zs x=0):=by show _=_;unfold Xv;rw[if_pos h]
  have f:decide (0<wL zs x)=true:=by simpa using h
  rw[f]at b;go_enter func190,ntmps190;go_wp2_with (go_at_call 64;refine b.o.mono ?_;rintro e w' ⟨rfl,rfl⟩);go_ret;exact⟨Yg (by rw[d.o];rfl),rfl⟩
 ·have d:Hid (Xv a zs x=a):=by show _=_;unfold Xv;rw[if_neg h]
  have f:decide (0<wL zs x)=false:=by simpa using h
  rw[f]at b;go_enter func190,ntmps190;go_wp2_with (go_at_call 64;refine b.o.mono ?_;rintro e w' ⟨rfl,rfl⟩);go_ret;exact⟨Yg (by rw[d.o]),rfl⟩
theorem Aq(a:Int)(g n c:Nat)(w:World) :
 Calls prog 137 #[.int .i64 a,.slice (some ⟨g,0,none⟩) n c] w fun e w'=>e=.returned (.func (.func 190) #[] #[.pointer (some ⟨w.heap.size+1,0,none⟩),.pointer (some ⟨w.heap.size,0,none⟩)])/\w'=(w.alloc (.cells #[.int .i64 a] 33)).alloc (.cells #[.slice (some ⟨g,0,none⟩) n c] 61):=by
 have b:∀(fn:Fn) (first cap:Array Value) (w:World),(Instr.makeFunc fn first cap).run prog w=.ok (.func fn first cap) w:=fun _ _ _ _=>rfl
 go_enter func137,ntmps137;go_wp2;go_ret;exact⟨rfl,rfl⟩
theorem Mb(f:Nat)(a b:Value)(w:World) :
 Calls prog 136 #[.func (.func f) #[] #[a,b]] w fun e w'=>e=.returned (.func (.func 189) #[] #[.pointer (some ⟨w.heap.size,0,none⟩)])/\w'=w.alloc (.cells #[.func (.func f) #[] #[a,b]] 229):=by
 have c:∀(fn:Fn) (first cap:Array Value) (w:World),(Instr.makeFunc fn first cap).run prog w=.ok (.func fn first cap) w:=fun _ _ _ _=>rfl
 go_enter func136,ntmps136;go_wp2;go_ret;exact⟨rfl,rfl⟩
def Vf(w:World)(q p1 p2 g n c er:Nat)(zs:Qa):Prop:=
 w.cell? ⟨q,0,none⟩=some (.func (.func 190) #[] #[.pointer (some ⟨p1,0,none⟩),.pointer (some ⟨p2,0,none⟩)])/\Jq w p1 p2 g n c er zs
theorem Zx.below(h:Zx w g zs)(a:Below w.heap.size w w'):Zx w' g zs:=fun j hj=>by
 have:=h j hj;rw[a.cell (p:=⟨g,j,none⟩) (Qq this)];exact this
theorem Jq.below{w w':World}{p1 p2 g n c b:Nat}{zs:Qa}(h:Jq w p1 p2 g n c b zs)(a:Below w.heap.size w w'):Jq w' p1 p2 g n c b zs:=by
 obtain⟨d,e,f,i,j⟩:=h;exact⟨by rw[a.cell (p:=⟨p1,0,none⟩) (Qq d)];exact d,by rw[a.cell (p:=⟨p2,0,none⟩) (Qq e)];exact e,f.below a,i,j⟩
theorem H7(q p1 p2 g n c a:Nat)(zs:Qa)(x:L8)(w:World)(h:Vf w q p1 p2 g n c a zs)(m:x.length<=1000) :
 Calls prog 189 #[.string (sA x),.pointer (some ⟨q,0,none⟩)] w fun e w'=>e=.returned (.int .i64 (Ks (Xv a zs) x))/\Below w.heap.size w w':=by
 obtain⟨j,f⟩:=h;have i:=I f;have d:=I j;clear f;have k:=I (fun W=>VT (sA x) W (by rw[QN];omega));go_enter func189,ntmps189;go_wp2_with fail;go_region_with (first|(go_at_call 181;refine(k.o _).mono ?_;rintro e r ⟨rfl,b⟩;have l:=(b.cell (p:=⟨q,0,none⟩) (Qq d.o)).trans d.o;skip)|(go_at_call 190;refine(CN p1 p2 g n c a zs (zL x) _ (i.o.below (XQ b))).mono ?_;rintro e s ⟨rfl,rfl⟩;skip))
 all_goals go_wp2
 all_goals go_ret
 all_goals exact⟨rfl,XQ b⟩
def Jg(x:L8)(_:World)(v:Value):Prop:=v=.string (sA x)
theorem GA(h:¬ s.1.kind=5):sL l chk s=.error ⟨4,s.1.pos⟩:=by unfold sL;rw[if_neg h]
theorem NY(h:s.1.kind=5)(a:¬ chk s.1.said=0):sL l chk s=.error ⟨chk s.1.said,s.1.pos⟩:=by unfold sL;rw[if_pos h,if_neg a]
theorem GD{y:PS}(h:s.1.kind=5)(a:chk s.1.said=0)(b:nL l s.2=.ok y):sL l chk s=.ok (s.1.said,y):=by unfold sL;rw[if_pos h,if_pos a,b]
theorem GN{f:Flt}(h:s.1.kind=5)(a:chk s.1.said=0)(b:nL l s.2=.error f):sL l chk s=.error f:=by unfold sL;rw[if_pos h,if_pos a,b]
theorem NH(b:Nat)(t:ByteArray)(s:PS)(g:Value)(c d:Nat)(w:World)(h:RC w b t s g c d) :
 Calls prog 179 #[.pointer (some ⟨b,0,none⟩),.func (.func 134) #[] #[]] w (Qf (sL t.data.toList EO s) b t g c d w Jg):=by
 have u:=Qr h.at_;have v:w.cell? ⟨b,4,none⟩=some (.string (sA s.1.said)):=h.at_.cell 4;have H:=I h;clear h;by_cases hk:s.1.kind=5;rotate_left
 ·have n:=I (GA (l:=t.data.toList) (chk:=EO) hk);have p:((s.1.kind:Int)==5)=false:=by simp;omega
  clear hk;go_enter func179,ntmps179;go_wp2_with fail;refine(XB b 4 _ _ t s.1 s.2 g c d _ H.o.at_ rfl rfl).mono ?_;rintro e r ⟨⟨i,k,rfl,j⟩,a⟩;exact⟨rfl,Qf.err n.o (Mod.of_below a) ⟨i,k,rfl,j⟩⟩
 have p:((s.1.kind:Int)==5)=true:=by simp;omega
 have m:=I hk;clear hk;go_enter func179,ntmps179;go_wp2_with fail;refine(Zv b _ _ _ rfl).mono ?_;rintro e q ⟨rfl,rfl⟩;go_wp2_with fail;refine(Ih _ _).mono ?_;rintro e r ⟨rfl,rfl⟩;go_wp2_with fail;refine(Zv b _ _ _ (by rfl)).mono ?_;rintro e q ⟨rfl,rfl⟩;go_wp2_with fail;refine(YD b t s g c d _ H.o).mono ?_;rintro e x (⟨y,hy,rfl,hc,a⟩ | ⟨f,hf,⟨i,k,rfl,j⟩,a⟩)
 ·go_wp2;go_ret;exact Qf.ok (GD m.o rfl hy) a rfl hc
 ·exact⟨rfl,Qf.err (GN m.o rfl hf) a ⟨i,k,rfl,j⟩⟩
theorem Ir(b:Nat)(t:ByteArray)(s:PS)(k:Value)(i j:Nat)(w:World)(h:RC w b t s k i j) :
 Calls prog 179 #[.pointer (some ⟨b,0,none⟩),.func (.func 182) #[] #[]] w (Qf (sL t.data.toList Kp s) b t k i j w Jg):=by
 have x:=Qr h.at_;have z:w.cell? ⟨b,4,none⟩=some (.string (sA s.1.said)):=h.at_.cell 4;have H:=I h;clear h;by_cases hk:s.1.kind=5;rotate_left
 ·have n:=I (GA (l:=t.data.toList) (chk:=Kp) hk);have q:((s.1.kind:Int)==5)=false:=by simp;omega
  clear hk;go_enter func179,ntmps179;go_wp2_with fail;refine(XB b 4 _ _ t s.1 s.2 k i j _ H.o.at_ rfl rfl).mono ?_;rintro e u ⟨⟨c,g,rfl,d⟩,a⟩;exact⟨rfl,Qf.err n.o (Mod.of_below a) ⟨c,g,rfl,d⟩⟩
 have q:((s.1.kind:Int)==5)=true:=by simp;omega
 have p:=I hk;clear hk;go_enter func179,ntmps179;go_wp2_with fail;refine(Zv b _ _ _ rfl).mono ?_;rintro e r ⟨rfl,rfl⟩;go_wp2_with fail;refine(PN _ _ (by have:=H.o.sz.1;omega)).mono ?_;rintro e u ⟨rfl,rfl⟩;generalize hC:Kp s.1.said=C;have m:=I hC;clear hC;by_cases hc:C=0;rotate_left
 ·have n:=I (NY (l:=t.data.toList) (chk:=Kp) p.o (by rw[m.o];exact hc));rw[m.o]at n;have A:((C:Int)==0)=false:=by simp;omega
  clear hc;go_wp2_with fail;refine(XB b C _ _ t s.1 s.2 k i j _ H.o.at_ rfl rfl).mono ?_;rintro e v ⟨⟨c,g,rfl,d⟩,a⟩;exact⟨rfl,Qf.err n.o (Mod.of_below a) ⟨c,g,rfl,d⟩⟩
 subst hc;go_wp2_with fail;refine(Zv b _ _ _ (by rfl)).mono ?_;rintro e r ⟨rfl,rfl⟩;go_wp2_with fail;refine(YD b t s k i j _ H.o).mono ?_;rintro e v (⟨y,hy,rfl,hc,a⟩ | ⟨f,hf,⟨c,g,rfl,d⟩,a⟩)
 ·go_wp2;go_ret;exact Qf.ok (GD p.o m.o hy) a rfl hc
 ·exact⟨rfl,Qf.err (GN p.o m.o hf) a ⟨c,g,rfl,d⟩⟩
theorem BQ(p1 p2 g n c d:Nat)(zs:Qa)(b:Nat)(t:ByteArray)(s:PS)(q:Value)(m p:Nat)(w:World)(h:RC w b t s q m p)(x:Jq w p1 p2 g n c d zs) :
 Calls prog 179 #[.pointer (some ⟨b,0,none⟩),.func (.func 190) #[] #[.pointer (some ⟨p1,0,none⟩),.pointer (some ⟨p2,0,none⟩)]] w (Qf (sL t.data.toList (Xv d zs) s) b t q m p w Jg):=by
 have F:=Qr h.at_;have G:w.cell? ⟨b,4,none⟩=some (.string (sA s.1.said)):=h.at_.cell 4;have H:=I h;clear h;have z:=I x;clear x;by_cases hk:s.1.kind=5;rotate_left
 ·have u:=I (GA (l:=t.data.toList) (chk:=(Xv d zs)) hk);have A:((s.1.kind:Int)==5)=false:=by simp;omega
  clear hk;go_enter func179,ntmps179;go_wp2_with fail;refine(XB b 4 _ _ t s.1 s.2 q m p _ H.o.at_ rfl rfl).mono ?_;rintro e D ⟨⟨i,k,rfl,j⟩,a⟩;exact⟨rfl,Qf.err u.o (Mod.of_below a) ⟨i,k,rfl,j⟩⟩
 have A:((s.1.kind:Int)==5)=true:=by simp;omega
 have v:=I hk;clear hk;go_enter func179,ntmps179;go_wp2_with fail;refine(Zv b _ _ _ rfl).mono ?_;rintro e B ⟨rfl,rfl⟩;go_wp2_with fail;refine(CN p1 p2 g n c d zs _ _ z.o).mono ?_;rintro e D ⟨rfl,rfl⟩;generalize hC:(Xv d zs) s.1.said=C;have r:=I hC;clear hC;by_cases hc:C=0;rotate_left
 ·have u:=I (NY (l:=t.data.toList) (chk:=(Xv d zs)) v.o (by rw[r.o];exact hc));rw[r.o]at u;have J:((C:Int)==0)=false:=by simp;omega
  clear hc;go_wp2_with fail;refine(XB b C _ _ t s.1 s.2 q m p _ H.o.at_ rfl rfl).mono ?_;rintro e E ⟨⟨i,k,rfl,j⟩,a⟩;exact⟨rfl,Qf.err u.o (Mod.of_below a) ⟨i,k,rfl,j⟩⟩
 subst hc;go_wp2_with fail;refine(Zv b _ _ _ (by rfl)).mono ?_;rintro e B ⟨rfl,rfl⟩;go_wp2_with fail;refine(YD b t s q m p _ H.o).mono ?_;rintro e E (⟨y,hy,rfl,hc,a⟩ | ⟨f,hf,⟨i,k,rfl,j⟩,a⟩)
 ·go_wp2;go_ret;exact Qf.ok (GD v.o r.o hy) a rfl hc
 ·exact⟨rfl,Qf.err (GN v.o r.o hf) a ⟨i,k,rfl,j⟩⟩
theorem FQ(q p1 p2 g n c d:Nat)(zs:Qa)(b:Nat)(t:ByteArray)(s:PS)(u:Value)(p r:Nat)(w:World)(h:RC w b t s u p r)(D:Vf w q p1 p2 g n c d zs) :
 Calls prog 179 #[.pointer (some ⟨b,0,none⟩),.func (.func 189) #[] #[.pointer (some ⟨q,0,none⟩)]] w (Qf (sL t.data.toList (Ks (Xv d zs)) s) b t u p r w Jg):=by
 have M:=Qr h.at_;have G:w.cell? ⟨b,4,none⟩=some (.string (sA s.1.said)):=h.at_.cell 4;have H:=I h;clear h;have F:=I D;clear D;by_cases hk:s.1.kind=5;rotate_left
 ·have x:=I (GA (l:=t.data.toList) (chk:=(Ks (Xv d zs))) hk);have J:((s.1.kind:Int)==5)=false:=by simp;omega
  clear hk;go_enter func179,ntmps179;go_wp2_with fail;refine(XB b 4 _ _ t s.1 s.2 u p r _ H.o.at_ rfl rfl).mono ?_;rintro e E ⟨⟨j,m,rfl,k⟩,a⟩;exact⟨rfl,Qf.err x.o (Mod.of_below a) ⟨j,m,rfl,k⟩⟩
 have J:((s.1.kind:Int)==5)=true:=by simp;omega
 have A:=I hk;clear hk;go_enter func179,ntmps179;go_wp2_with fail;refine(Zv b _ _ _ rfl).mono ?_;rintro e K ⟨rfl,rfl⟩;go_wp2_with fail;refine(H7 q p1 p2 g n c d zs _ _ F.o (by have:=H.o.sz.1;omega)).mono ?_;rintro e E ⟨rfl,B⟩;have z:=I (H.o.below B);have i:=I (Mod.of_below (b:=b) B);have G:E.cell? ⟨b,4,none⟩=some (.string (sA s.1.said)):=z.o.at_.cell 4;clear B;generalize hC:(Ks (Xv d zs)) s.1.said=C;have v:=I hC;clear hC;by_cases hc:C=0;rotate_left
 ·have x:=I (NY (l:=t.data.toList) (chk:=(Ks (Xv d zs))) A.o (by rw[v.o];exact hc));rw[v.o]at x;have N:((C:Int)==0)=false:=by simp;omega
  clear hc;go_wp2_with fail;refine(XB b C _ _ t s.1 s.2 u p r _ z.o.at_ rfl rfl).mono ?_;rintro e L ⟨⟨j,m,rfl,k⟩,a⟩;exact⟨rfl,Qf.err x.o (i.o.trans (Mod.of_below a)) ⟨j,Qs i.o.size m,rfl,k⟩⟩
 subst hc;go_wp2_with fail;refine(Zv b _ _ _ (by rfl)).mono ?_;rintro e K ⟨rfl,rfl⟩;go_wp2_with fail;refine(YD b t s u p r _ z.o).mono ?_;rintro e L (⟨y,hy,rfl,hc,a⟩ | ⟨f,hf,⟨j,m,rfl,k⟩,a⟩)
 ·go_wp2;go_ret;exact Qf.ok (GD A.o v.o hy) (i.o.trans a) rfl hc
 ·exact⟨rfl,Qf.err (GN A.o v.o hf) (i.o.trans a) ⟨j,Qs i.o.size m,rfl,k⟩⟩
def muW(w:World)(b n:Nat):Nat:=
 match w.heap[b]? with
 |some (.cells cs _ _)=>2*(n - (intOf (cs.getD 6 undef)).toNat)+(if intOf (cs.getD 1 undef)=0 then 0 else 1)
 |_=>0
theorem RC.muEq(h:RC w b t s d a c):muW w b t.size=mu t.size s:=by
 unfold muW;rw[h.at_];simp[Nc,intOf,mu]
theorem ZP{e:TypeId}{size:Nat}{xs:List Value}(h:w.ownsRow base e size v n xs)(l:Mod b w w')(o:b<base):w'.ownsRow base e size v n xs:=by
 obtain⟨i,a⟩:=h;refine⟨i,?_⟩;rcases a with a | ⟨g,d,f,m,j,c,r⟩
 ·exact Qd a
 ·have k:g<w.heap.size:=by
   rcases Nat.lt_or_ge g w.heap.size with h'|h'
   ·exact h'
   ·rw[Array.getElem?_eq_none h']at c;cases c
  exact Qc ⟨g,d,f,m,j,by rw[l.block g k (by omega)];exact c,r⟩
theorem Mod.grown{u:World}{a:Option Nat}(h:Mod b u w)(hg:w.grownBy w' a)(hr:∀ k,a=some k->u.heap.size<=k):Mod b u w':=
 ⟨hg.os.trans h.os,hg.tape.trans h.tape,hg.output.trans h.output,Qs h.size hg.size,fun k hk hn=>
  (hg.block k (Zs hk h.size) (fun e=>by have:=hr k e.symm;omega)).trans (h.block k hk hn)⟩
theorem RC.grown{d:Nat}{g:Option Nat}(h:RC w b t s i d f)(j:w.grownBy w' g)(n:∀ k,g=some k->b<k):RC w' b t s i d f:=by
 have p:=h.at_.lt;have o:=h.b1;have c:∀ k,k<=b->w'.heap[k]?=w.heap[k]?:=fun k q=>j.block k (by omega) (fun e=>by have:=n k e.symm;omega)
 refine⟨by unfold RAt;rw[c b Ql];exact h.at_,h.le,?_,h.b1,h.hs,h.sz,h.e0,h.nm⟩;obtain⟨m,l⟩:=h.m;exact⟨m,by rw[ZA (a:=⟨1,0,none⟩) (c 1 (by omega))];exact l⟩
def Abv(B:Nat)(w w':World):Prop:=∀ k,B<=k->k<w.heap.size->w'.heap[k]?=w.heap[k]?
theorem Mod.abv(h:Mod b w w')(hb:b<B):Abv B w w':=fun k hB hk=>h.block k hk (by omega)
theorem Abv.set(hg:g<B)(o:Nat)(v:Value):Abv B w (w.setCell ⟨g,o,none⟩ v):=fun k hB _=>QK (by show k≠g;omega)
def slB(B:Nat)(xs:Qa)(w:World)(v:Value):Prop:=
 ∃ g c,v=.slice (some ⟨g,0,none⟩) xs.length c/\B<=g/\Zx w g xs/\xs≠[]
theorem slB.of_owns{w:World}{base n:Nat}{v:Value}{xs:Qa}(h:w.ownsRow base 9 1 v n (Qv xs))(j:n=xs.length)(c:xs≠[]):slB base xs w v:=by
 subst j;obtain⟨e,f⟩:=h;rcases f with⟨_,i⟩ | ⟨g,a,d,k,b,r⟩
 ·exact absurd (Xz i) c
 ·subst k;exact⟨g,a,rfl,b,Zx.of_owns (base:=base) ⟨e,Qc ⟨g,a,d,rfl,b,r⟩⟩,c⟩
theorem slB.keep(h:slB B xs w v)(e:Abv B w w'):slB B xs w' v:=by
 obtain⟨g,c,i,b,f,k⟩:=h;refine⟨g,c,i,b,fun j d=>?_,k⟩;have:=f j d;rw[ZA (w:=w) (a:=⟨g,j,none⟩) (e g b (Qq this))];exact this
theorem slB.weak{B':Nat}(h:slB B xs w v)(b:B'<=B):slB B' xs w v:=by
 obtain⟨g,c,a,d,r⟩:=h;exact⟨g,c,a,by omega,r⟩
theorem slB.form(h:slB B xs w v):∃ g n c,v=.slice (some ⟨g,0,none⟩) n c:=by
 obtain⟨g,c,a,_⟩:=h;exact⟨g,_,c,a⟩
def Kb(w:World)(b:Nat)(t:ByteArray)(rv:Value)(mc mt:Nat)(cv:Value)(chk:L8->Nat):Prop:=
 ∀(W:World) (s:PS),Mod b w W->RC W b t s rv mc mt->Calls prog 179 #[.pointer (some ⟨b,0,none⟩),cv] W (Qf (sL t.data.toList chk s) b t rv mc mt W Jg)
theorem Fz{f:Flt}(h:mayL l [[91]] s=.error f):sLs l chk F s=.error f:=by unfold sLs;rw[h]
theorem Bt{f:Flt}(h:mayL l [[91]] s=.ok y)(a:sL l chk y.2=.error f):sLs l chk F s=.error f:=by unfold sLs;rw[h];dsimp only;rw[a]
theorem IU(h:mayL l [[91]] s=.ok y)(b:sL l chk y.2=.ok z)(a:y.1=0):sLs l chk F s=.ok ([z.1],z.2):=by unfold sLs;rw[h];dsimp only;rw[b];dsimp only;rw[if_pos a]
theorem Hl(h:mayL l [[91]] s=.ok y)(b:sL l chk y.2=.ok z)(a:¬ y.1=0):sLs l chk F s=moreL l chk F [z.1] z.2:=by unfold sLs;rw[h];dsimp only;rw[b];dsimp only;rw[if_neg a]
theorem Hi{acc:Qa}(h:paL l [[44],[93]] s=.error e):moreL l chk (f+1) acc s=.error e:=by rw[moreL,h]
theorem P6{acc:Qa}(h:paL l [[44],[93]] s=.ok y)(a:¬ y.1=1):moreL l chk (f+1) acc s=.ok (acc,y.2):=by rw[moreL,h];dsimp only;rw[if_neg a]
theorem IR{acc:Qa}(h:paL l [[44],[93]] s=.ok y)(a:y.1=1)(b:sL l chk y.2=.error e):moreL l chk (f+1) acc s=.error e:=by rw[moreL,h];dsimp only;rw[if_pos a,b]
theorem RO{acc:Qa}(h:paL l [[44],[93]] s=.ok y)(a:y.1=1)(b:sL l chk y.2=.ok z):moreL l chk (f+1) acc s=moreL l chk f (acc++[z.1]) z.2:=by rw[moreL,h];dsimp only;rw[if_pos a,b]
theorem RC.mu_le(h:RC w b t s d a c):mu t.size s<=1201:=by
 have:=h.hs;unfold mu;split<;>omega
theorem bal(t:ByteArray):t.data.toList.length=t.size:=by simp
theorem SA:∀ z∈([[44],[93]]:Qa),z≠[]:=by decide
theorem Gw(cv:Value)(chk:L8->Nat)(b F:Nat)(t:ByteArray)(s:PS)(E:Value)(C D:Nat)(w:World)(h:RC w b t s E C D)(ho:Kb w b t E C D cv chk)(hF:mu t.size s<F) :
 Calls prog 188 #[.pointer (some ⟨b,0,none⟩),cv] w (Qf (sLs t.data.toList chk F s) b t E C D w (slB w.heap.size)):=by
 have H:=I h;have HO:=I ho;have aw:=h.at_.lt;clear h ho;go_enter func188,ntmps188;go_wp2_with fail;refine(Vd b w.heap.size 1 1 [[91]] t s E C D _ (H.o.alloc _) (X8 w [[91]] _ _ rfl) rfl (by decide)).mono ?_;intro e w1 n;rcases n.cases with⟨y,v,hy,rfl,q,p,a⟩ | ⟨f,B,⟨d,m,rfl,i⟩,a⟩
 rotate_left
 ·exact⟨rfl,Qf.err (Fz B) (((Mod.refl b w).alloc _).trans a) ⟨d,by simp at m;omega,rfl,i⟩⟩
 have c:=I (((Mod.refl b w).alloc _).trans a);have x:=I hy;have U:=I p;unfold XG at q;subst q;clear n hy p a;by_cases h0:y.1=0
 ·have H0:=I h0;have aJ:((y.1:Int)==0)=true:=by simp;omega
  clear h0;go_wp2_with fail;refine(HO.o _ y.2 c.o U.o).mono ?_;intro e R A;rcases A.cases with⟨z,v,Q,rfl,q,p,a⟩ | ⟨f,B,⟨d,m,rfl,i⟩,a⟩
  rotate_left
  ·exact⟨rfl,Qf.err (Bt x.o B) (c.o.trans a) ⟨d,Qs c.o.size m,rfl,i⟩⟩
  unfold Jg at q;subst q;have J:=I Q;have K:=I p;have L:=I a;clear A Q p a;go_wp2;go_ret;refine Qf.ok (IU x.o J.o H0.o) ((c.o.trans L.o).alloc _) ?_ (K.o.alloc _);have n:=c.o.size;have A:=L.o.size;exact⟨R.heap.size,1,rfl,by omega,X8 R [z.1] _ _ rfl,by simp⟩
 ·have H0:=I h0;have aJ:((y.1:Int)==0)=false:=by simp;omega
  clear h0;go_wp2_with fail;refine(HO.o _ y.2 c.o U.o).mono ?_;intro e R A;rcases A.cases with⟨z,v,Q,rfl,q,p,a⟩ | ⟨f,B,⟨d,m,rfl,i⟩,a⟩
  rotate_left
  ·exact⟨rfl,Qf.err (Bt x.o B) (c.o.trans a) ⟨d,Qs c.o.size m,rfl,i⟩⟩
  unfold Jg at q;subst q;have J:=I Q;have K:=I p;have L:=I a;clear A Q p a;obtain⟨i0,hi,aQ,aR,aS⟩:=info_parts Tryz.infoStr;have Z:=Ut (l:=t.data.toList) (by simpa using U.o.le) J.o;have Y:=V2 (l:=t.data.toList) (zs:=[[91]]) (by simpa using H.o.le) H.o.e0 (by decide) x.o;rw[bal]at Y Z;replace Y:=Y.1;replace Z:=Z.1;have aN:=K.o.mu_le;have aP:w.heap.size<=R.heap.size:=Qs c.o.size L.o.size;go_wp2_with fail
  go_loopw [5] (fun v wr=>∃(G:PS) (r:Qa) (f:Nat),wr.ownsRow w.heap.size 9 1 v r.length (Qv r)/\r≠[]/\RC wr b t G E C D/\Mod b w wr/\mu t.size G<f/\r.length+mu t.size G<=1300/\sLs t.data.toList chk F s=moreL t.data.toList chk f r G) (fun _ wr=>muW wr b t.size)
  case atStart=>
   refine⟨z.2,[z.1],F,?_,by simp,K.o.alloc _,(c.o.trans L.o).alloc _,by omega,by simp;omega,Hl x.o J.o H0.o⟩;exact World.ownsRow_lit (e:=9) (size:=1) R #[.string (sA z.1)] 1 aP (by unfold maxLen;omega) rfl
  case round=>
   obtain⟨G,r,f,ay,aO,az,ad,B,aT,aA⟩:=hrel;obtain⟨f,rfl⟩:∃ g,f=g+1:=⟨f - 1,by omega⟩;have V:=I az;have aq:=I ad;have W:=I aA;have aH:=I ay;have aV:w.heap.size<=wr.heap.size:=ad.size;clear az ad aA ay U K x J Y Z aN;go_wp2_with fail;refine(Jo b wr.heap.size 2 2 [[44],[93]] t G E C D _ (V.o.alloc _) (X8 wr [[44],[93]] _ _ rfl) rfl (by decide)).mono ?_;intro e w3 h3;rcases h3.cases with⟨y3,v3,aj,rfl,aB,au,N⟩ | ⟨f3,aL,⟨d,m,rfl,i⟩,N⟩
   rotate_left
   ·exact⟨rfl,Qf.err (W.o.trans (Hi aL)) ((aq.o.alloc _).trans N) ⟨d,by simp at m;omega,rfl,i⟩⟩
   have ae:=G3 (l:=t.data.toList) (by simpa using V.o.le) V.o.e0 SA aj;rw[bal]at ae;replace ae:=ae.1;have M:=I ((aq.o.alloc _).trans N);have ab:=I aj;have aa:=I au;have ar:=I (ZP (aH.o.alloc _) N aw);unfold XG at aB;subst aB;clear h3 aj au N;by_cases n:y3.1=1;rotate_left
   ·have aK:((y3.1:Int)==1)=false:=by simp;omega
    have T:=I n;clear n;go_wp2;go_ret;exact Qf.ok (W.o.trans (P6 ab.o T.o)) M.o (slB.of_owns ar.o rfl aO) aa.o
   have aK:((y3.1:Int)==1)=true:=by simp;omega
   have T:=I n;clear n;go_wp2_with fail;refine(HO.o _ y3.2 M.o aa.o).mono ?_;intro e w4 h4;rcases h4.cases with⟨S,v4,ak,rfl,aC,av,P⟩ | ⟨f4,aM,⟨d,m,rfl,i⟩,P⟩
   rotate_left
   ·exact⟨rfl,Qf.err (W.o.trans (IR ab.o T.o aM)) (M.o.trans P) ⟨d,Qs M.o.size m,rfl,i⟩⟩
   have af:=Ut (l:=t.data.toList) (by simpa using aa.o.le) ak;rw[bal]at af;replace af:=af.1;unfold Jg at aC;subst aC;have ap:=I (M.o.trans P);have aI:=I ak;have aD:=I av;have ag:=ZP ar.o P aw;have aU:w.heap.size<=w4.heap.size:=ap.o.size;clear h4 ak av P;go_wp2_with (at_builtin;refine wpList_append_own _ rfl _ _ 61 rfl w.heap.size 9 i0 (.string ⟨#[]⟩) 1 16 underlying61 hi aQ aR aS rfl (by decide) _ _ _ rfl (ag.alloc _) ⟨w4.heap.size,0,none⟩ 1 1 [.string (sA S.1)] rfl rfl ?c1 ?c2 ?c3 ?c4 ?c5 ?_)
   case c1=>
    intro j u X
    match j,X with
    |0,X=>simp at X;subst X;simp[Addr.add]
   case c2=>intro u hu;simp at hu;subst hu;rfl
   case c3=>unfold maxLen;omega
   case c4=>omega
   case c5=>simp;omega
   ·intro v' w5 ah ac _;have ai:∀ k,(u5).ownBlock=some k->w.heap.size<=k:=fun k hk=>(ag.lt k hk).1
    have aE:=I ((ap.o.alloc (Obj.cells #[.string (sA S.1)] 9)).grown ac ai);have ao:=I ((aD.o.alloc (Obj.cells #[.string (sA S.1)] 9)).grown ac (fun k hk=>by have:=ai k hk;omega));rw[X0]at ah;have aG:=I ah;have ax:muW w5 b t.size<muW wr b t.size:=by rw[ao.o.muEq,V.o.muEq];omega
    have aF:=I ax;clear ah ac ag ai ax;go_wp2;go_roundw
    case rel=>exact⟨S.2,r++[S.1],f,by simpa using aG.o,by simp,ao.o,aE.o,by omega,by simp;omega,W.o.trans (RO ab.o T.o aI.o)⟩
    case measure=>exact aF.o
theorem QA(h:w.heap[g]?=some o)(a:Mod b w w')(c:g≠b):w'.heap[g]?=some o:=by
 rw[a.block g (Qg h) c];exact h
theorem Hn(w:World):Calls prog 223 #[] w fun e w'=>e=.returned (.slice (some ⟨w.heap.size,0,none⟩) 3 3)/\w'=w.alloc (.cells (Qv [tIs,Zw,Zu]).toArray 9):=by
 go_enter func223,ntmps223;go_wp2;go_ret;exact⟨rfl,rfl⟩
theorem Ib(w:World):Calls prog 152 #[] w fun e w'=>e=.returned (.slice (some ⟨w.heap.size,0,none⟩) 3 3)/\w'=w.alloc (.cells (Qv [J5,J7,JS]).toArray 9):=by
 go_enter func152,ntmps152;go_wp2;go_ret;exact⟨rfl,rfl⟩
theorem Hq(w:World):Calls prog 191 #[] w fun e w'=>e=.returned (.slice (some ⟨w.heap.size,0,none⟩) 2 2)/\w'=w.alloc (.cells (Qv [UO,UL]).toArray 9):=by
 go_enter func191,ntmps191;go_wp2;go_ret;exact⟨rfl,rfl⟩
theorem Mod.setNew{u:World}(h:Mod b u w)(hg:u.heap.size<=g)(o:Nat)(v:Value):Mod b u (w.setCell ⟨g,o,none⟩ v):=
 ⟨h.os,h.tape,h.output,by have:=h.size;simpa[World.setCell]using this,fun k hk hn=>(QK (by show k≠g;omega)).trans (h.block k hk hn)⟩
theorem RC.setNew{e:Value}{d:Nat}(h:RC w b t s e c d)(j:b<g)(o:Nat)(v:Value):RC (w.setCell ⟨g,o,none⟩ v) b t s e c d:=by
 have i:=h.b1;refine⟨?_,h.le,?_,h.b1,h.hs,h.sz,h.e0,h.nm⟩
 ·unfold RAt;rw[QK (by show b≠g;omega)];exact h.at_
 ·obtain⟨m,f⟩:=h.m;exact⟨m,by rw[ZA (w:=w) (a:=⟨1,0,none⟩) (QK (by show 1≠g;omega))];exact f⟩
theorem NL(h:w.heap[g]?=some o)(b:g≠a)(k:Nat)(v:Value):(w.setCell ⟨a,k,none⟩ v).heap[g]?=some o:=by
 rw[QK b];exact h
theorem LD{a:Bool}(h:¬ wL [tIs,Zw,Zu] s.1.spelt=0)(b:¬ tag=0):Zi l (f+1) tag oct a s=.error ⟨7,s.1.pos⟩:=by
 rw[Zi,if_neg h,if_neg b]
theorem Ij{a:Bool}(h:¬ wL [tIs,Zw,Zu] s.1.spelt=0)(c:tag=0)(b:nL l s.2=.error e):Zi l (f+1) tag oct a s=.error e:=by
 rw[Zi,if_neg h,if_pos c,nextThen,b]
theorem R3{a:Bool}{y:PS}(h:¬ wL [tIs,Zw,Zu] s.1.spelt=0)(c:tag=0)(b:nL l s.2=.ok y):Zi l (f+1) tag oct a s=Zi l f (wL [tIs,Zw,Zu] s.1.spelt) oct a y:=by
 rw[Zi,if_neg h,if_pos c,nextThen,b]
theorem Sf{a:Bool}(h:wL [tIs,Zw,Zu] s.1.spelt=0)(b:wL [XI] s.1.spelt=0):Zi l (f+1) tag oct a s=.ok ((max tag 1,oct),s):=by
 rw[Zi,if_pos h,if_pos b]
theorem L4(h:wL [tIs,Zw,Zu] s.1.spelt=0)(a:¬ wL [XI] s.1.spelt=0):Zi l (f+1) tag oct true s=.error ⟨7,s.1.pos⟩:=by
 rw[Zi,if_pos h,if_neg a,if_pos rfl]
theorem F7(h:wL [tIs,Zw,Zu] s.1.spelt=0)(a:¬ wL [XI] s.1.spelt=0)(b:nL l s.2=.error e):Zi l (f+1) tag oct false s=.error e:=by
 rw[Zi,if_pos h,if_neg a,if_neg (by decide),nextThen,b]
theorem Md{y:PS}(h:wL [tIs,Zw,Zu] s.1.spelt=0)(a:¬ wL [XI] s.1.spelt=0)(b:nL l s.2=.ok y)(c:sL l (Xv 7 [Xd,YP]) y=.error e):Zi l (f+1) tag oct false s=.error e:=by
 rw[Zi,if_pos h,if_neg a,if_neg (by decide),Ux b];exact Q6 c
theorem Rg{y:PS}(h:wL [tIs,Zw,Zu] s.1.spelt=0)(a:¬ wL [XI] s.1.spelt=0)(b:nL l s.2=.ok y)(c:sL l (Xv 7 [Xd,YP]) y=.ok z):Zi l (f+1) tag oct false s=Zi l f tag (decide (z.1=Xd)) true z.2:=by
 rw[Zi,if_pos h,if_neg a,if_neg (by decide),Ux b];exact QD c
theorem SE:∀ z∈[tIs,Zw,Zu],z≠[]:=by decide
theorem S1:∀ z∈[XI],z≠[]:=by decide
theorem By(hz:∀ z∈zs,z≠[])(he:s.1.kind=0->s.1.spelt=[])(h:¬ wL zs s.1.spelt=0):¬ s.1.kind=0:=fun e=>h (by rw[he e];exact GG zs hz)
def Ub(hw:L8)(hp tag:Nat)(oct:Bool):Array Value:=#[.string (sA hw),.int .i64 hp,.int .i64 tag,.bool oct,.slice none 0 0,.slice none 0 0]
def Bo(hw:L8)(hp:Nat)(o:Nat×Bool)(_:World)(v:Value):Prop:=v=.agg (Ub hw hp o.1 o.2)
theorem Lx(B:L8)(A:Nat)(b F:Nat)(t:ByteArray)(s:PS)(k:Value)(i j:Nat)(w:World)(h:RC w b t s k i j)(hF:mu t.size s<F) :
 Calls prog 187 #[.pointer (some ⟨b,0,none⟩),.agg #[.string (sA B),.int .i64 A]] w (Qf (Zi t.data.toList F 0 false false s) b t k i j w (Bo B A)):=by
 have H:=I h;have aY:=h.at_.lt;clear h;go_enter func187,ntmps187;go_wp2_with fail
 go_loopw [6,7] (fun c6 _ wr=>∃(a:PS) (d:Nat) (p S:Bool) (f:Nat),c6=.bool S/\wr.heap[w.heap.size+1+1]?=some (.cells (Ub B A d p) 227)/\wr.heap[w.heap.size+1]?=some (.cells #[.string ⟨#[]⟩,.int .i64 0,.int .i64 0,.bool false,.slice none 0 0,.slice none 0 0] 227)/\RC wr b t a k i j/\Mod b w wr/\mu t.size a<f/\d<=3/\Zi t.data.toList F 0 false false s=Zi t.data.toList f d p S a) (fun _ _ wr=>muW wr b t.size)
 case atStart=>
  refine⟨s,0,false,false,F,rfl,?_,?_,((H.o.alloc _).alloc _).alloc _,(((Mod.refl b w).alloc _).alloc _).alloc _,hF,by omega,rfl⟩
  ·exact Q5 (by simp)
  ·exact Qn (Q5 (by simp))
 case round=>
  obtain⟨a,d,p,S,f,rfl,hM,hR,X,ay,hf,aW,aB⟩:=hrel;obtain⟨f,rfl⟩:∃ g,f=g+1:=⟨f - 1,by omega⟩;have HR:=I X;have au:=I ay;have E:=I aB;have HM:=I hM;have av:=I hR;have a0:w.heap.size+1+1<wr.heap.size:=Qg hM;have ap:=I (G0 b wr.heap.size 3 3 [tIs,Zw,Zu] t a.1 a.2 k i j _ (X.alloc (.cells (Qv [tIs,Zw,Zu]).toArray 9)).at_ (X8 wr [tIs,Zw,Zu] _ _ rfl) rfl (by decide));have ak:=JP [tIs,Zw,Zu] a.1.spelt;have aK:=I (By (zs:=[tIs,Zw,Zu]) (s:=a) SE X.e0);have aL:=I (By (zs:=[XI]) (s:=a) S1 X.e0);clear X ay aB hM hR;go_wp2_with (go_at_call 223;refine(Hn _).mono ?_;rintro e Y ⟨rfl,rfl⟩);refine ap.o.mono ?_;rintro e Y ⟨rfl,rfl⟩;by_cases h1:wL [tIs,Zw,Zu] a.1.spelt=0
  ·have q:=I h1;have aN:¬(0:Int)<(wL [tIs,Zw,Zu] a.1.spelt:Int):=by omega
   obtain⟨W,m⟩:=QF (wr.alloc (.cells (Qv [tIs,Zw,Zu]).toArray 9));rw[<-m];have M:Hid (RC W b t a k i j):=by rw[m];exact HR.o.alloc _
   have D:Hid (Mod b w W):=by rw[m];exact au.o.alloc _
   have aa:Hid (W.heap[w.heap.size+1+1]?=some (.cells (Ub B A d p) 227)):=by rw[m];exact Qn HM.o
   have ai:Hid (W.heap[w.heap.size+1]?=some (.cells #[.string ⟨#[]⟩,.int .i64 0,.int .i64 0,.bool false,.slice none 0 0,.slice none 0 0] 227)):=by rw[m];exact Qn av.o
   have a3:w.heap.size+1+1<W.heap.size:=Qg aa.o;have aC:=I (G0 b W.heap.size 1 1 [XI] t a.1 a.2 k i j _ (M.o.alloc (.cells (Qv [XI]).toArray 9)).at_ (X8 W [XI] _ _ rfl) rfl (by decide));have aX:=JP [XI] a.1.spelt;clear h1 ap m ak;go_wp2_with fail;refine aC.o.mono ?_;rintro e Y ⟨rfl,aq⟩;subst aq;obtain⟨V,N⟩:=QF (W.alloc (.cells (Qv [XI]).toArray 9));rw[<-N];have ab:Hid (RC V b t a k i j):=by rw[N];exact M.o.alloc _
   have L:Hid (Mod b w V):=by rw[N];exact D.o.alloc _
   have r:Hid (V.heap[w.heap.size+1+1]?=some (.cells (Ub B A d p) 227)):=by rw[N];exact Qn aa.o
   have G:Hid (V.heap[w.heap.size+1]?=some (.cells #[.string ⟨#[]⟩,.int .i64 0,.int .i64 0,.bool false,.slice none 0 0,.slice none 0 0] 227)):=by rw[N];exact Qn ai.o
   have a2:w.heap.size+1+1<V.heap.size:=Qg r.o;clear N aC;by_cases h2:wL [XI] a.1.spelt=0
   ·have J:=I h2;have aO:¬(0:Int)<(wL [XI] a.1.spelt:Int):=by omega
    have m0:=Qk r.o;have m1:=Qr r.o;have m2:=QJ r.o;have m3:=QR r.o;have m4:=QV r.o;have m5:=Q9 r.o;have mf:=Qu r.o;have r0:=Qk G.o;have r1:=Qr G.o;have r2:=QJ G.o;have r3:=QR G.o;have r4:=QV G.o;have r5:=Q9 G.o;have rf:=Qu G.o;clear h2;go_wp2;have P:b<w.heap.size+1:=by omega
    have aj:b<w.heap.size+1+1:=by omega
    have Q:w.heap.size<=w.heap.size+1:=by omega
    have aS:w.heap.size<=w.heap.size+1+1:=by omega
    refine bodyPost_ret (v:=.agg #[.string (sA B),.int .i64 A,.int .i64 (max (d:Int) 1),.bool p,.slice none 0 0,.slice none 0 0]) (by simp[results,results187,go_sem,r0,r1,r2,r3,r4,r5]) rfl (Qf.ok (E.o.trans (Sf q.o J.o)) (((((((L.o.setNew aS _ _).setNew Q _ _).setNew Q _ _).setNew Q _ _).setNew Q _ _).setNew Q _ _).setNew Q _ _) ?_ (((((((ab.o.setNew aj _ _).setNew P _ _).setNew P _ _).setNew P _ _).setNew P _ _).setNew P _ _).setNew P _ _));unfold Bo Ub;have:(max (d:Int) 1)=((max d 1:Nat):Int):=by omega
    rw[this]
   ·have J:=I h2;have aO:(0:Int)<(wL [XI] a.1.spelt:Int):=by omega
    clear h2;cases S;rotate_left
    ·go_wp2_with fail;refine(XB b 7 _ _ t a.1 a.2 k i j _ ab.o.at_ rfl rfl).mono ?_;rintro e w1 ⟨⟨u,C,rfl,x⟩,c⟩;exact⟨rfl,Qf.err (E.o.trans (L4 q.o J.o)) (L.o.trans (Mod.of_below c)) ⟨u,Qs L.o.size C,rfl,x⟩⟩
    go_wp2_with fail;refine(Zv b _ _ _ rfl).mono ?_;rintro e Y ⟨rfl,aq⟩;subst aq;go_wp2_with fail;refine(YD b t a k i j _ ab.o).mono ?_;rintro e n (⟨y,hy,rfl,hc,c⟩ | ⟨f2,T,⟨u,C,rfl,x⟩,c⟩);rotate_left
    ·exact⟨rfl,Qf.err (E.o.trans (F7 q.o J.o T)) (L.o.trans c) ⟨u,Qs L.o.size C,rfl,x⟩⟩
    have ac:=Yt (l:=t.data.toList) (s:=a) (by simpa using ab.o.le) (aL.o J.o) hy;rw[bal]at ac;have ag:=I (L.o.trans c);have af:=I hc;have Z:=I (QA r.o c (by omega));have ad:=I (QA G.o c (by omega));have a1:w.heap.size+1+1<n.heap.size:=Qg Z.o;have HY:=I hy;clear hc c hy;go_wp2_with (go_at_call 137;refine(Aq _ _ _ _ _).mono ?_;rintro e Y ⟨rfl,rfl⟩);obtain⟨U,K⟩:=QF (((n.alloc (.cells #[.string ⟨#[105,59,111,99,116,101,116]⟩,.string ⟨#[105,59,97,115,99,105,105,45,99,97,115,101,109,97,112]⟩] 9)).alloc (.cells #[.int .i64 7] 33)).alloc (.cells #[.slice (some ⟨n.heap.size,0,none⟩) 2 2] 61))
    have aH:Hid (Jq U (n.heap.size+1+1) (n.heap.size+1) n.heap.size 2 2 7 [Xd,YP]):=by
     rw[K];refine⟨?_,?_,?_,rfl,by decide⟩
     ·exact Qi (Q5 (by simp)) 0
     ·exact Qi (Qn (Q5 (by simp))) 0
     ·exact((X8 n [Xd,YP] _ _ rfl).below (Qp _)).below (Qp _)
    have aw:Hid (RC U b t y k i j):=by rw[K];exact((af.o.alloc _).alloc _).alloc _
    have ah:Hid (Mod b w U):=by rw[K];exact((ag.o.alloc _).alloc _).alloc _
    have aI:Hid (U.heap[w.heap.size+1+1]?=some (.cells (Ub B A d p) 227)):=by rw[K];exact Qn (Qn (Qn Z.o))
    have aJ:Hid (U.heap[w.heap.size+1]?=some (.cells #[.string ⟨#[]⟩,.int .i64 0,.int .i64 0,.bool false,.slice none 0 0,.slice none 0 0] 227)):=by rw[K];exact Qn (Qn (Qn ad.o))
    rw[<-K];clear K;refine(BQ (n.heap.size+1+1) (n.heap.size+1) n.heap.size 2 2 7 [Xd,YP] b t y k i j _ aw.o aH.o).mono ?_;intro e w3 h3;rcases h3.cases with⟨z,v,ar,rfl,hv,ax,R⟩ | ⟨f3,aR,⟨u,C,rfl,x⟩,R⟩
    rotate_left
    ·exact⟨rfl,Qf.err (E.o.trans (Md q.o J.o HY.o aR)) (ah.o.trans R) ⟨u,Qs ah.o.size C,rfl,x⟩⟩
    unfold Jg at hv;subst hv;have ao:=Ut (l:=t.data.toList) (by simpa using aw.o.le) ar;rw[bal]at ao;replace ao:=ao.1;have aF:=I (ah.o.trans R);have aE:=I ax;have ae:=I (QA aI.o R (by omega));have aD:=I (QA aJ.o R (by omega));have aM:=I ar;have m3:=QR ae.o;have mf:=Qu ae.o;clear h3 ar ax R;have aj:b<w.heap.size+1+1:=by omega
    go_wp2;have aU:((sA z.1).toList==[105,59,111,99,116,101,116])=decide (z.1=Xd):=Y6 z.1 Xd;rw[aU];have aA:=aE.o.setNew aj 3 (.bool (decide (z.1=Xd)));refine⟨⟨z.2,d,decide (z.1=Xd),true,f,rfl,Qt _ _ _ _ _ _ ae.o,NL aD.o (by omega) _ _,aA,aF.o.setNew (by omega) _ _,by omega,aW,E.o.trans (Rg q.o J.o HY.o aM.o)⟩,?_⟩;rw[aA.muEq,HR.o.muEq];omega
  ·have q:=I h1;have aN:(0:Int)<(wL [tIs,Zw,Zu] a.1.spelt:Int):=by omega
   have aQ:(wr.alloc (.cells (Qv [tIs,Zw,Zu]).toArray 9)).cell? ⟨w.heap.size+1+1,2,none⟩=some (.int .i64 d):=Qi (Qn HM.o) 2;have T:(wr.alloc (.cells (Qv [tIs,Zw,Zu]).toArray 9)).frozen? ⟨w.heap.size+1+1,2,none⟩=false:=Qu (Qn HM.o) 2;have aT:(wL [tIs,Zw,Zu] a.1.spelt)<=3:=ak;obtain⟨W,m⟩:=QF (wr.alloc (.cells (Qv [tIs,Zw,Zu]).toArray 9));rw[<-m]at aQ T ⊢;have M:Hid (RC W b t a k i j):=by rw[m];exact HR.o.alloc _
   have D:Hid (Mod b w W):=by rw[m];exact au.o.alloc _
   have aa:Hid (W.heap[w.heap.size+1+1]?=some (.cells (Ub B A d p) 227)):=by rw[m];exact Qn HM.o
   have ai:Hid (W.heap[w.heap.size+1]?=some (.cells #[.string ⟨#[]⟩,.int .i64 0,.int .i64 0,.bool false,.slice none 0 0,.slice none 0 0] 227)):=by rw[m];exact Qn av.o
   have HZ:Hid (w.heap.size<=W.heap.size):=D.o.size;clear h1 ap m ak;by_cases ht:d=0
   ·have aV:((d:Int)==0)=true:=by simp;omega
    have HT:=I ht;clear ht;go_wp2_with fail;refine(Zv b _ _ _ rfl).mono ?_;rintro e Y ⟨rfl,rfl⟩;go_wp2_with fail;have aP:b<w.heap.size+1+1:=by omega
    have aZ:=D.o.size;refine(YD b t a k i j _ (M.o.setNew aP _ _)).mono ?_;rintro e n (⟨y,hy,rfl,hc,c⟩ | ⟨f2,T,⟨u,C,rfl,x⟩,c⟩);rotate_left
    ·exact⟨rfl,Qf.err (E.o.trans (Ij q.o HT.o T)) ((D.o.setNew (by omega) _ _).trans c) ⟨u,Qs (D.o.setNew (by omega) _ _).size C,rfl,x⟩⟩
    have ac:=Yt (l:=t.data.toList) (s:=a) (by simpa using M.o.le) (aK.o q.o) hy;rw[bal]at ac;have az:muW n b t.size<muW wr b t.size:=by rw[hc.muEq,HR.o.muEq];exact ac
    have aG:=I az;have af:=I hc;have ag:=I ((D.o.setNew (g:=w.heap.size+1+1) (by omega) 2 (.int .i64 (wL [tIs,Zw,Zu] a.1.spelt))).trans c);have Z:=I (QA (b:=b) (g:=w.heap.size+1+1) (Qt _ (w.heap.size+1+1) 2 (.int .i64 (wL [tIs,Zw,Zu] a.1.spelt)) _ _ aa.o) c (by omega));have ad:=I (QA (NL ai.o (by omega:w.heap.size+1≠w.heap.size+1+1) 2 (.int .i64 (wL [tIs,Zw,Zu] a.1.spelt))) c (by omega));have HY:=I hy;clear hc c az hy;go_wp2;go_roundw
    case rel=>exact⟨y,wL [tIs,Zw,Zu] a.1.spelt,p,S,f,rfl,Z.o,ad.o,af.o,ag.o,by omega,aT,E.o.trans (R3 q.o HT.o HY.o)⟩
    case measure=>exact aG.o
   ·have aV:((d:Int)==0)=false:=by simp;omega
    have HT:=I ht;clear ht;go_wp2_with fail;refine(XB b 7 _ _ t a.1 a.2 k i j _ M.o.at_ rfl rfl).mono ?_;rintro e w1 ⟨⟨u,C,rfl,x⟩,c⟩;exact⟨rfl,Qf.err (E.o.trans (LD q.o HT.o)) (D.o.trans (Mod.of_below c)) ⟨u,Qs HZ.o C,rfl,x⟩⟩
theorem Kb.mod{cv:Value}(h:Kb w b t rv mc mt cv chk)(hm:Mod b w w'):Kb w' b t rv mc mt cv chk:=
 fun W s hW hr=>h W s (hm.trans hW) hr
theorem GX(w:World)(b:Nat)(t:ByteArray)(rv:Value)(mc mt:Nat):Kb w b t rv mc mt (.func (.func 134) #[] #[]) (fun _=>0):=
 fun W s _ hr=>NH b t s rv mc mt W hr
def mtV(B:Nat)(hw:L8)(x:ZV)(w:World)(v:Value):Prop:=
 ∃ fv kv,v=.agg #[.string (sA hw),.int .i64 x.pos,.int .i64 x.tag,.bool x.octet,fv,kv]/\slB B x.fr w fv/\slB B x.keys w kv
theorem RC.mu_lt(h:RC w b t s d a c)(hF:2*t.size+1<F):mu t.size s<F:=by
 unfold mu;split<;>omega
theorem At(X:Value)(chk:L8->Nat)(k:Nat)(d:L8)(c:Nat)(b F:Nat)(t:ByteArray)(s:PS)(l:Value)(i j:Nat)(w:World)(h:RC w b t s l i j)(ho:Kb w b t l i j X chk)(hF:2*t.size+1<F) :
 Calls prog 133 #[.pointer (some ⟨b,0,none⟩),.agg #[.string (sA d),.int .i64 c],X] w (Qf (Yw t.data.toList F chk k c s) b t l i j w (mtV w.heap.size d)):=by
 have H:=I h;have HO:=I ho;have aH:=h.at_.lt;clear h ho;go_enter func133,ntmps133;go_wp2_with fail;have R:=I (((Mod.refl b w).alloc (.cells #[.string (sA d),.int .i64 c] 216)).alloc (.cells #[.string ⟨#[]⟩,.int .i64 0,.int .i64 0,.bool false,.slice none 0 0,.slice none 0 0] 227));refine(Lx d c b F t s l i j _ ((H.o.alloc _).alloc _) (H.o.mu_lt hF)).mono ?_;intro e N h1;rcases h1.cases with⟨o,v,hy,rfl,hv,hc,J⟩ | ⟨f,G,⟨B,K,rfl,E⟩,J⟩
 rotate_left
 ·exact⟨rfl,Qf.err (Q6 G) (R.o.trans J) ⟨B,Qs R.o.size K,rfl,E⟩⟩
 unfold Bo Ub at hv;subst hv;have W:=I hy;have HC:=I hc;have aa:=I (R.o.trans J);have T:=I (QA (g:=w.heap.size+1) (o:=.cells #[.string ⟨#[]⟩,.int .i64 0,.int .i64 0,.bool false,.slice none 0 0,.slice none 0 0] 227) (Q5 (by simp)) J (by omega));have aL:w.heap.size+1<N.heap.size:=Qg T.o;clear h1 hy hc J;go_wp2_with fail;obtain⟨V,u⟩:=QF (N.alloc (.cells #[.string (sA d),.int .i64 c,.int .i64 o.1.1,.bool o.1.2,.slice none 0 0,.slice none 0 0] 227));have ac:Hid (RC V b t o.2 l i j):=by rw[u];exact HC.o.alloc _
 have Q:Hid (Mod b w V):=by rw[u];exact aa.o.alloc _
 have aD:Hid (V.heap[w.heap.size+1]?=some (.cells #[.string ⟨#[]⟩,.int .i64 0,.int .i64 0,.bool false,.slice none 0 0,.slice none 0 0] 227)):=by rw[u];exact Qn T.o
 have ae:Hid (V.heap[N.heap.size]?=some (.cells #[.string (sA d),.int .i64 c,.int .i64 o.1.1,.bool o.1.2,.slice none 0 0,.slice none 0 0] 227)):=by rw[u];exact QC _ _
 rw[<-u];have aq:N.heap.size<V.heap.size:=Qg ae.o;generalize N.heap.size=M at *;clear u HC aa T;refine(Gw X chk b F t o.2 l i j V ac.o (HO.o.mod Q.o) (ac.o.mu_lt hF)).mono ?_;intro e w2 h2;rcases h2.cases with⟨y2,v2,ao,rfl,aj,ah,z⟩ | ⟨f,G,⟨B,K,rfl,E⟩,z⟩
 rotate_left
 ·exact⟨rfl,Qf.err ((QD W.o).trans (Q6 G)) (Q.o.trans z) ⟨B,Qs Q.o.size K,rfl,E⟩⟩
 have Y:=aj;obtain⟨D,L,C,rfl⟩:=Y.form;have ay:=I Y;have af:=I ao;have ar:=I ah;have av:=I (Q.o.trans z);have ax:=I (QA aD.o z (by omega));have P:=I (QA ae.o z (by omega));have aM:M<w2.heap.size:=Qg P.o;have m4:=QV P.o;have mf:=Qu P.o;have ag:b<M:=by omega
 have aK:w.heap.size+1<M:=by omega
 clear h2 ao ah z Y aj;go_wp2_with fail;obtain⟨U,p⟩:=QF (w2.setCell ⟨M,4,none⟩ (.slice (some ⟨D,0,none⟩) L C));have ab:Hid (RC U b t y2.2 l i j):=by rw[p];exact ar.o.setNew ag _ _
 have S:Hid (Mod b w U):=by rw[p];exact av.o.setNew (by omega) _ _
 have aC:Hid (U.heap[w.heap.size+1]?=some (.cells #[.string ⟨#[]⟩,.int .i64 0,.int .i64 0,.bool false,.slice none 0 0,.slice none 0 0] 227)):=by rw[p];exact NL ax.o (by omega) _ _
 have ad:Hid (U.heap[M]?=some (.cells #[.string (sA d),.int .i64 c,.int .i64 o.1.1,.bool o.1.2,.slice (some ⟨D,0,none⟩) L C,.slice none 0 0] 227)):=by rw[p];exact Qt _ _ _ _ _ _ P.o
 have aB:Hid (slB V.heap.size y2.1 U (.slice (some ⟨D,0,none⟩) L C)):=by
  rw[p];exact ay.o.keep (Abv.set aq _ _)
 rw[<-p];clear p mf m4;have aG:M<U.heap.size:=Qg ad.o;refine(Gw (.func (.func 134) #[] #[]) (fun _=>0) b F t y2.2 l i j U ab.o (GX _ _ _ _ _ _) (ab.o.mu_lt hF)).mono ?_;intro e a h3;rcases h3.cases with⟨y3,v3,ap,rfl,ak,ai,q⟩ | ⟨f,G,⟨B,K,rfl,E⟩,q⟩
 rotate_left
 ·exact⟨rfl,Qf.err ((QD W.o).trans ((QD af.o).trans (Q6 G))) (S.o.trans q) ⟨B,Qs S.o.size K,rfl,E⟩⟩
 have Z:=ak;obtain⟨g3,n3,c3,rfl⟩:=Z.form;have aA:=I Z;have az:=I (aB.o.keep (q.abv (by omega)));have aE:=I ap;have au:=I ai;have aw:=I (S.o.trans q);have n:=I (QA aC.o q (by omega));have m:=I (QA ad.o q (by omega));have m0:=Qk m.o;have m1:=Qr m.o;have m2:=QJ m.o;have m3:=QR m.o;have m4:=QV m.o;have m5:=Q9 m.o;have mf:=Qu m.o;have r0:=Qk n.o;have r1:=Qr n.o;have r2:=QJ n.o;have r3:=QR n.o;have r4:=QV n.o;have r5:=Q9 n.o;have rf:=Qu n.o;have aI:¬ M=w.heap.size+1:=by omega
 have aJ:¬ w.heap.size+1=M:=by omega
 clear h3 ap ai q Z ak;go_wp2;have y:b<w.heap.size+1:=by omega
 have A:w.heap.size<=w.heap.size+1:=by omega
 have aF:w.heap.size<=M:=by omega
 have x:w.heap.size+1<V.heap.size:=by omega
 have r:w.heap.size+1<U.heap.size:=by omega
 refine bodyPost_ret (v:=.agg #[.string (sA d),.int .i64 c,.int .i64 o.1.1,.bool o.1.2,.slice (some ⟨D,0,none⟩) L C,.slice (some ⟨g3,0,none⟩) n3 c3]) (by simp[results,results133,go_sem,r0,r1,r2,r3,r4,r5]) rfl (Qf.ok ((QD W.o).trans ((QD af.o).trans (QD aE.o))) (((((((aw.o.setNew aF _ _).setNew A _ _).setNew A _ _).setNew A _ _).setNew A _ _).setNew A _ _).setNew A _ _) ⟨_,_,rfl,?_,?_⟩ (((((((au.o.setNew ag _ _).setNew y _ _).setNew y _ _).setNew y _ _).setNew y _ _).setNew y _ _).setNew y _ _))
 ·exact(((((((az.o.keep (Abv.set aq _ _)).keep (Abv.set x _ _)).keep (Abv.set x _ _)).keep (Abv.set x _ _)).keep (Abv.set x _ _)).keep (Abv.set x _ _)).keep (Abv.set x _ _)).weak (by omega)
 ·exact(((((((aA.o.keep (Abv.set aG _ _)).keep (Abv.set r _ _)).keep (Abv.set r _ _)).keep (Abv.set r _ _)).keep (Abv.set r _ _)).keep (Abv.set r _ _)).keep (Abv.set r _ _)).weak (by omega)
def ZE(hw:L8)(hp:Nat):Value:=.agg #[.string (sA hw),.int .i64 hp]
def Yd(w:World)(pr b:Nat):Prop:=w.cell? ⟨pr,0,none⟩=some (.pointer (some ⟨b,0,none⟩))/\pr≠b
theorem Yd.mod(h:Yd w pr b)(hm:Mod b w w'):Yd w' pr b:=
 ⟨by rw[hm.cell (p:=⟨pr,0,none⟩) (Qq h.1) h.2];exact h.1,h.2⟩
theorem Yd.lt(h:Yd w pr b):pr<w.heap.size:=Qq (a:=⟨pr,0,none⟩) h.1
theorem Ck(b:L8)(a:Nat)(d:Int)(pt:Nat)(B:Bool)(w:World)(h:w.cell? ⟨pt,0,none⟩=some (.bool B)) :
 Calls prog 185 #[ZE b a,.int .i64 d,.pointer (some ⟨pt,0,none⟩)] w fun e w'=>e=.returned (.iface 302 (.agg #[.string (sA b),.int .i64 a,.bool B]))/\Below w.heap.size w w':=by
 have c:=Qq h;have f:(w.alloc (.cells #[.string (sA b),.int .i64 a] 216)).cell? ⟨pt,0,none⟩=some (.bool B):=by rw[World.cell?_alloc_past _ _ _ c];exact h
 unfold ZE;go_enter func185,ntmps185;go_wp2;go_ret;exact⟨rfl,Qp _⟩
theorem Oi(g:L8)(c:Nat)(d:Int)(pr:Nat)(b F:Nat)(t:ByteArray)(s:PS)(n:Value)(l m:Nat)(w:World)(h:RC w b t s n l m)(k:Yd w pr b)(hF:2*t.size+1<F) :
 Calls prog 132 #[ZE g c,.int .i64 d,.pointer (some ⟨pr,0,none⟩)] w (Qf (Yw t.data.toList F (fun _=>0) 5 c s) b t n l m w (fun x w' v=>∃ u,v=.iface 231 u/\mtV w.heap.size g x w' u)):=by
 have K:=k.lt;have S:(w.alloc (.cells #[.string (sA g),.int .i64 c] 216)).cell? ⟨pr,0,none⟩=some (.pointer (some ⟨b,0,none⟩)):=by rw[World.cell?_alloc_past _ _ _ K];exact k.1
 have H:=I h;clear h k;unfold ZE;go_enter func132,ntmps132;go_wp2_with fail;refine(At _ (fun _=>0) 5 g c b F t s n l m _ (H.o.alloc _) (GX _ _ _ _ _ _) hF).mono ?_;intro e W p;rcases p.cases with⟨y,v,r,rfl,⟨P,T,rfl,i,j⟩,q,a⟩ | ⟨f,J,⟨E,L,rfl,G⟩,a⟩
 rotate_left
 ·exact⟨rfl,Qf.err J (((Mod.refl b w).alloc _).trans a) ⟨E,by simp at L;omega,rfl,G⟩⟩
 have D:=I r;have z:=I q;have C:=I (((Mod.refl b w).alloc _).trans a);have A:=I (i.weak (B':=w.heap.size) (by simp));have B:=I (j.weak (B':=w.heap.size) (by simp));clear p r q a;obtain⟨Q,U,M,rfl⟩:=i.form;obtain⟨R,V,N,rfl⟩:=j.form;clear i j;go_wp2;go_ret;exact Qf.ok D.o C.o ⟨_,rfl,_,_,rfl,A.o,B.o⟩ z.o
theorem LG(g:L8)(c:Nat)(d:Int)(pr:Nat)(b F:Nat)(t:ByteArray)(s:PS)(n:Value)(l m:Nat)(w:World)(h:RC w b t s n l m)(k:Yd w pr b)(hF:2*t.size+1<F) :
 Calls prog 138 #[ZE g c,.int .i64 d,.pointer (some ⟨pr,0,none⟩)] w (Qf (Yw t.data.toList F (fun _=>0) 7 c s) b t n l m w (fun x w' v=>∃ u,v=.iface 235 u/\mtV w.heap.size g x w' u)):=by
 have K:=k.lt;have S:(w.alloc (.cells #[.string (sA g),.int .i64 c] 216)).cell? ⟨pr,0,none⟩=some (.pointer (some ⟨b,0,none⟩)):=by rw[World.cell?_alloc_past _ _ _ K];exact k.1
 have H:=I h;clear h k;unfold ZE;go_enter func138,ntmps138;go_wp2_with fail;refine(At _ (fun _=>0) 7 g c b F t s n l m _ (H.o.alloc _) (GX _ _ _ _ _ _) hF).mono ?_;intro e W p;rcases p.cases with⟨y,v,r,rfl,⟨P,T,rfl,i,j⟩,q,a⟩ | ⟨f,J,⟨E,L,rfl,G⟩,a⟩
 rotate_left
 ·exact⟨rfl,Qf.err J (((Mod.refl b w).alloc _).trans a) ⟨E,by simp at L;omega,rfl,G⟩⟩
 have D:=I r;have z:=I q;have C:=I (((Mod.refl b w).alloc _).trans a);have A:=I (i.weak (B':=w.heap.size) (by simp));have B:=I (j.weak (B':=w.heap.size) (by simp));clear p r q a;obtain⟨Q,U,M,rfl⟩:=i.form;obtain⟨R,V,N,rfl⟩:=j.form;clear i j;go_wp2;go_ret;exact Qf.ok D.o C.o ⟨_,rfl,_,_,rfl,A.o,B.o⟩ z.o
theorem Zm(h:Mod b w.drew w'):Mod b w w':=⟨h.os,h.tape,h.output,h.size,h.block⟩
theorem GC{w1:World}(c:L8)(a:Nat)(d:Mod b (w.alloc (.cells #[.string (sA c),.int .i64 a] 216)) w1)(e:b<w.heap.size) :
 w1.cell? ⟨w.heap.size,0,none⟩=some (.string (sA c))/\w1.cell? ⟨w.heap.size,1,none⟩=some (.int .i64 a):=by
 have h:=QA (g:=w.heap.size) (QC w (.cells #[.string (sA c),.int .i64 a] 216)) d (by omega);exact⟨Qi h 0,Qi h 1⟩
theorem MT(g:L8)(c:Nat)(d:Int)(b F:Nat)(t:ByteArray)(s:PS)(l:Value)(j k:Nat)(w:World)(h:RC w b t s l j k)(hF:2*t.size+1<F) :
 Calls prog 139 #[.pointer (some ⟨b,0,none⟩),ZE g c,.int .i64 d] w (Qf (sLs t.data.toList (fun _=>0) F s) b t l j k w (fun xs w' v=>∃ u,v=.iface 309 (.agg #[.string (sA g),.int .i64 c,u])/\slB w.heap.size xs w' u)):=by
 have H:=I h;have D:=h.at_.lt;clear h;unfold ZE;go_enter func139,ntmps139;go_wp2_with fail;go_region_with (first|(go_at_call 188;refine(Gw _ (fun _=>0) b F t s l j k _ ((H.o.alloc _).drew) (GX _ _ _ _ _ _) (H.o.mu_lt hF)).mono ?_;intro e N m;rcases m.cases with⟨y,v,p,rfl,i,n,a⟩ | ⟨f,C,⟨A,E,rfl,B⟩,a⟩;rotate_left;exact⟨rfl,Qf.err C (((Mod.refl b w).alloc _).trans (Zm a)) ⟨A,by simp at E;omega,rfl,B⟩⟩;obtain⟨K,L⟩:=GC g c (Zm a) D;have z:=I p;have q:=I n;have r:=I (((Mod.refl b w).alloc (.cells #[.string (sA g),.int .i64 c] 216)).trans (Zm a));have x:=I (i.weak (B':=w.heap.size) (by simp));obtain⟨J,M,G,rfl⟩:=i.form;clear m p n a i;skip))
 all_goals go_wp2
 all_goals go_ret
 all_goals exact Qf.ok z.o r.o ⟨_,rfl,x.o⟩ q.o
def AbvX(X:Nat->Prop)(w w':World):Prop:=∀ k,X k->k<w.heap.size->w'.heap[k]?=w.heap[k]?
def fromB(B:Nat)(k:Nat):Prop:=B<=k
theorem Mod.abvX(h:Mod b w w')(hX:¬ X b):AbvX X w w':=fun k hk hz=>h.block k hz (fun e=>hX (e ▸ hk))
theorem AbvX.set(hX:¬ X g)(o:Nat)(v:Value):AbvX X w (w.setCell ⟨g,o,none⟩ v):=fun k hk _=>QK (fun e=>hX (by have e':k=g:=e;rw[<-e'];exact hk))
def XV{α:Type}(fn:Nat)(w:World)(b:Nat)(t:ByteArray)(rv:Value)(mc mt:Nat)(d:Int)(sub:PS->Qb (α×PS))(P:(Nat->Prop)->α->World->Value->Prop):Prop:=
 ∀(W:World) (s:PS),Mod b w W->RC W b t s rv mc mt->Calls prog fn #[.pointer (some ⟨b,0,none⟩),.int .i64 d] W (Qf (sub s) b t rv mc mt W (P (fromB W.heap.size)))
theorem XV.mod{fn:Nat}{d:Int}(h:XV fn w b t rv mc mt d sub P)(hm:Mod b w w'):XV fn w' b t rv mc mt d sub P:=
 fun W s hW hr=>h W s (hm.trans hW) hr
structure TreeP {α:Type} (P:(Nat->Prop)->α->World->Value->Prop):Prop where
 form:∀ X a w v,P X a w v->∃ ty x,v=.iface ty x
 keep:∀ X a w w' v,P X a w v->AbvX X w w'->P X a w' v
 weak:∀ X Y a w v,P X a w v->(∀ k,X k->k < w.heap.size->Y k)->P Y a w v
theorem Ml(d:Int)(a:0<=d)(b:d<=100):IntKind.i64.wrap (d+1)=d+1:=by
 rw[IntKind.wrap_i64];omega
theorem Tm(sub:PS->Qb (α×PS))(P:(Nat->Prop)->α->World->Value->Prop)(i:L8)(g:Nat)(d:Int)(b:Nat)(t:ByteArray)(s:PS)(n:Value)(l m:Nat)(w:World)(h:RC w b t s n l m)(K:0<=d)(L:d<=100)(q:TreeP P)(z:XV 186 w b t n l m (d+1) sub P) :
 Calls prog 128 #[.pointer (some ⟨b,0,none⟩),ZE i g,.int .i64 d] w (Qf (sub s) b t n l m w (fun a w' v=>∃ u,v=.iface 305 (.agg #[.string (sA i),.int .i64 g,u])/\P (fromB w.heap.size) a w' u)):=by
 have H:=I h;have D:=I z;have HP:=I q;have Q:=h.at_.lt;have U:=Ml d K L;clear h z q;unfold ZE;go_enter func128,ntmps128;go_wp2_with fail;go_region_with (first|(go_at_call 186;refine(D.o _ s (((Mod.refl b w).alloc _).drew) ((H.o.alloc _).drew)).mono ?_;intro e W p;rcases p.cases with⟨y,v,A,rfl,j,r,c⟩ | ⟨f,M,⟨G,R,rfl,J⟩,c⟩;rotate_left;exact⟨rfl,Qf.err M (((Mod.refl b w).alloc _).trans (Zm c)) ⟨G,by simp at R;omega,rfl,J⟩⟩;obtain⟨S,T⟩:=GC i g (Zm c) Q;have F:=I A;have B:=I r;have C:=I (((Mod.refl b w).alloc (.cells #[.string (sA i),.int .i64 g] 216)).trans (Zm c));have E:=I (HP.o.weak _ (fromB w.heap.size) _ _ _ j (fun k N _=>Qs (by simp) N));obtain⟨V,x,rfl⟩:=HP.o.form _ _ _ _ j;clear p A r c j;skip))
 all_goals go_wp2
 all_goals go_ret
 all_goals exact Qf.ok F.o C.o ⟨_,rfl,E.o⟩ B.o
def trX{α:Type}(X:Nat->Prop)(P:(Nat->Prop)->α->World->Value->Prop)(xs:List α)(w:World)(v:Value):Prop:=
 ∃ g c,v=.slice (some ⟨g,0,none⟩) xs.length c/\X g/\∀ j (hj:j<xs.length),∃ u,w.cell? ⟨g,j,none⟩=some u/\P X xs[j] w u
theorem trX.keep{α:Type}{X:Nat->Prop}{P:(Nat->Prop)->α->World->Value->Prop}(f:TreeP P){xs:List α}{w w':World}{v:Value}(h:trX X P xs w v)(d:AbvX X w w'):trX X P xs w' v:=by
 obtain⟨g,c,l,b,m⟩:=h;refine⟨g,c,l,b,fun j i=>?_⟩;obtain⟨u,e,k⟩:=m j i;refine⟨u,?_,f.keep _ _ _ _ _ k d⟩;rw[ZA (w:=w) (a:=⟨g,j,none⟩) (d g b (Qq e))];exact e
theorem trX.weak{α:Type}{X Y:Nat->Prop}{P:(Nat->Prop)->α->World->Value->Prop}(e:TreeP P){xs:List α}{w:World}{v:Value}(l:xs≠[])(h:trX X P xs w v)(b:∀ k,X k->k<w.heap.size->Y k):trX Y P xs w v:=by
 obtain⟨g,c,n,f,d⟩:=h;refine⟨g,c,n,?_,fun j i=>?_⟩
 ·obtain⟨u,a,_⟩:=d 0 (List.length_pos_iff.2 l);exact b g f (Qq a)
 ·obtain⟨u,a,m⟩:=d j i;exact⟨u,a,e.weak _ _ _ _ _ m b⟩
theorem trX.form{xs:List α}(h:trX X P xs w v):∃ g n c,v=.slice (some ⟨g,0,none⟩) n c:=by
 obtain⟨g,c,a,_⟩:=h;exact⟨g,_,c,a⟩
def Q3{α:Type}(P:α->Value->Prop):List α->List Value->Prop
 | [],[]=>True
 |a::xs,v::vs=>P a v/\Q3 P xs vs
 |_,_=>False
theorem Q3.imp{α:Type}{P Q:α->Value->Prop}(h:∀ a v,P a v->Q a v):∀ {xs:List α} {vs:List Value},Q3 P xs vs->Q3 Q xs vs
 | [],[],_=>trivial
 |a::xs,v::vs,hr=>⟨h _ _ hr.1,Q3.imp h hr.2⟩
 | [],_::_,hr=>hr.elim
 |_::_,[],hr=>hr.elim
theorem Q3.snoc{α:Type}{P:α->Value->Prop}{a:α}{v:Value}(h:P a v):∀ {xs:List α} {vs:List Value},Q3 P xs vs->Q3 P (xs++[a]) (vs++[v])
 | [],[],_=>⟨h,trivial⟩
 |a'::xs,v'::vs,hr=>⟨hr.1,Q3.snoc h hr.2⟩
 | [],_::_,hr=>hr.elim
 |_::_,[],hr=>hr.elim
theorem Q3.at{α:Type}{P:α->Value->Prop}:∀ {xs:List α} {c:List Value},Q3 P xs c->∀ j (b:j<xs.length),∃ u,c[j]?=some u/\P xs[j] u
 | [],[],_,j,b=>absurd b (Nat.not_lt_zero _)
 |a::xs,v::c,h,0,_=>⟨v,rfl,h.1⟩
 |a::xs,v::c,h,j+1,b=>by
  obtain⟨u,d,e⟩:=Q3.at h.2 j (by simpa using b);exact⟨u,by simpa using d,by simpa using e⟩
 | [],_::_,h,_,_=>h.elim
 |_::_,[],h,_,_=>h.elim
def Q8{α:Type}(P:(Nat->Prop)->α->World->Value->Prop)(base:Nat)(w:World)(v:Value)(a:α)(u:Value):Prop:=
 ∃ X,P X a w u/\(∀ k,X k->base<=k/\k<w.heap.size)/\∀ g,v.ownBlock=some g->¬ X g
theorem Q8.mod(j:TreeP P){a:α}(h:Q8 P base w v a u)(f:Mod b w w')(l:b<base):Q8 P base w' v a u:=by
 obtain⟨X,g,c,i⟩:=h;exact⟨X,j.keep _ _ _ _ _ g (f.abvX (fun e=>by have:=(c b e).1;omega)),fun k d=>⟨(c k d).1,Zs (c k d).2 f.size⟩,i⟩
theorem Q8.grown(n:TreeP P){v':Value}{a:α}(h:Q8 P base w v a u)(j:(w.alloc o).grownBy w' v.ownBlock)(hv:v'.ownBlock=v.ownBlock\/v'.ownBlock=some (w.heap.size+1)):Q8 P base w' v' a u:=by
 obtain⟨X,l,c,f⟩:=h
 have m:AbvX X w w':=fun k b p=>by
  rw[j.block k (by simp;omega) (fun e=>f k e.symm b)];exact Below.heap_alloc _ _ _ p
 refine⟨X,n.keep _ _ _ _ _ l m,fun k b=>⟨(c k b).1,?_⟩,fun g d i=>?_⟩
 ·have:=(c k b).2;have:=j.size;simp at this;omega
 ·rcases hv with hv|hv
  ·exact f g (hv ▸ d) i
  ·rw[hv]at d;have:=(c g i).2;simp at d;omega
theorem Q8.new(c:TreeP P){a:α}(h:P (fromB B) a w u)(b:base<=B)(d:∀ g,v.ownBlock=some g->g<B):Q8 P base w v a u:=
 ⟨fun k=>B<=k/\k<w.heap.size,c.weak _ _ _ _ _ h (fun k hk hz=>⟨hk,hz⟩),fun k hk=>⟨Qs b hk.1,hk.2⟩,fun g hg hX=>by have:=d g hg;omega⟩
theorem trX.of_owns(m:TreeP P){e:TypeId}{xs:List α}{d:List Value}(h:w.ownsRow base e 1 v n d)(t:n=xs.length)(A:xs≠[])(y:Q3 (fun a u=>Q8 P base w v a u) xs d):trX (fromB base) P xs w v:=by
 subst t;have p:=fun g (b:v.ownBlock=some g)=>h.cells b
 obtain⟨C,i⟩:=h;rcases i with⟨_,l⟩ | ⟨g,f,B,c,b,r⟩
 ·exact absurd (Xz l) A
 ·refine⟨g,f,c,b,fun j q=>?_⟩;obtain⟨u,z,X,x,o,_⟩:=y.at j q;have:=p g (by rw[c];rfl) j u z;rw[Ys]at this;exact⟨u,this,m.weak _ _ _ _ _ x (fun k s _=>(o k s).1)⟩
theorem Tryz.infoTest:(prog.info? 218).map (fun i=>(i.zero,i.size,i.bytes))=some (some .nilIface,1,16):=by kernel_rfl
theorem Fm(h:paL l [[44],[41]] s=.error e):X7 l sub (f+1) acc s=.error e:=by rw[X7];exact Q6 h
theorem F2(h:paL l [[44],[41]] s=.ok y)(a:¬ y.1=1):X7 l sub (f+1) acc s=.ok (acc,y.2):=by rw[X7,QD h,if_neg a]
theorem Fu(h:paL l [[44],[41]] s=.ok y)(a:y.1=1)(b:sub y.2=.error e):X7 l sub (f+1) acc s=.error e:=by rw[X7,QD h,if_pos a];exact Q6 b
theorem Im{z:α×PS}(h:paL l [[44],[41]] s=.ok y)(a:y.1=1)(b:sub y.2=.ok z):X7 l sub (f+1) acc s=X7 l sub f (acc++[z.1]) z.2:=by rw[X7,QD h,if_pos a];exact QD b
theorem SX:∀ z∈([[44],[41]]:Qa),z≠[]:=by decide
def SubMu{α:Type}(n:Nat)(sub:PS->Qb (α×PS)):Prop:=∀ s y,s.2<=n->(s.1.kind=0->s.1.spelt=[])->sub s=.ok y->mu n y.2<mu n s
theorem DE(sub:PS->Qb (α×PS))(P:(Nat->Prop)->α->World->Value->Prop)(q:L8)(n:Nat)(d:Int)(b F:Nat)(t:ByteArray)(s:PS)(J:Value)(E G:Nat)(w:World)(h:RC w b t s J E G)(hF:2*t.size+1<F)(bs:0<=d)(bt:d<=100)(hP:TreeP P)(hS:SubMu t.size sub)(ho:XV 186 w b t J E G (d+1) sub P) :
 Calls prog 130 #[.pointer (some ⟨b,0,none⟩),ZE q n,.int .i64 d] w (Qf (groupL t.data.toList F sub s) b t J E G w (fun xs w' v=>∃ u,v=.agg #[.string (sA q),.int .i64 n,u]/\trX (fromB w.heap.size) P xs w' u/\xs≠[])):=by
 have H:=I h;have HO:=I ho;have HP:=I hP;have a9:=I hS;have bu:=h.at_.lt;clear h ho hP hS;unfold ZE;obtain⟨i0,hi,bo,bp,bq⟩:=info_parts Tryz.infoTest;go_enter func130,ntmps130;go_wp2_with fail;obtain⟨V,i⟩:=QF ((w.alloc (.cells #[.string (sA q),.int .i64 n] 216)).alloc (.cells #[.string ⟨#[]⟩,.int .i64 0,.slice none 0 0] 221));have a7:Hid (RC V b t s J E G):=by rw[i];exact(H.o.alloc _).alloc _
 have ay:Hid (Mod b w V):=by rw[i];exact((Mod.refl b w).alloc _).alloc _
 have bc:Hid (V.heap[w.heap.size]?=some (.cells #[.string (sA q),.int .i64 n] 216)):=by rw[i];exact Qn (QC _ _)
 have bd:Hid (V.heap[w.heap.size+1]?=some (.cells #[.string ⟨#[]⟩,.int .i64 0,.slice none 0 0] 221)):=by rw[i];exact Q5 (by simp)
 have bB:V.heap.size=w.heap.size+1+1:=by rw[i];simp
 have ac:=I (Jo b V.heap.size 1 1 [[40]] t s J E G _ (a7.o.alloc (.cells (Qv [[40]]).toArray 9)) (X8 V [[40]] _ _ rfl) rfl (by decide));rw[i]at ac;rw[show((w.alloc (.cells #[.string (sA q),.int .i64 n] 216)).alloc (.cells #[.string ⟨#[]⟩,.int .i64 0,.slice none 0 0] 221)).heap.size=w.heap.size+1+1 from by simp]at ac;refine ac.o.mono ?_;rw[<-i];intro e w1 B;rcases B.cases with⟨y,v,hy,rfl,Q,T,c⟩ | ⟨f,hf,⟨A,hz,rfl,C⟩,c⟩
 rotate_left
 ·exact⟨rfl,Qf.err (Q6 hf) ((ay.o.alloc _).trans c) ⟨A,by simp at hz;omega,rfl,C⟩⟩
 unfold XG at Q;subst Q;have HY:=I hy;have HC:=I T;have Z:=I ((ay.o.alloc (.cells (Qv [[40]]).toArray 9)).trans c);have aV:=I (QA (Qn bc.o) c (by omega));have aA:=I (QA (Qn bd.o) c (by omega));clear B hy T c i ac;go_wp2_with fail;refine(HO.o _ y.2 Z.o HC.o).mono ?_;intro e w2 h2;rcases h2.cases with⟨z,v,aQ,rfl,Q,T,c⟩ | ⟨f,hf,⟨A,hz,rfl,C⟩,c⟩
 rotate_left
 ·exact⟨rfl,Qf.err ((QD HY.o).trans (Q6 hf)) (Z.o.trans c) ⟨A,Qs Z.o.size hz,rfl,C⟩⟩
 have bx:w.heap.size+1<w1.heap.size:=Qg aA.o;have HV2:=I Q;obtain⟨ty,x,rfl⟩:=HP.o.form _ _ _ _ Q;have aE:=I aQ;have X:=I T;have aZ:=I (Z.o.trans c);have aW:=I (QA aV.o c (by omega));have aB:=I (QA aA.o c (by omega));have bn:w.heap.size+1<w2.heap.size:=Qg aB.o;have bl:=X.o.mu_le;have aJ:=X.o.mu_lt hF;clear h2 aQ T c Q;go_wp2_with fail
 go_loopw [7] (fun v wr=>∃(R:PS) (r:List α) (vs:List Value) (f:Nat),wr.ownsRow (w.heap.size+1+1) 218 1 v r.length vs/\Q3 (fun a u=>Q8 P (w.heap.size+1+1) wr v a u) r vs/\r≠[]/\RC wr b t R J E G/\Mod b w wr/\wr.heap[w.heap.size]?=some (.cells #[.string (sA q),.int .i64 n] 216)/\wr.heap[w.heap.size+1]?=some (.cells #[.string ⟨#[]⟩,.int .i64 0,.slice none 0 0] 221)/\mu t.size R<f/\r.length+mu t.size R<=1300/\groupL t.data.toList F sub s=X7 t.data.toList sub f r R) (fun _ wr=>muW wr b t.size)
 case atStart=>
  have hA:Mod b w2 (w2.alloc (.cells #[.iface ty x] 218)):=(Mod.refl b w2).alloc _
  have hG:Q8 P (w.heap.size+1+1) w2 (.slice (some ⟨w2.heap.size,0,none⟩) 1 1) z.1 (.iface ty x):=⟨fun k=>w1.heap.size<=k∧k < w2.heap.size,HP.o.weak _ _ _ _ _ HV2.o (fun k hk hz=>⟨hk,hz⟩),fun k hk=>⟨by omega,hk.2⟩,fun g hg hX=>by
   have:w2.heap.size=g:=by simpa[Value.ownBlock]using hg
   omega⟩
  refine⟨z.2,[z.1],[.iface ty x],F,?_,⟨hG.mod HP.o hA (by omega),trivial⟩,by simp,X.o.alloc _,aZ.o.alloc _,Qn aW.o,Qn aB.o,aJ,by simp;omega,(QD HY.o).trans (QD aE.o)⟩;exact World.ownsRow_lit (e:=218) (size:=1) w2 #[.iface ty x] 1 bn (by unfold maxLen;omega) rfl
 case round=>
  obtain⟨R,r,vs,f,aL,D,ap,aN,aI,aF,aj,hf,br,aO⟩:=hrel;obtain⟨f,rfl⟩:∃ g,f=g+1:=⟨f - 1,by omega⟩;have HR:=I aN;have az:=I aI;have aa:=I aO;have a4:=I aL;have a8:=I D;have aR:=I aF;have aS:=I aj;have bw:w.heap.size+1<wr.heap.size:=Qg aj;clear aN aI aO aL D aF aj HC X HY aE bl aJ;go_wp2_with fail;refine(Jo b wr.heap.size 2 2 [[44],[41]] t R J E G _ (HR.o.alloc _) (X8 wr [[44],[41]] _ _ rfl) rfl (by decide)).mono ?_;intro e K h3;rcases h3.cases with⟨U,v3,av,rfl,aP,aG,ab⟩ | ⟨f3,bi,⟨A,hz,rfl,C⟩,ab⟩
  rotate_left
  ·exact⟨rfl,Qf.err (aa.o.trans (Fm bi)) ((az.o.alloc _).trans ab) ⟨A,by simp at hz;omega,rfl,C⟩⟩
  have ao:=G3 (l:=t.data.toList) (by simpa using HR.o.le) HR.o.e0 SX av;rw[bal]at ao;replace ao:=ao.1;have M:=((Mod.refl b wr).alloc (.cells #[.string ⟨#[44]⟩,.string ⟨#[41]⟩] 9)).trans ab;have S:=I (az.o.trans M);have ag:=I av;have Y:=I aG;have af:=I (ZP (b:=b) a4.o M (by omega));have aD:=I (a8.o.imp (fun a u p=>Q8.mod HP.o (b:=b) (w':=K) p M (by omega)));have ae:=I (QA aR.o M (by omega));have L:=I (QA aS.o M (by omega));unfold XG at aP;subst aP;clear h3 av aG ab M;by_cases B:U.1=1;rotate_left
  ·have bh:((U.1:Int)==1)=false:=by simp;omega
   have W:=I B;have HT:=I (trX.of_owns HP.o af.o rfl ap aD.o);obtain⟨gg,nn,cc,rfl⟩:=HT.o.form;have k0:=Qk ae.o;have k1:=Qr ae.o;have r0:=Qk L.o;have r1:=Qr L.o;have r2:=QJ L.o;have rf:=Qu L.o;clear B;go_wp2;have ai:b<w.heap.size+1:=by omega
   have au:w.heap.size<=w.heap.size+1:=by omega
   have hq:¬ fromB (w.heap.size+1+1) (w.heap.size+1):=by unfold fromB;omega
   have bm:∀ k,fromB (w.heap.size+1+1) k->fromB w.heap.size k:=fun k hk=>by unfold fromB at *;omega
   refine bodyPost_ret (v:=.agg #[.string (sA q),.int .i64 n,.slice (some ⟨gg,0,none⟩) nn cc]) (by simp[results,results130,go_sem,r0,r1,r2]) rfl (Qf.ok (aa.o.trans (F2 ag.o W.o)) (((S.o.setNew au _ _).setNew au _ _).setNew au _ _) ⟨_,rfl,?_,ap⟩ (((Y.o.setNew ai _ _).setNew ai _ _).setNew ai _ _));exact trX.weak HP.o ap (((HT.o.keep HP.o (AbvX.set hq _ _)).keep HP.o (AbvX.set hq _ _)).keep HP.o (AbvX.set hq _ _)) (fun k hk _=>bm k hk)
  have bh:((U.1:Int)==1)=true:=by simp;omega
  have W:=I B;clear B;go_wp2_with fail;refine(HO.o _ U.2 S.o Y.o).mono ?_;intro e w4 h4;rcases h4.cases with⟨z4,v4,aw,rfl,ar,aH,m⟩ | ⟨f4,bj,⟨A,hz,rfl,C⟩,m⟩
  rotate_left
  ·exact⟨rfl,Qf.err (aa.o.trans (Fu ag.o W.o bj)) (S.o.trans m) ⟨A,Qs S.o.size hz,rfl,C⟩⟩
  have bv:=a9.o U.2 z4 Y.o.le Y.o.e0 aw;have bz:w.heap.size+1<K.heap.size:=Qg L.o;have ba:=I ar;obtain⟨ad,x4,rfl⟩:=HP.o.form _ _ _ _ ar;have a0:=I (S.o.trans m);have bg:=I aw;have aT:=I aH;have aq:=ZP (b:=b) af.o m (by omega);have bf:=I (aD.o.imp (fun a u p=>Q8.mod HP.o (b:=b) (w':=w4) p m (by omega)));have bk:=I (fun k hk=>(af.o.lt k hk).2);have aU:=I (Q8.new HP.o (base:=w.heap.size+1+1) ba.o (by omega) bk.o);have aX:=I (QA ae.o m (by omega));have aC:=I (QA L.o m (by omega));have bA:w.heap.size+1<w4.heap.size:=Qg aC.o;clear h4 aw aH m ar;go_wp2_with (at_builtin;refine wpList_append_own_at _ rfl _ _ 219 rfl (w.heap.size+1+1) 218 i0 .nilIface 1 16 underlying219 hi bo bp bq rfl (by decide) _ _ _ rfl (aq.alloc _) ⟨w4.heap.size,0,none⟩ 1 1 [.iface ad x4] rfl rfl ?c1 ?c2 ?c3 ?c4 ?c5 ?_)
  case c1=>
   intro j u hj
   match j,hj with
   |0,hj=>simp at hj;subst hj;simp[Addr.add]
  case c2=>intro u p;simp at p;subst p;rfl
  case c3=>unfold maxLen;omega
  case c4=>omega
  case c5=>simp;omega
  ·intro v' w5 aM N _ ah;have D:∀ k,(u7).ownBlock=some k->w.heap.size+1+1<=k:=fun k hk=>(aq.lt k hk).1
   have a1:=I ((a0.o.alloc (Obj.cells #[.iface ad x4] 218)).grown N (fun k hk=>by have:=D k hk;omega));have ax:=I ((aT.o.alloc (Obj.cells #[.iface ad x4] 218)).grown N (fun k hk=>by have:=D k hk;omega));have a3:=I aM;have a5:=I (Q3.snoc (P:=fun a u=>Q8 P (w.heap.size+1+1) w5 v' a u) (aU.o.grown HP.o N ah) (bf.o.imp (fun a u p=>Q8.grown HP.o p N ah)))
   have ak:∀ k,k<w.heap.size+1+1->w5.heap[k]?=w4.heap[k]?:=fun k hk=>by
    rw[N.block k (by simp;omega) (fun e=>by have:=D k e.symm;omega)];exact Below.heap_alloc _ _ _ (by omega)
   have aY:=I ((ak w.heap.size (by omega)).trans aX.o);have a6:=I ((ak (w.heap.size+1) (by omega)).trans aC.o);have aK:muW w5 b t.size<muW wr b t.size:=by rw[ax.o.muEq,HR.o.muEq];omega
   have a2:=I aK;clear aM N aK aq D ak ah;go_wp2;go_roundw
   case rel=>exact⟨z4.2,r++[z4.1],vs++[.iface ad x4],f,by simpa using a3.o,a5.o,by simp,ax.o,a1.o,aY.o,a6.o,by omega,by simp;omega,aa.o.trans (Im ag.o W.o bg.o)⟩
   case measure=>exact a2.o
theorem P5(sub:PS->Qb (α×PS))(P:(Nat->Prop)->α->World->Value->Prop)(c:L8)(a:Nat)(d:Int)(pr:Nat)(b F:Nat)(t:ByteArray)(s:PS)(l:Value)(i j:Nat)(w:World)(h:RC w b t s l i j)(p:Yd w pr b)(hF:2*t.size+1<F)(M:0<=d)(N:d<=100)(m:TreeP P)(x:SubMu t.size sub)(A:XV 186 w b t l i j (d+1) sub P) :
 Calls prog 129 #[ZE c a,.int .i64 d,.pointer (some ⟨pr,0,none⟩)] w (Qf (groupL t.data.toList F sub s) b t l i j w (fun xs w' v=>∃ u,v=.iface 224 (.agg #[.string (sA c),.int .i64 a,u])/\trX (fromB w.heap.size) P xs w' u/\xs≠[])):=by
 have S:=p.lt;have W:(w.alloc (.cells #[.string (sA c),.int .i64 a] 216)).cell? ⟨pr,0,none⟩=some (.pointer (some ⟨b,0,none⟩)):=by rw[World.cell?_alloc_past _ _ _ S];exact p.1
 have D:=I (DE sub P c a d b F t s l i j (w.alloc (.cells #[.string (sA c),.int .i64 a] 216)) (h.alloc _) hF M N m x (A.mod ((Mod.refl b w).alloc _)));have HP:=I m;clear h p A m x;unfold ZE at *;go_enter func129,ntmps129;go_wp2_with fail;refine D.o.mono ?_;intro e Y r;rcases r.cases with⟨y,v,B,rfl,⟨u,rfl,q,n⟩,z,g⟩ | ⟨f,Q,⟨K,T,rfl,L⟩,g⟩
 rotate_left
 ·exact⟨rfl,Qf.err Q (((Mod.refl b w).alloc _).trans g) ⟨K,by simp at T;omega,rfl,L⟩⟩
 have J:=I B;have C:=I z;have E:=I (((Mod.refl b w).alloc _).trans g);have H:=I (trX.weak HP.o n q (fun k R _=>Qs (by simp) R:∀ k,_->_->fromB w.heap.size k));have G:=I n;obtain⟨V,X,U,rfl⟩:=q.form;clear r B z g q n;go_wp2;go_ret;exact Qf.ok J.o E.o ⟨_,rfl,H.o,G.o⟩ C.o
theorem Pn(sub:PS->Qb (α×PS))(P:(Nat->Prop)->α->World->Value->Prop)(c:L8)(a:Nat)(d:Int)(pr:Nat)(b F:Nat)(t:ByteArray)(s:PS)(l:Value)(i j:Nat)(w:World)(h:RC w b t s l i j)(p:Yd w pr b)(hF:2*t.size+1<F)(M:0<=d)(N:d<=100)(m:TreeP P)(x:SubMu t.size sub)(A:XV 186 w b t l i j (d+1) sub P) :
 Calls prog 131 #[ZE c a,.int .i64 d,.pointer (some ⟨pr,0,none⟩)] w (Qf (groupL t.data.toList F sub s) b t l i j w (fun xs w' v=>∃ u,v=.iface 225 (.agg #[.string (sA c),.int .i64 a,u])/\trX (fromB w.heap.size) P xs w' u/\xs≠[])):=by
 have S:=p.lt;have W:(w.alloc (.cells #[.string (sA c),.int .i64 a] 216)).cell? ⟨pr,0,none⟩=some (.pointer (some ⟨b,0,none⟩)):=by rw[World.cell?_alloc_past _ _ _ S];exact p.1
 have D:=I (DE sub P c a d b F t s l i j (w.alloc (.cells #[.string (sA c),.int .i64 a] 216)) (h.alloc _) hF M N m x (A.mod ((Mod.refl b w).alloc _)));have HP:=I m;clear h p A m x;unfold ZE at *;go_enter func131,ntmps131;go_wp2_with fail;refine D.o.mono ?_;intro e Y r;rcases r.cases with⟨y,v,B,rfl,⟨u,rfl,q,n⟩,z,g⟩ | ⟨f,Q,⟨K,T,rfl,L⟩,g⟩
 rotate_left
 ·exact⟨rfl,Qf.err Q (((Mod.refl b w).alloc _).trans g) ⟨K,by simp at T;omega,rfl,L⟩⟩
 have J:=I B;have C:=I z;have E:=I (((Mod.refl b w).alloc _).trans g);have H:=I (trX.weak HP.o n q (fun k R _=>Qs (by simp) R:∀ k,_->_->fromB w.heap.size k));have G:=I n;obtain⟨V,X,U,rfl⟩:=q.form;clear r B z g q n;go_wp2;go_ret;exact Qf.ok J.o E.o ⟨_,rfl,H.o,G.o⟩ C.o
def UY(w:World)(hw:L8)(hp:Nat):World:=
 ((((w.alloc (.cells #[.string (sA hw),.int .i64 hp] 216)).alloc (.cells #[.string ⟨#[102,114,111,109]⟩,.string ⟨#[116,111]⟩] 9)).alloc (.cells #[.int .i64 7] 33)).alloc (.cells #[.slice (some ⟨w.heap.size+1,0,none⟩) 2 2] 61)).alloc (.cells #[.func (.func 190) #[] #[.pointer (some ⟨w.heap.size+1+1+1,0,none⟩),.pointer (some ⟨w.heap.size+1+1,0,none⟩)]] 229)
theorem Oc(w:World)(b:L8)(a:Nat):Vf (UY w b a) (w.heap.size+1+1+1+1) (w.heap.size+1+1+1) (w.heap.size+1+1) (w.heap.size+1) 2 2 7 [YV,kTo]:=by
 refine⟨?_,?_,?_,?_,rfl,by decide⟩
 ·exact Qi (Q5 (by simp)) 0
 ·exact Qi (Qn (Q5 (by simp))) 0
 ·exact Qi (Qn (Qn (Q5 (by simp)))) 0
 ·have h:=X8 (w.alloc (.cells #[.string (sA b),.int .i64 a] 216)) [YV,kTo] #[.string ⟨#[102,114,111,109]⟩,.string ⟨#[116,111]⟩] 9 rfl;rw[show(w.alloc (.cells #[.string (sA b),.int .i64 a] 216)).heap.size=w.heap.size+1 from by simp]at h;exact((h.below (Qp _)).below (Qp _)).below (Qp _)
theorem VZ(w:World)(hw:L8)(hp b:Nat):Mod b w (UY w hw hp):=(((((Mod.refl b w).alloc _).alloc _).alloc _).alloc _).alloc _
theorem X4{o:Nat}(h:w.cell? ⟨g,o,none⟩=some v)(a:Mod b w w')(c:g≠b):w'.cell? ⟨g,o,none⟩=some v:=by
 rw[a.cell (p:=⟨g,o,none⟩) (Qq h) c];exact h
theorem Vf.mod{q p1 p2 d:Nat}(h:Vf w q p1 p2 g n c d zs)(a:Mod b w w')(o:q≠b)(p:p1≠b)(r:p2≠b)(s:g≠b):Vf w' q p1 p2 g n c d zs:=by
 obtain⟨e,f,i,k,l,m⟩:=h;exact⟨X4 e a o,X4 f a p,X4 i a r,fun j t=>X4 (k j t) a s,l,m⟩
theorem Sa(w:World)(hw:L8)(hp b:Nat)(t:ByteArray)(rv:Value)(mc mt:Nat)(hb:b<w.heap.size):Kb (UY w hw hp) b t rv mc mt (.func (.func 189) #[] #[.pointer (some ⟨w.heap.size+1+1+1+1,0,none⟩)]) (Ks (Xv 7 [YV,kTo])):=
 fun W s hm hr=>FQ _ _ _ _ _ _ _ _ b t s rv mc mt W hr ((Oc w hw hp).mod hm (by omega) (by omega) (by omega) (by omega))
theorem Kb.drew{w:World}{b:Nat}{t:ByteArray}{rv:Value}{mc mt:Nat}{cv:Value}{chk:L8->Nat}(h:Kb w b t rv mc mt cv chk):Kb w.drew b t rv mc mt cv chk:=h.mod ((Mod.refl b w).drew)
theorem IZ(hw:L8)(hp:Nat)(d:Int)(pr:Nat)(b F:Nat)(t:ByteArray)(s:PS)(rv:Value)(mc mt:Nat)(w:World)(h:RC w b t s rv mc mt)(n:Yd w pr b)(hF:2*t.size+1<F) :
 Calls prog 135 #[ZE hw hp,.int .i64 d,.pointer (some ⟨pr,0,none⟩)] w (Qf (Yw t.data.toList F (Ks (Xv 7 [YV,kTo])) 6 hp s) b t rv mc mt w (fun x w' v=>∃ u,v=.iface 234 u/\mtV w.heap.size hw x w' u)):=by
 have Q:=n.lt;have G:∀ o,(w.alloc o).cell? ⟨pr,0,none⟩=some (.pointer (some ⟨b,0,none⟩)):=fun o=>by rw[World.cell?_alloc_past _ _ _ Q];exact n.1
 have J:∀ o a,((w.alloc o).alloc a).cell? ⟨pr,0,none⟩=some (.pointer (some ⟨b,0,none⟩)):=fun o a=>by rw[World.cell?_alloc_past _ _ _ (by simp;omega)];exact G o
 have K:∀ o a c,(((w.alloc o).alloc a).alloc c).cell? ⟨pr,0,none⟩=some (.pointer (some ⟨b,0,none⟩)):=fun o a c=>by rw[World.cell?_alloc_past _ _ _ (by simp;omega)];exact J o a
 have L:∀ o a c g,((((w.alloc o).alloc a).alloc c).alloc g).cell? ⟨pr,0,none⟩=some (.pointer (some ⟨b,0,none⟩)):=fun o a c g=>by rw[World.cell?_alloc_past _ _ _ (by simp;omega)];exact K o a c
 have T:∀ o a c g z,(((((w.alloc o).alloc a).alloc c).alloc g).alloc z).cell? ⟨pr,0,none⟩=some (.pointer (some ⟨b,0,none⟩)):=fun o a c g z=>by rw[World.cell?_alloc_past _ _ _ (by simp;omega)];exact L o a c g
 have H:=I h;have hb:=h.at_.lt;clear h n;unfold ZE
 have HW:=I (At _ (Ks (Xv 7 [YV,kTo])) 6 hw hp b F t s rv mc mt (UY w hw hp).drew ((H.o.step (VZ w hw hp b) (H.o.at_.mod (⟨rfl,rfl,rfl,(VZ w hw hp b).size,fun k hk=>by
  by_cases e:k=b
  ·subst e;unfold UY;rw[Below.heap_alloc _ _ _ (by simp;omega),Below.heap_alloc _ _ _ (by simp;omega),Below.heap_alloc _ _ _ (by simp;omega),Below.heap_alloc _ _ _ (by simp;omega),Below.heap_alloc _ _ _ hk]
  ·exact (VZ w hw hp b).block k hk e⟩:Below w.heap.size w (UY w hw hp))) H.o.le H.o.sz H.o.e0 H.o.nm).drew) (Sa w hw hp b t rv mc mt hb).drew hF)
 have j:=I (VZ w hw hp b);have S:=I ((VZ w hw hp b).size);unfold UY at HW j;go_enter func135,ntmps135;go_wp2_with fail;go_region_with (first|(go_at_call 137;refine(Aq _ _ _ _ _).mono ?_;rintro e w' ⟨rfl,rfl⟩;skip)|(go_at_call 136;refine(Mb _ _ _ _).mono ?_;rintro e w' ⟨rfl,rfl⟩;skip)|(go_at_call 133;refine HW.o.mono ?_;intro e w1 p;rcases p.cases with⟨y,v,r,rfl,⟨W,Z,rfl,l,m⟩,q,i⟩ | ⟨f,P,⟨M,R,rfl,N⟩,i⟩;rotate_left;exact⟨rfl,Qf.err P (j.o.trans (Zm i)) ⟨M,by simp at R;omega,rfl,N⟩⟩;have E:=I r;have A:=I q;have D:=I (j.o.trans (Zm i));have B:=I (l.weak (B':=w.heap.size) (by simp;omega));have C:=I (m.weak (B':=w.heap.size) (by simp;omega));obtain⟨X,n1,U,rfl⟩:=l.form;obtain⟨Y,n2,V,rfl⟩:=m.form;clear p r q i l m;skip))
 all_goals go_wp2
 all_goals go_ret
 all_goals exact Qf.ok E.o D.o ⟨_,rfl,_,_,rfl,B.o,C.o⟩ A.o
theorem Zx.alloc{w:World}{g:Nat}{zs:Qa}(h:Zx w g zs)(o:Obj):Zx (w.alloc o) g zs:=h.below (Qp _)
theorem Zx.drew{w:World}{g:Nat}{zs:Qa}(h:Zx w g zs):Zx w.drew g zs:=h
abbrev D0:Obj:=.cells #[.string ⟨#[]⟩,.int .i64 0,.int .i64 0,.int .i64 0] 311
theorem R8(m:L8)(j:Nat)(d:Int)(b:Nat)(t:ByteArray)(s:PS)(r:Value)(p q:Nat)(w:World)(h:RC w b t s r p q) :
 Calls prog 140 #[.pointer (some ⟨b,0,none⟩),ZE m j,.int .i64 d] w (Qf (sizeL t.data.toList j s) b t r p q w (fun x w' v=>v=.iface 311 (.agg #[.string (sA m),.int .i64 j,.int .i64 x.tag,.int .i64 x.num]))):=by
 have H:=I h;have ak:=h.at_.lt;have ad:¬ w.heap.size=b:=by omega
 have ae:¬ w.heap.size+1=b:=by omega
 have af:¬ w.heap.size+1+1=b:=by omega
 clear h;unfold ZE;go_enter func140,ntmps140;go_upto_region 1 with fail
 go_cut [7] (fun v wc=>∃(T:Nat) (y:Nat×PS),v=.pointer (some ⟨T,0,none⟩)/\paL t.data.toList [UO,UL] s=.ok y/\RC wc b t y.2 r p q/\Mod b w wc/\w.heap.size<=T/\wc.heap[T]?=some (.cells #[.string (sA m),.int .i64 j,.int .i64 y.1,.int .i64 0] 311))
 case first=>
  go_region_with (first|(go_at_call 191;refine(Hq _).mono ?_;rintro e w' ⟨rfl,rfl⟩;skip)|(go_at_call 177;refine(Jo b _ 2 2 [UO,UL] t s r p q _ (by first|exact((H.o.alloc _).alloc _).drew|exact(((H.o.alloc _).alloc _).alloc _).drew) (by first|exact(Y2 _ _ (by simp)).drew|exact((Y2 _ _ (by simp)).alloc _).drew) rfl (by decide)).mono ?_;intro e i J;rcases J.cases with⟨y,v,F,rfl,S,l,a⟩ | ⟨f,hf,⟨B,k,rfl,E⟩,a⟩;rotate_left;exact⟨rfl,Qf.err (Q6 hf) (by first|exact(((Mod.refl b w).alloc _).alloc _).trans (Zm a)|exact((((Mod.refl b w).alloc _).alloc _).alloc _).trans (Zm a)) ⟨B,by simp at k;omega,rfl,E⟩⟩;unfold XG at S;subst S;have M:=QA (g:=w.heap.size) (o:=.cells #[.string (sA m),.int .i64 j] 216) (by first|exact Qn (QC _ _)|exact Qn (Qn (QC _ _))) (Zm a) ad;have aa:=Qk M;have ab:=Qr M;clear M;(first|(have c:=QA (g:=w.heap.size+1) (o:=D0) (Qn (Q5 (by simp))) (Zm a) ae;have t0:=Qk c;have t1:=Qr c;have t2:=QJ c;have N:=QR c;have P:=Qu c;have R:=I c;clear c)|(have c:=QA (g:=w.heap.size+1+1) (o:=D0) (Q5 (by simp)) (Zm a) af;have t0:=Qk c;have t1:=Qr c;have t2:=QJ c;have N:=QR c;have P:=Qu c;have R:=I c;clear c)|skip);have ah:=a.size;simp at ah;have U:w.heap.size<i.heap.size:=(by omega);have ai:∀ o,(i.alloc o).cell? ⟨w.heap.size,0,none⟩=some (.string (sA m)):=(fun o=>by rw[World.cell?_alloc_past _ _ _ U];exact aa);have aj:∀ o,(i.alloc o).cell? ⟨w.heap.size,1,none⟩=some (.int .i64 j):=(fun o=>by rw[World.cell?_alloc_past _ _ _ U];exact ab);have n:=I F;have u:=I l;have Q:Hid (Mod b w i):=(by first|exact(((Mod.refl b w).alloc _).alloc _).trans (Zm a)|exact((((Mod.refl b w).alloc _).alloc _).alloc _).trans (Zm a));clear J F l a;skip))
  all_goals (go_wp2_with fail;go_meet)
  all_goals first
   |exact⟨_,y,rfl,n.o,u.o.alloc _,Q.o.alloc _,by omega,QC _ _⟩
   |exact⟨_,y,rfl,n.o,(((u.o.setNew (by omega) _ _).setNew (by omega) _ _).setNew (by omega) _ _).setNew (by omega) _ _,(((Q.o.setNew (by omega) _ _).setNew (by omega) _ _).setNew (by omega) _ _).setNew (by omega) _ _,by omega,Qt _ _ _ _ _ _ (Qt _ _ _ _ _ _ (Qt _ _ _ _ _ _ (Qt _ _ _ _ _ _ R.o)))⟩
 case rest=>
  obtain⟨T,y,rfl,F,l,a,L,C⟩:=hcut;have ao:=Qg C;have J:=Qr l.at_;have Z:=Q9 l.at_;have N:=QR C;have P:=Qu C;have n:=I F;have u:=I l;have A:=I a;have V:=I C;clear F l a C;by_cases hk:y.2.1.kind=4;rotate_left
  ·have ac:((y.2.1.kind:Int)==4)=false:=by simp;omega
   have G:=I hk;clear hk;go_wp2_with fail;refine(XB b 4 _ _ t y.2.1 y.2.2 r p q _ u.o.at_ rfl rfl).mono ?_;rintro e i ⟨⟨B,k,rfl,E⟩,a⟩;exact⟨rfl,Qf.err ((QD n.o).trans (if_neg G.o)) (A.o.trans (Mod.of_below a)) ⟨B,Qs A.o.size k,rfl,E⟩⟩
  have ac:((y.2.1.kind:Int)==4)=true:=by simp;omega
  have G:=I hk;clear hk;go_wp2_with fail;refine(Zv b _ _ _ rfl).mono ?_;rintro e w' ⟨rfl,ag⟩;subst ag;go_wp2_with fail;refine(YD b t y.2 r p q _ (u.o.setNew (by omega) _ _)).mono ?_;rintro e K (⟨z,k,rfl,hc2,hm2⟩ | ⟨f2,hf2,⟨B,k,rfl,E⟩,hm2⟩);rotate_left
  ·exact⟨rfl,Qf.err ((QD n.o).trans ((if_pos G.o).trans (VH hf2))) ((A.o.setNew L _ _).trans hm2) ⟨B,Qs (A.o.setNew L _ _).size k,rfl,E⟩⟩
  have D:=QA (Qt _ T 3 (.int .i64 y.2.1.num) _ _ V.o) hm2 (by omega);have q0:=Qk D;have q1:=Qr D;have q2:=QJ D;have q3:=QR D;have X:=I ((A.o.setNew L 3 (.int .i64 y.2.1.num)).trans hm2);have W:=I hc2;have Y:=I k;clear D hm2 hc2 k P N J Z;go_wp2;go_ret;exact Qf.ok ((QD n.o).trans ((if_pos G.o).trans (Ux Y.o))) X.o rfl W.o
theorem Rk(i:L8)(c:Nat)(d:Int)(b:Nat)(t:ByteArray)(s:PS)(m:Value)(k l:Nat)(w:World)(h:RC w b t s m k l) :
 Calls prog 121 #[.pointer (some ⟨b,0,none⟩),ZE i c,.int .i64 d] w (Qf (paL t.data.toList [[59]] s) b t m k l w (fun _ _ v=>v=.iface 269 (.agg #[.string (sA i),.int .i64 c,.int .i64 1,.string ⟨#[]⟩]))):=by
 have H:=I h;have J:=h.at_.lt;clear h;unfold ZE;go_enter func121,ntmps121;go_wp2_with fail;have HP:=I (Jo b (w.heap.size+1) 1 1 [[59]] t s m k l _ ((H.o.alloc (.cells #[.string (sA i),.int .i64 c] 216)).alloc (.cells (Qv [[59]]).toArray 9)) (Y2 _ _ (by simp)) rfl (by decide));refine HP.o.mono ?_;intro e u n;rcases n.cases with⟨y,v,r,rfl,q,p,a⟩ | ⟨f,D,⟨B,E,rfl,C⟩,a⟩
 rotate_left
 ·exact⟨rfl,Qf.err D ((((Mod.refl b w).alloc _).alloc _).trans a) ⟨B,by simp at E;omega,rfl,C⟩⟩
 unfold XG at q;subst q;have j:=QA (g:=w.heap.size) (o:=.cells #[.string (sA i),.int .i64 c] 216) (Qn (QC _ _)) a (by omega);have F:=Qk j;have G:=Qr j;have A:=I r;have x:=I p;have z:=I ((((Mod.refl b w).alloc _).alloc _).trans a);clear n r p a j HP;go_wp2;go_ret;exact Qf.ok A.o z.o rfl x.o
theorem L3(i:L8)(c:Nat)(d:Int)(b:Nat)(t:ByteArray)(s:PS)(m:Value)(k l:Nat)(w:World)(h:RC w b t s m k l) :
 Calls prog 122 #[.pointer (some ⟨b,0,none⟩),ZE i c,.int .i64 d] w (Qf (paL t.data.toList [[59]] s) b t m k l w (fun _ _ v=>v=.iface 294 (.agg #[.string (sA i),.int .i64 c]))):=by
 have H:=I h;have J:=h.at_.lt;clear h;unfold ZE;go_enter func122,ntmps122;go_wp2_with fail;have HP:=I (Jo b (w.heap.size+1) 1 1 [[59]] t s m k l _ ((H.o.alloc (.cells #[.string (sA i),.int .i64 c] 216)).alloc (.cells (Qv [[59]]).toArray 9)) (Y2 _ _ (by simp)) rfl (by decide));refine HP.o.mono ?_;intro e u n;rcases n.cases with⟨y,v,r,rfl,q,p,a⟩ | ⟨f,D,⟨B,E,rfl,C⟩,a⟩
 rotate_left
 ·exact⟨rfl,Qf.err D ((((Mod.refl b w).alloc _).alloc _).trans a) ⟨B,by simp at E;omega,rfl,C⟩⟩
 unfold XG at q;subst q;have j:=QA (g:=w.heap.size) (o:=.cells #[.string (sA i),.int .i64 c] 216) (Qn (QC _ _)) a (by omega);have F:=Qk j;have G:=Qr j;have A:=I r;have x:=I p;have z:=I ((((Mod.refl b w).alloc _).alloc _).trans a);clear n r p a j HP;go_wp2;go_ret;exact Qf.ok A.o z.o rfl x.o
theorem Ri(i:L8)(c:Nat)(d:Int)(b:Nat)(t:ByteArray)(s:PS)(m:Value)(k l:Nat)(w:World)(h:RC w b t s m k l) :
 Calls prog 123 #[.pointer (some ⟨b,0,none⟩),ZE i c,.int .i64 d] w (Qf (paL t.data.toList [[59]] s) b t m k l w (fun _ _ v=>v=.iface 295 (.agg #[.string (sA i),.int .i64 c]))):=by
 have H:=I h;have J:=h.at_.lt;clear h;unfold ZE;go_enter func123,ntmps123;go_wp2_with fail;have HP:=I (Jo b (w.heap.size+1) 1 1 [[59]] t s m k l _ ((H.o.alloc (.cells #[.string (sA i),.int .i64 c] 216)).alloc (.cells (Qv [[59]]).toArray 9)) (Y2 _ _ (by simp)) rfl (by decide));refine HP.o.mono ?_;intro e u n;rcases n.cases with⟨y,v,r,rfl,q,p,a⟩ | ⟨f,D,⟨B,E,rfl,C⟩,a⟩
 rotate_left
 ·exact⟨rfl,Qf.err D ((((Mod.refl b w).alloc _).alloc _).trans a) ⟨B,by simp at E;omega,rfl,C⟩⟩
 unfold XG at q;subst q;have j:=QA (g:=w.heap.size) (o:=.cells #[.string (sA i),.int .i64 c] 216) (Qn (QC _ _)) a (by omega);have F:=Qk j;have G:=Qr j;have A:=I r;have x:=I p;have z:=I ((((Mod.refl b w).alloc _).alloc _).trans a);clear n r p a j HP;go_wp2;go_ret;exact Qf.ok A.o z.o rfl x.o
def Gp(l:L8)(s:PS):Qb (L8×PS):=Qo (sL l (fun _=>0) s) fun x s1=>ZK l s1 x
theorem AN(c:L8)(a:Nat)(d:Int)(pr B Q:Nat)(b:Nat)(t:ByteArray)(s:PS)(p:Value)(m n:Nat)(w:World)(h:RC w b t s p m n)(l:Yd w pr b)(K:w.cell? ⟨B,0,none⟩=some (.int .i64 Q))(ab:B≠b) :
 Calls prog 178 #[ZE c a,.int .i64 d,.pointer (some ⟨pr,0,none⟩),.pointer (some ⟨B,0,none⟩)] w (Qf (Gp t.data.toList s) b t p m n w (fun x _ v=>v=.iface 269 (.agg #[.string (sA c),.int .i64 a,.int .i64 Q,.string (sA x)]))):=by
 have Z:=l.lt;have hb:=h.at_.lt;have Y:(w.alloc (.cells #[.string (sA c),.int .i64 a] 216)).cell? ⟨pr,0,none⟩=some (.pointer (some ⟨b,0,none⟩)):=by rw[World.cell?_alloc_past _ _ _ Z];exact l.1
 have H:=I h;have W:=I l;have V:=I K;clear h l;unfold ZE;go_enter func178,ntmps178;go_wp2_with fail;refine(NH b t s p m n _ (H.o.alloc _)).mono ?_;intro e w1 E;rcases E.cases with⟨y,v,N,rfl,L,G,i⟩ | ⟨f,u,⟨q,A,rfl,r⟩,i⟩
 rotate_left
 ·exact⟨rfl,Qf.err (Q6 u) (((Mod.refl b w).alloc _).trans i) ⟨q,by simp at A;omega,rfl,r⟩⟩
 unfold Jg at L;subst L;have D:=I N;have S:=I G;have k:=I (((Mod.refl b w).alloc (.cells #[.string (sA c),.int .i64 a] 216)).trans i);have U:=I (QA (g:=w.heap.size) (QC w (.cells #[.string (sA c),.int .i64 a] 216)) i (by omega));have aa:=(W.o.mod k.o).1;clear E N G i Y K;go_wp2_with fail;have HP:=I (Jo b w1.heap.size 1 1 [[59]] t y.2 p m n _ (S.o.alloc (.cells (Qv [[59]]).toArray 9)) (Y2 _ _ rfl) rfl (by decide));refine HP.o.mono ?_;intro e R F;rcases F.cases with⟨y2,v2,P,rfl,M,J,j⟩ | ⟨f,u,⟨q,A,rfl,r⟩,j⟩
 rotate_left
 ·exact⟨rfl,Qf.err ((QD D.o).trans (Q6 u)) ((k.o.alloc _).trans j) ⟨q,Qs (k.o.alloc _).size A,rfl,r⟩⟩
 unfold XG at M;subst M;have z:=QA (Qn U.o) j (by omega);have ac:=Qk z;have ad:=Qr z;have X:=I P;have T:=I J;have C:=I ((k.o.alloc (.cells (Qv [[59]]).toArray 9)).trans j);have ae:=X4 V.o C.o ab;clear F P J j z HP aa;go_wp2;go_ret;exact Qf.ok ((QD D.o).trans (QD X.o)) C.o rfl T.o
theorem Tryz.infoCommand:(prog.info? 179).map (fun i=>(i.zero,i.size,i.bytes))=some (some .nilIface,1,16):=by kernel_rfl
def blX{α:Type}(X:Nat->Prop)(P:(Nat->Prop)->α->World->Value->Prop)(xs:List α)(w:World)(v:Value):Prop:=
 (xs=[]/\v=.slice none 0 0)\/(xs≠[]/\trX X P xs w v)
theorem blX.keep{α:Type}{X:Nat->Prop}{P:(Nat->Prop)->α->World->Value->Prop}(c:TreeP P){xs:List α}{w w':World}{v:Value}(h:blX X P xs w v)(d:AbvX X w w'):blX X P xs w' v:=by
 rcases h with h | ⟨a,b⟩
 ·exact Qd h
 ·exact Qc ⟨a,b.keep c d⟩
theorem blX.weak{α:Type}{X Y:Nat->Prop}{P:(Nat->Prop)->α->World->Value->Prop}(d:TreeP P){xs:List α}{w:World}{v:Value}(h:blX X P xs w v)(c:∀ k,X k->k<w.heap.size->Y k):blX Y P xs w v:=by
 rcases h with h | ⟨a,b⟩
 ·exact Qd h
 ·exact Qc ⟨a,trX.weak d a b c⟩
theorem blX.of_owns{α:Type}{P:(Nat->Prop)->α->World->Value->Prop}(c:TreeP P){w:World}{base n:Nat}{e:TypeId}{v:Value}{xs:List α}{b:List Value}(h:w.ownsRow base e 1 v n b)(d:n=xs.length)(f:xs=[]->v=.slice none 0 0)(g:Q3 (fun a u=>Q8 P base w v a u) xs b):blX (fromB base) P xs w v:=by
 by_cases hx:xs=[]
 ·exact Qd ⟨hx,f hx⟩
 ·exact Qc ⟨hx,trX.of_owns c h d hx g⟩
theorem blX.form{α:Type}{X:Nat->Prop}{P:(Nat->Prop)->α->World->Value->Prop}{xs:List α}{w:World}{v:Value}(h:blX X P xs w v):∃ a n c,v=.slice a n c:=by
 rcases h with⟨_,h⟩ | ⟨_,h⟩
 ·exact⟨_,_,_,h⟩
 ·obtain⟨g,n,c,h⟩:=h.form;exact⟨_,_,_,h⟩
theorem Fl(h:mayL l [[125]] s=.error e):Xu l sub (f+1) acc s=.error e:=by rw[Xu];exact Q6 h
theorem Hw(h:mayL l [[125]] s=.ok y)(a:¬ y.1=0):Xu l sub (f+1) acc s=.ok (acc,y.2):=by rw[Xu,QD h,if_neg a]
theorem Fv(h:mayL l [[125]] s=.ok y)(a:y.1=0)(b:sub y.2=.error e):Xu l sub (f+1) acc s=.error e:=by rw[Xu,QD h,if_pos a];exact Q6 b
theorem Ip{z:α×PS}(h:mayL l [[125]] s=.ok y)(a:y.1=0)(b:sub y.2=.ok z):Xu l sub (f+1) acc s=Xu l sub f (acc++[z.1]) z.2:=by rw[Xu,QD h,if_pos a];exact QD b
theorem Su:∀ z∈([[125]]:Qa),z≠[]:=by decide
theorem DB(sub:PS->Qb (α×PS))(P:(Nat->Prop)->α->World->Value->Prop)(d:Int)(b F:Nat)(t:ByteArray)(s:PS)(A:Value)(x z:Nat)(w:World)(h:RC w b t s A x z)(hF:2*t.size+1<F)(hP:TreeP P)(hS:SubMu t.size sub)(ho:XV 143 w b t A x z d sub P) :
 Calls prog 184 #[.pointer (some ⟨b,0,none⟩),.int .i64 d] w (Qf (blockL t.data.toList F sub s) b t A x z w (blX (fromB w.heap.size) P)):=by
 have H:=I h;have HO:=I ho;have HP:=I hP;have aL:=I hS;have aY:=h.at_.lt;clear h ho hP hS;obtain⟨i0,hi,aU,aV,aW⟩:=info_parts Tryz.infoCommand;go_enter func184,ntmps184;go_wp2_with fail;have ax:=I (Jo b w.heap.size 1 1 [[123]] t s A x z _ (H.o.alloc (.cells (Qv [[123]]).toArray 9)) (Y2 _ _ rfl) rfl (by decide));refine ax.o.mono ?_;intro e w1 m;rcases m.cases with⟨y,v,hy,rfl,hv,hc,T⟩ | ⟨f,hf,⟨C,G,rfl,D⟩,T⟩
 rotate_left
 ·exact⟨rfl,Qf.err (Q6 hf) (((Mod.refl b w).alloc _).trans T) ⟨C,by simp at G;omega,rfl,D⟩⟩
 unfold XG at hv;subst hv;have HY:=I hy;have L:=I hc;have aD:=I (((Mod.refl b w).alloc (.cells (Qv [[123]]).toArray 9)).trans T);have aT:=L.o.mu_le;have aq:=L.o.mu_lt hF;clear m hy hc T ax;go_wp2_with fail
 go_loopw [5] (fun v wr=>∃(B:PS) (i:List α) (W:List Value) (f:Nat),wr.ownsRow w.heap.size 179 1 v i.length W/\Q3 (fun a u=>Q8 P w.heap.size wr v a u) i W/\(i=[]->v=.slice none 0 0)/\RC wr b t B A x z/\Mod b w wr/\mu t.size B<f/\i.length+mu t.size B<=1300/\blockL t.data.toList F sub s=Xu t.data.toList sub f i B) (fun _ wr=>muW wr b t.size)
 case atStart=>
  exact⟨y.2,[],[],F,Zj,trivial,fun _=>rfl,L.o,aD.o,aq,by simp;omega,QD HY.o⟩
 case round=>
  obtain⟨B,i,W,f,av,r,au,ay,ab,hf,aX,az⟩:=hrel;obtain⟨f,rfl⟩:∃ g,f=g+1:=⟨f - 1,by omega⟩;have N:=I ay;have aj:=I ab;have Q:=I az;have aI:=I av;have aK:=I r;have aG:=I au;have a0:w.heap.size<=wr.heap.size:=ab.size;clear ay ab az av r au L HY aT aq;go_wp2_with fail;refine(Vd b wr.heap.size 1 1 [[125]] t B A x z _ (N.o.alloc _) (X8 wr [[125]] _ _ rfl) rfl (by decide)).mono ?_;intro e w3 h3;rcases h3.cases with⟨J,v3,af,rfl,aA,ao,U⟩ | ⟨f3,aQ,⟨C,G,rfl,D⟩,U⟩
  rotate_left
  ·exact⟨rfl,Qf.err (Q.o.trans (Fl aQ)) ((aj.o.alloc _).trans U) ⟨C,by simp at G;omega,rfl,D⟩⟩
  have ac:=V2 (l:=t.data.toList) (by simpa using N.o.le) N.o.e0 Su af;rw[bal]at ac;replace ac:=ac.1;have R:=((Mod.refl b wr).alloc (.cells #[.string ⟨#[125]⟩] 9)).trans U;have p:=I (aj.o.trans R);have Z:=I af;have M:=I ao;have Y:=I (ZP (b:=b) aI.o R (by omega));have ak:=I (aK.o.imp (fun a u c=>Q8.mod HP.o (b:=b) (w':=w3) c R (by omega)));unfold XG at aA;subst aA;clear h3 af ao U R;by_cases m:J.1=0;rotate_left
  ·have aP:((J.1:Int)==0)=false:=by simp;omega
   have K:=I m;have HT:=I (blX.of_owns HP.o Y.o rfl aG.o ak.o);clear m;go_wp2;go_ret;exact Qf.ok (Q.o.trans (Hw Z.o K.o)) p.o HT.o M.o
  have aP:((J.1:Int)==0)=true:=by simp;omega
  have K:=I m;clear m;go_wp2_with fail;refine(HO.o _ J.2 p.o M.o).mono ?_;intro e w4 h4;rcases h4.cases with⟨z4,v4,ag,rfl,ae,ap,q⟩ | ⟨f4,aR,⟨C,G,rfl,D⟩,q⟩
  rotate_left
  ·exact⟨rfl,Qf.err (Q.o.trans (Fv Z.o K.o aR)) (p.o.trans q) ⟨C,Qs p.o.size G,rfl,D⟩⟩
  have aZ:=aL.o J.2 z4 M.o.le M.o.e0 ag;have aM:=I ae;obtain⟨V,X,rfl⟩:=HP.o.form _ _ _ _ ae;have ai:=I (p.o.trans q);have aO:=I ag;have aB:=I ap;have ad:=ZP (b:=b) Y.o q (by omega);have aN:=I (ak.o.imp (fun a u c=>Q8.mod HP.o (b:=b) (w':=w4) c q (by omega)));have aS:=I (fun k n=>(Y.o.lt k n).2);have aC:=I (Q8.new HP.o (base:=w.heap.size) aM.o p.o.size aS.o);have a1:w.heap.size<=w4.heap.size:=ai.o.size;clear h4 ag ap q ae;go_wp2_with (at_builtin;refine wpList_append_own_at _ rfl _ _ 89 rfl w.heap.size 179 i0 .nilIface 1 16 underlying89 hi aU aV aW rfl (by decide) _ _ _ rfl (ad.alloc _) ⟨w4.heap.size,0,none⟩ 1 1 [.iface V X] rfl rfl ?c1 ?c2 ?c3 ?c4 ?c5 ?_)
  case c1=>
   intro j u S
   match j,S with
   |0,S=>simp at S;subst S;simp[Addr.add]
  case c2=>intro u c;simp at c;subst c;rfl
  case c3=>unfold maxLen;omega
  case c4=>omega
  case c5=>simp;omega
  ·intro v' w5 aw E _ aa;have r:∀ k,(u5).ownBlock=some k->w.heap.size<=k:=fun k n=>(ad.lt k n).1
   have aE:=I ((ai.o.alloc (Obj.cells #[.iface V X] 179)).grown E (fun k n=>by have:=r k n;omega));have ah:=I ((aB.o.alloc (Obj.cells #[.iface V X] 179)).grown E (fun k n=>by have:=r k n;omega));have aH:=I aw;have aJ:=I (Q3.snoc (P:=fun a u=>Q8 P w.heap.size w5 v' a u) (aC.o.grown HP.o E aa) (aN.o.imp (fun a u c=>Q8.grown HP.o c E aa)));have ar:muW w5 b t.size<muW wr b t.size:=by rw[ah.o.muEq,N.o.muEq];omega
   have aF:=I ar;clear aw E ar ad r aa;go_wp2;go_roundw
   case rel=>exact⟨z4.2,i++[z4.1],W++[.iface V X],f,by simpa using aH.o,aJ.o,fun hh=>absurd hh (by simp),ah.o,aE.o,by omega,by simp;omega,Q.o.trans (Ip Z.o K.o aO.o)⟩
   case measure=>exact aF.o
end Go.Proofs.YtgnkjijocdmniaaGreatDoor
