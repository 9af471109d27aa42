import Derived.Test.YtgnkjijocdmniaaGreatDoorQNext
namespace Go.Proofs.YtgnkjijocdmniaaGreatDoor
set_option linter.all false
set_option maxRecDepth 100000
set_option maxHeartbeats 4000000
open Go.Proofs.Tryz
open Go.RowKit
variable{B:Bool}{a b c d g i k n p p1 p2 tb:Nat}{chk:L8->Nat}{f:Flt}{l r x:L8}{s y:PS}{st:Qq PS}{t:ByteArray}{v:Value}{w w':World}{zs:Qn}
theorem FD{j:Nat}(h:j<zs.length):(zs.map sA).getD j ByteArray.empty=sA (zs.getD j []):=by
 simp[Zv,h]
theorem BI(n c:Nat){x:Wd}{k:Value}{f:Nat}(d:RAt w b t x p k f i)(hz:ZQ w g zs)(hn:n=zs.length)(m:zs.length<=1000):Calls prog 219 #[Qc b,Qs g n c] w fun e w'=>e=.returned (Qa (wL zs x.spelt))/\w'=w:=by
 have l:w.cell? (Ql b 3)=some (Qf x.spelt):=d.cell 3;have q:=KK zs x.spelt
 have hi:=Tryz.slices_Index_string g 0 n c (zs.map sA) (sA x.spelt) w (by simp [hn]) I (fun j hj=>by
  have hj':j<zs.length:=by simpa using hj
  rw [J4,FD hj'];exact hz j hj')
 rw[hn,Z7 Qh]at hi;have e:=Lv zs x.spelt;have a:Lib.idxOfS (zs.map sA) (sA x.spelt)=(wL zs x.spelt:Int)-1:=I
 rw[a]at hi;clear e a;replace hi:=O hi;subst hn;go_enter func219,ntmps219;go_wp2_with (go_at_call 100;refine hi.mono ?_;rintro e w' ⟨rfl,rfl⟩);go_ret;exact⟨Jz I,rfl⟩
theorem Xe(b:Nat){a:Int}(c:B=true):Calls prog 192 #[Qc b,.bool B,Qa a] w fun e w'=>e=.returned (.tuple #[])/\w'=w:=by
 subst c;go_enter func192,ntmps192;go_wp2;go_end0;exact⟨rfl,rfl⟩
theorem YJ(a:Nat){E:Int}{x:Wd}{j:Value}(c:RAt w b t x p j g i)(d:B=false)(f:E=a):Calls prog 192 #[Qc b,.bool B,Qa E] w fun e w'=>X1 ⟨a,x.pos⟩ w e w'/\Qo w w':=by
 subst d;subst f;have k:w.cell? (Ql b 2)=some (Qa x.pos):=c.cell 2;clear c;go_enter func192,ntmps192;go_wp2_with (go_at_call 103;refine Qu (Yr) ?_);exact⟨rfl,KI a x.pos QF rfl,QH _⟩
structure RC (w:World) (b:Nat) (t:ByteArray) (s:PS) (rv:Value) (mc mt:Nat):Prop where
 at_:RAt w b t s.1 s.2 rv mc mt
 le:s.2<=t.size
 m:∃m,w.cell? (Ql 1 0)=some (Qa m)
 b1:1 < b
 hs:t.size<=600
 sz:s.1.said.length<=600∧s.1.num<=2147483647
 e0:s.1.kind=0->s.1.spelt=[]
 nm:¬s.1.kind=1->N1 s.1.spelt
theorem RC.step{s':PS}{l d:Value}(h:RC w b t s l a c)(g:Mod b w w')(e:RAt w' b t s'.1 s'.2 d a c)(f:s'.2<=t.size)(k:s'.1.said.length<=600/\s'.1.num<=2147483647)(he:s'.1.kind=0->s'.1.spelt=[])(j:¬s'.1.kind=1->N1 s'.1.spelt):RC w' b t s' d a c:=by
 refine⟨e,f,?_,h.b1,h.hs,k,he,j⟩;obtain⟨m,i⟩:=h.m;have:=h.at_.lt;exact⟨m,by rw[g.cell (p:=⟨1,0,none⟩) (by show 1<_;have:=h.b1;omega) (by show 1≠b;have:=h.b1;omega)];exact i⟩
theorem RC.below{rv:Value}{mc mt:Nat}(h:RC w b t s rv mc mt)(hb:Qo w w'):RC w' b t s rv mc mt:=
 h.step (Mod.of_below hb) (h.at_.mod hb) h.le h.sz h.e0 h.nm
theorem RC.alloc{w:World}{b:Nat}{t:ByteArray}{s:PS}{rv:Value}{mc mt:Nat}(h:RC w b t s rv mc mt)(o:Obj):RC (w.alloc o) b t s rv mc mt:=
 h.below (QH _)
theorem RC.drew{w:World}{b:Nat}{t:ByteArray}{s:PS}{rv:Value}{mc mt:Nat}(h:RC w b t s rv mc mt):RC w.drew b t s rv mc mt:=
 ⟨h.at_,h.le,h.m,h.b1,h.hs,h.sz,h.e0,h.nm⟩
def Qy{α:Type}(r:Qq (α×PS))(b:Nat)(t:ByteArray)(rv:Value)(mc mt:Nat)(w:World)(val:α->World->Value->Prop)(e:Ending)(w':World):Prop:=
 Mod b w w'/\
 match r with
 | .ok y=>(∃v,e=.returned v/\val y.1 w' v)/\RC w' b t y.2 rv mc mt
 | .error f=>X1 f w e w'
theorem Qy.cases{α:Type}{r:Qq (α×PS)}{b:Nat}{t:ByteArray}{g:Value}{c d:Nat}{w w':World}{i:α->World->Value->Prop}{e:Ending}(h:Qy r b t g c d w i e w') :
 (∃y v,r=.ok y/\e=.returned v/\i y.1 w' v/\RC w' b t y.2 g c d/\Mod b w w')\/(∃f,r=.error f/\X1 f w e w'/\Mod b w w'):=by
 obtain⟨a,h⟩:=h
 cases r with
 |ok y=>obtain⟨⟨v,he,k⟩,j⟩:=h;exact Qt ⟨y,v,rfl,he,k,j,a⟩
 |error f=>exact Qr ⟨f,rfl,h,a⟩
theorem Qy.ok{α:Type}{r:Qq (α×PS)}{b:Nat}{t:ByteArray}{d:Value}{a c:Nat}{w w':World}{e:α->World->Value->Prop}{v:Value}{y:α×PS}(h:r=.ok y)(g:Mod b w w')(i:e y.1 w' v)(f:RC w' b t y.2 d a c):Qy r b t d a c w e (.returned v) w':=by
 subst h;exact⟨g,⟨v,rfl,i⟩,f⟩
theorem Qy.err{α:Type}{r:Qq (α×PS)}{i:Value}{j:α->World->Value->Prop}{e:Ending}(h:r=.error f)(a:Mod b w w')(c:X1 f w e w'):Qy r b t i d g w j e w':=by
 subst h;exact⟨a,c⟩
theorem UE.cases{r:Qq PS}{b:Nat}{t:ByteArray}{g:Value}{c d:Nat}{w w':World}{e:Ending}(h:UE r b t g c d w e w') :
 (∃y,r=.ok y/\e=.returned (.tuple #[])/\RAt w' b t y.1 y.2 g c d/\Mod b w w')\/(∃f,r=.error f/\X1 f w e w'/\Mod b w w'):=by
 obtain⟨a,h⟩:=h
 cases r with
 |ok y=>exact Qt ⟨y,rfl,h.1,h.2,a⟩
 |error f=>exact Qr ⟨f,rfl,h,a⟩
theorem Km{g:Value}(h:RC w b t s g c d):Calls prog 141 #[Qc b] w fun e w'=>
  (∃y,nL t.data.toList s.2=.ok y/\e=.returned (.tuple #[])/\RC w' b t y g c d/\Mod b w w')\/(∃f,nL t.data.toList s.2=.error f/\X1 f w e w'/\Mod b w w'):=by
 obtain⟨m,l⟩:=h.m;refine(QyB m (by have:=h.hs;omega) h.le h.at_ l).mono ?_;intro e w' n;rcases n.cases with⟨y,a,he,k,i⟩|hf
 .refine Qt ⟨y,a,he,h.step i k ?_ ?_ (GX (by simpa using h.le) y a).2.2.2.1 (TN t.data.toList s.2 y a),i⟩
  .have:=(GX (by simpa using h.le) y a).2.1;simpa using this
  .have j:=Hh y a;have o:=h.hs;have p:t.data.toList.length=t.size:=Qh
   exact⟨I,j.2⟩
 .exact Qr hf
theorem Pj(h:wL zs s.1.spelt=0):mayL l zs s=.ok (0,s):=by unfold mayL;rw[Qi h]
theorem Pv(h:¬wL zs s.1.spelt=0)(a:nL l s.2=.ok y):mayL l zs s=.ok (wL zs s.1.spelt,y):=by unfold mayL;rw[Qg h,a]
theorem QxT(h:¬wL zs s.1.spelt=0)(a:nL l s.2=.error f):mayL l zs s=.error f:=by unfold mayL;rw[Qg h,a]
theorem QyR(h:wL zs s.1.spelt=0):paL l zs s=.error ⟨4,s.1.pos⟩:=by unfold paL;rw[Qi h]
theorem Qxs(h:¬wL zs s.1.spelt=0)(a:nL l s.2=.ok y):paL l zs s=.ok (wL zs s.1.spelt,y):=by unfold paL;rw[Qg h,a]
theorem Qvc(h:¬wL zs s.1.spelt=0)(a:nL l s.2=.error f):paL l zs s=.error f:=by unfold paL;rw[Qg h,a]
def YP(i:Nat)(_:World)(v:Value):Prop:=v=Qa i
theorem NS(n c:Nat){j:Value}(h:RC w b t s j d i)(a:ZQ w g zs)(k:n=zs.length)(r:zs.length<=1000):Calls prog 180 #[Qc b,Qs g n c] w (Qy (mayL t.data.toList zs s) b t j d i w YP):=by
 have m:=O (BI n c h.at_ a k r);have H:=O h;clear a k;by_cases h0:wL zs s.1.spelt=0
 .have q:¬(0:Int)<(wL zs s.1.spelt:Int):=I
  have p:=O (Pj (l:=t.data.toList) h0);clear h;change Qd _ at h0;go_enter func180,ntmps180;go_wp2_with (go_at_call 219;refine m.mono ?_;rintro e u ⟨rfl,rfl⟩);go_ret;exact Qy.ok p (Mod.refl _ _) (by unfold YP;rw[h0.o];rfl) H
 .have q:(0:Int)<(wL zs s.1.spelt:Int):=I
  clear h;change Qd _ at h0;go_enter func180,ntmps180;go_wp2_with (go_at_call 219;refine m.mono ?_;rintro e u ⟨rfl,rfl⟩);refine(Km H).mono ?_;rintro e v (⟨y,hy,rfl,hc,hm⟩ | ⟨f,hf,⟨bb,a,rfl,hcc⟩,hm⟩)
  .go_wp2;go_ret;exact Qy.ok (Pv h0 hy) hm rfl hc
  .exact⟨rfl,Qy.err (QxT h0 hf) hm ⟨bb,a,rfl,hcc⟩⟩
theorem UG(n c:Nat){k:Value}{j:Nat}(h:RC w b t s k i j)(a:ZQ w g zs)(q:n=zs.length)(z:zs.length<=1000):Calls prog 177 #[Qc b,Qs g n c] w (Qy (paL t.data.toList zs s) b t k i j w YP):=by
 have r:=O (BI n c h.at_ a q z);have H:=O h;clear a q;by_cases h0:wL zs s.1.spelt=0
 .have x:¬(0:Int)<(wL zs s.1.spelt:Int):=I
  have v:=O (QyR (l:=t.data.toList) h0);clear h;change Qd _ at h0;go_enter func177,ntmps177;go_wp2_with (go_at_call 219;refine r.mono ?_;rintro e u ⟨rfl,rfl⟩);refine(YJ 4 H.o.at_ (by simp;omega) rfl).mono ?_;rintro e A ⟨⟨m,a,rfl,p⟩,d⟩;exact⟨rfl,Qy.err v (Mod.of_below d) ⟨m,a,rfl,p⟩⟩
 .have x:(0:Int)<(wL zs s.1.spelt:Int):=I
  clear h;change Qd _ at h0;go_enter func177,ntmps177;go_wp2_with (go_at_call 219;refine r.mono ?_;rintro e u ⟨rfl,rfl⟩);refine Qu (Xe b (by simp;omega)) ?_;go_wp2_with fail;refine(Km H).mono ?_;rintro e A (⟨y,hy,rfl,hc,d⟩ | ⟨f,hf,⟨m,a,rfl,p⟩,d⟩)
  .go_wp2;go_ret;exact Qy.ok (Qxs h0 hy) d rfl hc
  .exact⟨rfl,Qy.err (Qvc h0 hf) d ⟨m,a,rfl,p⟩⟩
def Oy(_:L8):Nat:=0
def VE(x:L8):Nat:=if isNameL x then 0 else 7
def YK(er:Nat)(zs:Qn)(x:L8):Nat:=if 0<wL zs x then 0 else er
def V7(c:L8->Nat)(x:L8):Nat:=c (zL x)
theorem Qv9:(sA x).data.toList=x:=rfl
theorem SQ{s:ByteArray}:Calls prog 134 #[.string s] w fun e w'=>e=.returned (Qa 0)/\w'=w:=by
 go_enter func134,ntmps134;go_wp2;go_ret;exact⟨rfl,rfl⟩
theorem Qtu(w:World)(j:x.length<=1000):Calls prog 221 #[Qf x] w fun e w'=>e=.returned (.bool (isNameL x))/\w'=w:=by
 have i:=GT x;have c:(sA x).size=x.length:=rfl;have f:=O (GO (s:=sA x) (w:=w) (by rw[c];unfold maxLen;omega));by_cases h0:x.length=0
 .have g:x=[]:=XV h0;subst g;have b:(sA []).toList=[]:=Aj rfl;have d:(sA []).toList.isEmpty=true:=by rw[b];rfl
  go_enter func221,ntmps221;go_wp2;go_ret;exact⟨rfl,rfl⟩
 .have b:¬(sA x).toList=[]:=Ah (by rw[c];exact h0);have d:(sA x).toList.isEmpty=false:=by simpa using b
  go_enter func221,ntmps221;go_wp2_with (go_at_call 226;refine f.mono ?_;rintro e w' ⟨rfl,rfl⟩);go_ret;refine⟨Zf ?_,rfl⟩;rw[Qv9];unfold isNameL
  have:x.isEmpty=false:=by
   cases x with
   |nil=>exact absurd rfl h0
   |cons a r=>rfl
  rw[this,Xb];simp;omega
theorem QwH(c:x.length<=1000):Calls prog 182 #[Qf x] w fun e w'=>e=.returned (Qa (VE x))/\w'=w:=by
 have b:=O (Qtu w c);cases h:isNameL x
 .have a:Hid (VE x=7):=by show _=_;unfold VE;rw[h];rfl
  go_enter func182,ntmps182;go_wp2_with (go_at_call 221;refine b.mono ?_;rintro e w' ⟨rfl,rfl⟩);go_ret;exact⟨Jz (by rw[a.o];rfl),rfl⟩
 .have a:Hid (VE x=0):=by show _=_;unfold VE;rw[h];rfl
  go_enter func182,ntmps182;go_wp2_with (go_at_call 221;refine b.mono ?_;rintro e w' ⟨rfl,rfl⟩);go_ret;exact⟨Jz (by rw[a.o];rfl),rfl⟩
theorem FI(c:Nat)(x:L8)(hz:ZQ w g zs)(hn:n=zs.length)(a:zs.length<=1000):Calls prog 64 #[Qs g n c,Qf x] w fun e w'=>e=.returned (.bool (decide (0<wL zs x)))/\w'=w:=by
 have hi:=Tryz.slices_Contains_string g 0 n c (zs.map sA) (sA x) w (by simp [hn]) I (fun j hj=>by
  have hj':j<zs.length:=by simpa using hj
  rw [J4,FD hj'];exact hz j hj')
 rw[hn,Z7 Qh,Fs]at hi;rw[hn];exact hi
def UK(w:World)(p1 p2 g n c er:Nat)(zs:Qn):Prop:=
 w.cell? (Ql p1 0)=some (Qs g n c)/\w.cell? (Ql p2 0)=some (Qa er)/\ZQ w g zs/\n=zs.length/\zs.length<=1000
theorem Iy(h:UK w p1 p2 g n c a zs):Calls prog 190 #[Qf x,Qc p1,Qc p2] w fun e w'=>e=.returned (Qa (YK a zs x))/\w'=w:=by
 obtain⟨l,m,j,i,k⟩:=h;have b:=O (FI c x j i k);clear j i;by_cases h:0<wL zs x
 .have d:Hid (YK a zs x=0):=by show _=_;unfold YK;rw[Qi h]
  have f:decide (0<wL zs x)=true:=by simpa using h
  rw[f]at b;go_enter func190,ntmps190;go_wp2_with (go_at_call 64;refine b.mono ?_;rintro e w' ⟨rfl,rfl⟩);go_ret;exact⟨Jz (by rw[d.o];rfl),rfl⟩
 .have d:Hid (YK a zs x=a):=by show _=_;unfold YK;rw[Qg h]
  have f:decide (0<wL zs x)=false:=by simpa using h
  rw[f]at b;go_enter func190,ntmps190;go_wp2_with (go_at_call 64;refine b.mono ?_;rintro e w' ⟨rfl,rfl⟩);go_ret;exact⟨Jz (by rw[d.o]),rfl⟩
theorem DX{a:Int}:Calls prog 137 #[Qa a,Qs g n c] w fun e w'=>e=.returned (QA 190 #[] #[(Qc (w.heap.size+1)),Qc w.heap.size])/\w'=(w.alloc (Qe #[Qa a] 33)).alloc (Qe #[Qs g n c] 61):=by
 go_enter func137,ntmps137;go_wp2;go_ret;exact⟨rfl,rfl⟩
theorem WV{f:Nat}{a b:Value}:Calls prog 136 #[.func (.func f) #[] #[a,b]] w fun e w'=>e=.returned (QA 189 #[] #[Qc w.heap.size])/\w'=w.alloc (Qe #[.func (.func f) #[] #[a,b]] 229):=by
 go_enter func136,ntmps136;go_wp2;go_ret;exact⟨rfl,rfl⟩
def NP(w:World)(q p1 p2 g n c er:Nat)(zs:Qn):Prop:=
 w.cell? (Ql q 0)=some (QA 190 #[] #[Qc p1,Qc p2])/\UK w p1 p2 g n c er zs
theorem ZQ.below(h:ZQ w g zs)(a:Qo w w'):ZQ w' g zs:=fun j hj=>by
 have:=h j hj;rw[a.cell (p:=⟨g,j,none⟩) (QX this)];exact this
theorem UK.below{w w':World}{p1 p2 g n c b:Nat}{zs:Qn}(h:UK w p1 p2 g n c b zs)(a:Qo w w'):UK w' p1 p2 g n c b zs:=by
 obtain⟨d,e,f,i,j⟩:=h;exact⟨by rw[a.cell (p:=⟨p1,0,none⟩) (QX d)];exact d,by rw[a.cell (p:=⟨p2,0,none⟩) (QX e)];exact e,f.below a,i,j⟩
theorem S5{q:Nat}(h:NP w q p1 p2 g n c a zs)(l:x.length<=1000):Calls prog 189 #[Qf x,Qc q] w fun e w'=>e=.returned (Qa (V7 (YK a zs) x))/\Qo w w':=by
 obtain⟨i,b⟩:=h;have f:=O i;replace b:=O b;have j:=O (fun W=>AF (sA x) W (by rw[Zc];omega));go_enter func189,ntmps189;go_wp2_with fail;go_region_with (first|(go_at_call 181;refine Qv (j _) ?_;rintro m d;have k:=(QN d f (QX f));skip)|(go_at_call 190;refine Qu (Iy (b.o.below (Y9 d))) ?_;skip))
 all_goals go_wp2
 all_goals go_ret
 all_goals exact⟨rfl,Y9 d⟩
def Ut(x:L8)(_:World)(v:Value):Prop:=v=Qf x
theorem Bg(h:¬s.1.kind=5):sL l chk s=.error ⟨4,s.1.pos⟩:=by unfold sL;rw[Qg h]
theorem C5(h:s.1.kind=5)(a:¬chk s.1.said=0):sL l chk s=.error ⟨chk s.1.said,s.1.pos⟩:=by unfold sL;rw[Qi h,Qg a]
theorem BB(h:s.1.kind=5)(a:chk s.1.said=0)(b:nL l s.2=.ok y):sL l chk s=.ok (s.1.said,y):=by unfold sL;rw[Qi h,Qi a,b]
theorem Bk(h:s.1.kind=5)(a:chk s.1.said=0)(b:nL l s.2=.error f):sL l chk s=.error f:=by unfold sL;rw[Qi h,Qi a,b]
theorem CG{g:Value}(h:RC w b t s g c d):Calls prog 179 #[Qc b,QA 134 #[] #[]] w (Qy (sL t.data.toList Oy s) b t g c d w Ut):=by
 have r:=Q9 h.at_;have u:w.cell? (Ql b 4)=some (Qf s.1.said):=h.at_.cell 4;replace h:=O h;by_cases hk:s.1.kind=5;rotate_left
 .have m:=O (Bg (l:=t.data.toList) (chk:=Oy) hk);have n:((s.1.kind:Int)==5)=false:=by simp;omega
  clear hk;go_enter func179,ntmps179;go_wp2_with fail;refine(YJ 4 h.o.at_ rfl rfl).mono ?_;rintro e q ⟨⟨i,k,rfl,j⟩,a⟩;exact⟨rfl,Qy.err m (Mod.of_below a) ⟨i,k,rfl,j⟩⟩
 have n:((s.1.kind:Int)==5)=true:=by simp;omega
 change Qd _ at hk;go_enter func179,ntmps179;go_wp2_with fail;refine Qu (Xe b rfl) ?_;go_wp2_with fail;refine Qu (SQ) ?_;go_wp2_with fail;refine Qu (Xe b (by rfl)) ?_;go_wp2_with fail;refine(Km h).mono ?_;rintro e v (⟨y,hy,rfl,hc,a⟩ | ⟨f,hf,⟨i,k,rfl,j⟩,a⟩)
 .go_wp2;go_ret;exact Qy.ok (BB hk rfl hy) a rfl hc
 .exact⟨rfl,Qy.err (Bk hk rfl hf) a ⟨i,k,rfl,j⟩⟩
theorem SW{k:Value}{j:Nat}(h:RC w b t s k i j):Calls prog 179 #[Qc b,QA 182 #[] #[]] w (Qy (sL t.data.toList VE s) b t k i j w Ut):=by
 have u:=Q9 h.at_;have v:w.cell? (Ql b 4)=some (Qf s.1.said):=h.at_.cell 4;replace h:=O h;by_cases hk:s.1.kind=5;rotate_left
 .have m:=O (Bg (l:=t.data.toList) (chk:=VE) hk);have n:((s.1.kind:Int)==5)=false:=by simp;omega
  clear hk;go_enter func179,ntmps179;go_wp2_with fail;refine(YJ 4 h.o.at_ rfl rfl).mono ?_;rintro e q ⟨⟨c,g,rfl,d⟩,a⟩;exact⟨rfl,Qy.err m (Mod.of_below a) ⟨c,g,rfl,d⟩⟩
 have n:((s.1.kind:Int)==5)=true:=by simp;omega
 change Qd _ at hk;go_enter func179,ntmps179;go_wp2_with fail;refine Qu (Xe b rfl) ?_;go_wp2_with fail;refine Qu (QwH (by have:=h.sz.1;omega)) ?_;generalize hC:VE s.1.said=C;change Qd _ at hC;by_cases hc:C=0;rotate_left
 .have m:=O (C5 (l:=t.data.toList) (chk:=VE) hk (by rw[hC.o];exact hc));rw[hC.o]at m;have x:((C:Int)==0)=false:=by simp;omega
  clear hc;go_wp2_with fail;refine(YJ C h.o.at_ rfl rfl).mono ?_;rintro e r ⟨⟨c,g,rfl,d⟩,a⟩;exact⟨rfl,Qy.err m (Mod.of_below a) ⟨c,g,rfl,d⟩⟩
 subst hc;go_wp2_with fail;refine Qu (Xe b (by rfl)) ?_;go_wp2_with fail;refine(Km h).mono ?_;rintro e r (⟨y,hy,rfl,hc,a⟩ | ⟨f,hf,⟨c,g,rfl,d⟩,a⟩)
 .go_wp2;go_ret;exact Qy.ok (BB hk hC hy) a rfl hc
 .exact⟨rfl,Qy.err (Bk hk hC hf) a ⟨c,g,rfl,d⟩⟩
theorem FV{q:Value}{m:Nat}(h:RC w b t s q m p)(u:UK w p1 p2 g n c d zs):Calls prog 179 #[Qc b,QA 190 #[] #[Qc p1,Qc p2]] w (Qy (sL t.data.toList (YK d zs) s) b t q m p w Ut):=by
 have B:=Q9 h.at_;have D:w.cell? (Ql b 4)=some (Qf s.1.said):=h.at_.cell 4;replace h:=O h;change Qd _ at u;by_cases hk:s.1.kind=5;rotate_left
 .have r:=O (Bg (l:=t.data.toList) (chk:=(YK d zs)) hk);have v:((s.1.kind:Int)==5)=false:=by simp;omega
  clear hk;go_enter func179,ntmps179;go_wp2_with fail;refine(YJ 4 h.o.at_ rfl rfl).mono ?_;rintro e z ⟨⟨i,k,rfl,j⟩,a⟩;exact⟨rfl,Qy.err r (Mod.of_below a) ⟨i,k,rfl,j⟩⟩
 have v:((s.1.kind:Int)==5)=true:=by simp;omega
 change Qd _ at hk;go_enter func179,ntmps179;go_wp2_with fail;refine Qu (Xe b rfl) ?_;go_wp2_with fail;refine Qu (Iy u) ?_;generalize hC:(YK d zs) s.1.said=C;change Qd _ at hC;by_cases hc:C=0;rotate_left
 .have r:=O (C5 (l:=t.data.toList) (chk:=(YK d zs)) hk (by rw[hC.o];exact hc));rw[hC.o]at r;have E:((C:Int)==0)=false:=by simp;omega
  clear hc;go_wp2_with fail;refine(YJ C h.o.at_ rfl rfl).mono ?_;rintro e A ⟨⟨i,k,rfl,j⟩,a⟩;exact⟨rfl,Qy.err r (Mod.of_below a) ⟨i,k,rfl,j⟩⟩
 subst hc;go_wp2_with fail;refine Qu (Xe b (by rfl)) ?_;go_wp2_with fail;refine(Km h).mono ?_;rintro e A (⟨y,hy,rfl,hc,a⟩ | ⟨f,hf,⟨i,k,rfl,j⟩,a⟩)
 .go_wp2;go_ret;exact Qy.ok (BB hk hC hy) a rfl hc
 .exact⟨rfl,Qy.err (Bk hk hC hf) a ⟨i,k,rfl,j⟩⟩
theorem RG{q:Nat}{u:Value}{r:Nat}(h:RC w b t s u p r)(A:NP w q p1 p2 g n c d zs):Calls prog 179 #[Qc b,QA 189 #[] #[Qc q]] w (Qy (sL t.data.toList (V7 (YK d zs)) s) b t u p r w Ut):=by
 have H:=Q9 h.at_;have D:w.cell? (Ql b 4)=some (Qf s.1.said):=h.at_.cell 4;replace h:=O h;change Qd _ at A;by_cases hk:s.1.kind=5;rotate_left
 .have v:=O (Bg (l:=t.data.toList) (chk:=(V7 (YK d zs))) hk);have E:((s.1.kind:Int)==5)=false:=by simp;omega
  clear hk;go_enter func179,ntmps179;go_wp2_with fail;refine(YJ 4 h.o.at_ rfl rfl).mono ?_;rintro e B ⟨⟨j,m,rfl,k⟩,a⟩;exact⟨rfl,Qy.err v (Mod.of_below a) ⟨j,m,rfl,k⟩⟩
 have E:((s.1.kind:Int)==5)=true:=by simp;omega
 change Qd _ at hk;go_enter func179,ntmps179;go_wp2_with fail;refine Qu (Xe b rfl) ?_;go_wp2_with fail;refine Qv (S5 A (by have:=h.sz.1;omega)) ?_;rintro B z;have x:=O (h.o.below z);have i:=O (Mod.of_below (b:=b) z);have D:B.cell? (Ql b 4)=some (Qf s.1.said):=x.o.at_.cell 4;clear z;generalize hC:(V7 (YK d zs)) s.1.said=C;change Qd _ at hC;by_cases hc:C=0;rotate_left
 .have v:=O (C5 (l:=t.data.toList) (chk:=(V7 (YK d zs))) hk (by rw[hC.o];exact hc));rw[hC.o]at v;have J:((C:Int)==0)=false:=by simp;omega
  clear hc;go_wp2_with fail;refine(YJ C x.o.at_ rfl rfl).mono ?_;rintro e G ⟨⟨j,m,rfl,k⟩,a⟩;exact⟨rfl,Qy.err v (i.o.trans (Mod.of_below a)) ⟨j,QE i.size m,rfl,k⟩⟩
 subst hc;go_wp2_with fail;refine Qu (Xe b (by rfl)) ?_;go_wp2_with fail;refine(Km x).mono ?_;rintro e G (⟨y,hy,rfl,hc,a⟩ | ⟨f,hf,⟨j,m,rfl,k⟩,a⟩)
 .go_wp2;go_ret;exact Qy.ok (BB hk hC hy) (i.o.trans a) rfl hc
 .exact⟨rfl,Qy.err (Bk hk hC hf) (i.o.trans a) ⟨j,QE i.size m,rfl,k⟩⟩
def Yo(s:SS)(r:L8):L8×Nat:=
 if r.idxOf 125=r.length then([],0)
 else if r.idxOf 125=1/\Q7 (r.headD 0).toNat=true then(s.told.getD ((r.headD 0).toNat-48) [],2)
 else if isNameL (r.take (r.idxOf 125))=true then((s.vals (zL (r.take (r.idxOf 125)))).getD [],r.idxOf 125+1)
 else([],0)
theorem IU:∀(r:L8),r.idxOf 125≠r.length->∃w rest,r=w++125::rest/\(125:UInt8) ∉ w/\w.length=r.idxOf 125
 | [],h=>absurd rfl h
 |c::r,h=>by
  by_cases hc:c=125
  .subst hc;exact⟨[],r,rfl,Qh,Qh⟩
  .have f:(c==125)=false:=by simpa using hc
   have e:(c::r).idxOf 125=r.idxOf 125+1:=by rw[List.idxOf_cons,f];simp
   obtain⟨w,rest,a,b,d⟩:=IU r (by rw[e]at h;simp at h;exact h);refine⟨c::w,rest,by rw[a];rfl,?_,by rw[e,<-d];rfl⟩;intro g;rcases XW.1 g with h|h
   .exact hc h.symm
   .exact b h
theorem Qx0(h:r.idxOf 125=r.length):(125:UInt8) ∉ r:=fun hm=>by
 have:=List.idxOf_lt_length_of_mem hm;omega
theorem LO(a:L8):∀w:L8,ZF (w++125::a)=ZF w
 | []=>by rw[List.nil_append,Am];rfl
 |c::w=>by
  rw[K6,Am,Am,LO a w]
theorem Ps{a:L8}{w:L8}:nmLen (w++125::a)=nmLen w:=by
 match w with
 | []=>rfl
 |c::w=>
  show(if Q7 c.toNat then 1 else nameLen (c::(w++125::a)))=(if Q7 c.toNat then 1 else nameLen (c::w))
  by_cases hd:Q7 c.toNat=true
  .rw[Qi hd,Qi hd]
  .rw[Qg hd,Qg hd];show(if Za c.toNat then 1+ZF (w++125::a)else 0)=(if Za c.toNat then 1+ZF w else 0)
   rw[LO]
theorem PL(w:L8):nmLen w<=w.length:=by
 match w with
 | []=>exact Q4 _
 |c::w=>
  show(if Q7 c.toNat then 1 else nameLen (c::w))<=_
  split
  .simp
  .exact GT (c::w)
theorem PG(h:r.take 1=[125]):(125:UInt8)∈r:=by
 match r,h with
 |c::r,h=>
  have:c=125:=by simpa using h
  subst this;simp
theorem PO(h:(125:UInt8) ∉ r):X2 (36::123::r)=0:=by
 unfold X2;rw[Qg];rintro⟨_,a⟩;exact h (List.mem_of_mem_drop (PG a))
theorem PQ{w a:L8}(h:(125:UInt8) ∉ w):X2 (36::123::(w++125::a))=if nmLen w=w.length then w.length else 0:=by
 have f:(36::123::(w++125::a)).drop 2=w++125::a:=rfl;have g:(36::123::(w++125::a)).take 2=[36,123]:=rfl;unfold X2;simp only[f,g,Ps,true_and];by_cases he:nmLen w=w.length
 .rw[Qi he,he,Qi Qh]
 .rw[Qg he,Qg];intro b;have j:nmLen w<w.length:=by have:=PL w;omega
  rw[List.drop_append_of_le_length I]at b
  obtain⟨c,d,e⟩:∃c d,w.drop (nmLen w)=c::d:=by
   match hx:w.drop (nmLen w)with
   | []=>have:=ZI List.length hx;simp at this;omega
   |c::d=>exact⟨c,d,rfl⟩
  rw[e]at b;have i:c=125:=by simpa using b
  apply h;have:c∈w.drop (nmLen w):=by rw[e];simp
  rw[<-i];exact List.mem_of_mem_drop this
theorem Ew{w:L8}:(isNameL w=true)↔(w≠[]/\nameLen w=w.length):=by
 unfold isNameL;cases w<;>simp
theorem QvH{c:Int}(h:Q7 c=true):Za c=false:=by
 unfold Q7 at h;unfold Za Jb;simp at h ⊢;omega
theorem held_or(s:SS)(r:L8):(Yo s r=([],0)/\X2 (36::123::r)=0)\/∃k,0<k/\X2 (36::123::r)=k/\Yo s r=(Nb s (r.take k),k+1):=by
 by_cases hn:r.idxOf 125=r.length
 .left;exact⟨by unfold Yo;rw[Qi hn],PO (Qx0 hn)⟩
 .obtain⟨w,p,f,i,g⟩:=IU r hn;have d:r.take w.length=w:=by rw[f];simp
  have a:X2 (36::123::r)=if nmLen w=w.length then w.length else 0:=by rw[f];exact PQ i
  have b:Yo s r=if w.length=1/\Q7 (r.headD 0).toNat=true then(s.told.getD ((r.headD 0).toNat-48) [],2)else if isNameL w=true then((s.vals (zL w)).getD [],w.length+1)else([],0):=by
   unfold Yo;rw[Qg hn,<-g,d]
  match w,f,i,g,d,a,b with
  | [],f,i,g,d,a,b=>
   left;exact⟨by rw[b,Qg Qh,Qg Qb],by rw[a];rfl⟩
  |c::v,f,i,g,d,a,b=>
   have o:r.headD 0=c:=by rw[f];rfl
   rw[o]at b;by_cases hd:Q7 c.toNat=true
   .have j:nmLen (c::v)=1:=by show(if Q7 c.toNat then 1 else _)=1;rw[Qi hd]
    rw[j]at a;by_cases h1:(c::v).length=1
    .right;refine⟨1,I,by rw[a,h1,Qi rfl],?_⟩;rw[b,Qi ⟨h1,hd⟩];rw[h1]at d;rw[d];exact Prod.ext (Qi hd).symm rfl
    .left;refine⟨?_,by rw[a,Qg (fun e=>h1 e.symm)]⟩;rw[b,Qg (fun e=>h1 e.1),Qg];intro l;have m:=(Ew.1 l).2;have n:nameLen (c::v)=0:=by show(if Za c.toNat then _ else 0)=0;rw[Qg (by rw[QvH hd];decide)]
     rw[n]at m;simp at m
   .have j:nmLen (c::v)=nameLen (c::v):=by show(if Q7 c.toNat then 1 else _)=_;rw[Qg hd]
    rw[j]at a;by_cases he:nameLen (c::v)=(c::v).length
    .right;refine⟨(c::v).length,Qh,by rw[a,Qi he],?_⟩;rw[b,Qg (fun e=>hd e.2),Qi (Ew.2 ⟨Qh,he⟩),d];exact Prod.ext (Qg hd).symm rfl
    .left;exact⟨by rw[b,Qg (fun e=>hd e.2),Qg (fun l=>he (Ew.1 l).2)],by rw[a,Qg he]⟩
theorem Qur{s:SS}:standL s (36::123::r)=if(Yo s r).2=0 then([36],1)else((Yo s r).1,2+(Yo s r).2):=by
 unfold standL;rcases held_or s r with⟨a,b⟩ | ⟨k,c,a,b⟩
 .rw[a,b,Qi rfl,Qi rfl];rfl
 .rw[a,b,Q8,Qg Qh];refine Prod.ext rfl ?_;show 3+k=2+(k+1)
  omega
section
attribute [local go_sem ↓] Zt Zu
theorem Vs:type_of%@Go.wp_loop_rounds:=@Go.wp_loop_rounds
theorem UB:type_of%@Go.rounds_succ:=@Go.rounds_succ
theorem QwG(h:JZ w tb l f):Calls prog 108 #[Qc tb] w fun e w'=>e=.returned (.tuple #[])/\∃n,w'=w.drewN n:=by
 have a:=Zs h.1;have b:=Q9 h.1;have c:=Zc l;clear h;go_enter func108,ntmps108;go_wp2;refine Vs 1 ?_;rw[UB];go_wp2_with fail;go_quiet (fail);go_wp2;go_end0;exact⟨rfl,_,rfl⟩
theorem QvV(h:JZ w tb l f):Calls prog 66 #[Qc tb] w (Yf (.error f) tb l w):=by
 have b:((f.err:Int) != 0)=true:=by have:=h.2;simp;omega
 change Qd _ at h;go_enter func66,ntmps66;go_wp2_with fail;refine Qv (QwG h) ?_;rintro c ⟨n,rfl⟩;have a:(w.drewN n).cell? (Ql tb 2)=some (Qa f.err):=Qj (w:=w.drewN n) h.1 2;go_wp2;go_end0;exact⟨rfl,(Mod.refl _ _).drewN,h⟩
def nextS(l:L8)(st:Qq PS):Qq PS:=
 match st with
 | .ok s=>nL l s.2
 | .error f=>.error f
theorem X0(h:TSt w tb l st)(a:l.length<=600):Calls prog 66 #[Qc tb] w (Yf (nextS l st) tb l w):=by
 cases st with
 |ok s=>exact Lr h.qt a h.le
 |error f=>exact QvV h
def failS(st:Qq PS)(f:Flt):Qq PS:=
 match st with
 | .ok _=>.error f
 | .error g=>.error g
theorem Ka(f:Flt)(h:TSt w tb l st)(c:l.length<=600)(b:f.err≠0):Calls prog 70 #[Qc tb,Qa f.err,Qa f.pos] w (Yf (failS st f) tb l w):=by
 cases st with
 |ok s=>
  refine Qv (V8 f h.qt c b) ?_;rintro i ⟨d,a⟩;exact⟨rfl,d,a⟩
 |error g=>
  refine Qu (Qu9 h) ?_;exact⟨rfl,Mod.refl _ _,h⟩
def Qk(l:L8)(st:Qq PS):Nat×L8×Nat×Nat:=
 match st with
 | .ok s=>(kQ s.1,sQ s.1,s.1.num,s.1.pos)
 | .error _=>(0,[],0,l.length)
def errS(st:Qq PS):Nat:=
 match st with
 | .ok _=>0
 | .error f=>f.err
theorem TSt.cells(h:TSt w tb l st):w.cell? (Ql tb 2)=some (Qa (errS st))/\w.cell? (Ql tb 4)=some (.int .u8 (Qk l st).1)/\w.cell? (Ql tb 5)=some (.string (sA (Qk l st).2.1))/\w.cell? (Ql tb 6)=some (Qa (Qk l st).2.2.1)/\w.cell? (Ql tb 7)=some (Qa (Qk l st).2.2.2):=by
 cases st with
 |ok s=>exact⟨Qj h.qt 2,Qj h.qt 4,Qj h.qt 5,Qj h.qt 6,Qj h.qt 7⟩
 |error f=>exact⟨Qj h.1 2,Qj h.1 4,Qj h.1 5,Qj h.1 6,Qj h.1 7⟩
theorem TSt.lt{w:World}{tb:Nat}{l:L8}{st:Qq PS}(h:TSt w tb l st):tb<w.heap.size:=by
 cases st with
 |ok s=>exact h.qt.lt
 |error f=>exact h.1.lt
theorem TSt.block(h:TSt w tb l st)(a:w'.heap[tb]?=w.heap[tb]?):TSt w' tb l st:=by
 cases st with
 |ok s=>exact⟨by unfold QT;rw[a];exact h.qt,h.le,h.wd,h.sz,h.sp⟩
 |error f=>exact⟨by unfold QT;rw[a];exact h.1,h.2⟩
theorem TSt.below(h:TSt w tb l st)(hb:Qo w w'):TSt w' tb l st:=h.block (hb.block tb h.lt)
theorem TSt.err0(h:TSt w tb l st):errS st=0↔∃s,st=.ok s:=by
 cases st with
 |ok s=>exact⟨fun _=>⟨s,rfl⟩,fun _=>rfl⟩
 |error f=>exact⟨fun e=>absurd e h.2,fun⟨s,e⟩=>by cases e⟩
def RdQ(w:World)(rb tb:Nat)(nv:Value):Prop:=w.heap[rb]?=some (Qe #[Qc tb,nv] 140)
theorem RdQ.mod{b:Value}(h:RdQ w a tb b)(c:Mod tb w w')(d:a≠tb):RdQ w' a tb b:=by
 unfold RdQ;rw[c.block a (QI h) d];exact h
def signS(l:L8)(c:Nat)(st:Qq PS):Qq PS:=if(Qk l st).1=c then nextS l st else failS st ⟨4,(Qk l st).2.2.2⟩
theorem KJ{s:Value}(c:Nat)(i:RdQ w k tb s)(h:TSt w tb l st)(f:l.length<=600):Calls prog 68 #[Qc k,.int .u8 c] w (Yf (signS l c st) tb l w):=by
 have x:=Qj i 0;obtain⟨_,u,_,_,v⟩:=h.cells;have n:=O (X0 h f);have m:=O (Ka ⟨4,(Qk l st).2.2.2⟩ (w:=w.drew) (h.block rfl) f (Yh 3));clear h i;by_cases he:(Qk l st).1=c
 .have b:Hid (signS l c st=nextS l st):=Qi he;have r:(((Qk l st).1:Int) != (c:Int))=false:=by simp;omega
  rw[b.o];clear he;go_enter func68,ntmps68;go_wp2_with fail;refine n.mono ?_;rintro e t d;obtain⟨rfl,q⟩:=d;go_wp2;go_end0;exact⟨rfl,q⟩
 .have b:Hid (signS l c st=failS st ⟨4,(Qk l st).2.2.2⟩):=Qg he;have r:(((Qk l st).1:Int) != (c:Int))=true:=by simp;omega
  rw[b.o];clear he;go_enter func68,ntmps68;go_wp2_with fail;go_region_with (first|(go_at_call 70;refine m.mono ?_;rintro e t d;obtain⟨rfl,g,j⟩:=d;have a:=O g;have p:=O j;clear g j;skip))
  all_goals go_wp2
  all_goals go_end0
  all_goals exact⟨rfl,⟨a.os,a.tape,a.output,a.size,a.o.block⟩,p⟩
def G5(x:L8)(k:Nat):Prop:=k=0\/nameLen x=k+ZF (x.drop k)
theorem WR(h:0<(sA x).size)(b:Za ((sA x)[0].toNat:Int)=true):G5 x 1:=by
 right;have e:=Xm (a:=0) h;rw[Jm]at e;rw[e,nameLen,Qi b];rfl
theorem II(b:0<k)(h:k<(sA x).size)(hn:G5 x k)(a:Zr (sA x)[k]=true):G5 x (k+1):=by
 rcases hn with hn|hn
 .omega
 .right;have:=Fw h a;omega
theorem LP(h:0<(sA x).size)(c:Za ((sA x)[0].toNat:Int)=false):isNameL x=false:=by
 have e:=Xm (a:=0) h;rw[Jm]at e;have b:nameLen x=0:=by rw[e,nameLen,Qg (by rw[c];decide)]
 have d:0<x.length:=h;unfold isNameL;rw[b];have:((0:Nat)==x.length)=false:=by simp;omega
 rw[this,Bool.and_false]
theorem Qxf(d:0<k)(h:k<(sA x).size)(hn:G5 x k)(a:Zr (sA x)[k]=false):isNameL x=false:=by
 rcases hn with hn|hn
 .omega
 .have b:=Ft h a;have c:k<x.length:=h;unfold isNameL;have:(nameLen x==x.length)=false:=by simp;omega
  rw[this,Bool.and_false]
theorem Qww(a:0<x.length)(hn:G5 x x.length):isNameL x=true:=by
 rcases hn with hn|hn
 .omega
 .rw[FB QF]at hn;unfold isNameL;rw[hn]
  cases x with
  |nil=>simp at a
  |cons c r=>simp
theorem Iw(x:L8)(w:World)(l:x.length<=140737488355328):Calls prog 175 #[Qf x] w fun e w'=>e=.returned (.bool (isNameL x))/\w'=w:=by
 have m:=Zc x;go_enter func175,ntmps175;go_wp2
 go_loop [3] (fun i=>∃k:Nat,k<=x.length/\i=Qa k/\G5 x k) (fun i=>x.length-(intOf i).toNat)
 case atStart=>exact⟨0,QR,rfl,Qt rfl⟩
 case round=>
  obtain⟨k,g,rfl,b⟩:=hrel;change Qd _ at b;by_cases hlt:k<(sA x).size
  .have d:(k:Int)<(x.length:Int):=I
   cases hL:Za ((sA x)[k].toNat:Int)
   .cases hD:Q7 ((sA x)[k].toNat:Int)
    .have a:Hid (isNameL x=false):=by
      rcases Nat.eq_zero_or_pos k with rfl|h
      .exact LP hlt hL
      .exact Qxf h hlt b (by unfold Zr;rw[hL,hD];rfl)
     go_wp2_with (first|(go_at_call 109;refine Qu (Jx) ?_)|(go_at_call 110;refine Qu (Y8 _ _) ?_));go_ret;exact⟨Zf a.symm,rfl⟩
    .rcases Nat.eq_zero_or_pos k with rfl|h
     .have a:=O (LP hlt hL);go_wp2_with (first|(go_at_call 109;refine Qu (Jx) ?_)|(go_at_call 110;refine Qu (Y8 _ _) ?_));go_ret;exact⟨Zf a.symm,rfl⟩
     .have c:=O (II h hlt b (by unfold Zr;rw[hL,hD];rfl));have j:((k:Int)==0)=false:=by simp;omega
      go_wp2_with (first|(go_at_call 109;refine Qu (Jx) ?_)|(go_at_call 110;refine Qu (Y8 _ _) ?_));go_round
      case rel=>exact⟨k+1,I,by go_num,c⟩
      case measure=>simp[intOf];omega
   .have c:Hid (G5 x (k+1)):=by
     rcases Nat.eq_zero_or_pos k with rfl|h
     .exact WR hlt hL
     .exact II h hlt b (by unfold Zr;rw[hL];rfl)
    go_wp2_with (first|(go_at_call 109;refine Qu (Jx) ?_)|(go_at_call 110;refine Qu (Y8 _ _) ?_));go_round
    case rel=>exact⟨k+1,I,by go_num,c⟩
    case measure=>simp[intOf];omega
  .obtain rfl:k=x.length:=I
   have d:¬(x.length:Int)<(x.length:Int):=I
   by_cases h0:0<x.length
   .have a:=O (Qww h0 b);go_wp2;go_ret;exact⟨Zf (by rw[a.o]),rfl⟩
   .have f:x=[]:=XV I;subst f;go_wp2;go_ret;exact⟨rfl,rfl⟩
theorem U3{a b:L8}:((sA a).toList==(sA b).toList)=decide (a=b):=by
 rw[XL,XL];show(a==b)=decide (a=b)
 rw[Xb];simp
def TxL(w:World)(v:Value)(zs:Qn):Prop:=(zs=[]/\v=.slice none 0 0)\/∃g c,v=Qs g zs.length c/\ZQ w g zs
theorem TxL.form(h:TxL w v zs):∃a c,v=.slice a zs.length c/\∀j (b:j<zs.length),∃g,a=some ⟨g,0,none⟩/\w.cell? ⟨g,j,none⟩=some (.string (sA zs[j])):=by
 rcases h with⟨rfl,rfl⟩ | ⟨g,c,rfl,d⟩
 .exact⟨none,0,rfl,fun j b=>absurd b (XA _)⟩
 .refine⟨_,c,rfl,fun j b=>⟨g,rfl,?_⟩⟩;have:=d j b;rw[Zv,Zi b]at this;exact this
theorem Jn(x:L8):∀zs:Qn,0<wL zs x↔x∈zs
 | []=>by simp[wL]
 |z::r=>by
  have a:=Jn x r;unfold wL;by_cases h:z=x
  .rw[Qi h];simp[h]
  .rw[Qg h];by_cases h0:wL r x=0
   .rw[Qi h0];have:x ∉ r:=fun b=>by have:=a.2 b;omega
    simp[this];exact fun e=>h e.symm
   .rw[Qg h0];have:x∈r:=a.1 I;simp[this]
theorem ZT:type_of%@List.getElem_mem:=@List.getElem_mem
theorem Bi(v:Value)(x:L8)(h:TxL w v zs)(p:zs.length<=140737488355328):Calls prog 55 #[v,Qf x] w fun e w'=>e=.returned (.bool (decide (0<wL zs x)))/\w'=w:=by
 obtain⟨a,c,rfl,f⟩:=h.form;clear h;change Qd _ at f;go_enter func55,ntmps55;go_wp2
 go_loop [5] (fun i=>∃k:Nat,k<=zs.length/\i=Qa k/\x ∉ zs.take k) (fun i=>zs.length-(intOf i).toNat)
 case atStart=>exact⟨0,QR,rfl,Qh⟩
 case round=>
  obtain⟨k,n,rfl,d⟩:=hrel;change Qd _ at d;by_cases hlt:k<zs.length
  .have q:(k:Int)<(zs.length:Int):=I
   obtain⟨g,rfl,m⟩:=f k hlt;by_cases he:zs[k]=x
   .have b:=O (QU ((Jn x zs).2 (he ▸ ZT hlt)));rw[he]at m;have l:((sA x).toList==(sA x).toList)=true:=by rw[U3];simp
    clear he;go_wp2;go_ret;exact⟨Zf b.symm,rfl⟩
   .have l:((sA zs[k]).toList==(sA x).toList)=false:=by rw[U3];simp[he]
    have j:Hid (x ∉ zs.take (k+1)):=by
     show _ ∉ _
     rw[Y4 hlt];intro hm;rcases Z6.1 hm with hm|hm
     .exact d hm
     .exact he (ZV hm).symm
    clear he;go_wp2;go_round
    case rel=>exact⟨k+1,I,by go_num,j⟩
    case measure=>simp[intOf];omega
  .obtain rfl:k=zs.length:=I
   have b:=O (QB (fun h=>d (by rw[KA];exact(Jn x zs).1 h)));go_wp2;go_ret;exact⟨Zf b.symm,rfl⟩
def QV(what:Nat)(x:L8):Nat:=
 if what=1 then(if 0<wL [Zb,ZN,ZM,Z8] x then 0 else 6)
 else if what=2 then(if 0<wL [XR,Ko] x then 0 else 7)
 else if what=3 then(if 0<wL [JL,kTo] (zL x)then 0 else 7)
 else if what=4 then(if isNameL x then 0 else 7)
 else 0
def Ny:Qn:=[Zb,ZN,ZM,Z8]
theorem MF:Calls prog 213 #[] w fun e w'=>e=.returned (Qs w.heap.size 4 4)/\w'=w.alloc (.cells (QW Ny).toArray 9):=by
 go_enter func213,ntmps213;go_wp2;go_ret;exact⟨rfl,rfl⟩
theorem QwR{what:Nat}(x:L8)(w:World)(hw:what<=4)(j:x.length<=140737488355328):Calls prog 170 #[Qf x,Qa what] w fun e w'=>e=.returned (Qa (QV what x))/\Qo w w':=by
 have k:what=0\/what=1\/what=2\/what=3\/what=4:=I
 rcases k with rfl|rfl|rfl|rfl|rfl
 .go_enter func170,ntmps170;go_wp2;go_ret;exact⟨rfl,QO _ _⟩
 .have g:=O (Bi (Qs w.heap.size 4 4) (zs:=Ny) x (w:=w.alloc (.cells (QW Ny).toArray 9)) (Qr ⟨_,4,rfl,Ju w Ny rfl⟩) Qb);have a:Hid (QV 1 x=if 0<wL Ny x then 0 else 6):=rfl;by_cases hn:0<wL Ny x
  .rw[Qi hn]at a;rw[QU hn]at g;clear hn;go_enter func170,ntmps170;go_wp2_with (first|(go_at_call 213;refine Qu (MF) ?_)|(go_at_call 55;refine g.mono ?_;rintro e w' ⟨rfl,rfl⟩));go_ret;exact⟨by rw[a.o];rfl,QH _⟩
  .rw[Qg hn]at a;rw[QB hn]at g;clear hn;go_enter func170,ntmps170;go_wp2_with (first|(go_at_call 213;refine Qu (MF) ?_)|(go_at_call 55;refine g.mono ?_;rintro e w' ⟨rfl,rfl⟩));go_ret;exact⟨by rw[a.o];rfl,QH _⟩
 .have a:Hid (QV 2 x=if 0<wL [XR,Ko] x then 0 else 7):=rfl;have d:((sA x).toList==[105,59,111,99,116,101,116])=decide (x=XR):=by rw[XL];show(x==XR)=_;rw[Xb];simp
  have c:((sA x).toList==[105,59,97,115,99,105,105,45,99,97,115,101,109,97,112])=decide (x=Ko):=by rw[XL];show(x==Ko)=_;rw[Xb];simp
  have b:=O (Jn x [XR,Ko]);by_cases e1:x=XR
  .rw[Qi (b.2 (by rw[e1];simp))]at a;rw[QU e1]at d;clear e1 c;go_enter func170,ntmps170;go_wp2;go_ret;exact⟨by rw[a.o];rfl,QO _ _⟩
  rw[QB e1]at d;by_cases e2:x=Ko
  .rw[Qi (b.2 (by rw[e2];simp))]at a;rw[QU e2]at c;clear e1 e2;go_enter func170,ntmps170;go_wp2;go_ret;exact⟨by rw[a.o];rfl,QO _ _⟩
  rw[QB e2]at c;rw[Qg (fun h=>by have:=b.1 h;simp[e1,e2]at this)]at a;clear e1 e2;go_enter func170,ntmps170;go_wp2;go_ret;exact⟨by rw[a.o];rfl,QO _ _⟩
 .have a:Hid (QV 3 x=if 0<wL [JL,kTo] (zL x)then 0 else 7):=rfl;have i:=O (fun W=>J6 W j);generalize zL x=y at *;have d:((sA y).toList==[102,114,111,109])=decide (y=JL):=by rw[XL];show(y==JL)=_;rw[Xb];simp
  have c:((sA y).toList==[116,111])=decide (y=kTo):=by rw[XL];show(y==kTo)=_;rw[Xb];simp
  have b:=O (Jn y [JL,kTo]);by_cases e1:y=JL
  .rw[Qi (b.2 (by rw[e1];simp))]at a;rw[QU e1]at d;clear e1 c;go_enter func170,ntmps170;go_wp2_with (go_at_call 80;refine Qv (i _) ?_;rintro w' f);go_ret;exact⟨by rw[a.o];rfl,f⟩
  rw[QB e1]at d;by_cases e2:y=kTo
  .rw[Qi (b.2 (by rw[e2];simp))]at a;rw[QU e2]at c;clear e1 e2;go_enter func170,ntmps170;go_wp2_with (go_at_call 80;refine Qv (i _) ?_;rintro w' f);go_ret;exact⟨by rw[a.o];rfl,f⟩
  rw[QB e2]at c;rw[Qg (fun h=>by have:=b.1 h;simp[e1,e2]at this)]at a;clear e1 e2;go_enter func170,ntmps170;go_wp2_with (go_at_call 80;refine Qv (i _) ?_;rintro w' f);go_ret;exact⟨by rw[a.o];rfl,f⟩
 .cases hn:isNameL x
  all_goals
   have a:Hid (QV 4 x=if isNameL x then 0 else 7):=rfl;rw[hn]at a;go_enter func170,ntmps170;go_wp2_with (go_at_call 175;refine Qu (Iw x _ j) ?_);go_ret;exact⟨by rw[a.o];rfl,QO _ _⟩
def lookQ:Qn->Qn->L8->Option (L8)
 |n::ns,v::vl,x=>if n=x then some v else lookQ ns vl x
 |_,_,_=>none
structure Gu (w:World) (sb:Nat) (s:SS) (nv vv cv:Value) (ns vl:Qn):Prop where
 c4:w.cell? (Ql sb 4)=some (.bool s.vs)
 c5:w.cell? (Ql sb 5)=some nv
 c6:w.cell? (Ql sb 6)=some vv
 c7:w.cell? (Ql sb 7)=some cv
 n:TxL w nv ns
 v:TxL w vv vl
 c:TxL w cv (s.told.take 10)
 l:ns.length=vl.length
 nl:ns.length<=140737488355328
 vals:∀x,s.vals x=lookQ ns vl x
theorem TxL.belowV(h:TxL w v zs)(e:Qo w w'):TxL w' v zs:=by
 rcases h with h | ⟨g,c,d,a⟩
 .exact Qt h
 .exact Qr ⟨g,c,d,fun j b=>by rw[e.cell (p:=⟨g,j,none⟩) (QX (a j b))];exact a j b⟩
theorem Gu.below{s:SS}{g k e:Value}{f i:Qn}(h:Gu w a s g k e f i)(b:Qo w w'):Gu w' a s g k e f i:=by
 have m:=QX h.c4;have d:∀j,w'.cell? ⟨a,j,none⟩=w.cell? ⟨a,j,none⟩:=fun j=>b.cell (p:=⟨a,j,none⟩) m
 exact⟨by rw[d];exact h.c4,by rw[d];exact h.c5,by rw[d];exact h.c6,by rw[d];exact h.c7,h.n.belowV b,h.v.belowV b,h.c.belowV b,h.l,h.nl,h.vals⟩
theorem Ow(hk:k<(sA r).size)(hk':k<r.length):(sA r)[k]'hk=r[k]'hk':=by simp[sA,ByteArray.getElem_eq_getElem_data]
theorem Quh(h:k<r.idxOf 125)(hk:k<(sA r).size):¬(sA r)[k]'hk=125:=by
 have a:k<r.length:=hk;rw[Ow hk a];intro e;have:=List.not_of_lt_findIdx (p:=(· == (125:UInt8))) (xs:=r) (i:=k) h;simp[e]at this
theorem QxI(h:r.idxOf 125<r.length)(hk:r.idxOf 125<(sA r).size):(sA r)[r.idxOf 125]'hk=125:=(Ow hk h).trans (List.getElem_idxOf h)
theorem Qu5{D:Nat}{s:SS}{K vv cv:Value}{b f:Qn}(r:L8)(h:Gu w D s K vv cv b f)(hr:r.length<=140737488355328):Calls prog 117 #[Qc D,Qf r] w fun e w'=>e=.returned (.tuple #[.string (sA (Yo s r).1),Qa (Yo s r).2])/\Qo w w':=by
 have hz:=Zc r;have H:=O h;have aE:r.idxOf 125<=r.length:=List.idxOf_le_length;obtain⟨n,q⟩:=Qw (r.idxOf 125)
 have HB:Hid (∀k,k<n->∀hk:k<(sA r).size,(((sA r)[k]'hk).toNat:Int) != 125):=by
  intro k hk aF;have:=Quh (r:=r) (by rw[q];exact hk) aF;rw[bne,show(((sA r)[k].toNat:Int)==125)=decide ((sA r)[k]=125)from VD _ 125];rw[QB this];rfl
 have HC:Hid (∀hk:n<(sA r).size,((sA r)[n]'hk)=125):=by
  intro hk;have:=QxI (r:=r) (by rw[q];exact hk) (by rw[q];exact hk);simp only[q]at this;exact this
 rw[q]at aE;clear h;change Qd _ at q;go_enter func117,ntmps117;go_upto_block 0 with fail
 go_cut [6] (fun K wx=>K=Qa n/\wx=w)
 case first=>
  go_wp2_with fail
  go_loopg [6] n (fun m K wr=>∃k:Nat,m=n-k/\k<=n/\K=Qa k/\wr=w)
  case atStart=>exact⟨0,I,I,rfl,rfl⟩
  case round=>
   obtain⟨k,rfl,hk,rfl,rfl⟩:=hrel;by_cases hlt:k<n
   .have hb:=HB k hlt;have C:(k:Int)<(r.length:Int):=I
    go_wp2;go_roundg (n-(k+1))
    case measure=>omega
    case rel=>exact⟨k+1,rfl,I,by go_num,rfl⟩
   .have ab:k=n:=I
    subst ab;by_cases hl:k<(sA r).size
    .have A:=HC hl;have C:(k:Int)<(r.length:Int):=I
     go_wp2;go_meet;exact⟨rfl,rfl⟩
    .have C:¬(k:Int)<(r.length:Int):=I
     go_wp2;go_meet;exact⟨rfl,rfl⟩
 case rest=>
  obtain⟨rfl,rfl⟩:=hcut
  have d:Hid (Yo s r=if n=r.length then([],0)else if n=1/\Q7 (r.headD 0).toNat=true then(s.told.getD ((r.headD 0).toNat-48) [],2)else if isNameL (r.take n)=true then((s.vals (zL (r.take n))).getD [],n+1)else([],0)):=by
   show _=_
   unfold Yo;rw[q.o]
  by_cases he:n=r.length
  .have u:Hid (Yo s r=([],0)):=by show _=_;rw[d.o,Qi he]
   have aC:((n:Int)==(r.length:Int))=true:=by simp;omega
   clear d he;go_wp2;refine Q_ (v:=.tuple #[.string ⟨#[]⟩,Qa 0]) (by simp[results,results117,go_sem]) rfl ?_;exact⟨by rw[u.o];rfl,QO _ _⟩
  .have aC:((n:Int)==(r.length:Int))=false:=by simp;omega
   have aH:n<r.length:=I
   have aD:(sA r).extract 0 n=sA (r.take n):=by rw[UC];simp
   have ac:(r.take n).length=n:=by rw[YT];omega
   have aw:=Zc (r.take n);rw[Qg he]at d;obtain⟨y,J⟩:=Qw (r.take n);rw[J]at aD ac aw d
   have L:Hid (n=1->∃c,y=[c]/\r.headD 0=c):=by
    intro j;subst j
    match r,aH,J with
    |c::r',_,J=>exact⟨c,by rw[<-J];simp,rfl⟩
   have F:=O (fun W=>Iw y W I);have R:=O (fun W=>J6 (x:=y) W I);have ad:=O H.vals;clear he J q HB HC;have aO:(0:Int)<=(n:Int):=I
   by_cases hd:n=1/\Q7 (r.headD 0).toNat=true
   .obtain⟨c,rfl,A⟩:=L hd.1;rw[Qi hd,A]at d;have B:Q7 (c.toNat:Int)=true:=by rw[<-A];exact hd.2
    obtain⟨rfl,_⟩:=hd;have af:∀h:0<(sA [c]).size,(sA [c])[0]'h=c:=fun _=>rfl
    have aB:48<=(c.toNat:Int)/\(c.toNat:Int)<=57:=by unfold Q7 at B;simp at B;omega
    obtain⟨aL,aM⟩:=aB;have X:=H.c;have aj:∀m,m<10->s.told.getD m []=(s.told.take 10).getD m []:=fun m hm=>by rw[Zv,Zv,List.getElem?_take_of_lt hm]
    obtain⟨T,U⟩:=Qw (s.told.take 10);rw[U]at X;obtain⟨a,cc,aA,az⟩:=X.form;have c7:=H.c7;rw[aA]at c7;have z:=O (Y8 (c.toNat:Int));rw[B]at z;obtain⟨m,hm⟩:∃m:Nat,(c.toNat:Int)-48=m:=⟨c.toNat-48,I⟩;have aG:c.toNat-48=m:=I
    rw[aG,aj m I,U]at d;clear L F R ad A B aj U X;by_cases hmt:m<T.length
    .obtain⟨g,rfl,hg⟩:=az m hmt;have aa:T.getD m []=T[m]:=by rw[Zv,Zi hmt];rfl
     rw[aa]at d;have C:(m:Int)<(T.length:Int):=I
     generalize T[m]=t at *;go_wp2_with (go_at_call 110;refine Qu (z _) ?_);refine Q_ (v:=.tuple #[Qf t,Qa 2]) (by simp[results,results117,go_sem]) rfl ?_;exact⟨by rw[d.o];rfl,QO _ _⟩
    .have aa:T.getD m []=[]:=by rw[Zv,GI I];rfl
     rw[aa]at d;have C:¬(m:Int)<(T.length:Int):=I
     go_wp2_with (go_at_call 110;refine Qu (z _) ?_);refine Q_ (v:=.tuple #[.string ⟨#[]⟩,Qa 2]) (by simp[results,results117,go_sem]) rfl ?_;exact⟨by rw[d.o];rfl,QO _ _⟩
   .rw[Qg hd]at d
    have ah:(((n:Int)==1)=false)\/(((n:Int)==1)=true/\∃c:UInt8,(∀h:0<(sA y).size,(sA y)[0]'h=c)/\Q7 (c.toNat:Int)=false/\0<(sA y).size):=by
     by_cases j:n=1
     .right;obtain⟨c,aJ,A⟩:=L j;refine⟨by simp;omega,c,by subst aJ;exact fun _=>rfl,?_,by rw[aw,ac];omega⟩
      cases P:Q7 (c.toNat:Int)with
      |false=>rfl
      |true=>exact absurd ⟨j,by rw[A];exact P⟩ hd
     .left;simp;omega
    have z:=O (fun c W=>Y8 c W);have aP:=H.nl;have ak:=H.l;clear L hd;change Qd _ at ak;have HI:=H;obtain⟨a1,e1,aq,ag⟩:=H.n.form;obtain⟨a2,e2,av,ai⟩:=H.v.form;have S:=H.c5;have c6:=H.c6;rw[aq]at S;rw[av]at c6;have ar:=QX S;clear aq av;change Qd _ at ag ai
    cases hnm:isNameL y with
    |false=>
     rw[hnm]at F;have u:Hid (Yo s r=([],0)):=by show _=_;rw[d.o,Qg (by rw[hnm];decide)]
     clear hnm d;rcases ah with j | ⟨j,c,af,B,aK⟩
     all_goals go_wp2_with (first|(go_at_call 110;refine Qu (z _ _) ?_)|(go_at_call 175;refine Qu (F _) ?_))
     all_goals refine Q_ (v:=.tuple #[.string ⟨#[]⟩,Qa 0]) (by simp[results,results117,go_sem]) rfl ?_
     all_goals exact⟨by rw[u.o];rfl,QO _ _⟩
    |true=>
     rw[hnm]at F;have u:Hid (Yo s r=((lookQ b f (zL y)).getD [],n+1)):=by show _=_;rw[d.o,Qi hnm,ad.o]
     have aI:(zL y).length=n:=by rw[<-ac];simp[zL]
     clear hnm d;obtain⟨x,P⟩:=Qw (zL y);rw[P]at R u aI;have aQ:=Zc x;clear P;have ay:∃V,V=wc:=⟨_,rfl⟩;obtain⟨V,hV⟩:=ay;clear hV;rcases ah with j | ⟨j,c,af,B,aK⟩
     all_goals go_wp2_with (first|(go_at_call 110;refine Qv (z _ _) ?_;rintro w' G;rw[G];clear G)|(go_at_call 175;refine Qv (F _) ?_;rintro w' G;rw[G];clear G)|(go_at_call 80;refine Qv (R _) ?_;rintro w1 ae;have ax:=O ae;clear ae))
     all_goals
      go_loopw [10] (fun iv wr=>∃k:Nat,k<=b.length/\iv=Qa k/\Qo wc wr/\lookQ b f x=lookQ (b.drop k) (f.drop k) x) (fun iv _=>b.length-(intOf iv).toNat)
      case atStart=>exact⟨0,I,rfl,ax,rfl⟩
      case round=>
       obtain⟨k,hk,rfl,i,N⟩:=hrel;have d5:=QN i S ar
       have d6:=QN i c6 ar
       change Qd _ at N;replace i:=O i;by_cases hlt:k<b.length
       .have ao:k<f.length:=by have:=ak.o;omega
        obtain⟨g1,rfl,Y⟩:=ag k hlt;obtain⟨g2,rfl,Z⟩:=ai k ao;have b1:=QN i Y (QX Y)
        have b2:=QN i Z (QX Z)
        have M:Hid (lookQ (b.drop k) (f.drop k) x=if b[k]=x then some f[k]else lookQ (b.drop (k+1)) (f.drop (k+1)) x):=by
         show _=_
         rw[Xt hlt,Xt ao];rfl
        have C:(k:Int)<(b.length:Int):=I
        have aN:(k:Int)<(f.length:Int):=I
        have hq:((sA b[k]).toList==(sA x).toList)=decide (b[k]=x):=U3;obtain⟨nk,ap⟩:=Qw (b[k]);obtain⟨Q,au⟩:=Qw (f[k]);rw[ap]at b1 M hq;rw[au]at b2 M;clear Y Z ap au;by_cases he:nk=x
        .rw[QU he]at hq;have E:Hid (Yo s r=(Q,n+1)):=by show _=_;rw[u.o,N.o,M.o,Qi he];rfl
         clear he;go_wp2;refine Q_ (v:=.tuple #[Qf Q,Qa (n+1:Nat)]) (by simp[results,results117,go_sem]) rfl ?_;exact⟨by rw[E.o],i⟩
        .rw[QB he]at hq;have E:Hid (lookQ b f x=lookQ (b.drop (k+1)) (f.drop (k+1)) x):=by show _=_;rw[N.o,M.o,Qg he]
         clear he;go_wp2;exact⟨⟨k+1,I,by go_num,i,E⟩,by simp[intOf];omega⟩
       .have ab:k=b.length:=I
        subst ab;have C:¬(b.length:Int)<(b.length:Int):=I
        have E:Hid (Yo s r=([],n+1)):=by show _=_;rw[u.o,N.o,ZE QF];rfl
        go_wp2;refine Q_ (v:=.tuple #[.string ⟨#[]⟩,Qa (n+1:Nat)]) (by simp[results,results117,go_sem]) rfl ?_;exact⟨by rw[E.o];rfl,i⟩
end
def fullF(s:SS):Nat->L8->L8
 |0,_=>[]
 |n+1,l=>if l=[]then []else(standL s l).1++fullF s n (l.drop (standL s l).2)
theorem DS(s:SS)(l:L8):1<=(standL s l).2:=by
 unfold standL;split
 .exact Q4 _
 .show 1<=3+X2 l;omega
theorem LI(s:SS):∀(n m:Nat) (l:L8),l.length<n->l.length<m->fullF s n l=fullF s m l
 |0,_,l,h,_=>absurd h (XA _)
 |_,0,l,_,h=>absurd h (XA _)
 |n+1,m+1,l,h1,h2=>by
  rw[fullF,fullF];by_cases hl:l=[]
  .rw[Qi hl,Qi hl]
  .rw[Qg hl,Qg hl];have c:=DS s l;have b:=Xz.2 hl;have a:(l.drop (standL s l).2).length<l.length:=by rw[Xq];omega
   rw[LI s n m _ I I]
def fullL(s:SS)(l:L8):L8:=fullF s (l.length+1) l
theorem Qyg{s:SS}:fullL s []=[]:=rfl
theorem Qwp(s:SS)(a:l≠[]):fullL s l=(standL s l).1++fullL s (l.drop (standL s l).2):=by
 unfold fullL;rw[fullF,Qg a];have d:=DS s l;have c:=Xz.2 a;have b:(l.drop (standL s l).2).length<l.length:=by rw[Xq];omega
 rw[LI s l.length _ _ b (Xp _)]
theorem Mj(s:SS):∀(n:Nat) (l acc:L8),l.length<n->acc.length<=1024->J0 s n l acc=(acc++fullF s n l).take 1024
 |0,l,acc,h,_=>absurd h (XA _)
 |n+1,l,acc,h,ha=>by
  rw[J0,fullF];by_cases hl:l=[]
  .rw[Qg (fun e=>e.1 hl),Qi hl,J3,Z7 ha]
  .rw[Qg hl];by_cases hc:acc.length<1024
   .rw[Qi ⟨hl,hc⟩];have g:=DS s l;have f:=Xz.2 hl;have c:(l.drop (standL s l).2).length<n:=by rw[Xq];omega
    rw[Mj s n _ _ c (by rw[Qz,YT];omega)];generalize fullF s n (l.drop (standL s l).2)=F;generalize (standL s l).1=t;by_cases ht:t.length<=1024-acc.length
    .rw[Z7 ht,YG]
    .have d:(acc++t.take (1024-acc.length)).length=1024:=by rw[Qz,YT];omega
     have a:(acc++t.take (1024-acc.length)++F).take 1024=acc++t.take (1024-acc.length):=by
      rw[List.take_append_of_le_length I,Z7 I]
     have b:(acc++(t++F)).take 1024=acc++t.take (1024-acc.length):=by rw[List.take_append,Z7 (show acc.length<=1024 from ha),List.take_append_of_le_length I]
     rw[a];exact b.symm
   .rw[Qg (fun e=>hc e.2),List.take_append_of_le_length I,Z7 ha]
theorem Of(s:SS)(l:L8)(h:s.vs=true):expL s l=(fullL s l).take 1024:=by
 unfold expL;rw[Qi h,Mj s _ l [] (Xp _) Qh];rfl
theorem QwC(s:SS)(h:¬l.take 2=[36,123]):standL s l=(l.take 1,1):=by
 have a:X2 l=0:=Qg (fun e=>h e.1);unfold standL;rw[Qi a]
end Go.Proofs.YtgnkjijocdmniaaGreatDoor
