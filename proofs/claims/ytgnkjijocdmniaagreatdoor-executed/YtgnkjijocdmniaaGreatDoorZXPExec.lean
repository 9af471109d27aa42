import Derived.Test.YtgnkjijocdmniaaGreatDoorZMAskW
namespace Go.Proofs.YtgnkjijocdmniaaGreatDoor
set_option linter.unusedVariables false
set_option linter.unusedSimpArgs false
set_option maxRecDepth 100000
set_option maxHeartbeats 4000000
open Go.Proofs.Tryz
open Go.RowKit
attribute [local go_sem ↓] Go.wp_at_zero Go.wp_at_succ
variable{B i n sb xb:Nat}{M:Msg}{W w w':World}{a code:List Ins}{cv d v:Value}{f:FZ}{l:List (Int×L8)}{m:MS}{xs:List Value}
theorem I7(B sb:Nat)(M:Msg)(s:SS)(w:World)(h:SAt w B sb M s) :
 Calls prog 107 #[.pointer (some ⟨sb,0,none⟩)] w fun e w'=>∃ v,e=.returned v/\ActsV w' w.heap.size v (YX s)/\Below w.heap.size w w':=by
 have g:=I (h.below (Zq (Below.refl _ _)));obtain⟨r,u,y,x,a⟩:=h;have j:w.cell? ⟨sb,8,none⟩=some (.bool s.disc):=a.cell 8;have l:=a.lt;clear a;go_enter func107,ntmps107;go_wp2_with fail;go_region_held3 (fun w'=>w'.cell? ⟨sb,8,none⟩=some (.bool s.disc)) (first|go_keep|exact k) (first|(go_at_call 169;refine(Rj B sb M s s.disc w.drew g.o rfl).mono ?_;rintro e n ⟨v,rfl,c,d⟩;have b:=XQ d;have k:n.cell? ⟨sb,8,none⟩=some (.bool s.disc):=(b.cell (p:=⟨sb,8,none⟩) l).trans j;obtain⟨q,t,m⟩:=QQ c.1;subst m;have i:=I c;have f:=I b;clear c d b;skip))
 all_goals go_wp2
 all_goals go_ret
 all_goals exact⟨_,rfl,i.o,f.o⟩
theorem Lk(p q:Addr)(w:World) :
 CallsD prog 101 #[.pointer (some p),.pointer (some q)] .returning w fun e u' w'=>e=.returned (.tuple #[])/\u'=.returning/\w'=w:=by
 refine callsD_of_wpS func101 rfl fun a c b=>?_
 apply wpS_seq;apply wpS_region;simp[wpOpsS,go_sem,recoverD,b,ntmps101,Exit.thenS];refine(CI w).mono ?_;rintro e w' ⟨rfl,rfl⟩;apply wpS_seq;apply wpS_region;simp[wpOpsS,go_sem,Exit.thenS];refine wpS_cond (t:=false) (by simp[Act.eval,Array.replicate]) ?_;simp only[Bool.false_eq_true,if_false];refine wpS_of_wp (wp_skip ?_);cases a;simp_all [bodyPostS,results,results101]
theorem Br(P Q:Nat)(k l:Value)(a:Addr)(i:List PanicEntry)(w:World)(c:w.cell? ⟨P,0,none⟩=some k)(d:w.cell? ⟨Q,0,none⟩=some l)(s:∀ j,w.frozen? ⟨P,j,none⟩=false)(u:∀ j,w.frozen? ⟨Q,j,none⟩=false)(f:P≠Q) :
 CallsD prog 101 #[.pointer (some ⟨P,0,none⟩),.pointer (some ⟨Q,0,none⟩)] (.panicking ({ v:=.iface 125 (.pointer (some a)),recovered:=false }::i)) w fun e u' w'=>
  e=.returned (.tuple #[])/\u'=.panicking ({ v:=.iface 125 (.pointer (some a)),recovered:=true }::i)/\∃ v w1,ActsV w1 w.heap.size v [(1,[])]/\Below w.heap.size w w1/\w'=(w1.setCell ⟨P,0,none⟩ v).setCell ⟨Q,0,none⟩ (.iface 125 (.pointer (some a))):=by
 refine callsD_of_wpS func101 rfl fun B A q=>?_
 apply wpS_seq;apply wpS_region;simp[wpOpsS,go_sem,recoverD,q,ntmps101,Exit.thenS];refine(BV a w).mono ?_;rintro e w' ⟨rfl,rfl⟩;apply wpS_seq;apply wpS_region;simp[wpOpsS,go_sem,Exit.thenS];refine wpS_cond (t:=true) (by simp[Act.eval,Array.replicate]) ?_;simp only[if_true];apply wpS_region;simp[wpOpsS,go_sem,Exit.thenS];refine(Eh _).mono ?_;rintro e w1 ⟨v,rfl,g,b⟩;obtain⟨z,C,r⟩:=QQ g.1;subst r;have m:w1.cell? ⟨P,0,none⟩=some k:=(b.cell (p:=⟨P,0,none⟩) (Qq c)).trans c;have n:w1.cell? ⟨Q,0,none⟩=some l:=(b.cell (p:=⟨Q,0,none⟩) (Qq d)).trans d;have x:∀ j,w1.frozen? ⟨P,j,none⟩=false:=fun j=>(b.frozen (p:=⟨P,j,none⟩) (show P<_ from Qq (a:=⟨P,0,none⟩) c)).trans (s j)
 have y:∀ j,w1.frozen? ⟨Q,j,none⟩=false:=fun j=>(b.frozen (p:=⟨Q,j,none⟩) (show Q<_ from Qq (a:=⟨Q,0,none⟩) d)).trans (u j)
 have o:Q≠P:=Ne.symm f;simp[wpOpsS,go_sem,m,n,x,y,f,o,bodyPostS,results,results101];exact⟨_,w1,g,b,rfl⟩
theorem Zc{b:Nat}{a:Array Value}(e:MAt W B xb sb M m b)(d:Fr (PMc B xb) (w.alloc (.cells a 63)).drew W):W.cell? ⟨xb,0,none⟩=some (.pointer (some ⟨sb,0,none⟩))/\∀ j,W.cell? ⟨w.heap.size,j,none⟩=a[j]?:=by
 have c:=d.block w.heap.size _ (show(w.alloc (.cells a 63)).drew.heap[w.heap.size]?=_ from QC _ _) (PMc.not (by decide) (by decide) (by decide) (by decide));exact⟨e.pt,fun j=>Qi c j⟩
theorem QM(o:Obj):Below w.heap.size w (w.alloc o).drew:=Zq (Qp _)
theorem OU(i:Ins)(F G:Value)(B xb sb:Nat)(M:Msg)(m:MS)(A:Nat)(w:World)(h:MAt w B xb sb M m A)(u:ZT w i F G) :
 Calls prog 161 #[.pointer (some ⟨xb,0,none⟩),Zh i F G] w (QB (Xl (existsL M (i.a.map (expL m.st))) m) B xb sb M A w):=by
 obtain⟨c,d,R⟩:=u.a.len;obtain⟨l,p,T⟩:=u.b.len;subst R T;have V:=I h;have E:=I u;have Z:xb<w.heap.size:=Qq h.now;have Y:=(h.box (.cells #[.int .i64 i.op,.int .i64 i.n,.int .i64 i.tag,.bool i.oct,.slice c i.a.length d,.slice l i.b.length p,.int .i64 i.at_] 63)).now;have v:=I (h.below (QM (.cells #[.int .i64 i.op,.int .i64 i.n,.int .i64 i.tag,.bool i.oct,.slice c i.a.length d,.slice l i.b.length p,.int .i64 i.at_] 63)));have Q:=I (u.below (QM (.cells #[.int .i64 i.op,.int .i64 i.n,.int .i64 i.tag,.bool i.oct,.slice c i.a.length d,.slice l i.b.length p,.int .i64 i.at_] 63)));clear h u;unfold Zh;have P:=I (I2 B sb M m.st i.a (.slice c i.a.length d) (w.alloc (.cells #[.int .i64 i.op,.int .i64 i.n,.int .i64 i.tag,.bool i.oct,.slice c i.a.length d,.slice l i.b.length p,.int .i64 i.at_] 63)).drew v.o.sat Q.o.a (fun z K=>Qs (E.o.al z K) (by decide)) E.o.an);generalize existsL M (i.a.map (expL m.st))=rb at *;go_enter func161,ntmps161;go_wp2_with fail;refine wp_region_held (S:=fun g=>g.cell? ⟨xb,0,none⟩=some (.pointer (some ⟨sb,0,none⟩))/\g.cell? ⟨w.heap.size,4,none⟩=some (.slice c i.a.length d)) (by kernel_rfl) ?_;have k:(w.alloc (.cells #[.int .i64 i.op,.int .i64 i.n,.int .i64 i.tag,.bool i.oct,.slice c i.a.length d,.slice l i.b.length p,.int .i64 i.at_] 63)).drew.cell? ⟨xb,0,none⟩=some (.pointer (some ⟨sb,0,none⟩))/\(w.alloc (.cells #[.int .i64 i.op,.int .i64 i.n,.int .i64 i.tag,.bool i.oct,.slice c i.a.length d,.slice l i.b.length p,.int .i64 i.at_] 63)).drew.cell? ⟨w.heap.size,4,none⟩=some (.slice c i.a.length d):=⟨(Zc v.o (Fr.refl _ _)).1,(Zc v.o (Fr.refl _ _)).2 4⟩;refine Qx 0 4 (.pointer (some ⟨xb,0,none⟩)) rfl k (fun g ⟨q,r⟩=>by go_simp) ?_;simp only[pt,sz,sc];refine Qx 1 5 (.pointer (some ⟨xb,0,none⟩)) rfl k (fun g ⟨q,r⟩=>by go_simp) ?_;simp only[pt,sz,sc];refine Qx 2 6 (.pointer (some ⟨xb,0,none⟩)) rfl k (fun g ⟨q,r⟩=>by go_simp) ?_;simp only[pt,sz,sc];refine Qx 3 7 (.pointer (some ⟨xb,0,none⟩)) rfl k (fun g ⟨q,r⟩=>by go_simp) ?_;simp only[pt,sz,sc];refine Qx 4 8 (.pointer (some ⟨sb,0,none⟩)) rfl k (fun g ⟨q,r⟩=>by go_simp) ?_;simp only[pt,sz,sc];refine Qx 5 9 (.pointer (some ⟨w.heap.size,4,none⟩)) rfl k (fun g ⟨q,r⟩=>by go_simp) ?_;simp only[pt,sz,sc];refine Qx 6 10 (.slice c i.a.length d) rfl k (fun g ⟨q,r⟩=>by go_simp) ?_;simp only[pt,sz,sc];clear k;refine wpAnyH_all (rs:=[7]) (by kernel_rfl) (by decide) (fun j t=>?_);simp only[List.mem_singleton]at t;subst t;refine QW rfl (by rfl) ?_;go_simp;refine P.o.mono ?_;rintro e L ⟨rfl,C⟩;have y:=I (v.o.below C);have s:Hid (Fr (PMc B xb) (w.alloc (.cells #[.int .i64 i.op,.int .i64 i.n,.int .i64 i.tag,.bool i.oct,.slice c i.a.length d,.slice l i.b.length p,.int .i64 i.at_] 63)).drew L):=Fr.of_below C;clear C;refine⟨⟨(Zc y.o s.o).1,(Zc y.o s.o).2 4⟩,?_⟩
 try simp only[Act.put,List.setIfInBounds_toArray,List.set_cons_zero,List.set_cons_succ]
 refine wpAnyH_all (rs:=[8]) (by kernel_rfl) (by decide) (fun j t=>?_);simp only[List.mem_singleton]at t;subst t;refine QW rfl (by rfl) ?_;go_simp;refine(Vc rb B xb sb M m A L y.o).mono ?_;intro e w3 x;rcases x.cases with⟨H,⟨m',U,rfl,J⟩ | ⟨f,U,W,K,rfl,X⟩⟩
 rotate_left
 ·exact⟨rfl,QB.from x ((Fr.of_below (QM _)).trans s.o)⟩
 have N:=I x;have D:=I (Zc J (s.o.trans H));clear J H x;refine⟨⟨(D.o).1,(D.o).2 4⟩,wpAnyH_done (by kernel_rfl) ?_ _⟩
 try simp only[Act.put,List.setIfInBounds_toArray,List.set_cons_zero,List.set_cons_succ]
 go_wp2;go_end0;exact QB.from N.o ((Fr.of_below (QM _)).trans s.o)
theorem Sr(i:Ins)(C E:Value)(B xb sb:Nat)(M:Msg)(m:MS)(A:Nat)(w:World)(h:MAt w B xb sb M m A)(v:ZT w i C E) :
 Calls prog 162 #[.pointer (some ⟨xb,0,none⟩),Zh i C E] w (QB (JY M i m) B xb sb M A w):=by
 obtain⟨q,r,R⟩:=v.a.len;obtain⟨s,t,U⟩:=v.b.len;subst R U;have Y:=I h;have Z:=I v;have ad:xb<w.heap.size:=Qq h.now;have V:=(h.box (.cells #[.int .i64 i.op,.int .i64 i.n,.int .i64 i.tag,.bool i.oct,.slice q i.a.length r,.slice s i.b.length t,.int .i64 i.at_] 63)).now;have g:=I (h.below (QM (.cells #[.int .i64 i.op,.int .i64 i.n,.int .i64 i.tag,.bool i.oct,.slice q i.a.length r,.slice s i.b.length t,.int .i64 i.at_] 63)));have ab:=I (v.below (QM (.cells #[.int .i64 i.op,.int .i64 i.n,.int .i64 i.tag,.bool i.oct,.slice q i.a.length r,.slice s i.b.length t,.int .i64 i.at_] 63)));clear h v;unfold Zh;have P:=Ya i.tag 1;have Q:=Ya i.tag 2;by_cases ht:i.tag=1\/i.tag=2;rotate_left
 ·have x:Hid (JY M i m=.error (12,(m.now:Int))):=by show _=_;unfold JY ZI;rw[if_neg ht]
  rw[Qh (by omega)]at P Q;clear ht;go_enter func162,ntmps162;go_wp2_with (go_at_call 168;refine(YE _ _ _ V).mono ?_;rintro e c ⟨⟨D,K,rfl,F⟩,T⟩);exact⟨rfl,by rw[x.o];exact QB.from (QB.err rfl (Fr.of_below T) ⟨D,K,rfl,F⟩) (Yh _ _)⟩
 have x:Hid (JY M i m=Xl (sizeB M i.tag i.n) m):=by show _=_;unfold JY;rw[if_pos ht]
 have W:(decide (i.tag=1) || decide (i.tag=2))=true:=by simpa using ht
 have N:=I (TW B sb M m.st i.tag i.n (w.alloc (.cells #[.int .i64 i.op,.int .i64 i.n,.int .i64 i.tag,.bool i.oct,.slice q i.a.length r,.slice s i.b.length t,.int .i64 i.at_] 63)).drew g.o.sat);generalize sizeB M i.tag i.n=rb at *;clear ht;generalize decide (i.tag=1)=b1 at *;generalize decide (i.tag=2)=b2 at *;cases b1
 case' false=>
  cases b2
  ·cases W
 all_goals
  go_enter func162,ntmps162;go_wp2_with (go_at_call 168;refine(Y4 _ _).mono ?_;rintro e c ⟨rfl,J⟩;rw[J];clear J);refine wp_region_held (S:=fun c=>c.cell? ⟨xb,0,none⟩=some (.pointer (some ⟨sb,0,none⟩))/\c.cell? ⟨w.heap.size,2,none⟩=some (.int .i64 i.tag)/\c.cell? ⟨w.heap.size,1,none⟩=some (.int .i64 i.n)) (by kernel_rfl) ?_;have d:(w.alloc (.cells #[.int .i64 i.op,.int .i64 i.n,.int .i64 i.tag,.bool i.oct,.slice q i.a.length r,.slice s i.b.length t,.int .i64 i.at_] 63)).drew.cell? ⟨xb,0,none⟩=some (.pointer (some ⟨sb,0,none⟩))/\(w.alloc (.cells #[.int .i64 i.op,.int .i64 i.n,.int .i64 i.tag,.bool i.oct,.slice q i.a.length r,.slice s i.b.length t,.int .i64 i.at_] 63)).drew.cell? ⟨w.heap.size,2,none⟩=some (.int .i64 i.tag)/\(w.alloc (.cells #[.int .i64 i.op,.int .i64 i.n,.int .i64 i.tag,.bool i.oct,.slice q i.a.length r,.slice s i.b.length t,.int .i64 i.at_] 63)).drew.cell? ⟨w.heap.size,1,none⟩=some (.int .i64 i.n):=⟨(Zc g.o (Fr.refl _ _)).1,(Zc g.o (Fr.refl _ _)).2 2,(Zc g.o (Fr.refl _ _)).2 1⟩;refine Qx 0 14 (.pointer (some ⟨xb,0,none⟩)) rfl d (fun c ⟨k,l,p⟩=>by go_simp) ?_;simp only[pt,sz,sc];refine Qx 1 15 (.pointer (some ⟨xb,0,none⟩)) rfl d (fun c ⟨k,l,p⟩=>by go_simp) ?_;simp only[pt,sz,sc];refine Qx 2 16 (.pointer (some ⟨xb,0,none⟩)) rfl d (fun c ⟨k,l,p⟩=>by go_simp) ?_;simp only[pt,sz,sc];refine Qx 3 17 (.pointer (some ⟨xb,0,none⟩)) rfl d (fun c ⟨k,l,p⟩=>by go_simp) ?_;simp only[pt,sz,sc];refine Qx 4 18 (.pointer (some ⟨sb,0,none⟩)) rfl d (fun c ⟨k,l,p⟩=>by go_simp) ?_;simp only[pt,sz,sc];refine Qx 5 19 (.pointer (some ⟨w.heap.size,2,none⟩)) rfl d (fun c ⟨k,l,p⟩=>by go_simp) ?_;simp only[pt,sz,sc];refine Qx 6 20 (.int .i64 i.tag) rfl d (fun c ⟨k,l,p⟩=>by go_simp) ?_;simp only[pt,sz,sc];refine Qx 7 21 (.pointer (some ⟨w.heap.size,1,none⟩)) rfl d (fun c ⟨k,l,p⟩=>by go_simp) ?_;simp only[pt,sz,sc];refine Qx 8 22 (.int .i64 i.n) rfl d (fun c ⟨k,l,p⟩=>by go_simp) ?_;simp only[pt,sz,sc];clear d;refine wpAnyH_all (rs:=[9]) (by kernel_rfl) (by decide) (fun j u=>?_);simp only[List.mem_singleton]at u;subst u;refine QW rfl (by rfl) ?_;go_simp;refine N.o.mono ?_;rintro e w2 ⟨rfl,rfl⟩;refine⟨⟨(Zc g.o (Fr.refl _ _)).1,(Zc g.o (Fr.refl _ _)).2 2,(Zc g.o (Fr.refl _ _)).2 1⟩,?_⟩
  try simp only[Act.put,List.setIfInBounds_toArray,List.set_cons_zero,List.set_cons_succ]
  refine wpAnyH_all (rs:=[10]) (by kernel_rfl) (by decide) (fun j u=>?_);simp only[List.mem_singleton]at u;subst u;refine QW rfl (by rfl) ?_;go_simp;refine(Vc rb B xb sb M m A _ g.o).mono ?_;intro e w3 y;rcases y.cases with⟨G,⟨m',X,rfl,H⟩ | ⟨f,X,D,K,rfl,F⟩⟩
  rotate_left
  ·exact⟨rfl,by rw[x.o];exact QB.from y (Fr.of_below (QM _))⟩
  have L:=I y;have z:=I (Zc H G);clear H G y;refine⟨⟨(z.o).1,(z.o).2 2,(z.o).2 1⟩,wpAnyH_done (by kernel_rfl) ?_ _⟩
  try simp only[Act.put,List.setIfInBounds_toArray,List.set_cons_zero,List.set_cons_succ]
  go_wp2;go_end0;rw[x.o];exact QB.from L.o (Fr.of_below (QM _))
theorem L9(i:Ins)(p q:Value)(B xb sb:Nat)(M:Msg)(m:MS)(r:Nat)(w:World)(h:MAt w B xb sb M m r)(c:ZT w i p q) :
 Calls prog 165 #[.pointer (some ⟨xb,0,none⟩),Zh i p q] w (QB (.ok (stL m (KJ m.st))) B xb sb M r w):=by
 obtain⟨d,f,v⟩:=c.a.len;obtain⟨g,j,x⟩:=c.b.len;subst v x;have k:=I h;have z:=I c;have D:xb<w.heap.size:=Qq h.now;have C:=(h.box (.cells #[.int .i64 i.op,.int .i64 i.n,.int .i64 i.tag,.bool i.oct,.slice d i.a.length f,.slice g i.b.length j,.int .i64 i.at_] 63)).now;have y:=I (h.below (QM (.cells #[.int .i64 i.op,.int .i64 i.n,.int .i64 i.tag,.bool i.oct,.slice d i.a.length f,.slice g i.b.length j,.int .i64 i.at_] 63)));have A:=I (c.below (QM (.cells #[.int .i64 i.op,.int .i64 i.n,.int .i64 i.tag,.bool i.oct,.slice d i.a.length f,.slice g i.b.length j,.int .i64 i.at_] 63)));clear h c;unfold Zh;have F:=(k.o.box (.cells #[.int .i64 i.op,.int .i64 i.n,.int .i64 i.tag,.bool i.oct,.slice d i.a.length f,.slice g i.b.length j,.int .i64 i.at_] 63)).pt;go_enter func165,ntmps165;go_wp2_with fail;refine(OL B sb M m.st _ (k.o.box _).sat).mono ?_;rintro e E ⟨l,rfl,s⟩;have t:=I l;have u:=I ((k.o.box _).st' s l);clear l s;go_wp2;go_end0;exact QB.ok rfl ((Yh _ _).trans (t.o.mono (fun _ _=>PMc.st))) u.o
theorem SM(i:Ins)(p q:Value)(B xb sb:Nat)(M:Msg)(m:MS)(e:Nat)(w:World)(h:MAt w B xb sb M m e)(d:ZT w i p q) :
 Calls prog 167 #[.pointer (some ⟨xb,0,none⟩),Zh i p q] w (QB (.ok (goL m e)) B xb sb M e w):=by
 obtain⟨f,g,u⟩:=d.a.len;obtain⟨j,k,v⟩:=d.b.len;subst u v;have r:=I h;have y:=I d;have D:xb<w.heap.size:=Qq h.now;have C:=(h.box (.cells #[.int .i64 i.op,.int .i64 i.n,.int .i64 i.tag,.bool i.oct,.slice f i.a.length g,.slice j i.b.length k,.int .i64 i.at_] 63)).now;have x:=I (h.below (QM (.cells #[.int .i64 i.op,.int .i64 i.n,.int .i64 i.tag,.bool i.oct,.slice f i.a.length g,.slice j i.b.length k,.int .i64 i.at_] 63)));have z:=I (d.below (QM (.cells #[.int .i64 i.op,.int .i64 i.n,.int .i64 i.tag,.bool i.oct,.slice f i.a.length g,.slice j i.b.length k,.int .i64 i.at_] 63)));clear h d;unfold Zh;obtain⟨E,c⟩:=r.o;have s:=Qi c.blk 3;have t:=Qi c.blk 4;have A:=Qu c.blk;unfold Ko at s t;have l:=I (c.go e Ql);clear c;go_enter func167,ntmps167;go_wp2;go_end0;exact QB.ok rfl (l.o.2.alloc _) (l.o.1.box _)
theorem Ev(i:Ins)(m:MS)(arg:L8):Vx i m arg=(VA m.st i.tag arg i.at_).map (stL m):=by
 unfold Vx VA;split<;>rfl
theorem Ge.cases{r:Except FZ SS}{B sb:Nat}{M:Msg}{w w':World}{e:Ending}(h:Ge r B sb M w e w'):Fr (PSt B) w w'/\((∃ s,r=.ok s/\e=.returned (.tuple #[])/\SAt w' B sb M s)\/∃ f,r=.error f/\YU f w e w'):=by
 obtain⟨a,h⟩:=h
 cases r with
 |ok s=>exact⟨a,Qd ⟨s,rfl,h⟩⟩
 |error f=>exact⟨a,Qc ⟨f,rfl,h⟩⟩
theorem SZ(i:Ins)(av bv:Value)(B xb sb:Nat)(M:Msg)(m:MS)(ad:Nat)(w:World)(h:MAt w B xb sb M m ad)(V:ZT w i av bv) :
 Calls prog 163 #[.pointer (some ⟨xb,0,none⟩),Zh i av bv] w (QB (YI i m) B xb sb M ad w):=by
 obtain⟨C,q,ak⟩:=V.a.len;obtain⟨s,t,ao⟩:=V.b.len;subst ak ao;have HM:=I h;have HO:=I V;have aA:xb<w.heap.size:=Qq h.now;have ag:=(h.box (.cells #[.int .i64 i.op,.int .i64 i.n,.int .i64 i.tag,.bool i.oct,.slice C i.a.length q,.slice s i.b.length t,.int .i64 i.at_] 63)).now;have u:=I (h.below (QM (.cells #[.int .i64 i.op,.int .i64 i.n,.int .i64 i.tag,.bool i.oct,.slice C i.a.length q,.slice s i.b.length t,.int .i64 i.at_] 63)));have aj:=I (V.below (QM (.cells #[.int .i64 i.op,.int .i64 i.n,.int .i64 i.tag,.bool i.oct,.slice C i.a.length q,.slice s i.b.length t,.int .i64 i.at_] 63)));clear h V;unfold Zh;have e1:=Ya i.tag 1;have H:=Ya i.tag 2;have J:=Ya i.tag 3;have K:=Ya i.tag 4;by_cases t1:i.tag=1
 ·have A:Hid (YI i m=(VA m.st i.tag [] i.at_).map (stL m)):=by show _=_;unfold YI;rw[if_pos t1,Ev]
  rw[Qw t1]at e1;have Y:=I (E2 B sb M m.st i.tag i.at_ [] (w.alloc (.cells #[.int .i64 i.op,.int .i64 i.n,.int .i64 i.tag,.bool i.oct,.slice C i.a.length q,.slice s i.b.length t,.int .i64 i.at_] 63)).drew u.o.sat (by decide));clear t1;go_enter func163,ntmps163;go_wp2_with fail;refine wp_region_held (S:=fun c=>c.cell? ⟨xb,0,none⟩=some (.pointer (some ⟨sb,0,none⟩))/\c.cell? ⟨w.heap.size,2,none⟩=some (.int .i64 i.tag)/\c.cell? ⟨w.heap.size,6,none⟩=some (.int .i64 i.at_)) (by kernel_rfl) ?_;have d:(w.alloc (.cells #[.int .i64 i.op,.int .i64 i.n,.int .i64 i.tag,.bool i.oct,.slice C i.a.length q,.slice s i.b.length t,.int .i64 i.at_] 63)).drew.cell? ⟨xb,0,none⟩=some (.pointer (some ⟨sb,0,none⟩))/\(w.alloc (.cells #[.int .i64 i.op,.int .i64 i.n,.int .i64 i.tag,.bool i.oct,.slice C i.a.length q,.slice s i.b.length t,.int .i64 i.at_] 63)).drew.cell? ⟨w.heap.size,2,none⟩=some (.int .i64 i.tag)/\(w.alloc (.cells #[.int .i64 i.op,.int .i64 i.n,.int .i64 i.tag,.bool i.oct,.slice C i.a.length q,.slice s i.b.length t,.int .i64 i.at_] 63)).drew.cell? ⟨w.heap.size,6,none⟩=some (.int .i64 i.at_):=⟨(Zc u.o (Fr.refl _ _)).1,(Zc u.o (Fr.refl _ _)).2 2,(Zc u.o (Fr.refl _ _)).2 6⟩;refine Qx 0 10 (.pointer (some ⟨xb,0,none⟩)) rfl d (fun c ⟨k,l,p⟩=>by go_simp) ?_;simp only[pt,sz,sc];refine Qx 1 11 (.pointer (some ⟨xb,0,none⟩)) rfl d (fun c ⟨k,l,p⟩=>by go_simp) ?_;simp only[pt,sz,sc];refine Qx 2 12 (.pointer (some ⟨xb,0,none⟩)) rfl d (fun c ⟨k,l,p⟩=>by go_simp) ?_;simp only[pt,sz,sc];refine Qx 3 13 (.pointer (some ⟨sb,0,none⟩)) rfl d (fun c ⟨k,l,p⟩=>by go_simp) ?_;simp only[pt,sz,sc];refine Qx 4 14 (.pointer (some ⟨w.heap.size,2,none⟩)) rfl d (fun c ⟨k,l,p⟩=>by go_simp) ?_;simp only[pt,sz,sc];refine Qx 5 15 (.int .i64 i.tag) rfl d (fun c ⟨k,l,p⟩=>by go_simp) ?_;simp only[pt,sz,sc];refine Qx 6 16 (.pointer (some ⟨w.heap.size,6,none⟩)) rfl d (fun c ⟨k,l,p⟩=>by go_simp) ?_;simp only[pt,sz,sc];refine Qx 7 17 (.int .i64 i.at_) rfl d (fun c ⟨k,l,p⟩=>by go_simp) ?_;simp only[pt,sz,sc];clear d;refine wpAnyH_all (rs:=[8]) (by kernel_rfl) (by decide) (fun j U=>?_);simp only[List.mem_singleton]at U;subst U;refine QW rfl (by rfl) ?_;go_simp;refine Y.o.mono ?_;intro e w2 T;rcases T.cases with⟨v,⟨s',D,rfl,X⟩ | ⟨f,D,G,N,rfl,L⟩⟩
  rotate_left
  ·exact⟨rfl,by rw[A.o,D];exact QB.from (QB.err rfl (v.mono (fun _ _=>PMc.st)) ⟨G,N,rfl,L⟩) (Fr.of_below (QM _))⟩
  have R:=I (u.o.st' X v);have P:=I (v.mono (fun _ _=>PMc.st (xb:=xb)));have Z:=I D;have E:=I (Zc R.o P.o);clear X v T D;refine⟨⟨(E.o).1,(E.o).2 2,(E.o).2 6⟩,wpAnyH_done (by kernel_rfl) ?_ _⟩
  try simp only[Act.put,List.setIfInBounds_toArray,List.set_cons_zero,List.set_cons_succ]
  go_wp2;go_end0;rw[A.o,Z.o];exact QB.from (QB.ok rfl P.o R.o) (Fr.of_below (QM _))
 rw[Qh t1]at e1;by_cases t24:2<=i.tag/\i.tag<=4;rotate_left
 ·have A:Hid (YI i m=.error (12,(m.now:Int))):=by show _=_;unfold YI ZI;rw[if_neg t1,if_neg (fun h=>t24 ⟨h.1,h.2.1⟩)]
  rw[Qh (by omega)]at H J K;clear t1 t24;go_enter func163,ntmps163;go_wp2_with (go_at_call 168;refine(YE _ _ _ ag).mono ?_;rintro e c ⟨⟨G,N,rfl,L⟩,hb⟩);exact⟨rfl,by rw[A.o];exact QB.from (QB.err rfl (Fr.of_below hb) ⟨G,N,rfl,L⟩) (Yh _ _)⟩
 by_cases ha:i.a=[]
 ·have A:Hid (YI i m=.error (12,(m.now:Int))):=by show _=_;unfold YI ZI;rw[if_neg t1,if_neg (fun h=>h.2.2 ha)]
  have aC:¬(0:Int)<(i.a.length:Int):=by rw[ha];simp
  have ar:¬ 0<i.a.length:=by rw[ha];simp
  have aD:decide (0<i.a.length)=false:=Qh ar;rcases(by omega:i.tag=2\/i.tag=3\/i.tag=4)with tt|tt|tt
  all_goals first
   |(rw[Qw tt]at H;rw[Qh (by omega)]at J K)
   |(rw[Qw tt]at J;rw[Qh (by omega)]at H K)
   |(rw[Qw tt]at K;rw[Qh (by omega)]at H J)
  all_goals
   clear t1 t24 tt ha;go_enter func163,ntmps163;go_wp2_with (go_at_call 168;refine(YE _ _ _ ag).mono ?_;rintro e c ⟨⟨G,N,rfl,L⟩,hb⟩);exact⟨rfl,by rw[A.o];exact QB.from (QB.err rfl (Fr.of_below hb) ⟨G,N,rfl,L⟩) (Yh _ _)⟩
 obtain⟨x,r,F⟩:∃ x r,i.a=x::r:=by cases hh:i.a with|nil=>exact absurd hh ha|cons x r=>exact⟨x,r,rfl⟩
 have A:Hid (YI i m=(VA m.st i.tag x i.at_).map (stL m)):=by show _=_;unfold YI;rw[if_neg t1,if_pos ⟨t24.1,t24.2,ha⟩,F,Ev];rfl
 have aB:=HO.o.al x (by rw[F];simp);have Y:=I (E2 B sb M m.st i.tag i.at_ x (w.alloc (.cells #[.int .i64 i.op,.int .i64 i.n,.int .i64 i.tag,.bool i.oct,.slice C i.a.length q,.slice s i.b.length t,.int .i64 i.at_] 63)).drew u.o.sat (by omega));obtain⟨g,ae,aw,af⟩:=HO.o.a.get' 0 (by rw[F];simp);have au:w.cell? ⟨g,0,none⟩=some (.string (sA x)):=by rw[af];congr 3;simp[F]
 have aq:0<i.a.length:=by rw[F];simp
 have ay:(0:Int)<(i.a.length:Int):=by omega
 have az:decide (0<i.a.length)=true:=Qw aq
 have ab:Hid (∀ W,Fr (PMc B xb) (w.alloc (.cells #[.int .i64 i.op,.int .i64 i.n,.int .i64 i.tag,.bool i.oct,.slice C i.a.length q,.slice s i.b.length t,.int .i64 i.at_] 63)).drew W->W.cell? ⟨g,0,none⟩=some (.string (sA x))):=fun W v=>by
  have h1:=aj.o.a.pm v;obtain⟨g',Q,_,ap⟩:=h1.get' 0 (by rw[F];simp);rw[ae]at Q;injection Q with Q
  injection Q with Q
  subst Q;rw[ap];congr 3;simp[F]
 have ax:¬ g=w.heap.size:=by omega
 clear af;subst ae;rcases(by omega:i.tag=2\/i.tag=3\/i.tag=4)with tt|tt|tt
 all_goals first
  |(rw[Qw tt]at H;rw[Qh (by omega)]at J K)
  |(rw[Qw tt]at J;rw[Qh (by omega)]at H K)
  |(rw[Qw tt]at K;rw[Qh (by omega)]at H J)
 all_goals
  clear t1 t24 tt F ha;go_enter func163,ntmps163;go_wp2_with (go_at_call 168;refine(Y4 _ _).mono ?_;rintro e c ⟨rfl,ah⟩;rw[ah];clear ah);refine wp_region_held (S:=fun c=>c.cell? ⟨xb,0,none⟩=some (.pointer (some ⟨sb,0,none⟩))/\c.cell? ⟨w.heap.size,2,none⟩=some (.int .i64 i.tag)/\c.cell? ⟨w.heap.size,4,none⟩=some (.slice (some ⟨g,0,none⟩) i.a.length q)/\c.cell? ⟨w.heap.size,6,none⟩=some (.int .i64 i.at_)/\c.cell? ⟨g,0,none⟩=some (.string (sA x))) (by kernel_rfl) ?_;have d:(w.alloc (.cells #[.int .i64 i.op,.int .i64 i.n,.int .i64 i.tag,.bool i.oct,.slice (some ⟨g,0,none⟩) i.a.length q,.slice s i.b.length t,.int .i64 i.at_] 63)).drew.cell? ⟨xb,0,none⟩=some (.pointer (some ⟨sb,0,none⟩))/\(w.alloc (.cells #[.int .i64 i.op,.int .i64 i.n,.int .i64 i.tag,.bool i.oct,.slice (some ⟨g,0,none⟩) i.a.length q,.slice s i.b.length t,.int .i64 i.at_] 63)).drew.cell? ⟨w.heap.size,2,none⟩=some (.int .i64 i.tag)/\(w.alloc (.cells #[.int .i64 i.op,.int .i64 i.n,.int .i64 i.tag,.bool i.oct,.slice (some ⟨g,0,none⟩) i.a.length q,.slice s i.b.length t,.int .i64 i.at_] 63)).drew.cell? ⟨w.heap.size,4,none⟩=some (.slice (some ⟨g,0,none⟩) i.a.length q)/\(w.alloc (.cells #[.int .i64 i.op,.int .i64 i.n,.int .i64 i.tag,.bool i.oct,.slice (some ⟨g,0,none⟩) i.a.length q,.slice s i.b.length t,.int .i64 i.at_] 63)).drew.cell? ⟨w.heap.size,6,none⟩=some (.int .i64 i.at_)/\(w.alloc (.cells #[.int .i64 i.op,.int .i64 i.n,.int .i64 i.tag,.bool i.oct,.slice (some ⟨g,0,none⟩) i.a.length q,.slice s i.b.length t,.int .i64 i.at_] 63)).drew.cell? ⟨g,0,none⟩=some (.string (sA x)):=⟨(Zc u.o (Fr.refl _ _)).1,(Zc u.o (Fr.refl _ _)).2 2,(Zc u.o (Fr.refl _ _)).2 4,(Zc u.o (Fr.refl _ _)).2 6,ab.o _ (Fr.refl _ _)⟩;refine Qx 0 29 (.pointer (some ⟨xb,0,none⟩)) rfl d (fun c ⟨k,l,p,y,z⟩=>by go_simp) ?_;simp only[pt,sz,sc];refine Qx 1 30 (.pointer (some ⟨xb,0,none⟩)) rfl d (fun c ⟨k,l,p,y,z⟩=>by go_simp) ?_;simp only[pt,sz,sc];refine Qx 2 31 (.pointer (some ⟨xb,0,none⟩)) rfl d (fun c ⟨k,l,p,y,z⟩=>by go_simp) ?_;simp only[pt,sz,sc];refine Qx 3 32 (.pointer (some ⟨sb,0,none⟩)) rfl d (fun c ⟨k,l,p,y,z⟩=>by go_simp) ?_;simp only[pt,sz,sc];refine Qx 4 33 (.pointer (some ⟨w.heap.size,2,none⟩)) rfl d (fun c ⟨k,l,p,y,z⟩=>by go_simp) ?_;simp only[pt,sz,sc];refine Qx 5 34 (.int .i64 i.tag) rfl d (fun c ⟨k,l,p,y,z⟩=>by go_simp) ?_;simp only[pt,sz,sc];refine Qx 6 35 (.pointer (some ⟨w.heap.size,4,none⟩)) rfl d (fun c ⟨k,l,p,y,z⟩=>by go_simp) ?_;simp only[pt,sz,sc];refine Qx 7 36 (.slice (some ⟨g,0,none⟩) i.a.length q) rfl d (fun c ⟨k,l,p,y,z⟩=>by go_simp) ?_;simp only[pt,sz,sc];refine Qx 8 37 (.pointer (some ⟨g,0,none⟩)) rfl d (fun c ⟨k,l,p,y,z⟩=>by go_simp) ?_;simp only[pt,sz,sc];refine Qx 9 38 (.string (sA x)) rfl d (fun c ⟨k,l,p,y,z⟩=>by go_simp) ?_;simp only[pt,sz,sc];refine Qx 10 39 (.pointer (some ⟨w.heap.size,6,none⟩)) rfl d (fun c ⟨k,l,p,y,z⟩=>by go_simp) ?_;simp only[pt,sz,sc];refine Qx 11 40 (.int .i64 i.at_) rfl d (fun c ⟨k,l,p,y,z⟩=>by go_simp) ?_;simp only[pt,sz,sc];clear d;refine wpAnyH_all (rs:=[12]) (by kernel_rfl) (by decide) (fun j U=>?_);simp only[List.mem_singleton]at U;subst U;refine QW rfl (by rfl) ?_;go_simp;refine Y.o.mono ?_;intro e w2 T;rcases T.cases with⟨v,⟨s',D,rfl,X⟩ | ⟨f,D,G,N,rfl,L⟩⟩
  rotate_left
  ·exact⟨rfl,by rw[A.o,D];exact QB.from (QB.err rfl (v.mono (fun _ _=>PMc.st)) ⟨G,N,rfl,L⟩) (Fr.of_below (QM _))⟩
  have R:=I (u.o.st' X v);have P:=I (v.mono (fun _ _=>PMc.st (xb:=xb)));have Z:=I D;have ai:=I (ab.o w2 P.o);have E:=I (Zc R.o P.o);clear X v T D;refine⟨⟨(E.o).1,(E.o).2 2,(E.o).2 4,(E.o).2 6,ai.o⟩,wpAnyH_done (by kernel_rfl) ?_ _⟩
  try simp only[Act.put,List.setIfInBounds_toArray,List.set_cons_zero,List.set_cons_succ]
  go_wp2;go_end0;rw[A.o,Z.o];exact QB.from (QB.ok rfl P.o R.o) (Fr.of_below (QM _))
theorem TT(i:Ins)(av bv:Value)(B xb sb:Nat)(M:Msg)(m:MS)(af:Nat)(w:World)(h:MAt w B xb sb M m af)(V:ZT w i av bv)(ht:Tab w) :
 Calls prog 164 #[.pointer (some ⟨xb,0,none⟩),Zh i av bv] w (QB (Ka i m) B xb sb M af w):=by
 obtain⟨K,d,aw⟩:=V.a.len;obtain⟨L,f,ax⟩:=V.b.len;subst aw ax;have HM:=I h;have HO:=I V;have aK:xb<w.heap.size:=Qq h.now;have Y:=(h.box (.cells #[.int .i64 i.op,.int .i64 i.n,.int .i64 i.tag,.bool i.oct,.slice K i.a.length d,.slice L i.b.length f,.int .i64 i.at_] 63)).now;have H:=I (h.below (QM (.cells #[.int .i64 i.op,.int .i64 i.n,.int .i64 i.tag,.bool i.oct,.slice K i.a.length d,.slice L i.b.length f,.int .i64 i.at_] 63)));have ae:=I (V.below (QM (.cells #[.int .i64 i.op,.int .i64 i.n,.int .i64 i.tag,.bool i.oct,.slice K i.a.length d,.slice L i.b.length f,.int .i64 i.at_] 63)));clear h V;unfold Zh;have ag:Tab (w.alloc (.cells #[.int .i64 i.op,.int .i64 i.n,.int .i64 i.tag,.bool i.oct,.slice K i.a.length d,.slice L i.b.length f,.int .i64 i.at_] 63)).drew:=ht.below (QM _);have ar:=I ag;clear ht ag;by_cases hc:0<=i.tag/\i.tag<=3/\i.a≠[]/\i.b≠[];rotate_left
 ·have J:Hid (Ka i m=.error (12,(m.now:Int))):=by show _=_;unfold Ka ZI;rw[if_neg hc]
  have R:(decide (0<=i.tag)&&decide (i.tag<=3)&&decide (0<i.a.length)&&decide (0<i.b.length))=false:=by
   rw[Bool.eq_false_iff];intro h;simp only[Bool.and_eq_true,decide_eq_true_eq]at h;exact hc ⟨h.1.1.1,h.1.1.2,List.length_pos_iff.1 h.1.2,List.length_pos_iff.1 h.2⟩
  clear hc;by_cases T:0<=i.tag
  ·have d1:=Qw T;by_cases U:i.tag<=3
   ·have d2:=Qw U;by_cases h3:0<i.a.length
    ·have d3:=Qw h3;have au:(0:Int)<(i.a.length:Int):=by omega
     have d4:decide (0<i.b.length)=false:=by rw[d1,d2,d3]at R;simpa using R
     have h4:¬(0:Int)<(i.b.length:Int):=by have:=of_decide_eq_false d4;omega
     clear R;go_enter func164,ntmps164;go_wp2_with (go_at_call 168;refine(YE _ _ _ Y).mono ?_;rintro e c ⟨⟨D,G,rfl,F⟩,A⟩);exact⟨rfl,by rw[J.o];exact QB.from (QB.err rfl (Fr.of_below A) ⟨D,G,rfl,F⟩) (Yh _ _)⟩
    ·have d3:=Qh h3;have au:¬(0:Int)<(i.a.length:Int):=by omega
     clear R;go_enter func164,ntmps164;go_wp2_with (go_at_call 168;refine(YE _ _ _ Y).mono ?_;rintro e c ⟨⟨D,G,rfl,F⟩,A⟩);exact⟨rfl,by rw[J.o];exact QB.from (QB.err rfl (Fr.of_below A) ⟨D,G,rfl,F⟩) (Yh _ _)⟩
   ·have d2:=Qh U;clear R;go_enter func164,ntmps164;go_wp2_with (go_at_call 168;refine(YE _ _ _ Y).mono ?_;rintro e c ⟨⟨D,G,rfl,F⟩,A⟩);exact⟨rfl,by rw[J.o];exact QB.from (QB.err rfl (Fr.of_below A) ⟨D,G,rfl,F⟩) (Yh _ _)⟩
  ·have d1:=Qh T;clear R;go_enter func164,ntmps164;go_wp2_with (go_at_call 168;refine(YE _ _ _ Y).mono ?_;rintro e c ⟨⟨D,G,rfl,F⟩,A⟩);exact⟨rfl,by rw[J.o];exact QB.from (QB.err rfl (Fr.of_below A) ⟨D,G,rfl,F⟩) (Yh _ _)⟩
 obtain⟨T,U,ha,A⟩:=hc;obtain⟨x,r,E⟩:∃ x r,i.a=x::r:=by cases hh:i.a with|nil=>exact absurd hh ha|cons x r=>exact⟨x,r,rfl⟩
 obtain⟨y,q,C⟩:∃ y q,i.b=y::q:=by cases hh:i.b with|nil=>exact absurd hh A|cons x r=>exact⟨x,r,rfl⟩
 have J:Hid (Ka i m=.ok (stL m (KQ m.st x i.tag y))):=by show _=_;unfold Ka;rw[if_pos ⟨T,U,ha,A⟩,E,C];rfl
 have aL:=HO.o.bl y (by rw[C];simp);have ap:=I (Wt B sb M m.st x i.tag y (w.alloc (.cells #[.int .i64 i.op,.int .i64 i.n,.int .i64 i.tag,.bool i.oct,.slice K i.a.length d,.slice L i.b.length f,.int .i64 i.at_] 63)).drew H.o.sat ar.o (by omega));obtain⟨g,ah,aD,ai⟩:=HO.o.a.get' 0 (by rw[E];simp);obtain⟨k,aj,aG,ak⟩:=HO.o.b.get' 0 (by rw[C];simp);have aC:w.cell? ⟨g,0,none⟩=some (.string (sA x)):=by rw[ai];congr 3;simp[E]
 have aF:w.cell? ⟨k,0,none⟩=some (.string (sA y)):=by rw[ak];congr 3;simp[C]
 have aA:0<i.a.length:=by rw[E];simp
 have aB:0<i.b.length:=by rw[C];simp
 have aI:(0:Int)<(i.a.length:Int):=by omega
 have aJ:(0:Int)<(i.b.length:Int):=by omega
 have d1:=Qw T;have d2:=Qw U;have d3:=Qw aA;have d4:=Qw aB
 have ab:Hid (∀ W,Fr (PMc B xb) (w.alloc (.cells #[.int .i64 i.op,.int .i64 i.n,.int .i64 i.tag,.bool i.oct,.slice K i.a.length d,.slice L i.b.length f,.int .i64 i.at_] 63)).drew W->W.cell? ⟨g,0,none⟩=some (.string (sA x))/\W.cell? ⟨k,0,none⟩=some (.string (sA y))):=fun W N=>by
  have e1:=ae.o.a.pm N;have e2:=ae.o.b.pm N;obtain⟨g',P,_,ay⟩:=e1.get' 0 (by rw[E];simp);obtain⟨k',Q,_,az⟩:=e2.get' 0 (by rw[C];simp);rw[ah]at P;rw[aj]at Q;injection P with P
  injection P with P
  injection Q with Q
  injection Q with Q
  subst P Q;refine⟨?_,?_⟩
  ·rw[ay];congr 3;simp[E]
  ·rw[az];congr 3;simp[C]
 have aE:¬ g=w.heap.size:=by omega
 have aH:¬ k=w.heap.size:=by omega
 clear ai ak;subst ah aj;clear E C ha A;go_enter func164,ntmps164;go_wp2_with (go_at_call 168;refine(Y4 _ _).mono ?_;rintro e c ⟨rfl,ao⟩;rw[ao];clear ao);refine wp_region_held (S:=fun c=>c.cell? ⟨xb,0,none⟩=some (.pointer (some ⟨sb,0,none⟩))/\c.cell? ⟨w.heap.size,2,none⟩=some (.int .i64 i.tag)/\c.cell? ⟨w.heap.size,4,none⟩=some (.slice (some ⟨g,0,none⟩) i.a.length d)/\c.cell? ⟨w.heap.size,5,none⟩=some (.slice (some ⟨k,0,none⟩) i.b.length f)/\c.cell? ⟨g,0,none⟩=some (.string (sA x))/\c.cell? ⟨k,0,none⟩=some (.string (sA y))) (by kernel_rfl) ?_;have l:(w.alloc (.cells #[.int .i64 i.op,.int .i64 i.n,.int .i64 i.tag,.bool i.oct,.slice (some ⟨g,0,none⟩) i.a.length d,.slice (some ⟨k,0,none⟩) i.b.length f,.int .i64 i.at_] 63)).drew.cell? ⟨xb,0,none⟩=some (.pointer (some ⟨sb,0,none⟩))/\(w.alloc (.cells #[.int .i64 i.op,.int .i64 i.n,.int .i64 i.tag,.bool i.oct,.slice (some ⟨g,0,none⟩) i.a.length d,.slice (some ⟨k,0,none⟩) i.b.length f,.int .i64 i.at_] 63)).drew.cell? ⟨w.heap.size,2,none⟩=some (.int .i64 i.tag)/\(w.alloc (.cells #[.int .i64 i.op,.int .i64 i.n,.int .i64 i.tag,.bool i.oct,.slice (some ⟨g,0,none⟩) i.a.length d,.slice (some ⟨k,0,none⟩) i.b.length f,.int .i64 i.at_] 63)).drew.cell? ⟨w.heap.size,4,none⟩=some (.slice (some ⟨g,0,none⟩) i.a.length d)/\(w.alloc (.cells #[.int .i64 i.op,.int .i64 i.n,.int .i64 i.tag,.bool i.oct,.slice (some ⟨g,0,none⟩) i.a.length d,.slice (some ⟨k,0,none⟩) i.b.length f,.int .i64 i.at_] 63)).drew.cell? ⟨w.heap.size,5,none⟩=some (.slice (some ⟨k,0,none⟩) i.b.length f)/\(w.alloc (.cells #[.int .i64 i.op,.int .i64 i.n,.int .i64 i.tag,.bool i.oct,.slice (some ⟨g,0,none⟩) i.a.length d,.slice (some ⟨k,0,none⟩) i.b.length f,.int .i64 i.at_] 63)).drew.cell? ⟨g,0,none⟩=some (.string (sA x))/\(w.alloc (.cells #[.int .i64 i.op,.int .i64 i.n,.int .i64 i.tag,.bool i.oct,.slice (some ⟨g,0,none⟩) i.a.length d,.slice (some ⟨k,0,none⟩) i.b.length f,.int .i64 i.at_] 63)).drew.cell? ⟨k,0,none⟩=some (.string (sA y)):=⟨(Zc H.o (Fr.refl _ _)).1,(Zc H.o (Fr.refl _ _)).2 2,(Zc H.o (Fr.refl _ _)).2 4,(Zc H.o (Fr.refl _ _)).2 5,ab.o _ (Fr.refl _ _)⟩;refine Qx 0 26 (.pointer (some ⟨xb,0,none⟩)) rfl l (fun c ⟨p,s,t,u,v,z⟩=>by go_simp) ?_;simp only[pt,sz,sc];refine Qx 1 27 (.pointer (some ⟨xb,0,none⟩)) rfl l (fun c ⟨p,s,t,u,v,z⟩=>by go_simp) ?_;simp only[pt,sz,sc];refine Qx 2 28 (.pointer (some ⟨xb,0,none⟩)) rfl l (fun c ⟨p,s,t,u,v,z⟩=>by go_simp) ?_;simp only[pt,sz,sc];refine Qx 3 29 (.pointer (some ⟨sb,0,none⟩)) rfl l (fun c ⟨p,s,t,u,v,z⟩=>by go_simp) ?_;simp only[pt,sz,sc];refine Qx 4 30 (.pointer (some ⟨w.heap.size,4,none⟩)) rfl l (fun c ⟨p,s,t,u,v,z⟩=>by go_simp) ?_;simp only[pt,sz,sc];refine Qx 5 31 (.slice (some ⟨g,0,none⟩) i.a.length d) rfl l (fun c ⟨p,s,t,u,v,z⟩=>by go_simp) ?_;simp only[pt,sz,sc];refine Qx 6 32 (.pointer (some ⟨g,0,none⟩)) rfl l (fun c ⟨p,s,t,u,v,z⟩=>by go_simp) ?_;simp only[pt,sz,sc];refine Qx 7 33 (.string (sA x)) rfl l (fun c ⟨p,s,t,u,v,z⟩=>by go_simp) ?_;simp only[pt,sz,sc];refine Qx 8 34 (.pointer (some ⟨w.heap.size,2,none⟩)) rfl l (fun c ⟨p,s,t,u,v,z⟩=>by go_simp) ?_;simp only[pt,sz,sc];refine Qx 9 35 (.int .i64 i.tag) rfl l (fun c ⟨p,s,t,u,v,z⟩=>by go_simp) ?_;simp only[pt,sz,sc];refine Qx 10 36 (.pointer (some ⟨w.heap.size,5,none⟩)) rfl l (fun c ⟨p,s,t,u,v,z⟩=>by go_simp) ?_;simp only[pt,sz,sc];refine Qx 11 37 (.slice (some ⟨k,0,none⟩) i.b.length f) rfl l (fun c ⟨p,s,t,u,v,z⟩=>by go_simp) ?_;simp only[pt,sz,sc];refine Qx 12 38 (.pointer (some ⟨k,0,none⟩)) rfl l (fun c ⟨p,s,t,u,v,z⟩=>by go_simp) ?_;simp only[pt,sz,sc];refine Qx 13 39 (.string (sA y)) rfl l (fun c ⟨p,s,t,u,v,z⟩=>by go_simp) ?_;simp only[pt,sz,sc];clear l;refine wpAnyH_all (rs:=[14]) (by kernel_rfl) (by decide) (fun j hj=>?_);simp only[List.mem_singleton]at hj;subst hj;refine QW rfl (by rfl) ?_;go_simp;refine ap.o.mono ?_;rintro e w2 ⟨N,rfl,hs⟩;have ad:=I (H.o.st' hs N);have Z:=I (N.mono (fun _ _=>PMc.st (xb:=xb)));have aq:=I (ab.o w2 Z.o);have X:=I (Zc ad.o Z.o);clear hs N;refine⟨⟨(X.o).1,(X.o).2 2,(X.o).2 4,(X.o).2 5,aq.o⟩,wpAnyH_done (by kernel_rfl) ?_ _⟩
 try simp only[Act.put,List.setIfInBounds_toArray,List.set_cons_zero,List.set_cons_succ]
 go_wp2;go_end0;exact QB.from (QB.ok J.o Z.o ad.o) (Fr.of_below (QM _))
theorem O3(b:Bool)(w:World):Calls prog 156 #[.bool b] w fun e w'=>e=.returned (.func (.func 202) #[] #[.pointer (some ⟨w.heap.size,0,none⟩)])/\w'=w.alloc (.cells #[.bool b] 4):=by
 have a:∀(fn:Fn) (first cap:Array Value) (w:World),(Instr.makeFunc fn first cap).run prog w=.ok (.func fn first cap) w:=fun _ _ _ _=>rfl
 go_enter func156,ntmps156;go_wp2;go_ret;exact⟨rfl,rfl⟩
theorem Pg(F:Nat)(w:World):Calls prog 157 #[.func (.func F) #[] #[]] w fun e w'=>e=.returned (.func (.func 203) #[] #[.pointer (some ⟨w.heap.size,0,none⟩)])/\w'=w.alloc (.cells #[.func (.func F) #[] #[]] 280):=by
 have a:∀(fn:Fn) (first cap:Array Value) (w:World),(Instr.makeFunc fn first cap).run prog w=.ok (.func fn first cap) w:=fun _ _ _ _=>rfl
 go_enter func157,ntmps157;go_wp2;go_ret;exact⟨rfl,rfl⟩
def fnV(F:Nat):Value:=.func (.func F) #[] #[]
def clV(F p:Nat):Value:=.func (.func F) #[] #[.pointer (some ⟨p,0,none⟩)]
def Bg(n:Nat):Array Value:=
 #[.nilFunc,fnV 153,fnV 154,fnV 155,clV 202 n,clV 202 (n+1),clV 203 (n+2),clV 203 (n+3),clV 203 (n+4),
  fnV 161,fnV 162,fnV 163,fnV 164,fnV 165,fnV 167]
structure Y9 (w:World) (n:Nat):Prop where
 p0:w.heap[n]?=some (.cells #[.bool true] 4)
 p1:w.heap[n+1]?=some (.cells #[.bool false] 4)
 p2:w.heap[n+2]?=some (.cells #[fnV 158] 280)
 p3:w.heap[n+3]?=some (.cells #[fnV 159] 280)
 p4:w.heap[n+4]?=some (.cells #[fnV 160] 280)
 tb:w.heap[n+5]?=some (.cells (Bg n) 277)
theorem Y9.fr(h:Y9 w (xb+1))(a:Fr (PMc B xb) w w'):Y9 w' (xb+1):=by
 have c:∀(k:Nat) (b:Bool),k<xb+7->¬ PMc B xb k (.cells #[.bool b] 4):=fun k b e d=>by
  have:=d.2;unfold kO stO at this;simp at this;omega
 exact⟨a.block _ _ h.p0 (c _ _ (by omega)),a.block _ _ h.p1 (c _ _ (by omega)),a.block _ _ h.p2 (PMc.not (by decide) (by decide) (by decide) (by decide)),a.block _ _ h.p3 (PMc.not (by decide) (by decide) (by decide) (by decide)),a.block _ _ h.p4 (PMc.not (by decide) (by decide) (by decide) (by decide)),a.block _ _ h.tb (PMc.not (by decide) (by decide) (by decide) (by decide))⟩
theorem Y9.below(h:Y9 w n)(hb:Below w.heap.size w w'):Y9 w' n:=
 ⟨QP h.p0 hb,QP h.p1 hb,QP h.p2 hb,QP h.p3 hb,QP h.p4 hb,QP h.tb hb⟩
theorem Pj(w:World):Calls prog 105 #[] w fun e w'=>e=.returned (.slice (some ⟨w.heap.size+5,0,none⟩) 15 15)/\Y9 w' w.heap.size/\Below w.heap.size w w'/\w'.heap.size=w.heap.size+6:=by
 go_enter func105,ntmps105;go_wp2_with (first|(go_at_call 156;refine(O3 _ _).mono ?_;rintro e w' ⟨rfl,rfl⟩)|(go_at_call 157;refine(Pg _ _).mono ?_;rintro e w' ⟨rfl,rfl⟩));go_ret;refine⟨by simp,?_,?_,by simp⟩
 ·exact⟨Qn (Qn (Qn (Qn (Qn (QC _ _))))),Qn (Qn (Qn (Qn (Q5 (by simp))))),Qn (Qn (Qn (Q5 (by simp)))),Qn (Qn (Q5 (by simp))),Qn (Q5 (by simp)),Q5 (by simp)⟩
 ·exact((((((Qp _).alloc (by simp) _).alloc (by simp;omega) _).alloc (by simp;omega) _).alloc (by simp;omega) _).alloc (by simp;omega) _)
def Xb(M:Msg)(hv:Value):Value:=.agg #[.string (sA M.fr),.string (sA M.to),.int .i64 M.size,hv]
theorem Tc(v:Bool)(M:Msg)(i:Value)(w:World)(d:XY w i M.hdrs)(k:SBd M (ss0 v))(g:1<w.heap.size)(f:∃ m,w.cell? ⟨1,0,none⟩=some (.int .i64 m)) :
 Calls prog 104 #[.bool v,Xb M i] w fun e w'=>∃ sb,e=.returned (.pointer (some ⟨sb,0,none⟩))/\SAt w' w.heap.size sb M (ss0 v)/\Below w.heap.size w w':=by
 obtain⟨b,c,rfl⟩:=d.len;have j:=I d;have l:∀(w:World),(Instr.makeMap 270 none).run prog w=.ok (.map (some w.heap.size)) (w.alloc (Obj.map #[] 0)):=fun _=>rfl
 clear d;unfold Xb;go_enter func104,ntmps104;go_wp2;go_ret;have a:Below w.heap.size w (((w.alloc (.cells #[.string (sA M.fr),.string (sA M.to),.int .i64 M.size,.slice b M.hdrs.length c] 28)).alloc (Obj.map #[] 0)).alloc (.cells (Nd M (.slice b M.hdrs.length c) v (w.heap.size+1) (.slice none 0 0) (.slice none 0 0) false) 274)):=((Qp _).alloc (by simp) _).alloc (by simp;omega) _;obtain⟨m,f⟩:=f;refine⟨w.heap.size+1+1,rfl,⟨.slice b M.hdrs.length c,w.heap.size+1,.slice none 0 0,.slice none 0 0,by omega,by omega,g,⟨m,?_⟩,?_,?_,⟨#[],0,?_,Kg.empty⟩,Qd ⟨rfl,rfl⟩,Zj,fun _=>rfl,k⟩,a⟩
 ·exact(a.cell (p:=⟨1,0,none⟩) g).trans f
 ·exact Q5 (by simp)
 ·exact j.o.fr (P:=fun _ _=>False) (Fr.of_below a) (fun _ _ h=>h)
 ·exact Qn (Q5 (by simp))
theorem Tp(W:World):(binOp .neq 277 .nilFunc .nilFunc).run prog W=.ok (.bool false) W:=by kernel_rfl
theorem EX(W:World)(f:Fn)(a b:Array Value):(binOp .neq 277 (.func f a b) .nilFunc).run prog W=.ok (.bool true) W:=by kernel_rfl
theorem KL(k:Nat)(f:FuncId)(R:Except FZ MS)(n tag:Int)(oct:Bool)(a b:Qa)(i:Int)(d l:Option Addr)(g p:Nat)(B xb sb:Nat)(M:Msg)(m:MS)(G:Nat)(w:World)(ad:∀ args W,(callFunc f args).run prog W=.ok (.enter f args) W)(ae:1<=k)(af:k<=14)(h:MAt w B xb sb M m G)(E:Y9 w (xb+1))(H:(Bg (xb+1))[k]?=some (.func (.func f) #[] #[]))
 (K:Calls prog f #[.pointer (some ⟨xb,0,none⟩),.agg #[.int .i64 (k:Int),.int .i64 n,.int .i64 tag,.bool oct,.slice d a.length g,.slice l b.length p,.int .i64 i]] (w.alloc (.cells #[.int .i64 (k:Int),.int .i64 n,.int .i64 tag,.bool oct,.slice d a.length g,.slice l b.length p,.int .i64 i] 63)).drew (QB R B xb sb M G (w.alloc (.cells #[.int .i64 (k:Int),.int .i64 n,.int .i64 tag,.bool oct,.slice d a.length g,.slice l b.length p,.int .i64 i] 63)).drew)) :
 Calls prog 106 #[.pointer (some ⟨xb,0,none⟩),.slice (some ⟨xb+6,0,none⟩) 15 15,.agg #[.int .i64 (k:Int),.int .i64 n,.int .i64 tag,.bool oct,.slice d a.length g,.slice l b.length p,.int .i64 i]] w (QB R B xb sb M G w):=by
 have s:=I (h.below (QM (.cells #[.int .i64 (k:Int),.int .i64 n,.int .i64 tag,.bool oct,.slice d a.length g,.slice l b.length p,.int .i64 i] 63)));have V:=I (E.below (QM (.cells #[.int .i64 (k:Int),.int .i64 n,.int .i64 tag,.bool oct,.slice d a.length g,.slice l b.length p,.int .i64 i] 63)));have hn:=EX;have c6:w.cell? ⟨xb+6,k,none⟩=some (.func (.func f) #[] #[]):=(Qi E.tb k).trans H;have ag:¬ xb+6=w.heap.size:=by have:=Qg E.tb;omega
 have ah:xb+6<w.heap.size:=Qg E.tb;have T:=I K;have J:Hid (∀ W,Fr (PMc B xb) (w.alloc (.cells #[.int .i64 (k:Int),.int .i64 n,.int .i64 tag,.bool oct,.slice d a.length g,.slice l b.length p,.int .i64 i] 63)).drew W->W.cell? ⟨xb+6,k,none⟩=some (.func (.func f) #[] #[])):=fun W D=>(Qi (V.o.fr D).tb k).trans H
 have X:(0:Int)<=(k:Int):=by omega
 have Y:(k:Int)<15:=by omega
 have d1:decide ((0:Int)<=(k:Int))=true:=Qw X;have d2:decide ((k:Int)<15)=true:=Qw Y;clear h E K H;go_enter func106,ntmps106;go_wp2_with (go_at_call 168;refine(Y4 _ _).mono ?_;rintro e c ⟨rfl,P⟩;rw[P];clear P);refine wp_region_held (S:=fun c=>c.cell? ⟨xb+6,k,none⟩=some (.func (.func f) #[] #[])/\c.cell? ⟨w.heap.size,0,none⟩=some (.int .i64 (k:Int))/\c.cell? ⟨w.heap.size,1,none⟩=some (.int .i64 n)/\c.cell? ⟨w.heap.size,2,none⟩=some (.int .i64 tag)/\c.cell? ⟨w.heap.size,3,none⟩=some (.bool oct)/\c.cell? ⟨w.heap.size,4,none⟩=some (.slice d a.length g)/\c.cell? ⟨w.heap.size,5,none⟩=some (.slice l b.length p)/\c.cell? ⟨w.heap.size,6,none⟩=some (.int .i64 i)) (by kernel_rfl) ?_;have q:(fun c:World=>c.cell? ⟨xb+6,k,none⟩=some (.func (.func f) #[] #[])/\c.cell? ⟨w.heap.size,0,none⟩=some (.int .i64 (k:Int))/\c.cell? ⟨w.heap.size,1,none⟩=some (.int .i64 n)/\c.cell? ⟨w.heap.size,2,none⟩=some (.int .i64 tag)/\c.cell? ⟨w.heap.size,3,none⟩=some (.bool oct)/\c.cell? ⟨w.heap.size,4,none⟩=some (.slice d a.length g)/\c.cell? ⟨w.heap.size,5,none⟩=some (.slice l b.length p)/\c.cell? ⟨w.heap.size,6,none⟩=some (.int .i64 i)) (w.alloc (.cells #[.int .i64 (k:Int),.int .i64 n,.int .i64 tag,.bool oct,.slice d a.length g,.slice l b.length p,.int .i64 i] 63)).drew:=⟨J.o _ (Fr.refl _ _),(Zc s.o (Fr.refl _ _)).2 0,(Zc s.o (Fr.refl _ _)).2 1,(Zc s.o (Fr.refl _ _)).2 2,(Zc s.o (Fr.refl _ _)).2 3,(Zc s.o (Fr.refl _ _)).2 4,(Zc s.o (Fr.refl _ _)).2 5,(Zc s.o (Fr.refl _ _)).2 6⟩;refine Qx 0 26 (.slice (some ⟨xb+6,0,none⟩) 15 15) rfl q (fun c ⟨t,u,v,x,y,z,A,C⟩=>by go_simp) ?_;simp only[pt,sz,sc];refine Qx 1 27 (.pointer (some ⟨w.heap.size,0,none⟩)) rfl q (fun c ⟨t,u,v,x,y,z,A,C⟩=>by go_simp) ?_;simp only[pt,sz,sc];refine Qx 2 28 (.int .i64 (k:Int)) rfl q (fun c ⟨t,u,v,x,y,z,A,C⟩=>by go_simp) ?_;simp only[pt,sz,sc];refine Qx 3 29 (.pointer (some ⟨xb+6,k,none⟩)) rfl q (fun c ⟨t,u,v,x,y,z,A,C⟩=>by go_simp) ?_;simp only[pt,sz,sc];refine Qx 4 30 (.func (.func f) #[] #[]) rfl q (fun c ⟨t,u,v,x,y,z,A,C⟩=>by go_simp) ?_;simp only[pt,sz,sc];refine Qx 5 31 (.pointer (some ⟨xb,0,none⟩)) rfl q (fun c ⟨t,u,v,x,y,z,A,C⟩=>by go_simp) ?_;simp only[pt,sz,sc];refine Qx 6 32 (.agg #[.int .i64 (k:Int),.int .i64 n,.int .i64 tag,.bool oct,.slice d a.length g,.slice l b.length p,.int .i64 i]) rfl q (fun c ⟨t,u,v,x,y,z,A,C⟩=>by go_simp) ?_;simp only[pt,sz,sc];clear q;refine wpAnyH_all (rs:=[7]) (by kernel_rfl) (by decide) (fun j L=>?_);simp only[List.mem_singleton]at L;subst L;refine QW rfl (by rfl) ?_;go_simp;refine T.o.mono ?_;intro e w2 F;rcases F.cases with⟨D,⟨m',Z,rfl,N⟩ | ⟨f,Z,bb,hz,rfl,ab⟩⟩
 rotate_left
 ·exact⟨rfl,QB.from F (Fr.of_below (QM _))⟩
 have Q:=I F;have U:=I (J.o w2 D);have r:=I (Zc N D);clear N D F;refine⟨⟨U.o,(r.o).2 0,(r.o).2 1,(r.o).2 2,(r.o).2 3,(r.o).2 4,(r.o).2 5,(r.o).2 6⟩,wpAnyH_done (by kernel_rfl) ?_ _⟩
 try simp only[Act.put,List.setIfInBounds_toArray,List.set_cons_zero,List.set_cons_succ]
 go_wp2;go_end0;exact QB.from Q.o (Fr.of_below (QM _))
theorem Gi(k:Nat)(f:FuncId)(q:Nat)(R:Except FZ MS)(n tag:Int)(oct:Bool)(a b:Qa)(i:Int)(d l:Option Addr)(g p:Nat)(B xb sb:Nat)(M:Msg)(m:MS)(H:Nat)(w:World)(ad:∀ args W,(callFunc f args).run prog W=.ok (.enter f args) W)(ae:1<=k)(af:k<=14)(h:MAt w B xb sb M m H)(F:Y9 w (xb+1))(J:(Bg (xb+1))[k]?=some (.func (.func f) #[] #[.pointer (some ⟨q,0,none⟩)]))
 (L:Calls prog f #[.pointer (some ⟨xb,0,none⟩),.agg #[.int .i64 (k:Int),.int .i64 n,.int .i64 tag,.bool oct,.slice d a.length g,.slice l b.length p,.int .i64 i],.pointer (some ⟨q,0,none⟩)] (w.alloc (.cells #[.int .i64 (k:Int),.int .i64 n,.int .i64 tag,.bool oct,.slice d a.length g,.slice l b.length p,.int .i64 i] 63)).drew (QB R B xb sb M H (w.alloc (.cells #[.int .i64 (k:Int),.int .i64 n,.int .i64 tag,.bool oct,.slice d a.length g,.slice l b.length p,.int .i64 i] 63)).drew)) :
 Calls prog 106 #[.pointer (some ⟨xb,0,none⟩),.slice (some ⟨xb+6,0,none⟩) 15 15,.agg #[.int .i64 (k:Int),.int .i64 n,.int .i64 tag,.bool oct,.slice d a.length g,.slice l b.length p,.int .i64 i]] w (QB R B xb sb M H w):=by
 have t:=I (h.below (QM (.cells #[.int .i64 (k:Int),.int .i64 n,.int .i64 tag,.bool oct,.slice d a.length g,.slice l b.length p,.int .i64 i] 63)));have X:=I (F.below (QM (.cells #[.int .i64 (k:Int),.int .i64 n,.int .i64 tag,.bool oct,.slice d a.length g,.slice l b.length p,.int .i64 i] 63)));have hn:=EX;have c6:w.cell? ⟨xb+6,k,none⟩=some (.func (.func f) #[] #[.pointer (some ⟨q,0,none⟩)]):=(Qi F.tb k).trans J;have ag:¬ xb+6=w.heap.size:=by have:=Qg F.tb;omega
 have ah:xb+6<w.heap.size:=Qg F.tb;have U:=I L;have K:Hid (∀ W,Fr (PMc B xb) (w.alloc (.cells #[.int .i64 (k:Int),.int .i64 n,.int .i64 tag,.bool oct,.slice d a.length g,.slice l b.length p,.int .i64 i] 63)).drew W->W.cell? ⟨xb+6,k,none⟩=some (.func (.func f) #[] #[.pointer (some ⟨q,0,none⟩)])):=fun W E=>(Qi (X.o.fr E).tb k).trans J
 have Y:(0:Int)<=(k:Int):=by omega
 have Z:(k:Int)<15:=by omega
 have d1:decide ((0:Int)<=(k:Int))=true:=Qw Y;have d2:decide ((k:Int)<15)=true:=Qw Z;clear h F L J;go_enter func106,ntmps106;go_wp2_with (go_at_call 168;refine(Y4 _ _).mono ?_;rintro e c ⟨rfl,Q⟩;rw[Q];clear Q);refine wp_region_held (S:=fun c=>c.cell? ⟨xb+6,k,none⟩=some (.func (.func f) #[] #[.pointer (some ⟨q,0,none⟩)])/\c.cell? ⟨w.heap.size,0,none⟩=some (.int .i64 (k:Int))/\c.cell? ⟨w.heap.size,1,none⟩=some (.int .i64 n)/\c.cell? ⟨w.heap.size,2,none⟩=some (.int .i64 tag)/\c.cell? ⟨w.heap.size,3,none⟩=some (.bool oct)/\c.cell? ⟨w.heap.size,4,none⟩=some (.slice d a.length g)/\c.cell? ⟨w.heap.size,5,none⟩=some (.slice l b.length p)/\c.cell? ⟨w.heap.size,6,none⟩=some (.int .i64 i)) (by kernel_rfl) ?_;have r:(fun c:World=>c.cell? ⟨xb+6,k,none⟩=some (.func (.func f) #[] #[.pointer (some ⟨q,0,none⟩)])/\c.cell? ⟨w.heap.size,0,none⟩=some (.int .i64 (k:Int))/\c.cell? ⟨w.heap.size,1,none⟩=some (.int .i64 n)/\c.cell? ⟨w.heap.size,2,none⟩=some (.int .i64 tag)/\c.cell? ⟨w.heap.size,3,none⟩=some (.bool oct)/\c.cell? ⟨w.heap.size,4,none⟩=some (.slice d a.length g)/\c.cell? ⟨w.heap.size,5,none⟩=some (.slice l b.length p)/\c.cell? ⟨w.heap.size,6,none⟩=some (.int .i64 i)) (w.alloc (.cells #[.int .i64 (k:Int),.int .i64 n,.int .i64 tag,.bool oct,.slice d a.length g,.slice l b.length p,.int .i64 i] 63)).drew:=⟨K.o _ (Fr.refl _ _),(Zc t.o (Fr.refl _ _)).2 0,(Zc t.o (Fr.refl _ _)).2 1,(Zc t.o (Fr.refl _ _)).2 2,(Zc t.o (Fr.refl _ _)).2 3,(Zc t.o (Fr.refl _ _)).2 4,(Zc t.o (Fr.refl _ _)).2 5,(Zc t.o (Fr.refl _ _)).2 6⟩;refine Qx 0 26 (.slice (some ⟨xb+6,0,none⟩) 15 15) rfl r (fun c ⟨u,v,x,y,z,A,C,D⟩=>by go_simp) ?_;simp only[pt,sz,sc];refine Qx 1 27 (.pointer (some ⟨w.heap.size,0,none⟩)) rfl r (fun c ⟨u,v,x,y,z,A,C,D⟩=>by go_simp) ?_;simp only[pt,sz,sc];refine Qx 2 28 (.int .i64 (k:Int)) rfl r (fun c ⟨u,v,x,y,z,A,C,D⟩=>by go_simp) ?_;simp only[pt,sz,sc];refine Qx 3 29 (.pointer (some ⟨xb+6,k,none⟩)) rfl r (fun c ⟨u,v,x,y,z,A,C,D⟩=>by go_simp) ?_;simp only[pt,sz,sc];refine Qx 4 30 (.func (.func f) #[] #[.pointer (some ⟨q,0,none⟩)]) rfl r (fun c ⟨u,v,x,y,z,A,C,D⟩=>by go_simp) ?_;simp only[pt,sz,sc];refine Qx 5 31 (.pointer (some ⟨xb,0,none⟩)) rfl r (fun c ⟨u,v,x,y,z,A,C,D⟩=>by go_simp) ?_;simp only[pt,sz,sc];refine Qx 6 32 (.agg #[.int .i64 (k:Int),.int .i64 n,.int .i64 tag,.bool oct,.slice d a.length g,.slice l b.length p,.int .i64 i]) rfl r (fun c ⟨u,v,x,y,z,A,C,D⟩=>by go_simp) ?_;simp only[pt,sz,sc];clear r;refine wpAnyH_all (rs:=[7]) (by kernel_rfl) (by decide) (fun j N=>?_);simp only[List.mem_singleton]at N;subst N;refine QW rfl (by rfl) ?_;go_simp;refine U.o.mono ?_;intro e w2 G;rcases G.cases with⟨E,⟨m',hr,rfl,P⟩ | ⟨f,hr,bb,hz,rfl,ab⟩⟩
 rotate_left
 ·exact⟨rfl,QB.from G (Fr.of_below (QM _))⟩
 have T:=I G;have V:=I (K.o w2 E);have s:=I (Zc P E);clear P E G;refine⟨⟨V.o,(s.o).2 0,(s.o).2 1,(s.o).2 2,(s.o).2 3,(s.o).2 4,(s.o).2 5,(s.o).2 6⟩,wpAnyH_done (by kernel_rfl) ?_ _⟩
 try simp only[Act.put,List.setIfInBounds_toArray,List.set_cons_zero,List.set_cons_succ]
 go_wp2;go_end0;exact QB.from T.o (Fr.of_below (QM _))
theorem TJ(i:Ins)(C D:Value)(B xb sb:Nat)(M:Msg)(m:MS)(y:Nat)(w:World)(h:MAt w B xb sb M m y)(A:ZT w i C D)(t:Y9 w (xb+1))(hop:i.op<1\/14<i.op) :
 Calls prog 106 #[.pointer (some ⟨xb,0,none⟩),.slice (some ⟨xb+6,0,none⟩) 15 15,Zh i C D] w (QB (.error (12,(m.now:Int))) B xb sb M y w):=by
 obtain⟨l,p,J⟩:=A.a.len;obtain⟨r,s,K⟩:=A.b.len;subst J K;obtain⟨c,n,v,u,a,b,q⟩:=i;have z:=(h.box (.cells #[.int .i64 c,.int .i64 n,.int .i64 v,.bool u,.slice l a.length p,.slice r b.length s,.int .i64 q] 63)).now;have T:xb<w.heap.size:=Qq h.now;have L:=Qk t.tb;have R:¬ xb+6=w.heap.size:=by have:=Qg t.tb;omega
 have S:xb+6<w.heap.size:=Qg t.tb;have Q:=Tp;dsimp only at hop;clear h A t;unfold Zh;dsimp only;have x:Hid (∀(e:Ending) (d:World),YU (12,(m.now:Int)) (w.alloc (.cells #[.int .i64 c,.int .i64 n,.int .i64 v,.bool u,.slice l a.length p,.slice r b.length s,.int .i64 q] 63)) e d->Below (w.alloc (.cells #[.int .i64 c,.int .i64 n,.int .i64 v,.bool u,.slice l a.length p,.slice r b.length s,.int .i64 q] 63)).heap.size (w.alloc (.cells #[.int .i64 c,.int .i64 n,.int .i64 v,.bool u,.slice l a.length p,.slice r b.length s,.int .i64 q] 63)) d->QB (.error (12,(m.now:Int))) B xb sb M y w e d):=fun e d G H=>QB.from (QB.err rfl (Fr.of_below H) G) (Yh _ _)
 rcases(by omega:c<0\/c=0\/14<c)with hop|hop|hop
 ·have E:decide (0<=c)=false:=Qh (by omega);have F:¬ 0<=c:=by omega
  go_enter func106,ntmps106;go_wp2_with (go_at_call 168;refine(YE _ _ _ z).mono ?_;rintro e d ⟨⟨f,k,rfl,j⟩,g⟩);exact⟨rfl,x.o _ _ ⟨f,k,rfl,j⟩ g⟩
 ·subst hop;go_enter func106,ntmps106;go_wp2_with (go_at_call 168;refine(YE _ _ _ z).mono ?_;rintro e d ⟨⟨f,k,rfl,j⟩,g⟩);exact⟨rfl,x.o _ _ ⟨f,k,rfl,j⟩ g⟩
 ·have E:decide (0<=c)=true:=Qw (by omega);have F:0<=c:=by omega
  have N:decide (c<15)=false:=Qh (by omega);have P:¬ c<15:=by omega
  go_enter func106,ntmps106;go_wp2_with (go_at_call 168;refine(YE _ _ _ z).mono ?_;rintro e d ⟨⟨f,k,rfl,j⟩,g⟩);exact⟨rfl,x.o _ _ ⟨f,k,rfl,j⟩ g⟩
theorem TH(i:Ins)(r s:Value)(B xb sb:Nat)(M:Msg)(m:MS)(f:Nat)(w:World)(h:MAt w B xb sb M m f)(j:ZT w i r s)(g:Y9 w (xb+1))(x:Tab w) :
 Calls prog 106 #[.pointer (some ⟨xb,0,none⟩),.slice (some ⟨xb+6,0,none⟩) 15 15,Zh i r s] w (QB (stepL M f i m) B xb sb M f w):=by
 by_cases hop:i.op<1\/14<i.op
 ·have v:stepL M f i m=.error (12,(m.now:Int)):=by
   unfold stepL ZI;rw[if_neg (by omega),if_neg (by omega),if_neg (by omega),if_neg (by omega),if_neg (by omega),if_neg (by omega),if_neg (by omega),if_neg (by omega),if_neg (by omega),if_neg (by omega),if_neg (by omega),if_neg (by omega),if_neg (by omega),if_neg (by omega)]
  rw[v];exact TJ i r s B xb sb M m f w h j g hop
 obtain⟨q,n,e,d,a,b,c⟩:=i;dsimp only at hop;obtain⟨k,l,t⟩:=j.a.len;obtain⟨o,p,u⟩:=j.b.len;subst t u;rcases(by omega:q=1\/q=2\/q=3\/q=4\/q=5\/q=6\/q=7\/q=8\/q=9\/q=10\/q=11\/q=12\/q=13\/q=14)with rfl|rfl|rfl|rfl|rfl|rfl|rfl|rfl|rfl|rfl|rfl|rfl|rfl|rfl
 ·exact KL 1 153 (J1 ⟨1,n,e,d,a,b,c⟩ m) n e d a b c k o l p B xb sb M m f w (fun _ _=>by kernel_rfl) (by decide) (by decide) h g rfl (Rr ⟨1,n,e,d,a,b,c⟩ _ _ B xb sb M m f _ (h.below (QM _)) (j.below (QM _)) )
 ·exact KL 2 154 (J9 m) n e d a b c k o l p B xb sb M m f w (fun _ _=>by kernel_rfl) (by decide) (by decide) h g rfl (RH ⟨2,n,e,d,a,b,c⟩ _ _ B xb sb M m f _ (h.below (QM _)) (j.below (QM _)) )
 ·exact KL 3 155 (J3 f ⟨3,n,e,d,a,b,c⟩ m) n e d a b c k o l p B xb sb M m f w (fun _ _=>by kernel_rfl) (by decide) (by decide) h g rfl (R4 ⟨3,n,e,d,a,b,c⟩ _ _ B xb sb M m f _ (h.below (QM _)) (j.below (QM _)) )
 ·exact Gi 4 202 (xb+1) (doCond true f ⟨4,n,e,d,a,b,c⟩ m) n e d a b c k o l p B xb sb M m f w (fun _ _=>by kernel_rfl) (by decide) (by decide) h g rfl (Cg true (xb+1) ⟨4,n,e,d,a,b,c⟩ _ _ B xb sb M m f _ (h.below (QM _)) (j.below (QM _)) (g.below (QM _)).p0 (by omega))
 ·exact Gi 5 202 (xb+1+1) (doCond false f ⟨5,n,e,d,a,b,c⟩ m) n e d a b c k o l p B xb sb M m f w (fun _ _=>by kernel_rfl) (by decide) (by decide) h g rfl (Cg false (xb+1+1) ⟨5,n,e,d,a,b,c⟩ _ _ B xb sb M m f _ (h.below (QM _)) (j.below (QM _)) (g.below (QM _)).p1 (by omega))
 ·exact Gi 6 203 (xb+1+2) (doAsk (fieldsL M (a.map (expL m.st))) ⟨6,n,e,d,a,b,c⟩ m) n e d a b c k o l p B xb sb M m f w (fun _ _=>by kernel_rfl) (by decide) (by decide) h g rfl (ME (xb+1+2) ⟨6,n,e,d,a,b,c⟩ _ _ B xb sb M m f _ (h.below (QM _)) (j.below (QM _)) (g.below (QM _)).p2)
 ·exact Gi 7 203 (xb+1+3) (doAsk (envL M a) ⟨7,n,e,d,a,b,c⟩ m) n e d a b c k o l p B xb sb M m f w (fun _ _=>by kernel_rfl) (by decide) (by decide) h g rfl (F8 (xb+1+3) ⟨7,n,e,d,a,b,c⟩ _ _ B xb sb M m f _ (h.below (QM _)) (j.below (QM _)) (g.below (QM _)).p3)
 ·exact Gi 8 203 (xb+1+4) (doAsk (a.map (expL m.st)) ⟨8,n,e,d,a,b,c⟩ m) n e d a b c k o l p B xb sb M m f w (fun _ _=>by kernel_rfl) (by decide) (by decide) h g rfl (IM (xb+1+4) ⟨8,n,e,d,a,b,c⟩ _ _ B xb sb M m f _ (h.below (QM _)) (j.below (QM _)) (g.below (QM _)).p4)
 ·exact KL 9 161 (Xl (existsL M (a.map (expL m.st))) m) n e d a b c k o l p B xb sb M m f w (fun _ _=>by kernel_rfl) (by decide) (by decide) h g rfl (OU ⟨9,n,e,d,a,b,c⟩ _ _ B xb sb M m f _ (h.below (QM _)) (j.below (QM _)) )
 ·exact KL 10 162 (JY M ⟨10,n,e,d,a,b,c⟩ m) n e d a b c k o l p B xb sb M m f w (fun _ _=>by kernel_rfl) (by decide) (by decide) h g rfl (Sr ⟨10,n,e,d,a,b,c⟩ _ _ B xb sb M m f _ (h.below (QM _)) (j.below (QM _)) )
 ·exact KL 11 163 (YI ⟨11,n,e,d,a,b,c⟩ m) n e d a b c k o l p B xb sb M m f w (fun _ _=>by kernel_rfl) (by decide) (by decide) h g rfl (SZ ⟨11,n,e,d,a,b,c⟩ _ _ B xb sb M m f _ (h.below (QM _)) (j.below (QM _)) )
 ·exact KL 12 164 (Ka ⟨12,n,e,d,a,b,c⟩ m) n e d a b c k o l p B xb sb M m f w (fun _ _=>by kernel_rfl) (by decide) (by decide) h g rfl (TT ⟨12,n,e,d,a,b,c⟩ _ _ B xb sb M m f _ (h.below (QM _)) (j.below (QM _)) (x.below (QM _)))
 ·exact KL 13 165 (.ok (stL m (KJ m.st))) n e d a b c k o l p B xb sb M m f w (fun _ _=>by kernel_rfl) (by decide) (by decide) h g rfl (L9 ⟨13,n,e,d,a,b,c⟩ _ _ B xb sb M m f _ (h.below (QM _)) (j.below (QM _)) )
 ·exact KL 14 167 (.ok (goL m f)) n e d a b c k o l p B xb sb M m f w (fun _ _=>by kernel_rfl) (by decide) (by decide) h g rfl (SM ⟨14,n,e,d,a,b,c⟩ _ _ B xb sb M m f _ (h.below (QM _)) (j.below (QM _)) )
def Fj(w:World)(cs:Array Value)(j:Nat)(i:Ins):Prop:=
 ∃ av bv,cs[j*7]?=some (.int .i64 i.op)/\cs[j*7+1]?=some (.int .i64 i.n)/\cs[j*7+2]?=some (.int .i64 i.tag)/\cs[j*7+3]?=some (.bool i.oct)/\cs[j*7+4]?=some av/\cs[j*7+5]?=some bv/\cs[j*7+6]?=some (.int .i64 i.at_)/\ZT w i av bv
def XN(w:World)(cv:Value)(code:List Ins):Prop:=
 (cv=.slice none 0 0/\code=[])\/∃ g c cs,cv=.slice (some ⟨g,0,none⟩) code.length c/\w.heap[g]?=some (.cells cs 63)/\∀ j (hj:j<code.length),Fj w cs j code[j]
theorem XN.fr{P:Nat->Obj->Prop}{w w':World}{b:Value}{a:List Ins}(h:XN w b a)(d:Fr P w w')(r:∀ k cs,¬ P k (.cells cs 63))(s:∀ k cs,¬ P k (.cells cs 9)):XN w' b a:=by
 rcases h with h | ⟨g,c,cs,y,t,u⟩
 ·exact Qd h
 ·refine Qc ⟨g,c,cs,y,d.block _ _ t (r _ _),fun j v=>?_⟩;obtain⟨p,q,e,f,i,l,m,n,o,x⟩:=u j v;exact⟨p,q,e,f,i,l,m,n,o,x.fr d s⟩
theorem XN.pm(h:XN w cv code)(hf:Fr (PMc B xb) w w'):XN w' cv code:=h.fr hf (fun _ _=>PMc.not (by decide) (by decide) (by decide) (by decide)) (fun _ _=>PMc.not (by decide) (by decide) (by decide) (by decide))
theorem XN.below(h:XN w cv code)(hb:Below w.heap.size w w'):XN w' cv code:=h.fr (P:=fun _ _=>False) (Fr.of_below hb) (fun _ _ h=>h) (fun _ _ h=>h)
theorem XN.len{b:List Ins}(h:XN w d b):∃ a c,d=.slice a b.length c:=by
 rcases h with⟨h,rfl⟩ | ⟨g,c,e,h,_⟩
 ·exact⟨none,0,h⟩
 ·exact⟨_,_,h⟩
theorem XN.get'{la:Option Addr}(h:XN w (.slice la n i) a)(j:Nat)(b:j<a.length):∃ g cs,la=some ⟨g,0,none⟩/\w.heap[g]?=some (.cells cs 63)/\Fj w cs j a[j]:=by
 rcases h with⟨_,rfl⟩ | ⟨g,c,cs,f,d,e⟩
 ·exact absurd b (Nat.not_lt_zero _)
 ·injection f with h1 h2 h3
  exact⟨g,cs,h1,d,e j b⟩
def Jr(r:List (Int×L8)×Nat×Option FZ)(w:World)(e:Ending)(w':World):Prop:=
 Below w.heap.size w w'∧((∃ lv,r.2.2=none∧e=.returned (.tuple #[lv,.int .i64 (r.2.1:Int),.nilIface])∧ActsV w' w.heap.size lv r.1)∨
  (∃ lv f bb,r.2.2=some f∧e=.returned (.tuple #[lv,.int .i64 (r.2.1:Int),.iface 125 (.pointer (some ⟨bb,0,none⟩))])∧ActsV w' w.heap.size lv r.1∧w.heap.size<=bb∧w'.heap[bb]?=some (.cells #[.int .i64 f.1,.int .i64 f.2] 130)))
theorem ActsV.set(h:ActsV w B v l){b:Nat}(a:b<B)(j:Nat)(x:Value):ActsV (w.setCell ⟨b,j,none⟩ x) B v l:=
 ⟨Ur h.1 (fun e=>by have:=(h.1.lt _ e).1;omega) j x,h.2⟩
theorem ActsV.lo{B':Nat}(h:ActsV w B v l)(hb:B'<=B):ActsV w B' v l:=⟨K5 h.1 hb,h.2⟩
theorem CV{V w1:World}{a:Value}{bb P:Nat}(e:Below w.heap.size w V)(r:w.heap.size<=P)(d:P+1<V.heap.size)(u:ActsV w1 V.heap.size a l)(b:Below V.heap.size V w1)(v:w.heap.size<=bb)(s:bb≠P)(t:bb≠P+1)(hF:V.heap[bb]?=some (.cells #[.int .i64 f.1,.int .i64 f.2] 130))(i c:Value)(j:V.cell? ⟨P,0,none⟩=some i)(k:V.cell? ⟨P+1,0,none⟩=some c) :
 ∃ W,W=(w1.setCell ⟨P,0,none⟩ a).setCell ⟨P+1,0,none⟩ (.iface 125 (.pointer (some ⟨bb,0,none⟩)))/\W.cell? ⟨P,0,none⟩=some a/\W.cell? ⟨P+1,0,none⟩=some (.iface 125 (.pointer (some ⟨bb,0,none⟩)))/\Below w.heap.size w W/\ActsV W w.heap.size a l/\W.heap[bb]?=some (.cells #[.int .i64 f.1,.int .i64 f.2] 130):=by
 have g:=e.size;have m:w1.cell? ⟨P,0,none⟩=some i:=(b.cell (p:=⟨P,0,none⟩) (show P<_ by omega)).trans j;have n:w1.cell? ⟨P+1,0,none⟩=some c:=(b.cell (p:=⟨P+1,0,none⟩) d).trans k;have q:Below w.heap.size w w1:=e.trans (b.mono g);refine⟨_,rfl,?_,?_,(q.setCell r _).setCell (show w.heap.size<=P+1 by omega) _,((u.set (by omega) _ _).set d _ _).lo g,?_⟩
 ·rw[World.cell?_setCell_other _ _ _ _ (by simp),World.cell?_setCell_same _ _ _ m]
 ·have o:(w1.setCell ⟨P,0,none⟩ a).cell? ⟨P+1,0,none⟩=some c:=by rw[World.cell?_setCell_other _ _ _ _ (by simp)];exact n
  exact World.cell?_setCell_same _ _ _ o
 ·rw[QK t,QK s,b.block bb (Qg hF)];exact hF
theorem MM{v:Bool}(h:400<a.length):execL v a M=([(1,[])],0,some (12,400)):=by unfold execL;rw[if_pos h]
theorem Rp{v:Bool}{d:Nat}(h:¬ 400<a.length)(b:Xh M a a.length (ms0 v) 0=(.ok m,d)):execL v a M=(YX m.st,d,none):=by unfold execL;rw[if_neg h,b]
theorem P9{v:Bool}{d:Nat}(h:¬ 400<a.length)(b:Xh M a a.length (ms0 v) 0=(.error f,d)):execL v a M=([(1,[])],d,some f):=by unfold execL;rw[if_neg h,b]
theorem P0(v:Bool)(g p:Value)(b:List Ins)(M:Msg)(w:World)(l:XN w g b)(n:XY w p M.hdrs)(D:SBd M (ss0 v))(U:1<w.heap.size)(K:∃ m,w.cell? ⟨1,0,none⟩=some (.int .i64 m))(L:Tab w)(Z:b.length<=1000000)(H:400<b.length) :
 Calls prog 65 #[.bool v,g,Xb M p] w (Jr (execL v b M) w):=by
 have Y:∀(fn:Fn) (first cap:Array Value) (w:World),(Instr.makeFunc fn first cap).run prog w=.ok (.func fn first cap) w:=fun _ _ _ _=>rfl
 obtain⟨S,T,F⟩:=l.len;subst F;obtain⟨B,C,G⟩:=n.len;subst G;unfold Xb;have X:(400:Int)<(b.length:Int):=by omega
 have s:=I (MM (v:=v) (M:=M) H);clear l n D L K;go_enter_defers func65,ntmps65;go_wp2_with (go_at_call 103;refine(Xn _ _ _).mono ?_;rintro e w3 ⟨rfl,rfl⟩);obtain⟨V,a⟩:=QF ((((w.alloc (.cells #[.string (sA M.fr),.string (sA M.to),.int .i64 M.size,.slice B M.hdrs.length C] 28)).alloc (.cells #[.slice none 0 0] 32)).alloc (.cells #[.nilIface] 84)).alloc (.cells #[.int .i64 12,.int .i64 400] 130));have aa:V.heap.size=w.heap.size+4:=by rw[a];simp
 have j:V.heap[w.heap.size+1]?=some (.cells #[.slice none 0 0] 32):=by rw[a];exact Qn (Qn (Q5 (by simp)))
 have k:V.heap[w.heap.size+1+1]?=some (.cells #[.nilIface] 84):=by rw[a];exact Qn (Q5 (by simp))
 have hF:V.heap[w.heap.size+1+1+1]?=some (.cells #[.int .i64 12,.int .i64 400] 130):=by rw[a];exact Q5 (by simp)
 have z:Below w.heap.size w V:=by rw[a];exact(((Qp _).alloc (by simp) _).alloc (by simp;omega) _).alloc (by simp;omega) _
 rw[<-a];clear a;have c:=Qk j;have d:=Qk k;have Q:=Qu j;have R:=Qu k;refine leaves_cons (f:=101) (args:=#[.pointer (some ⟨w.heap.size+1,0,none⟩),.pointer (some ⟨w.heap.size+1+1,0,none⟩)]) (by simp) (by simp[go_sem]) ?_;refine(Br (w.heap.size+1) (w.heap.size+1+1) _ _ ⟨w.heap.size+1+1+1,0,none⟩ [] _ c d Q R (by omega)).mono ?_;rintro e u' ab ⟨rfl,rfl,q,w1,N,E,rfl⟩;obtain⟨W,A,t,u,x,i,y⟩:=CV (f:=(12,400)) (bb:=w.heap.size+1+1+1) (P:=w.heap.size+1) z (by omega) (by omega) N E (by omega) (by omega) (by omega) hF _ _ c d;rw[<-A]
 have r:Hid (Jr (execL v b M) w (.returned (.tuple #[q,.int .i64 0,.iface 125 (.pointer (some ⟨w.heap.size+1+1+1,0,none⟩))])) W):=by
  rw[s.o];exact⟨x,Qc ⟨q,(12,400),_,rfl,rfl,i,by omega,y⟩⟩
 obtain⟨la,lk,J⟩:=QQ i.1;subst J;simp[Leaves,settle,results,results65,go_sem,t,u];exact r.o
theorem Ts{v:Bool}{c:List Ins}{b:World}{a o e:Value}{d:Nat}(n:execL v c M=(l,d,none))(j:Below w.heap.size w b)(m:ActsV b B a l)(f:b.cell? ⟨w.heap.size+1,0,none⟩=some o)(g:b.cell? ⟨w.heap.size+1+1,0,none⟩=some e)(k:w.heap.size+1+1<B) :
 ∃ W,W=(b.setCell ⟨w.heap.size+1,0,none⟩ a).setCell ⟨w.heap.size+1+1,0,none⟩ .nilIface/\W.cell? ⟨w.heap.size+1,0,none⟩=some a/\W.cell? ⟨w.heap.size+1+1,0,none⟩=some .nilIface/\Hid (Jr (execL v c M) w (.returned (.tuple #[a,.int .i64 (d:Int),.nilIface])) W):=by
 refine⟨_,rfl,?_,?_,?_⟩
 ·rw[World.cell?_setCell_other _ _ _ _ (by simp),World.cell?_setCell_same _ _ _ f]
 ·have i:(b.setCell ⟨w.heap.size+1,0,none⟩ a).cell? ⟨w.heap.size+1+1,0,none⟩=some e:=by rw[World.cell?_setCell_other _ _ _ _ (by simp)];exact g
  exact World.cell?_setCell_same _ _ _ i
 ·rw[n];exact⟨(j.setCell (show w.heap.size<=w.heap.size+1 by omega) _).setCell (show w.heap.size<=w.heap.size+1+1 by omega) _,Qd ⟨a,rfl,rfl,((m.set (by omega) _ _).set k _ _).lo (by omega)⟩⟩
theorem MI.atNext{a:Nat}(h:MI w B xb sb M m a d)(i:m.next<a):MAt ((w.setCell ⟨xb,2,none⟩ (.int .i64 (m.next:Int))).setCell ⟨xb,3,none⟩ (.int .i64 ((m.next:Int)+1))).drew.drew B xb sb M (atL m) a/\Fr (PMc B xb) w ((w.setCell ⟨xb,2,none⟩ (.int .i64 (m.next:Int))).setCell ⟨xb,3,none⟩ (.int .i64 ((m.next:Int)+1))).drew.drew:=by
 have g:=h.cl;have b:=h.set 2 (.int .i64 (m.next:Int)) ⟨m.st,m.stack,m.next,m.next⟩ d rfl rfl (Ur h.stack h.row _ _) h.sl (show m.next<=400 by omega) h.nx;have c:=b.1.set 3 (.int .i64 ((m.next:Int)+1)) (atL m) d rfl rfl (Ur b.1.stack b.1.row _ _) h.sl (show m.next<=400 by omega) (show m.next+1<=a by omega);obtain⟨X,f⟩:=QF ((w.setCell ⟨xb,2,none⟩ (.int .i64 (m.next:Int))).setCell ⟨xb,3,none⟩ (.int .i64 ((m.next:Int)+1)));rw[<-f]at c ⊢;have e:Below X.heap.size X X.drew.drew:=Zq (Zq (Below.refl X.heap.size X));exact⟨⟨_,c.1.below e⟩,((b.2.trans c.2).mono (fun _ _=>PMc.k)).trans (Fr.of_below e)⟩
theorem ON(v:Bool)(cv hv:Value)(a:List Ins)(M:Msg)(w:World)(hc:XN w cv a)(hh:XY w hv M.hdrs)(hb:SBd M (ss0 v))(h1:1<w.heap.size)(C:∃ m,w.cell? ⟨1,0,none⟩=some (.int .i64 m))(ht:Tab w)(hn:a.length<=1000000)(hlong:¬ 400<a.length) :
 Calls prog 65 #[.bool v,cv,Xb M hv] w (Jr (execL v a M) w):=by
 have bj:∀(fn:Fn) (first cap:Array Value) (w:World),(Instr.makeFunc fn first cap).run prog w=.ok (.func fn first cap) w:=fun _ _ _ _=>rfl
 obtain⟨ca,cc,aU⟩:=hc.len;subst aU;obtain⟨ha,ap,aV⟩:=hh.len;subst aV;unfold Xb;have bi:¬(400:Int)<(a.length:Int):=by omega
 have HC:=I hc;have HH:=I hh;have aE:=I hb;have HT:=I ht;have aI:=I C;clear hc hh hb ht C;go_enter_defers func65,ntmps65;go_wp2_with fail;obtain⟨V,u⟩:=QF (((w.alloc (.cells #[.string (sA M.fr),.string (sA M.to),.int .i64 M.size,.slice ha M.hdrs.length ap] 28)).alloc (.cells #[.slice none 0 0] 32)).alloc (.cells #[.nilIface] 84));have br:V.heap.size=w.heap.size+3:=by rw[u];simp
 have hP:V.heap[w.heap.size+1]?=some (.cells #[.slice none 0 0] 32):=by rw[u];exact Qn (Q5 (by simp))
 have hQ:V.heap[w.heap.size+1+1]?=some (.cells #[.nilIface] 84):=by rw[u];exact Q5 (by simp)
 have L:Below w.heap.size w V:=by rw[u];exact((Qp _).alloc (by simp) _).alloc (by simp;omega) _
 rw[<-u];clear u;have aN:=I L;have HP:=I hP;have HQ:=I hQ;refine(Tc v M (.slice ha M.hdrs.length ap) V (HH.o.fr (P:=fun _ _=>False) (Fr.of_below L) (fun _ _ h=>h)) aE.o (by omega) (by obtain⟨m,C⟩:=aI.o;exact⟨m,(L.cell (p:=⟨1,0,none⟩) (Qq C)).trans C⟩)).mono ?_;rintro e j ⟨i,rfl,hs,ac⟩;have HS:=I hs;have ai:=I ac;have aC:=ac.size;clear L hP hQ hs ac;go_wp2_with fail;refine(Pj _).mono ?_;rintro e c ⟨rfl,az,aq,aD⟩;obtain⟨b,y⟩:=QF (j.heap.size);have ba:c.heap.size=b+7:=by rw[aD,y];simp
 have aB:(j.alloc (.cells (Ko i (.slice none 0 0) 0 0 a.length) 188)).heap.size=b+1:=by rw[y];simp
 have aA:Y9 c (b+1):=by rw[<-aB];exact az
 have ad:Below (j.alloc (.cells (Ko i (.slice none 0 0) 0 0 a.length) 188)).heap.size (j.alloc (.cells (Ko i (.slice none 0 0) 0 0 a.length) 188)) c:=aq;have ar:c.heap[b]?=some (.cells (Ko i (.slice none 0 0) 0 0 a.length) 188):=by rw[y];exact QP (QC _ _) ad
 have aT:a.length<=400:=by omega
 have N:Below j.heap.size j c:=(Qp _).trans (ad.mono (by simp));have aL:Hid (MAt c V.heap.size b i M (ms0 v) a.length):=⟨.slice none 0 0,by omega,ar,HS.o.below N,Zj,QE,QE,QE,aT,by omega⟩;have aO:=I aA;have q:=I (aN.o.trans ((ai.o.trans (N.mono aC)).mono (by omega)));have s:=I (ai.o.trans (N.mono aC));have aZ:j.heap.size+6=b+6:=by omega
 have a0:j.heap.size+1+5=b+6:=by omega
 have a9:∀ o:Obj,(j.alloc o).heap.size=b+1:=fun o=>by rw[y];simp
 rw[a9,<-y];clear az aq ad ar N aA aB aD;have bq:V.heap.size<=b:=by omega
 have bp:b+7<=c.heap.size:=by omega
 clear y aZ a0 ba;go_wp2_with fail
 go_loopw [7] (fun dn wr=>∃(m:MS) (d:Nat),dn=.int .i64 (d:Int)/\MAt wr V.heap.size b i M m a.length/\Fr (PMc V.heap.size b) c wr/\d<=m.next/\∃ F,a.length - m.next<=F/\Xh M a a.length (ms0 v) 0=Xh M a F m d) (fun dn _=>a.length - (intOf dn).toNat)
 case atStart=>exact⟨ms0 v,0,rfl,aL.o,Fr.refl _ _,Nat.le_refl _,a.length,Nat.sub_le _ _,rfl⟩
 case round=>
  obtain⟨m,d,rfl,aY,au,bh,F,hF,aw⟩:=hrel;obtain⟨kv,t⟩:=aY;have H:=I t;have A:=I au;have Y:=I aw;have c0:=Qk t.blk;have c3:=QR t.blk;have c4:=QV t.blk;have bl:=t.nx;clear t au aw;by_cases hlt:m.next<a.length;rotate_left
  ·have aX:¬(m.next:Int)<(a.length:Int):=by omega
   have HL:Hid (Xh M a a.length (ms0 v) 0=(.ok m,d)):=by
    show _=_
    rw[Y.o]
    cases F with
    |zero=>rfl
    |succ F=>unfold Xh;rw[if_neg hlt]
   have HX:=I (Rp (v:=v) hlong HL.o);go_wp2_with fail;go_region_held3 (fun D=>D.cell? ⟨b,3,none⟩=some (.int .i64 (m.next:Int))/\D.cell? ⟨b,4,none⟩=some (.int .i64 (a.length:Int))) (first|go_keep) (fail)
   all_goals go_wp2_with fail
   all_goals refine(I7 V.heap.size i M m.st _ ((H.o.st).below (Zq (Below.refl _ _)))).mono ?_
   all_goals rintro e E ⟨lv,rfl,ah,Q⟩
   all_goals obtain⟨Z,k5,ag⟩:=QQ ah.1
   all_goals subst ag
   all_goals have aa:E.heap[w.heap.size+1]?=some (.cells #[.slice none 0 0] 32):=QP (show wr.drew.heap[w.heap.size+1]?=_ from A.o.block _ _ (QP HP.o s.o) (PMc.not (by decide) (by decide) (by decide) (by decide))) Q
   all_goals have ab:E.heap[w.heap.size+1+1]?=some (.cells #[.nilIface] 84):=QP (show wr.drew.heap[w.heap.size+1+1]?=_ from A.o.block _ _ (QP HQ.o s.o) (PMc.not (by decide) (by decide) (by decide) (by decide))) Q
   all_goals have T:=Qk aa
   all_goals have U:=Qk ab
   all_goals have z1:=Qu aa
   all_goals have z2:=Qu ab
   all_goals have bo:w.heap.size+3<=wr.heap.size:=by have h1:=A.o.size;have h2:=s.o.size;omega
   all_goals have aj:Below w.heap.size w E:=(q.o.trans ((A.o.below (B:=w.heap.size) (fun k o h=>by have:=h.1;omega) q.o.size).trans (((Zq (Below.refl wr.heap.size wr)).trans (Q.mono Ql)).mono (by omega))))
   all_goals have aF:=I aj
   all_goals have aM:=I ah
   all_goals clear aj ah aa ab Q
   all_goals go_wp2
   all_goals refine leaves_cons (f:=101) (args:=#[.pointer (some ⟨w.heap.size+1,0,none⟩),.pointer (some ⟨w.heap.size+1+1,0,none⟩)]) (by simp) (by simp[go_sem]) ?_
   all_goals refine(Lk ⟨w.heap.size+1,0,none⟩ ⟨w.heap.size+1+1,0,none⟩ _).mono ?_
   all_goals rintro e u' bc ⟨rfl,rfl,rfl⟩
   all_goals obtain⟨W,x,e0,e1,z⟩:=Ts HX.o aF.o aM.o T U (show w.heap.size+1+1<wr.drew.heap.size from by show _<wr.heap.size;omega)
   all_goals rw[<-x]
   all_goals clear x
   all_goals simp[Leaves,settle,results,results65,go_sem,e0,e1]
   all_goals exact z.o
  ·have aX:(m.next:Int)<(a.length:Int):=by omega
   have z0:=Qu H.o.blk;go_wp2_with fail;go_region_held3 (fun D=>D.cell? ⟨b,3,none⟩=some (.int .i64 (m.next:Int))/\D.cell? ⟨b,4,none⟩=some (.int .i64 (a.length:Int))) (first|go_keep) (fail)
   all_goals go_wp2_with fail
   all_goals have c2:=QJ H.o.blk
   all_goals have bn:(m.next:Int)<400:=by omega
   all_goals have bm:(0:Int)<=(m.next:Int):=by omega
   all_goals refine wp_region_noPanic ?_
   all_goals go_region
   all_goals refine NoPanic.normal ?_
   all_goals obtain⟨S,ae⟩:=H.o.atNext hlt
   all_goals obtain⟨W,x⟩:=QF (((wr.setCell ⟨b,2,none⟩ (.int .i64 (m.next:Int))).setCell ⟨b,3,none⟩ (.int .i64 ((m.next:Int)+1))).drew.drew)
   all_goals rw[<-x]at S ae
   all_goals rw[<-x]
   all_goals clear x
   all_goals have K:Fr (PMc V.heap.size b) c W:=A.o.trans ae
   all_goals obtain⟨g,cs,aW,l,av,bv,a1,a2,a3,a4,Z,a6,a7,ho⟩:=((HC.o.below q.o).pm K).get' m.next hlt
   all_goals subst aW
   all_goals have e0:W.cell? ⟨g,m.next*7,none⟩=some (.int .i64 a[m.next].op):=(Qi l _).trans a1
   all_goals have e1:W.cell? ⟨g,m.next*7+1,none⟩=some (.int .i64 a[m.next].n):=(Qi l _).trans a2
   all_goals have e2:W.cell? ⟨g,m.next*7+2,none⟩=some (.int .i64 a[m.next].tag):=(Qi l _).trans a3
   all_goals have e3:W.cell? ⟨g,m.next*7+3,none⟩=some (.bool a[m.next].oct):=(Qi l _).trans a4
   all_goals have e4:W.cell? ⟨g,m.next*7+4,none⟩=some av:=(Qi l _).trans Z
   all_goals have e5:W.cell? ⟨g,m.next*7+5,none⟩=some bv:=(Qi l _).trans a6
   all_goals have e6:W.cell? ⟨g,m.next*7+6,none⟩=some (.int .i64 a[m.next].at_):=(Qi l _).trans a7
   all_goals have en:W.cell? ⟨b,2,none⟩=some (.int .i64 (m.next:Int)):=S.now
   all_goals have aJ:=I S
   all_goals have G:=I K
   all_goals have HO:=I ho
   all_goals have aG:=I (q.o.trans (K.below (B:=w.heap.size) (fun k o h=>by have:=h.1;omega) q.o.size))
   all_goals clear S ae K l a1 a2 a3 a4 Z a6 a7 c0 c2 c3 c4 z0
   all_goals go_wp2_with fail
   all_goals refine(TH a[m.next] av bv V.heap.size b i M (atL m) a.length W aJ.o HO.o (aO.o.fr G.o) (HT.o.below aG.o)).mono ?_
   all_goals rintro e r ⟨R,J⟩
   all_goals have hgd:a.getD m.next E9=a[m.next]:=by simp[List.getD,hlt]
   all_goals cases hr:stepL M a.length a[m.next] (atL m)with
   |ok m'=>
    rw[hr]at J;obtain⟨rfl,ax⟩:=J;have ay:=Oq hr (show m.next+1<=a.length by omega);have bk:m.next+1<=m'.next:=ay.1
    have z:Hid (∃ F,a.length - m'.next<=F/\Xh M a a.length (ms0 v) 0=Xh M a F m' (d+1)):=by
     show ∃ F,_
     rw[Y.o]
     cases F with
     |zero=>omega
     |succ F=>exact⟨F,by omega,by rw[Xh,if_pos hlt,hgd,hr]⟩
    have aK:=I ax;have aH:=I (G.o.trans R);clear ax R ay hr;go_wp2_with fail;refine⟨⟨m',d+1,rfl,aK.o,aH.o,by omega,z.o⟩,?_⟩;simp[intOf];omega
   |error f=>
    rw[hr]at J;obtain⟨bb,bg,rfl,aQ⟩:=J;have af:Fr (PMc V.heap.size b) c r:=G.o.trans R;have bf:w.heap.size+3<=W.heap.size:=by have h1:=G.o.size;have h2:=s.o.size;omega
    have bd:W.heap.size<=r.heap.size:=R.size;have ak:r.heap[w.heap.size+1]?=some (.cells #[.slice none 0 0] 32):=af.block _ _ (QP HP.o s.o) (PMc.not (by decide) (by decide) (by decide) (by decide));have ao:r.heap[w.heap.size+1+1]?=some (.cells #[.nilIface] 84):=af.block _ _ (QP HQ.o s.o) (PMc.not (by decide) (by decide) (by decide) (by decide));have aP:Below w.heap.size w r:=q.o.trans (af.below (B:=w.heap.size) (fun k o h=>by have:=h.1;omega) q.o.size)
    have HR:=I (P9 (v:=v) (f:=f) (d:=d+1) hlong (by
     rw[Y.o]
     cases F with
     |zero=>omega
     | succ F=>rw [Xh,if_pos hlt,hgd,hr]))
    have T:=Qk ak;have U:=Qk ao;have z1:=Qu ak;have z2:=Qu ao;refine leaves_cons (f:=101) (args:=#[.pointer (some ⟨w.heap.size+1,0,none⟩),.pointer (some ⟨w.heap.size+1+1,0,none⟩)]) (by simp) (by simp[go_sem]) ?_;refine(Br (w.heap.size+1) (w.heap.size+1+1) _ _ ⟨bb,0,none⟩ [] _ T U z1 z2 (by omega)).mono ?_;rintro e u' bc ⟨rfl,rfl,lv,w7,a8,aS,rfl⟩;obtain⟨X,hX,y0,y1,hB,hA,aR⟩:=CV (f:=f) (bb:=bb) (P:=w.heap.size+1) aP (by omega) (by omega) a8 aS (by omega) (by omega) (by omega) aQ _ _ T U;rw[<-hX]
    have z:Hid (Jr (execL v a M) w (.returned (.tuple #[lv,.int .i64 ((d:Int)+1),.iface 125 (.pointer (some ⟨bb,0,none⟩))])) X):=by
     rw[HR.o];exact⟨hB,Qc ⟨lv,f,_,rfl,rfl,hA,by omega,aR⟩⟩
    obtain⟨la,lk,ag⟩:=QQ hA.1;subst ag;simp[Leaves,settle,results,results65,go_sem,y0,y1];exact z.o
theorem Sx(v:Bool)(b c:Value)(a:List Ins)(M:Msg)(w:World)(f:XN w b a)(g:XY w c M.hdrs)(e:SBd M (ss0 v))(d:1<w.heap.size)(i:∃ m,w.cell? ⟨1,0,none⟩=some (.int .i64 m))(k:Tab w)(j:a.length<=1000000) :
 Calls prog 65 #[.bool v,b,Xb M c] w (Jr (execL v a M) w):=by
 by_cases hl:400<a.length
 ·exact P0 v b c a M w f g e d i k j hl
 ·exact ON v b c a M w f g e d i k j hl
theorem Gg.codeV{i:Value}{e:List Ins}(h:Gg w B i e):XN w i e:=by
 obtain⟨b,rfl,q,d,p⟩:=h;by_cases h0:b=[]
 ·subst h0;exact Qd ⟨p rfl,rfl⟩
 ·rcases q.2 with⟨_,m⟩ | ⟨g,l,f,s,u,n,t,_,v,r⟩
  ·exact absurd (Xz m) h0
  ·refine Qc ⟨g,l,f,by rw[List.length_map];exact s,n,fun j c=>?_⟩;rw[List.length_map]at c
   have a:∀ k,k<7->f[j*7+k]?=(Js b[j])[k]?:=fun k d=>by
    rw[<-GU b j c k d,<-r,List.getElem?_take_of_lt (by omega)];simp
   have o:(b.map Prod.fst)[j]'(by simpa using c)=b[j].1:=by simp
   rw[o];exact⟨b[j].2.1,b[j].2.2,a 0 (by omega),a 1 (by omega),a 2 (by omega),a 3 (by omega),a 4 (by omega),a 5 (by omega),a 6 (by omega),d _ (List.getElem_mem c)⟩
def hcells(l:List (L8×L8)):List Value:=l.flatMap fun a=>[.string (sA a.1),.string (sA a.2)]
theorem Bz(l:List (L8×L8)):(hcells l).length=l.length*2:=by
 induction l with
 |nil=>rfl
 |cons p r ih=>simp only[hcells,List.flatMap_cons,Ze,ZN,Up]at ih ⊢;omega
theorem C9(l:List (L8×L8))(j:Nat)(a:j<l.length):(hcells l)[j*2]?=some (.string (sA l[j].1))/\(hcells l)[j*2+1]?=some (.string (sA l[j].2)):=by
 induction l generalizing j with
 |nil=>exact absurd a (Nat.not_lt_zero _)
 |cons p r ih=>
  cases j with
  |zero=>exact⟨rfl,rfl⟩
  |succ j=>
   have:=ih j (by simpa using a);have e:hcells (p::r)=.string (sA p.1) :: .string (sA p.2)::hcells r:=rfl;have b:(j+1)*2=j*2+1+1:=by omega
   have c:(j+1)*2+1=(j*2+1)+1+1:=by omega
   rw[e,b,List.getElem?_cons_succ,List.getElem?_cons_succ,List.getElem?_cons_succ,List.getElem?_cons_succ];exact this
theorem OM(l:List (L8×L8)):∀ u∈hcells l,u.oneCell'=true:=by
 intro u c;unfold hcells at c;obtain⟨a,_,b⟩:=List.mem_flatMap.1 c;simp at b;rcases b with rfl|rfl<;>rfl
theorem Ox{l:List (L8×L8)}{j:Nat}{u:Value}(h:(hcells l)[j]?=some u):∃ k,∃ hk:k<l.length,(j=k*2/\u=.string (sA l[k].1))\/(j=k*2+1/\u=.string (sA l[k].2)):=by
 have b:j<l.length*2:=by
  rw[<-Bz];exact(List.getElem?_eq_some_iff.1 h).1
 have hk:j / 2<l.length:=by omega
 have:=C9 l (j / 2) hk;by_cases e:j % 2=0
 ·have a:j=j / 2*2:=by omega
  refine⟨j / 2,hk,Qd ⟨a,?_⟩⟩;rw[a,this.1]at h;exact(Option.some.inj h).symm
 ·have a:j=j / 2*2+1:=by omega
  refine⟨j / 2,hk,Qc ⟨a,?_⟩⟩;rw[a,this.2]at h;exact(Option.some.inj h).symm
theorem Tryz.infoHeader:(prog.info? 50).map (fun i=>(i.zero,i.size,i.bytes))=some (some (.agg #[.string ⟨#[]⟩,.string ⟨#[]⟩]),2,32):=by kernel_rfl
def Ju(w:World)(B:Nat)(hv:Value)(hs:List (L8×L8)):Prop:=w.ownsRow B 50 2 hv hs.length (hcells hs)
theorem Ju.hdrV{a:List (L8×L8)}(h:Ju w B d a):XY w d a:=by
 rcases h.2 with⟨i,k⟩ | ⟨g,e,f,o,q,l,p,_,r,n⟩
 ·exact Qd ⟨i,Xz k⟩
 ·refine Qc ⟨g,e,f,o,l,fun j m=>?_⟩;obtain⟨b,c⟩:=C9 a j m;rw[<-n,List.getElem?_take_of_lt (by omega)]at b c;exact⟨by rw[<-b];simp,by rw[<-c];simp⟩
def Ul(w:World)(v:Value)(hs:List (L8×L8)):Prop:=
 ∃ a c,v=.slice a hs.length c/\(hs≠[]->∃ b off,a=some ⟨b,off,none⟩/\∀ j (hj:j<hs.length),w.cell? ⟨b,off+j*2,none⟩=some (.string (sA hs[j].1))/\w.cell? ⟨b,off+j*2+1,none⟩=some (.string (sA hs[j].2)))
theorem Ul.len{b:List (L8×L8)}(h:Ul w v b):∃ a c,v=.slice a b.length c:=by
 obtain⟨a,c,h,_⟩:=h;exact⟨a,c,h⟩
theorem Ul.below{g:List (L8×L8)}(h:Ul w v g)(f:Below w.heap.size w w'):Ul w' v g:=by
 obtain⟨a,c,h,i⟩:=h;refine⟨a,c,h,fun m=>?_⟩;obtain⟨b,n,rfl,k⟩:=i m;refine⟨b,n,rfl,fun j l=>?_⟩;obtain⟨d,e⟩:=k j l;exact⟨(f.cell (Qq d)).trans d,(f.cell (Qq e)).trans e⟩
theorem LU(M:Msg)(g d c:Nat)(w:World)(q:∀ j (r:j<M.hdrs.length),w.cell? ⟨g,d+j*2,none⟩=some (.string (sA M.hdrs[j].1))/\w.cell? ⟨g,d+j*2+1,none⟩=some (.string (sA M.hdrs[j].2)))(G:M.hdrs≠[])(W:M.hdrs.length<=100000) :
 Calls prog 40 #[Xb M (.slice (some ⟨g,d,none⟩) M.hdrs.length c)] w fun e w'=>∃ a k,e=.returned (Xb M (.slice a M.hdrs.length k))/\Ju w' w.heap.size (.slice a M.hdrs.length k) M.hdrs/\Below w.heap.size w w':=by
 obtain⟨N,F,J,K,L⟩:=info_parts Tryz.infoHeader;have E:g<w.heap.size:=Qq (q 0 (List.length_pos_iff.2 G)).1
 have A:Hid (∀ j u,(hcells M.hdrs)[j]?=some u->w.cell? ⟨g,d+j,none⟩=some u):=fun j u r=>by
  obtain⟨k,s,⟨rfl,rfl⟩ | ⟨rfl,rfl⟩⟩:=Ox r
  ·exact(q k s).1
  ·exact(q k s).2
 clear q
 have D:Hid (∀ j u,(hcells M.hdrs)[j]?=some u->((w.alloc (.cells #[.string (sA M.fr),.string (sA M.to),.int .i64 M.size,.slice (some ⟨g,d,none⟩) M.hdrs.length c] 28)).alloc (.cells #[.string ⟨#[]⟩,.string ⟨#[]⟩,.int .i64 0,.slice none 0 0] 28)).cell? ((⟨g,d,none⟩:Addr).add j)=some u):=fun j u r=>by
  rw[Addr.add_lit,ZA (a:=⟨g,d+j,none⟩) (w:=w) ((Below.heap_alloc _ _ _ (by simp;omega)).trans (Below.heap_alloc _ _ _ E))];exact A.o j u r
 have HP:Hid (((w.alloc (.cells #[.string (sA M.fr),.string (sA M.to),.int .i64 M.size,.slice (some ⟨g,d,none⟩) M.hdrs.length c] 28)).alloc (.cells #[.string ⟨#[]⟩,.string ⟨#[]⟩,.int .i64 0,.slice none 0 0] 28)).heap[w.heap.size]?=some (.cells #[.string (sA M.fr),.string (sA M.to),.int .i64 M.size,.slice (some ⟨g,d,none⟩) M.hdrs.length c] 28)):=Qn (QC _ _);have C:Hid (((w.alloc (.cells #[.string (sA M.fr),.string (sA M.to),.int .i64 M.size,.slice (some ⟨g,d,none⟩) M.hdrs.length c] 28)).alloc (.cells #[.string ⟨#[]⟩,.string ⟨#[]⟩,.int .i64 0,.slice none 0 0] 28)).heap[w.heap.size+1]?=some (.cells #[.string ⟨#[]⟩,.string ⟨#[]⟩,.int .i64 0,.slice none 0 0] 28)):=Q5 (by simp);unfold Xb;go_enter func40,ntmps40;go_wp2_with (at_builtin;refine wpList_append_own _ rfl _ _ 26 rfl (w.heap.size+2) 50 N _ 2 32 underlying26 F J K L rfl (by decide) _ _ _ rfl (Zj) ⟨g,d,none⟩ M.hdrs.length c (hcells M.hdrs) rfl (Bz _) D.o (OM _) (by unfold maxLen;omega) (by omega) (by simp) ?_;intro v5 f x p _;obtain⟨n,t,H⟩:=QQ x;subst H;have i:=(p.block w.heap.size (by simp;omega) (fun e=>nomatch e)).trans HP.o;have l:=(p.block (w.heap.size+1) (by simp) (fun e=>nomatch e)).trans C.o;have B:=I x;have z:=I (NR (((Below.refl w.heap.size w).alloc Ql (.cells #[.string (sA M.fr),.string (sA M.to),.int .i64 M.size,.slice (some ⟨g,d,none⟩) M.hdrs.length c] 28)).alloc (by simp) (.cells #[.string ⟨#[]⟩,.string ⟨#[]⟩,.int .i64 0,.slice none 0 0] 28)) p (by simp;omega) (fun k s=>nomatch s));have T:=I i;have U:=I l;have pf:=Qu i;have qf:=Qu l;have X:=Qk i;have Y:=Qr i;have Z:=QJ i;have p3:=QR i;have P:=Qk l;have Q:=Qr l;have R:=QJ l;have S:=QR l;clear x p i l);refine bodyPost_ret (v:=.agg #[.string (sA M.fr),.string (sA M.to),.int .i64 M.size,.slice n M.hdrs.length t]) (by simp[results,results40,go_sem,P,Q,R,S]) rfl ?_
 have y:f.ownsRow (w.heap.size+2) 50 2 (.slice n M.hdrs.length t) M.hdrs.length (hcells M.hdrs):=by
  have:=B.o;rw[Nat.zero_add,List.nil_append]at this;exact this
 have m:∀ b,b<w.heap.size+2->(Value.slice n M.hdrs.length t).ownBlock≠some b:=fun b V e=>by have:=(y.lt b e).1;omega
 refine⟨n,t,rfl,K5 (JJ (JJ (JJ (JJ (JJ y (m _ (by omega)) _ _) (m _ (by omega)) _ _) (m _ (by omega)) _ _) (m _ (by omega)) _ _) (m _ (by omega)) _ _) (by omega),?_⟩;exact((((z.o.setCell (show w.heap.size<=w.heap.size from Ql) _).setCell (show w.heap.size<=w.heap.size+1 by omega) _).setCell (show w.heap.size<=w.heap.size+1 by omega) _).setCell (show w.heap.size<=w.heap.size+1 by omega) _).setCell (show w.heap.size<=w.heap.size+1 by omega) _
theorem OP(M:Msg)(a:Option Addr)(c:Nat)(w:World)(b:M.hdrs=[]) :
 Calls prog 40 #[Xb M (.slice a 0 c)] w fun e w'=>∃ a k,e=.returned (Xb M (.slice a M.hdrs.length k))/\Ju w' w.heap.size (.slice a M.hdrs.length k) M.hdrs/\Below w.heap.size w w':=by
 have f:Hid (M.hdrs.length=0):=by show _=_;rw[b];rfl
 have d:=I b;clear b;unfold Xb
 cases a with
 |none=>
  go_enter func40,ntmps40;go_wp2;refine bodyPost_ret (v:=.agg #[.string (sA M.fr),.string (sA M.to),.int .i64 M.size,.slice none 0 0]) (by simp[results,results40,go_sem]) rfl ?_;refine⟨none,0,by rw[f.o],?_,?_⟩
  ·unfold Ju;rw[d.o];exact Zj
  ·exact(Qp _).alloc (by simp) _
 |some a=>
  go_enter func40,ntmps40;go_wp2;refine bodyPost_ret (v:=.agg #[.string (sA M.fr),.string (sA M.to),.int .i64 M.size,.slice none 0 0]) (by simp[results,results40,go_sem]) rfl ?_;refine⟨none,0,by rw[f.o],?_,?_⟩
  ·unfold Ju;rw[d.o];exact Zj
  ·exact(Qp _).alloc (by simp) _
theorem MJ(M:Msg)(d:Value)(w:World)(i:Ul w d M.hdrs)(j:M.hdrs.length<=100000) :
 Calls prog 40 #[Xb M d] w fun e w'=>∃ a k,e=.returned (Xb M (.slice a M.hdrs.length k))/\Ju w' w.heap.size (.slice a M.hdrs.length k) M.hdrs/\Below w.heap.size w w':=by
 obtain⟨a,c,rfl,f⟩:=i;by_cases h0:M.hdrs=[]
 ·have e:M.hdrs.length=0:=by rw[h0];rfl
  rw[e];have:=OP M a c w h0;rw[e]at this;exact this
 ·obtain⟨b,l,rfl,g⟩:=f h0;exact LU M b l c w g h0 j
theorem SV(M:Msg)(a:Option Addr)(k B:Nat)(w:World)(x:Ju w B (.slice a M.hdrs.length k) M.hdrs)(X:M.hdrs.length<=100000) :
 Calls prog 42 #[Xb M (.slice a M.hdrs.length k)] w fun e w'=>e=.returned (.tuple #[])/\Fr (fun k o=>B<=k/\∃ cs,o=.cells cs 50) w w':=by
 obtain⟨d,f⟩:=QF (w.alloc (.cells #[.string (sA M.fr),.string (sA M.to),.int .i64 M.size,.slice a M.hdrs.length k] 28));have A:Hid (Below w.heap.size w d):=by show Below _ _ _;rw[f];exact Qp _
 have D:Hid (d.heap[w.heap.size]?=some (.cells #[.string (sA M.fr),.string (sA M.to),.int .i64 M.size,.slice a M.hdrs.length k] 28)):=by show _=_;rw[f];exact QC _ _
 have E:Hid (d.ownsRow B 50 2 (.slice a M.hdrs.length k) M.hdrs.length (hcells M.hdrs)):=by show World.ownsRow _ _ _ _ _ _ _;rw[f];exact World.ownsRow.alloc x _
 have F:=I f;generalize hn:M.hdrs.length=n at *;clear x f;unfold Xb;go_enter func42,ntmps42;go_wp2_with fail;rw[<-F.o]
 go_loopw [2,6] (fun _ i wr=>∃(j:Nat) (l:List Value),j<=n/\i=.int .i64 (j:Int)/\wr.ownsRow B 50 2 (.slice a n k) n l/\Fr (fun k o=>B<=k/\∃ cs,o=.cells cs 50) d wr) (fun _ i _=>n - (intOf i).toNat)
 case atStart=>exact⟨0,_,QE,by go_num,E.o,Fr.refl _ _⟩
 case round=>
  obtain⟨j,l,V,rfl,b,hF⟩:=hrel;have m:=hF.block _ _ D.o (fun h=>by obtain⟨_,cs,e⟩:=h;injection e with _ e;exact absurd e (by decide));have R:=QR m;by_cases hlt:j<n
  ·obtain⟨g,c,N,S,U,hcells⟩:=Xo b (by omega);injection N with hv1 hv2 hv3
   subst hv1 hv3;have P:=b.1;obtain⟨u1,Y⟩:∃ u,wr.cell? ⟨g,j*2,none⟩=some u:=⟨l[j*2]'(by omega),hcells _ _ (List.getElem?_eq_getElem (by omega))⟩;obtain⟨u2,Z⟩:∃ u,wr.cell? ⟨g,j*2+1,none⟩=some u:=⟨l[j*2+1]'(by omega),hcells _ _ (List.getElem?_eq_getElem (by omega))⟩;have T:∀ o,wr.frozen? ⟨g,o,none⟩=false:=b.frozenAt;have G:∀ W:World,W.ownsRow B 50 2 (.slice (some ⟨g,0,none⟩) n k) n l->True:=fun _ _=>trivial
   obtain⟨q,s⟩:=b.stored (j*2) (.string ⟨#[109,105,110,101]⟩);obtain⟨y,t⟩:=q.stored (j*2+1) (.string ⟨#[109,105,110,101]⟩);have p:∀(u v:World) (z:List Value),u.ownsRow B 50 2 (.slice (some ⟨g,0,none⟩) n k) n z->u.grownBy v (some g)->Fr (fun k o=>B<=k/\∃ cs,o=.cells cs 50) u v:=fun u v z K H=>(Fr.refl _ u).grown H (fun Q o e L=>Y7 K Q o e L)
   have r:=I (And.intro y ((hF.trans (p _ _ _ b s)).trans (p _ _ _ q t)));clear G p q y s t b hF m hcells P;go_wp2;go_roundw
   case rel=>exact⟨j+1,_,by omega,by go_num,r.o.1,r.o.2⟩
   case measure=>simp[intOf];omega
  ·have C:=I hF;have J:j=n:=by omega
   subst J;clear hF m b;go_wp2;go_end0;exact⟨rfl,(Fr.of_below A.o).trans C.o⟩
def UN(f:Option FZ):FZ:=f.getD (0,-1)
theorem ActsV.fr{P:Nat->Obj->Prop}(h:ActsV w B v l)(hf:Fr P w w')(hp:∀ k cs,¬ P k (.cells cs 52)):ActsV w' B v l:=⟨Xe h.1 hf hp,h.2⟩
theorem ActsV.below(h:ActsV w B v l)(hb:Below w.heap.size w w'):ActsV w' B v l:=h.fr (P:=fun _ _=>False) (Fr.of_below hb) (fun _ _ h=>h)
theorem Ju.below{l:List (L8×L8)}(h:Ju w B v l)(hb:Below w.heap.size w w'):Ju w' B v l:=Xe h (P:=fun _ _=>False) (Fr.of_below hb) (fun _ _ h=>h)
theorem PT(v:Bool)(u m:Option Addr)(y x q p:Nat)(j:List Ins)(M:Msg)(w:World)(K:XN w (.slice u y x) j)(L:XY w (.slice m q p) M.hdrs)(H:SBd M (ss0 v))(he:Env w)(Z:j.length<=1000000) :
 Calls prog 45 #[.bool v,.slice u y x,Xb M (.slice m q p)] w (Jr (execL v j M) w):=by
 obtain⟨m1,N⟩:=he.m1;have g:1<w.heap.size:=Qq N;have S:=I K;have U:=I L;have T:=I he;have R:=I H;obtain⟨r,C⟩:=Qe (execL v j M);have W:=I C;rw[C];clear K L he H N C m1;have B:∀(a:Option Addr) (n c:Nat),Xb M (.slice a n c)=.agg #[.string (sA M.fr),.string (sA M.to),.int .i64 M.size,.slice a n c]:=fun _ _ _=>rfl
 rw[B];have V:=I B;clear B;obtain⟨d,z⟩:=QF (w.alloc (.cells #[.string (sA M.fr),.string (sA M.to),.int .i64 M.size,.slice m q p] 28));have i:Hid (Below w.heap.size w d):=by show Below _ _ _;rw[z];exact Qp _
 have X:=I z;have l:=i.o.size;clear z;go_enter func45,ntmps45;go_wp2_with fail;rw[<-X.o,<-V.o]
 have E:Hid (Calls prog 65 #[.bool v,.slice u y x,Xb M (.slice m q p)] d (Jr r d)):=by
  show Calls _ _ _ _ _
  rw[<-W.o];have G:=T.o.below i.o;exact Sx v _ _ j M d (S.o.below i.o) (U.o.fr (P:=fun _ _=>False) (Fr.of_below i.o) (fun _ _ h=>h)) R.o (by omega) G.m1 G.tab Z
 refine E.o.mono ?_;clear E;rintro e Q ⟨F,Y⟩;have D:=I (i.o.trans (F.mono l));clear F;rcases Y with⟨lv,g,rfl,b⟩ | ⟨lv,f,t,g,rfl,b,J,hF⟩
 ·obtain⟨la,k,A⟩:=QQ b.1;subst A;have s:Hid (Jr r w (.returned (.tuple #[.slice la r.1.length k,.int .i64 (r.2.1:Int),.nilIface])) Q):=⟨D.o,Qd ⟨_,g,rfl,b.lo l⟩⟩;clear b g;go_wp2;refine bodyPost_ret (v:=.tuple #[.slice la r.1.length k,.int .i64 (r.2.1:Int),.nilIface]) (by simp[results,results45,go_sem]) rfl ?_;exact s.o
 ·obtain⟨la,k,A⟩:=QQ b.1;subst A;have s:Hid (Jr r w (.returned (.tuple #[.slice la r.1.length k,.int .i64 (r.2.1:Int),.iface 125 (.pointer (some ⟨t,0,none⟩))])) Q):=⟨D.o,Qc ⟨_,f,t,g,rfl,b.lo l,Qs l J,hF⟩⟩;clear b g hF J;go_wp2;refine bodyPost_ret (v:=.tuple #[.slice la r.1.length k,.int .i64 (r.2.1:Int),.iface 125 (.pointer (some ⟨t,0,none⟩))]) (by simp[results,results45,go_sem]) rfl ?_;exact s.o
def TK(r:List (Int×L8)×Nat×Option FZ)(w:World)(e:Ending)(w':World):Prop:=
 Below w.heap.size w w'/\∃ lv,e=.returned (.tuple #[lv,.int .i64 (r.2.1:Int),.int .i64 (UN r.2.2).1,.int .i64 (UN r.2.2).2])/\ActsV w' w.heap.size lv r.1
def Ke(w:World)(B:Nat)(v:Value)(n:Nat):Prop:=
 (v=.slice none 0 0/\n=0)\/∃ g c cs,v=.slice (some ⟨g,0,none⟩) n c/\B<=g/\w.heap[g]?=some (.cells cs 9)/\n<=cs.size
theorem Yl.str{m:Value}{e:List IV}(h:Yl w B m e){p:IV}(b:p∈e):Ke w B p.2.1 p.1.a.length:=by
 rcases(h.ok p b).a with⟨i,j⟩ | ⟨g,c,d,f,k,l⟩
 ·exact Qd ⟨i,by rw[j];rfl⟩
 ·refine Qc ⟨g,c,f,d,h.ap.ge g (AT.2 ⟨p,b,Qd (by rw[d];rfl)⟩),k,?_⟩;by_cases h0:p.1.a.length=0
  ·omega
  ·obtain⟨n,_⟩:=Array.getElem?_eq_some_iff.1 (l (p.1.a.length - 1) (by omega));omega
theorem Yl.fr{P:Nat->Obj->Prop}{w w':World}{B:Nat}{lv:Value}{ps:List IV}(h:Yl w B lv ps)(hf:Fr P w w')(h2:∀ k cs,¬ P k (.cells cs 63))(h3:∀ k cs,¬ P k (.cells cs 9)):Yl w' B lv ps:=⟨Xe h.row hf h2,fun p hp=>(h.ok p hp).fr hf h3,h.ap,h.nil⟩
theorem Yl.below{lv:Value}{ps:List IV}(h:Yl w B lv ps)(hb:Below w.heap.size w w'):Yl w' B lv ps:=h.fr (P:=fun _ _=>False) (Fr.of_below hb) (fun _ _ h=>h) (fun _ _ h=>h)
theorem Ke.set(h:Ke w B v n)(b j:Nat)(x:Value):Ke (w.setCell ⟨b,j,none⟩ x) B v n:=by
 rcases h with h | ⟨g,c,k,i,d,a,f⟩
 ·exact Qd h
 ·by_cases e:g=b
  ·subst e;exact Qc ⟨g,c,_,i,d,Qt _ _ _ _ _ _ a,by simpa using f⟩
  ·exact Qc ⟨g,c,k,i,d,by rw[QK e];exact a,f⟩
theorem Ke.len(h:Ke w B v n):∃ a c,v=.slice a n c:=by
 rcases h with⟨rfl,rfl⟩ | ⟨g,c,d,b,_⟩
 ·exact⟨_,_,rfl⟩
 ·exact⟨_,_,b⟩
def PWr(B:Nat)(k:Nat)(o:Obj):Prop:=B<=k/\((∃ cs,o=.cells cs 9)\/∃ cs,o=.cells cs 63)
theorem PWr.not{k:Nat}{a:Array Value}{t:TypeId}{f:Nat×Nat}(c:t≠9)(d:t≠63):¬ PWr B k (.cells a t f):=fun h=>by
 rcases h.2 with⟨b,e⟩ | ⟨b,e⟩
 ·injection e with _ e;exact c e
 ·injection e with _ e;exact d e
structure WrI (W w:World) (B:Nat) (lv:Value) (ps:List IV) (i:Nat) (xs:List Value):Prop where
 row:w.ownsRow B 63 7 lv ps.length xs
 left:∀ j (hj:j < ps.length),i<=j->xs[j*7+4]?=some ps[j].2.1
 str:∀ p∈ps,Ke w B p.2.1 p.1.a.length
 fr:Fr (PWr B) W w
theorem WrI.text{a:Value}{c:List IV}(h:WrI W w B a c i xs){g:Nat}{d:Array Value}(b:w.heap[g]?=some (.cells d 9))(f:B<=g)(j:Nat)(x:Value):WrI W (w.setCell ⟨g,j,none⟩ x) B a c i xs:=by
 have k:a.ownBlock≠some g:=fun e=>by
  obtain⟨_,m,e⟩:=Y7 h.row g _ e b;injection e with _ e
  exact absurd e (by decide)
 exact⟨JJ h.row k _ _,h.left,fun p l=>(h.str p l).set _ _ _,h.fr.set b ⟨f,Qd ⟨_,rfl⟩⟩ _ _⟩
theorem WrI.over{g c:Nat}{b:List IV}(h:WrI W w B (.slice (some ⟨g,0,none⟩) b.length c) b i xs)(l m n r s t v:Value) :
 ∃ xs',WrI W (((((((w.setCell ⟨g,i*7,none⟩ l).setCell ⟨g,i*7+1,none⟩ m).setCell ⟨g,i*7+2,none⟩ n).setCell ⟨g,i*7+3,none⟩ r).setCell ⟨g,i*7+4,none⟩ s).setCell ⟨g,i*7+5,none⟩ t).setCell ⟨g,i*7+6,none⟩ v) B (.slice (some ⟨g,0,none⟩) b.length c) b (i+1) xs':=by
 have d:∀(w:World) (xs:List Value) (q:Nat) (u:Value),w.ownsRow B 63 7 (.slice (some ⟨g,0,none⟩) b.length c) b.length xs->(∀ p∈b,Ke w B p.2.1 p.1.a.length)->Fr (PWr B) W w->
  (w.setCell ⟨g,q,none⟩ u).ownsRow B 63 7 (.slice (some ⟨g,0,none⟩) b.length c) b.length (xs.set q u)/\(∀ p∈b,Ke (w.setCell ⟨g,q,none⟩ u) B p.2.1 p.1.a.length)/\Fr (PWr B) W (w.setCell ⟨g,q,none⟩ u):=fun w xs q u f X Y=>by
  obtain⟨s1,s2⟩:=f.stored q u;refine⟨s1,fun p hp=>(X p hp).set _ _ _,Y.trans ((Fr.refl _ w).grown s2 (fun k o e ho=>?_))⟩;obtain⟨Z,V,aa⟩:=Y7 f k o e ho;exact⟨Z,Qc ⟨V,aa⟩⟩
 obtain⟨x,F,N⟩:=d _ _ (i*7) l h.row h.str h.fr;obtain⟨y,G,P⟩:=d _ _ (i*7+1) m x F N;obtain⟨z,H,Q⟩:=d _ _ (i*7+2) n y G P;obtain⟨A,J,R⟩:=d _ _ (i*7+3) r z H Q;obtain⟨C,K,S⟩:=d _ _ (i*7+4) s A J R;obtain⟨D,L,T⟩:=d _ _ (i*7+5) t C K S;obtain⟨E,M,U⟩:=d _ _ (i*7+6) v D L T;refine⟨_,E,fun j hj ab=>?_,M,U⟩;have hl:=h.left j hj (by omega);rw[List.getElem?_set_ne (by omega),List.getElem?_set_ne (by omega),List.getElem?_set_ne (by omega),List.getElem?_set_ne (by omega),List.getElem?_set_ne (by omega),List.getElem?_set_ne (by omega),List.getElem?_set_ne (by omega)];exact hl
theorem Rf(v:Bool)(cv hv:Value)(m:List Ins)(M:Msg)(w:World)(he:Env w)(hc:XN w cv m)(b1:m.length<=1000000)(hh:Ul w hv M.hdrs)(aB:∀ v,SBd M (ss0 v)) :
 Calls prog 27 #[.bool v,cv,Xb M hv] w (TK (execL v m M) w):=by
 have bf:=(aB true).hl;obtain⟨ah,ch,rfl⟩:=hh.len;obtain⟨ca,cc,rfl⟩:=hc.len;have HC:=I hc;have bA:=I hh;have HE:=I he;have bs:=I aB;obtain⟨r,aJ⟩:=Qe (execL v m M);rw[aJ];have bL:=I aJ;obtain⟨i0,b5,ci,cj,ck⟩:=info_parts Tryz.infoIns;clear hh he aB hc aJ;have aF:∀(a:Option Addr) (n c:Nat),Xb M (.slice a n c)=.agg #[.string (sA M.fr),.string (sA M.to),.int .i64 M.size,.slice a n c]:=fun _ _ _=>rfl
 rw[aF];have ab:=I aF;clear aF;go_enter func27,ntmps27;go_wp2_with fail;obtain⟨W0,aA⟩:=QF (w.alloc (.cells #[.string (sA M.fr),.string (sA M.to),.int .i64 M.size,.slice ah M.hdrs.length ch] 28));rw[<-aA];have P:Below w.heap.size w W0:=by rw[aA];exact Qp _
 have aV:=P.size;clear aA;rw[<-ab.o];refine(MJ M _ W0 (bA.o.below P) bf).mono ?_;rintro e y ⟨S,Y,rfl,bg,aW⟩;have aw:Below w.heap.size w y:=P.trans (aW.mono aV);have bE:=I bg;have bq:=I aw;have bT:=aw.size;clear bg aw aW P;rw[ab.o];go_wp2_with fail;obtain⟨V,hV⟩:=QF (y.alloc (.cells #[.string (sA M.fr),.string (sA M.to),.int .i64 M.size,.slice S M.hdrs.length Y] 28));rw[<-hV];have ay:Below y.heap.size y V:=by rw[hV];exact Qp _
 have az:V.heap[y.heap.size]?=some (.cells #[.string (sA M.fr),.string (sA M.to),.int .i64 M.size,.slice S M.hdrs.length Y] 28):=by rw[hV];exact QC _ _
 have ae:=bq.o.trans (ay.mono bT);have bG:=I (bE.o.below ay);have cn:=I (HE.o.below ae);have bx:=I (HC.o.below ae);have bt:=I ae;have bC:=I az;have aY:=ae.size;have cp:=Qg az;clear ay az hV ae
 go_loopw [11,13,25] (fun lv _ i wr=>∃(k:Nat) (d:List IV),k<=m.length/\i=.int .i64 (k:Int)/\d.map Prod.fst=m.take k/\Yl wr V.heap.size lv d/\Below V.heap.size V wr) (fun _ _ i _=>m.length - (intOf i).toNat)
 case atStart=>exact⟨0,[],QE,by go_num,rfl,⟨Zj,(fun p D=>nomatch D),Apt.nil _,fun _=>rfl⟩,Below.refl _ _⟩
 case round=>
  obtain⟨k,d,hk,rfl,U,J,F⟩:=hrel;have bX:=F.size
  have ap:d.length=k:=by
   have:=congrArg List.length U;rw[List.length_map,List.length_take]at this;omega
  by_cases hlt:k<m.length
  ·obtain⟨g,bS,b2,aC,av,bv,a0,aS,a2,a3,a4,B,a6,x⟩:=bx.o.get' k hlt;subst b2;have a9:=Qg aC
   have H:∀ j u,bS[j]?=some u->wr.cell? ⟨g,j,none⟩=some u:=fun j u hj=>by
    rw[F.cell (p:=⟨g,j,none⟩) a9,Qi aC];exact hj
   have e0:=H _ _ a0;have e1:=H _ _ aS;have e2:=H _ _ a2;have e3:=H _ _ a3;have e4:=H _ _ a4;have e5:=H _ _ B;have e6:=H _ _ a6
   have HS:Hid (m.take (k+1)=m.take k++[m[k]]):=by
    show _=_
    rw[List.take_add_one,List.getElem?_eq_getElem hlt];rfl
   obtain⟨i,hi⟩:=Qe (m[k]);rw[hi]at e0 e1 e2 e3 e6 x HS;obtain⟨aa,ac,bY⟩:=x.a.len;obtain⟨ba,bc,b0⟩:=x.b.len;subst bY b0;have ai:=x.below (F.mono Ql);have HI:=I (And.intro x.al (And.intro x.bl (And.intro x.an (And.intro x.bn (And.intro x.n1 x.n2)))));have han:=x.an;have bZ:=x.bn;have P:∀ o,Below wr.heap.size wr (wr.alloc o):=fun o=>Qp o
   have HSA:Hid (∀ o,TxO (wr.alloc o) (.slice aa i.a.length ac) i.a/\roomZ (.slice aa i.a.length ac)):=fun o=>⟨(ai.a.below (P o)).toO,ai.a.roomZ⟩
   have HSB:Hid (TxO wr (.slice ba i.b.length bc) i.b/\roomZ (.slice ba i.b.length bc)):=⟨ai.b.toO,ai.b.roomZ⟩;have HBX:Hid ((wr.alloc (.cells #[.int .i64 i.op,.int .i64 i.n,.int .i64 i.tag,.bool i.oct,.slice aa i.a.length ac,.slice ba i.b.length bc,.int .i64 i.at_] 63)).heap[wr.heap.size]?=some (.cells #[.int .i64 i.op,.int .i64 i.n,.int .i64 i.tag,.bool i.oct,.slice aa i.a.length ac,.slice ba i.b.length bc,.int .i64 i.at_] 63)):=QC _ _;have aj:=I J;have bJ:=I U;have HB:=I F;obtain⟨la,lc,aE⟩:=QQ J.row;subst aE;have cu:d.length<=1000000:=by omega
   have co:=I ap;clear ap;clear H x ai J U F P aC a0 aS a2 a3 a4 B a6 hi
   go_wp2_with (first
    |(have gg:=aQ;at_builtin;refine wpList_append_own _ rfl _ _ 45 rfl V.heap.size 63 i0 _ 7 88 underlying45 b5 ci cj ck rfl (by decide) _ _ _ rfl (bK.o _) ⟨l.heap.size,0,none⟩ 1 1 (ZH [(i,.slice a4 i.a.length k4,.slice B i.b.length Q)]) rfl rfl HN.o (Cq _ _ _ _ _ _ _) (by unfold maxLen;omega) (by omega) (by simp;omega) ?_;intro v6 w6 aH a8 _;obtain⟨a6,k6,cf⟩:=QQ aH;subst cf;have aP:=I (Cc (la:=0) rfl bX aj.o HB2.o HX2.o HOA.o Z.o aQ.o bQ.o HI.o aH a8);clear aH a8;skip)
    |(have gg:=HOA;at_builtin;refine Gy rfl _ _ rfl i.b (.slice ba i.b.length bc) rfl rfl HSB2.o bZ ?_;intro B Q l bh ao;have Z:=I (show Below w2.heap.size (w2.setCell ⟨wr.heap.size,4,none⟩ (.slice a4 i.a.length k4)) l from(by simpa using ao));have aQ:=I (show l.ownsRow w2.heap.size 9 1 (.slice B i.b.length Q) i.b.length (Qv i.b)from(by simpa using bh));have E:=QP (Qt _ _ 4 (.slice a4 i.a.length k4) _ _ HX2.o) ao;have bQ:=I E;have cx:w2.heap.size<=l.heap.size:=(by have:=ao.size;simpa using this);have d0:=Qk E;have d1:=Qr E;have d2:=QJ E;have d3:=QR E;have d4:=QV E;have d5:=Q9 E;have d6:=Zz E;have T:=Qu E;have bK:Hid (∀ o,((l.setCell ⟨wr.heap.size,5,none⟩ (.slice B i.b.length Q)).alloc o).ownsRow V.heap.size 63 7 (.slice la d.length lc) d.length (ZH d)):=C2 aj.o.row rfl HB2.o HX2.o Z.o;have HN:Hid (∀ j u,(ZH [(i,.slice a4 i.a.length k4,.slice B i.b.length Q)])[j]?=some u->((l.setCell ⟨wr.heap.size,5,none⟩ (.slice B i.b.length Q)).alloc (.cells #[.int .i64 i.op,.int .i64 i.n,.int .i64 i.tag,.bool i.oct,.slice a4 i.a.length k4,.slice B i.b.length Q,.int .i64 i.at_] 63)).cell? ((⟨l.heap.size,0,none⟩:Addr).add j)=some u):=Ds _ _;clear bh ao E;skip)
    | (at_builtin;refine Gy rfl _ _ rfl i.a (.slice aa i.a.length ac) rfl rfl (HSA.o _) han ?_;intro a4 k4 w2 ho2 hb2;have HB2:=I (show Below (wr.heap.size+1) (wr.alloc (.cells #[.int .i64 i.op,.int .i64 i.n,.int .i64 i.tag,.bool i.oct,.slice aa i.a.length ac,.slice ba i.b.length bc,.int .i64 i.at_] 63)) w2 from (by simpa using hb2));have HOA:=I (show w2.ownsRow (wr.heap.size+1) 9 1 (.slice a4 i.a.length k4) i.a.length (Qv i.a) from (by simpa using ho2));have hx2:=QP HBX.o hb2;have HX2:=I hx2;have hzw2:wr.heap.size+1<=w2.heap.size:=(by have:=hb2.size;simpa using this);have c0:=Qk hx2;have c1:=Qr hx2;have c2:=QJ hx2;have c3:=QR hx2;have c4:=QV hx2;have c5:=Q9 hx2;have c6:=Zz hx2;have hf2:=Qu hx2;have HSB2:Hid (TxO (w2.setCell ⟨wr.heap.size,4,none⟩ (.slice a4 i.a.length k4)) (.slice ba i.b.length bc) i.b∧roomZ (.slice ba i.b.length bc)):=⟨HSB.o.1.below (((Qp _).trans (hb2.mono (by simp))).setCell Ql _),HSB.o.2⟩;clear ho2 hb2 hx2;skip))
   go_roundw
   case rel=>exact⟨k+1,d++[(i,.slice a4 i.a.length k4,.slice B i.b.length Q)],by omega,by go_num,by rw[List.map_append,bJ.o,HS.o];rfl,aP.o.1,HB.o.trans aP.o.2⟩
   case measure=>simp[intOf];omega
  ·have b7:k=m.length:=by omega
   subst b7;rw[List.take_length]at U;have aj:=I J;have ce:d.length=m.length:=ap;have A:=bt.o.trans (F.mono aY);have bu:=I A;have aO:=I (HE.o.below A);have aR:=I (bG.o.below F);have ad:=I (QP bC.o F);have bp:Hid (∀ p∈d,p.1.a.length<=1000000):=fun p D=>(J.ok p D).an
   obtain⟨aM,aq,aE⟩:=QQ J.row;subst aE
   have HX:Hid (Calls prog 45 #[.bool v,.slice aM d.length aq,Xb M (.slice S M.hdrs.length Y)] wr (Jr r wr)):=by
    show Calls _ _ _ _ _
    rw[<-bL.o];have aZ:=J.codeP.codeO.codeV;rw[U]at aZ;exact PT v _ _ _ _ _ _ m M wr aZ aR.o.hdrV (bs.o _) aO.o b1
   have m0:=Qk ad.o;have m1:=Qr ad.o;have m2:=QJ ad.o;have m3:=QR ad.o;have bj:=A.size;have cw:d.length<=1000000:=by omega
   clear J U F A ap ce hlt hk;go_wp2_with fail;rw[<-ab.o];refine HX.o.mono ?_;rintro e w2 ⟨A,hX⟩;have HB2:=I (bu.o.trans (A.mono bj));have cm:=I (aO.o.below A);have bF:=I (aR.o.below A);have ak:=I (QP ad.o A);have bw:=I (aj.o.below A);clear m0 m1 m2 m3;have m0:=Qk ak.o;have m1:=Qr ak.o;have m2:=QJ ak.o;have m3:=QR ak.o;have bU:=HB2.o.size;clear A HX
   obtain⟨R,ev,rfl,N,aX⟩:∃ R ev,e=.returned (.tuple #[R,.int .i64 (r.2.1:Int),ev])/\ActsV w2 _ R r.1/\(∀ W:World,Xk W->(∀(k:Nat) (z:Array Value),w2.heap[k]?=some (Obj.cells z 130)->W.heap[k]?=some (Obj.cells z 130))->Calls prog 37 #[ev] W fun e w'=>e=.returned (.tuple #[.int .i64 (UN r.2.2).1,.int .i64 (UN r.2.2).2])/\Below W.heap.size W w'):=by
    rcases hX with⟨R,h1,rfl,N⟩ | ⟨R,f,bb,h1,rfl,N,cq,hF⟩
    ·refine⟨R,_,rfl,N,fun W _ _=>?_⟩;rw[h1];exact Eg W
    ·refine⟨R,_,rfl,N,fun W hE hk=>?_⟩;rw[h1];exact Cj bb f.1 f.2 W hE (Qi (hk _ _ hF) 0) (Qi (hk _ _ hF) 1)
   have bN:=I aX;have HA:=I N;obtain⟨la,lc,b9⟩:=QQ N.1;subst b9;clear N aX;rw[ab.o];go_wp2_with fail;rw[<-ab.o];refine(SV M S Y w.heap.size w2 (K5 bF.o aV) bf).mono ?_;rintro e l ⟨rfl,T⟩;have ag:∀(t:TypeId),t≠50->∀(k:Nat) (z:Array Value),¬(w.heap.size<=k/\∃ aT,Obj.cells z t=.cells aT 50):=fun t ht k z ⟨_,aT,e⟩=>by injection e with _ e;exact ht e
   have Z:=I (HB2.o.trans (T.below (fun k o h=>h.1) bU));have bk:=I (HA.o.fr T (ag _ (by decide)));have bB:Hid (∀(k:Nat) (z:Array Value),w2.heap[k]?=some (Obj.cells z 130)->l.heap[k]?=some (Obj.cells z 130)):=fun k z h=>T.block _ _ h (ag _ (by decide) _ _)
   have aN:=I (bw.o.fr T (ag _ (by decide)) (ag _ (by decide)));have bV:=Z.o.size;clear T ag;have bM:Hid (∀ p∈d,Ke l V.heap.size p.2.1 p.1.a.length):=fun p D=>aN.o.str D
   have bO:Hid (WrI l l V.heap.size (.slice aM d.length aq) d 0 (ZH d)):=⟨aN.o.row,fun j hj _=>by rw[GU d j hj 4 (by omega)];rfl,bM.o,Fr.refl _ _⟩;go_wp2_with fail
   go_loopw [17,18,54] (fun _ _ ix wq=>∃(i:Nat) (xs:List Value),i<=d.length/\ix=.int .i64 (i:Int)/\WrI l wq V.heap.size (.slice aM d.length aq) d i xs) (fun _ _ ix _=>d.length - (intOf ix).toNat)
   case atStart=>exact⟨0,_,QE,by go_num,bO.o⟩
   case round=>
    obtain⟨i,xs,hi,rfl,G⟩:=hrel;by_cases hilt:i<d.length
    ·obtain⟨g,gc,b3,a9,cr,bd⟩:=Xo G.row (by omega);injection b3 with hgv1 hgv2 hgv3
     subst hgv1;have c4:wr.cell? ⟨g,i*7+4,none⟩=some d[i].2.1:=bd _ _ (G.left i hilt Ql);have X:=G.str d[i] (List.getElem_mem hilt);obtain⟨p,D⟩:=Qe (d[i]);have aI:p∈d:=by rw[<-D];exact List.getElem_mem hilt
     rw[D]at c4 X;obtain⟨sa,sc,aK⟩:=X.len;rw[aK]at c4;have au:=I aK;have cd:=bp.o p aI;have bI:=I aI;have HP:=I D;have b6:(i:Int)<(d.length:Int):=by omega
     have bP:=I G;obtain⟨L,aG⟩:=Qe (p.1.a.length);rw[aG]at c4 cd au;have bD:=I aG;clear G X D aI aK aG bd hgv3;go_wp2_with fail
     go_loopw [18,63] (fun _ kx wz=>∃(s:Nat),s<=L/\kx=.int .i64 (s:Int)/\WrI l wz V.heap.size (.slice (some ⟨g,0,none⟩) d.length aq) d i xs) (fun _ kx _=>L - (intOf kx).toNat)
     case atStart=>exact⟨0,QE,by go_num,bP.o⟩
     case round=>
      obtain⟨s,ct,rfl,C⟩:=hrel;by_cases hkl:s<L
      ·have b4:=Xo C.row (by omega);obtain⟨g',bR,aD,_,_,af⟩:=b4;injection aD with hgv1 _ _
       injection hgv1 with hgv1
       injection hgv1 with hgv1
       subst hgv1
       have z4:wr.cell? ⟨g,i*7+4,none⟩=some (.slice sa L sc):=by
        rw[af _ _ (C.left i hilt Ql),HP.o,au.o]
       have X:=C.str p bI.o;rw[au.o,bD.o]at X;rcases X with⟨_,h0⟩ | ⟨g2,c2,aU,aL,a7,hb2,cb⟩
       ·omega
       injection aL with aL _ _
       subst aL;have q0:wr.cell? ⟨g2,s,none⟩=some (aU[s]'(by omega)):=(Qi hb2 s).trans (Array.getElem?_eq_getElem (by omega));have qf:wr.frozen? ⟨g2,s,none⟩=false:=Qu hb2 s;have b8:(s:Int)<(L:Int):=by omega
       have HZ:=I (C.text hb2 a7 s (.string ⟨#[109,105,110,101]⟩));generalize aU[s]'(by omega)=u at q0;clear C af hb2 a7 cb;go_wp2;go_roundw
       case rel=>exact⟨s+1,by omega,by go_num,HZ.o⟩
       case measure=>simp[intOf];omega
      ·have b8:¬(s:Int)<(L:Int):=by omega
       obtain⟨g',bR,aD,_,_,af⟩:=Xo C.row (by omega);injection aD with hgv1 _ _
       injection hgv1 with hgv1
       injection hgv1 with hgv1
       subst hgv1;have cg:=C.row.1;have K:∀ q,q<7->∃ u,wr.cell? ⟨g,i*7+q,none⟩=some u:=fun q hq=>⟨xs[i*7+q]'(by omega),af _ _ (List.getElem?_eq_getElem (by omega))⟩
       obtain⟨u0,q0⟩:=K 0 (by omega);obtain⟨u1,q1⟩:=K 1 (by omega);obtain⟨u2,q2⟩:=K 2 (by omega);obtain⟨u3,q3⟩:=K 3 (by omega);obtain⟨u4,q4⟩:=K 4 (by omega);obtain⟨u5,q5⟩:=K 5 (by omega);obtain⟨u6,q6⟩:=K 6 (by omega);rw[Nat.add_zero]at q0;have qf:∀ o,wr.frozen? ⟨g,o,none⟩=false:=World.ownsRow.frozenAt (n:=d.length) C.row;obtain⟨cl,bi⟩:=C.over (.int .i64 13) (.int .i64 0) (.int .i64 0) (.bool false) (.slice none 0 0) (.slice none 0 0) (.int .i64 0);have bH:=I bi;clear C af K bi cg;go_wp2;go_roundw
       case rel=>exact⟨i+1,cl,by omega,by go_num,bH.o⟩
       case measure=>simp[intOf];omega
    ·have b6:¬(i:Int)<(d.length:Int):=by omega
     have bz:=I G.fr;have ar:=I (Z.o.trans (G.fr.below (fun k o h=>Qs aY h.1) bV));have bm:=I (bk.o.fr G.fr (fun _ _=>PWr.not (by decide) (by decide)));have bW:=ar.o.size;clear G;go_wp2_with fail;refine(bN.o _ (HE.o.below ar.o).et (fun k z h=>bz.o.block _ _ (bB.o k z h) (PWr.not (by decide) (by decide)))).mono ?_;rintro e w5 ⟨rfl,ax⟩;have br:=I (ar.o.trans (ax.mono bW));have bo:=I (bm.o.below ax);clear ax;go_wp2;refine bodyPost_ret (v:=.tuple #[.slice la r.1.length lc,.int .i64 (r.2.1:Int),.int .i64 (UN r.2.2).1,.int .i64 (UN r.2.2).2]) (by simp[results,results27,go_sem]) rfl ?_;exact⟨br.o,_,rfl,bo.o.lo bj⟩
end Go.Proofs.YtgnkjijocdmniaaGreatDoor
