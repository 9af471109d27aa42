import Derived.Stop.Asserts
import Derived.Test.YtgnkjijocdmniaaGreatDoorZCAct
namespace Go.Proofs.YtgnkjijocdmniaaGreatDoor
set_option linter.all false
set_option maxRecDepth 100000
set_option maxHeartbeats 4000000
open Go.Proofs.Tryz
open Go.RowKit
variable{α:Type}{B base g k n p:Nat}{W w w':World}{X:Nat->Prop}{a b c d f:List Ins}{arg hw:L8}{sub:α->List Ins->List Ins}{u v:Value}
section
variable {P:Program} {w:World} {t xT T:TypeId} {v z:Value}
theorem Up{a:Array Field}(d:P.underlying T=some (.struct a))(e:(P.info? T).map (·.zero)=some (some z))(c:¬t=T) :
 (Instr.typeAssert (.iface t v) xT T true).run P w=.ok (.tuple #[z,.bool false]) w:=by
 obtain⟨j,b,f⟩:=Option.map_eq_some_iff.1 e;simp[Instr.typeAssert,UV d,typeInfo,c,zeroValue,b,f]
theorem Kr{a:Array Field}(b:P.underlying T=some (.struct a)) :
 (Instr.typeAssert (.iface T v) xT T true).run P w=.ok (.tuple #[v,.bool true]) w:=by
 simp[Instr.typeAssert,UV b]
end
theorem Tryz.noNot(t xT:TypeId)(v:Value)(w:World)(h:¬t=305):(Instr.typeAssert (.iface t v) xT 305 true).run prog w=.ok (.tuple #[.agg #[.string ⟨#[]⟩,Qa 0,.nilIface],.bool false]) w:=Up underlying305 Qm h
theorem Tryz.yesNot(xT:TypeId)(v:Value)(w:World):(Instr.typeAssert (.iface 305 v) xT 305 true).run prog w=.ok (.tuple #[v,.bool true]) w:=Kr underlying305
theorem Tryz.noAllOf(t xT:TypeId)(v:Value)(w:World)(h:¬t=224):(Instr.typeAssert (.iface t v) xT 224 true).run prog w=.ok (.tuple #[.agg #[.string ⟨#[]⟩,Qa 0,Qp],.bool false]) w:=Up underlying224 Qm h
theorem Tryz.yesAllOf(xT:TypeId)(v:Value)(w:World):(Instr.typeAssert (.iface 224 v) xT 224 true).run prog w=.ok (.tuple #[v,.bool true]) w:=Kr underlying224
theorem Tryz.noAnyOf(t xT:TypeId)(v:Value)(w:World)(h:¬t=225):(Instr.typeAssert (.iface t v) xT 225 true).run prog w=.ok (.tuple #[.agg #[.string ⟨#[]⟩,Qa 0,Qp],.bool false]) w:=Up underlying225 Qm h
theorem Tryz.yesAnyOf(xT:TypeId)(v:Value)(w:World):(Instr.typeAssert (.iface 225 v) xT 225 true).run prog w=.ok (.tuple #[v,.bool true]) w:=Kr underlying225
theorem Tryz.noHeader(t xT:TypeId)(v:Value)(w:World)(h:¬t=231):(Instr.typeAssert (.iface t v) xT 231 true).run prog w=.ok (.tuple #[.agg #[.string ⟨#[]⟩,Qa 0,Qa 0,.bool false,Qp,Qp],.bool false]) w:=Up underlying231 Qm h
theorem Tryz.yesHeader(xT:TypeId)(v:Value)(w:World):(Instr.typeAssert (.iface 231 v) xT 231 true).run prog w=.ok (.tuple #[v,.bool true]) w:=Kr underlying231
theorem Tryz.noEnvelope(t xT:TypeId)(v:Value)(w:World)(h:¬t=234):(Instr.typeAssert (.iface t v) xT 234 true).run prog w=.ok (.tuple #[.agg #[.string ⟨#[]⟩,Qa 0,Qa 0,.bool false,Qp,Qp],.bool false]) w:=Up underlying234 Qm h
theorem Tryz.yesEnvelope(xT:TypeId)(v:Value)(w:World):(Instr.typeAssert (.iface 234 v) xT 234 true).run prog w=.ok (.tuple #[v,.bool true]) w:=Kr underlying234
theorem Tryz.noString(t xT:TypeId)(v:Value)(w:World)(h:¬t=235):(Instr.typeAssert (.iface t v) xT 235 true).run prog w=.ok (.tuple #[.agg #[.string ⟨#[]⟩,Qa 0,Qa 0,.bool false,Qp,Qp],.bool false]) w:=Up underlying235 Qm h
theorem Tryz.yesString(xT:TypeId)(v:Value)(w:World):(Instr.typeAssert (.iface 235 v) xT 235 true).run prog w=.ok (.tuple #[v,.bool true]) w:=Kr underlying235
theorem Tryz.noExists(t xT:TypeId)(v:Value)(w:World)(h:¬t=309):(Instr.typeAssert (.iface t v) xT 309 true).run prog w=.ok (.tuple #[.agg #[.string ⟨#[]⟩,Qa 0,Qp],.bool false]) w:=Up underlying309 Qm h
theorem Tryz.yesExists(xT:TypeId)(v:Value)(w:World):(Instr.typeAssert (.iface 309 v) xT 309 true).run prog w=.ok (.tuple #[v,.bool true]) w:=Kr underlying309
theorem Tryz.yesSize(xT:TypeId)(v:Value)(w:World):(Instr.typeAssert (.iface 311 v) xT 311 true).run prog w=.ok (.tuple #[v,.bool true]) w:=Kr underlying311
theorem Tryz.yesIf(xT:TypeId)(v:Value)(w:World):(Instr.typeAssert (.iface 261 v) xT 261 true).run prog w=.ok (.tuple #[v,.bool true]) w:=Kr underlying261
theorem Tryz.noSet(t xT:TypeId)(v:Value)(w:World)(h:¬t=264):(Instr.typeAssert (.iface t v) xT 264 true).run prog w=.ok (.tuple #[.agg #[.string ⟨#[]⟩,Qa 0,Qa 0,.string ⟨#[]⟩,.string ⟨#[]⟩],.bool false]) w:=Up underlying264 Qm h
theorem Tryz.yesSet(xT:TypeId)(v:Value)(w:World):(Instr.typeAssert (.iface 264 v) xT 264 true).run prog w=.ok (.tuple #[v,.bool true]) w:=Kr underlying264
theorem Tryz.noAct(t xT:TypeId)(v:Value)(w:World)(h:¬t=269):(Instr.typeAssert (.iface t v) xT 269 true).run prog w=.ok (.tuple #[.agg #[.string ⟨#[]⟩,Qa 0,Qa 0,.string ⟨#[]⟩],.bool false]) w:=Up underlying269 Qm h
theorem Tryz.yesAct(xT:TypeId)(v:Value)(w:World):(Instr.typeAssert (.iface 269 v) xT 269 true).run prog w=.ok (.tuple #[v,.bool true]) w:=Kr underlying269
theorem Tryz.noTruth(t xT:TypeId)(v:Value)(w:World)(h:¬t=302):(Instr.typeAssert (.iface t v) xT 302 true).run prog w=.ok (.tuple #[.agg #[.string ⟨#[]⟩,Qa 0,.bool false],.bool false]) w:=Up underlying302 Qm h
theorem Tryz.yesTruth(xT:TypeId)(v:Value)(w:World):(Instr.typeAssert (.iface 302 v) xT 302 true).run prog w=.ok (.tuple #[v,.bool true]) w:=Kr underlying302
theorem Tryz.noDiscard(t xT:TypeId)(v:Value)(w:World)(h:¬t=294):(Instr.typeAssert (.iface t v) xT 294 true).run prog w=.ok (.tuple #[.agg #[.string ⟨#[]⟩,Qa 0],.bool false]) w:=Up underlying294 Qm h
theorem Tryz.yesDiscard(xT:TypeId)(v:Value)(w:World):(Instr.typeAssert (.iface 294 v) xT 294 true).run prog w=.ok (.tuple #[v,.bool true]) w:=Kr underlying294
theorem Tryz.noStop(t xT:TypeId)(v:Value)(w:World)(h:¬t=295):(Instr.typeAssert (.iface t v) xT 295 true).run prog w=.ok (.tuple #[.agg #[.string ⟨#[]⟩,Qa 0],.bool false]) w:=Up underlying295 Qm h
theorem Tryz.yesStop(xT:TypeId)(v:Value)(w:World):(Instr.typeAssert (.iface 295 v) xT 295 true).run prog w=.ok (.tuple #[v,.bool true]) w:=Kr underlying295
section
attribute [local go_sem ↓] Zt Zu
def SubC(fn B cb:Nat)(w:World)(v:Value)(sub:List Ins->List Ins):Prop:=
 ∀W cs,Below B w W->CC W B cb cs->(sub cs).length<=1000000->Calls prog fn #[Qc cb,v] W (X_ B cb (sub cs) W)
theorem SubC.below{fn cb:Nat}{sub:List Ins->List Ins}(h:SubC fn B cb w v sub)(hb:Below B w w'):SubC fn B cb w' v sub:=fun W cs hW hc hl=>h W cs (hb.trans hW) hc hl
theorem Ex{b:Nat}{i:Ins}{c d:Value}(f:g=W.heap.size)(h:CC W B b a)(k:G' W i c d)(j:a.length+1<=1000000):Calls prog 216 #[Qc b,Qs g 1 1] (W.alloc (Qe #[Qa i.op,Qa i.n,Qa i.tag,.bool i.oct,c,d,Qa i.at_] 63)) fun e w'=>e=.returned (Qa (a.length:Int))/\CC w' B b (a++[i])/\Fr (PCo B) W w':=by
 subst f;exact Ge h k j
theorem QyO{d L:Nat}(i:Ins){b c:Value}(k:g=W.heap.size)(h:CL W B d a L)(m:Z_ W i b c)(j:Apt L [(i,b,c)])(f:B<=L)(l:a.length+1<=1000000):Calls prog 216 #[Qc d,Qs g 1 1] (W.alloc (Qe #[Qa i.op,Qa i.n,Qa i.tag,.bool i.oct,b,c,Qa i.at_] 63)) fun e w'=>e=.returned (Qa (a.length:Int))/\CC w' B d (a++[i])/\Fr (PCo B) W w':=by
 subst k;exact GR i h m j f l
theorem H6{b:Bool}{a:Nat}(h:CC w B a c)(k:c.length+1<=1000000):Calls prog 255 #[Qc a,.iface 302 (.agg #[Qf hw,Qa p,.bool b])] w (X_ B a (c++[pushI b]) w):=by
 have s:=Tryz.yesTruth;have f:∀o,Qo w (w.alloc o):=fun o=>QH o
 change Qd _ at k f;replace h:=O h;go_enter func255,ntmps255;go_wp2_with (first|(go_at_call 273;refine Qv (D9 b) ?_;rintro q g;have d:=O ((f _).trans (g.mono Qh));have l:=O (h.o.below d);clear g;unfold Zy;skip)|(go_at_call 216;refine Qv (Ge l (Ga rfl rfl (by cases b<;>decide) (by cases b<;>decide)) k) ?_;rintro r ⟨i,j⟩;have m:=O i;have n:=O ((Fr.of_below d).trans j);clear i j;skip));go_end0;exact⟨rfl,m,n⟩
theorem S2(x:Zk){c:Nat}(h:CC w B c d)(t:d.length+1<=1000000)(L:mtX X hw x w u)(i:x.fr.length<=1000000)(j:x.keys.length<=1000000)(l:∀z∈x.fr,z.length<=100000)(m:∀z∈x.keys,z.length<=100000):Calls prog 255 #[Qc c,.iface 231 u] w (X_ B c (d++[Xu 6 x]) w):=by
 obtain⟨U,Z,rfl,r,b⟩:=L;have E:=O r;have G:=O b;obtain⟨V,S,rfl,M⟩:=r;obtain⟨gk,T,rfl,N⟩:=b;have a:=O (And.intro i (And.intro j (And.intro l m)));clear M N i j l m;have n0:=Tryz.noTruth;have n1:=Tryz.noNot;have n2:=Tryz.noAllOf;have n3:=Tryz.noAnyOf;have yy:=Tryz.yesHeader;have K:B<=w.heap.size:=Xj (JR h.lt.1 h.lt.2);have f:∀o,Qo w (w.alloc o):=fun o=>QH o
 change Qd _ at t f;replace h:=O h;go_enter func255,ntmps255;go_wp2_with (first|(go_at_call 275;refine(CN 6 x (E.o.keep (fun k _ b=>(f _).block k b)) (G.o.keep (fun k _ b=>(f _).block k b)) a.1 a.2.1).mono ?_;rintro e P ⟨Q,W,R,Y,rfl,v,y,p,n⟩;have A:=O (n.mono (L':=w.heap.size) Qh);have g:=O ((f _).trans (p.mono Qh));have C:=O (h.o.toL.below g);have H:=O v;have J:=O y;clear p v y n;unfold Zy;skip)|(go_at_call 216;refine Qv (GR (Xu 6 x) C ⟨H,J,a.2.2.1,a.2.2.2,a.1,a.2.1,(by show(-9223372036854775808:Int)<=0;decide),(by show(0:Int)<=9223372036854775807;decide)⟩ A K t) ?_;rintro w2 ⟨q,s⟩;have D:=O q;have F:=O ((Fr.of_below g).trans s);clear q s;skip));go_end0;exact⟨rfl,D,F⟩
theorem RM(x:Zk){c:Nat}(h:CC w B c d)(t:d.length+1<=1000000)(L:mtX X hw x w u)(i:x.fr.length<=1000000)(j:x.keys.length<=1000000)(l:∀z∈x.fr,z.length<=100000)(m:∀z∈x.keys,z.length<=100000):Calls prog 255 #[Qc c,.iface 234 u] w (X_ B c (d++[Xu 7 x]) w):=by
 obtain⟨U,Z,rfl,r,b⟩:=L;have E:=O r;have G:=O b;obtain⟨V,S,rfl,M⟩:=r;obtain⟨gk,T,rfl,N⟩:=b;have a:=O (And.intro i (And.intro j (And.intro l m)));clear M N i j l m;have n0:=Tryz.noTruth;have n1:=Tryz.noNot;have n2:=Tryz.noAllOf;have n3:=Tryz.noAnyOf;have n4:=Tryz.noHeader;have yy:=Tryz.yesEnvelope;have K:B<=w.heap.size:=Xj (JR h.lt.1 h.lt.2);have f:∀o,Qo w (w.alloc o):=fun o=>QH o
 change Qd _ at t f;replace h:=O h;go_enter func255,ntmps255;go_wp2_with (first|(go_at_call 275;refine(CN 7 x (E.o.keep (fun k _ b=>(f _).block k b)) (G.o.keep (fun k _ b=>(f _).block k b)) a.1 a.2.1).mono ?_;rintro e P ⟨Q,W,R,Y,rfl,v,y,p,n⟩;have A:=O (n.mono (L':=w.heap.size) Qh);have g:=O ((f _).trans (p.mono Qh));have C:=O (h.o.toL.below g);have H:=O v;have J:=O y;clear p v y n;unfold Zy;skip)|(go_at_call 216;refine Qv (GR (Xu 7 x) C ⟨H,J,a.2.2.1,a.2.2.2,a.1,a.2.1,(by show(-9223372036854775808:Int)<=0;decide),(by show(0:Int)<=9223372036854775807;decide)⟩ A K t) ?_;rintro w2 ⟨q,s⟩;have D:=O q;have F:=O ((Fr.of_below g).trans s);clear q s;skip));go_end0;exact⟨rfl,D,F⟩
theorem Sy(x:Zk){c:Nat}(h:CC w B c d)(t:d.length+1<=1000000)(L:mtX X hw x w u)(i:x.fr.length<=1000000)(j:x.keys.length<=1000000)(l:∀z∈x.fr,z.length<=100000)(m:∀z∈x.keys,z.length<=100000):Calls prog 255 #[Qc c,.iface 235 u] w (X_ B c (d++[Xu 8 x]) w):=by
 obtain⟨U,Z,rfl,r,b⟩:=L;have E:=O r;have G:=O b;obtain⟨V,S,rfl,M⟩:=r;obtain⟨gk,T,rfl,N⟩:=b;have a:=O (And.intro i (And.intro j (And.intro l m)));clear M N i j l m;have n0:=Tryz.noTruth;have n1:=Tryz.noNot;have n2:=Tryz.noAllOf;have n3:=Tryz.noAnyOf;have n4:=Tryz.noHeader;have n5:=Tryz.noEnvelope;have yy:=Tryz.yesString;have K:B<=w.heap.size:=Xj (JR h.lt.1 h.lt.2);have f:∀o,Qo w (w.alloc o):=fun o=>QH o
 change Qd _ at t f;replace h:=O h;go_enter func255,ntmps255;go_wp2_with (first|(go_at_call 275;refine(CN 8 x (E.o.keep (fun k _ b=>(f _).block k b)) (G.o.keep (fun k _ b=>(f _).block k b)) a.1 a.2.1).mono ?_;rintro e P ⟨Q,W,R,Y,rfl,v,y,p,n⟩;have A:=O (n.mono (L':=w.heap.size) Qh);have g:=O ((f _).trans (p.mono Qh));have C:=O (h.o.toL.below g);have H:=O v;have J:=O y;clear p v y n;unfold Zy;skip)|(go_at_call 216;refine Qv (GR (Xu 8 x) C ⟨H,J,a.2.2.1,a.2.2.2,a.1,a.2.1,(by show(-9223372036854775808:Int)<=0;decide),(by show(0:Int)<=9223372036854775807;decide)⟩ A K t) ?_;rintro w2 ⟨q,s⟩;have D:=O q;have F:=O ((Fr.of_below g).trans s);clear q s;skip));go_end0;exact⟨rfl,D,F⟩
theorem S8{xs:Qn}{b:Nat}(h:CC w B b c)(r:c.length+1<=1000000)(s:slX X xs w u)(l:xs.length<=1000000)(m:∀z∈xs,z.length<=100000):Calls prog 255 #[Qc b,.iface 309 (.agg #[Qf hw,Qa p,u])] w (X_ B b (c++[⟨9,0,0,false,xs,[],0⟩]) w):=by
 have D:=O s;obtain⟨N,M,rfl,J⟩:=s;have d:=O (And.intro l m);clear J l m;have P:=Tryz.noTruth;have Q:=Tryz.noNot;have R:=Tryz.noAllOf;have S:=Tryz.noAnyOf;have T:=Tryz.noHeader;have U:=Tryz.noEnvelope;have V:=Tryz.noString;have Y:=Tryz.yesExists;have H:B<=w.heap.size:=Xj (JR h.lt.1 h.lt.2);have f:∀o,Qo w (w.alloc o):=fun o=>QH o
 change Qd _ at r f;replace h:=O h;go_enter func255,ntmps255;go_wp2_with (first|(go_at_call 276;refine(CW (D.o.keep (fun k _ a=>(f _).block k a)) d.1).mono ?_;rintro e x ⟨G,L,rfl,i,g,t,v⟩;have y:Hid (Apt w.heap.size [((⟨9,0,0,false,xs,[],0⟩:Ins),Value.slice G xs.length L,Value.slice none 0 0)]):=Apt.two (L2:=x.heap.size) (fun k a=>⟨QE Qh (t k a),i.lt a⟩) (fun k a=>nomatch a) (QE Qh g.size) v QF;have j:=O ((f _).trans (g.mono Qh));have A:=O (h.o.toL.below j);have F:=O i;clear g i t v;skip)|(go_at_call 216;refine Qv (GR ⟨9,0,0,false,xs,[],0⟩ A ⟨F,Qt ⟨rfl,rfl⟩,d.2,(fun z K=>nomatch K),d.1,QR,(by show(-9223372036854775808:Int)<=0;decide),(by show(0:Int)<=9223372036854775807;decide)⟩ y H r) ?_;rintro W ⟨n,q⟩;have C:=O n;have E:=O ((Fr.of_below j).trans q);clear n q;skip));go_end0;exact⟨rfl,C,E⟩
theorem W8(tag:Nat){a:Nat}{b:Nat}(h:CC w B b c)(j:c.length+1<=1000000)(n:a<=2147483647):Calls prog 255 #[.pointer (some ⟨b,0,none⟩),.iface 311 (.agg #[.string (sA hw),.int .i64 p,.int .i64 tag,.int .i64 a])] w (X_ B b (c++[⟨10,a,tag,false,[],[],0⟩]) w):=by
 have d:Hid ((-9223372036854775808:Int)<=(a:Int)/\(a:Int)<=9223372036854775807):=by show _/\_;omega
 have k:Hid (∀o,CC (w.alloc o) B b c):=fun o=>h.alloc o
 have q:=Tryz.noTruth;have r:=Tryz.noNot;have s:=Tryz.noAllOf;have t:=Tryz.noAnyOf;have u:=Tryz.noHeader;have v:=Tryz.noEnvelope;have x:=Tryz.noString;have y:=Tryz.noExists;have A:=Tryz.yesSize;have D:=O j;have f:∀o,Below w.heap.size w (w.alloc o):=fun o=>QH o
 have C:=O f;clear h j f;go_enter func255,ntmps255;go_wp2_with (first|(go_at_call 216;refine(Ex (B:=B) (b:=b) (a:=c) (i:=⟨10,a,tag,false,[],[],0⟩) (by simp) (k.o _) (Ga rfl rfl d.o.1 d.o.2) D.o).mono ?_;rintro e z ⟨rfl,g,i⟩;have l:=O g;have m:=O ((Fr.of_below (C.o _)).trans i);clear g i;skip));go_end0;exact⟨rfl,l.o,m.o⟩
theorem Qv2(l:TypeId){y:Value}{sub:List Ins->List Ins}{a:Nat}(h:CC w B a b)(c:(sub b).length+1<=1000000)(k:SubC 255 B a w (.iface l y) sub):Calls prog 255 #[.pointer (some ⟨a,0,none⟩),.iface 305 (.agg #[.string (sA hw),.int .i64 p,.iface l y])] w (X_ B a (sub b++[insOp 2]) w):=by
 have C:=O k;have m:Hid (∀o,Below B w (w.alloc o)):=fun o=>(QO _ _).alloc (Xj (JR h.lt.1 h.lt.2)) o
 clear k;have t:=Tryz.noTruth;have x:=Tryz.yesNot;have H:=O h;have z:=O c;have d:∀o,Below w.heap.size w (w.alloc o):=fun o=>QH o
 have A:=O d;clear h c d;go_enter func255,ntmps255;go_wp2_with (first|(go_at_call 255;refine(C.o _ b (m.o _) (H.o.alloc _) (Nat.le_of_succ_le z.o)).mono ?_;rintro e u ⟨rfl,f,i⟩;have n:=O f;have r:=O ((Fr.of_below (A.o _)).trans i);clear f i;skip)|(go_at_call 216;refine(Ge (B:=B) (b:=a) (a:=sub b) (i:=insOp 2) n.o (Ga rfl rfl (by decide) (by decide)) z.o).mono ?_;rintro e v ⟨rfl,g,j⟩;have q:=O g;have s:=O (r.o.trans j);clear g j;skip));go_end0;exact⟨rfl,q.o,s.o⟩
theorem TS(a:Option Addr){c:Nat}{b:Nat}(h:CC w B b d)(r:B<=w.heap.size)(k:∀W,Below B w W->CC W B b d->Calls prog 274 #[Qc b,.slice a n c,Qa 5,.bool false] W (X_ B b f W)):Calls prog 255 #[Qc b,.iface 224 (.agg #[Qf hw,Qa p,.slice a n c])] w (X_ B b f w):=by
 have l:Hid (∀o,Below B w (w.alloc o)):=fun o=>(QO _ _).alloc (Xj (JR h.lt.1 h.lt.2)) o
 change Qd _ at k;have s:=Tryz.noTruth;have t:=Tryz.noNot;have v:=Tryz.yesAllOf;have g:∀o,Qo w (w.alloc o):=fun o=>QH o
 clear r;change Qd _ at g;replace h:=O h;go_enter func255,ntmps255;go_wp2_with (first|(go_at_call 274;refine Qv (k _ (l _) (h.o.alloc _)) ?_;rintro u ⟨i,j⟩;have m:=O i;have q:=O ((Fr.of_below (g _)).trans j);clear i j;skip));go_end0;exact⟨rfl,m,q⟩
theorem T2(a:Option Addr){c:Nat}{b:Nat}(h:CC w B b d)(r:B<=w.heap.size)(k:∀W,Below B w W->CC W B b d->Calls prog 274 #[Qc b,.slice a n c,Qa 4,.bool true] W (X_ B b f W)):Calls prog 255 #[Qc b,.iface 225 (.agg #[Qf hw,Qa p,.slice a n c])] w (X_ B b f w):=by
 have l:Hid (∀o,Below B w (w.alloc o)):=fun o=>(QO _ _).alloc (Xj (JR h.lt.1 h.lt.2)) o
 change Qd _ at k;have s:=Tryz.noTruth;have t:=Tryz.noNot;have u:=Tryz.noAllOf;have x:=Tryz.yesAnyOf;have g:∀o,Qo w (w.alloc o):=fun o=>QH o
 clear r;change Qd _ at g;replace h:=O h;go_enter func255,ntmps255;go_wp2_with (first|(go_at_call 274;refine Qv (k _ (l _) (h.o.alloc _)) ?_;rintro v ⟨i,j⟩;have m:=O i;have q:=O ((Fr.of_below (g _)).trans j);clear i j;skip));go_end0;exact⟨rfl,m,q⟩
end
theorem Fr.grownNew{P:Nat->Obj->Prop}{u:World}{a:Option Nat}(h:Fr P u w)(hg:w.grownBy w' a)(b:∀k,a=some k->u.heap.size<=k):Fr P u w':=
 ⟨hg.os.trans h.os,hg.tape.trans h.tape,hg.output.trans h.output,QE h.size hg.size,fun k o hk hn=>by
  have hk':=h.block k o hk hn;rw[hg.block k (QI hk') (fun e=>by have:=b k e.symm;have:=QI hk;omega)]
  exact hk'⟩
def U'(js:List Nat):List Value:=js.map fun j=>.int .i64 ((j:Nat):Int)
theorem Hj{a:List Nat}{j:Nat}:U' a++[Qa (j:Int)]=U' (a++[j]):=by simp[U']
theorem Tryz.infoIntJ:(prog.info? 3).map (fun i=>(i.zero,i.size,i.bytes))=some (some (Qa 0),1,8):=Qm
theorem B1{op:Int}:G' W (insOp op) Qp Qp:=Ga (W:=W) rfl rfl (by show(-9223372036854775808:Int)<=0;decide) (by show(0:Int)<=9223372036854775807;decide)
theorem ME{b:Bool}:G' W (pushI b) Qp Qp:=Ga (W:=W) rfl rfl (by cases b<;>decide) (by cases b<;>decide)
theorem Oi{x:Int}:∀u∈[Value.int .i64 x],u.oneCell'=true:=by
 intro u a;simp at a;subst a;rfl
theorem CC.grownInt{b:Nat}{xs:List Value}(h:CC w B b a)(g:w.ownsRow base 3 1 v n xs)(f:w.grownBy w' v.ownBlock):CC w' B b a:=by
 obtain⟨d,j,e,h⟩:=h;refine⟨d,j,e,h.fr (P:=fun k o=>∃a,o=Qe a 3) ((Fr.refl _ w).grown f (fun k o e i=>(JS g e i).2)) ?_ ?_ ?_⟩
 .rintro k a ⟨c,e⟩;injection e with _ e;exact absurd e Qb
 .rintro k a ⟨c,e⟩;injection e with _ e;exact absurd e Qb
 .rintro k a ⟨c,e⟩;injection e with _ e;exact absurd e Qb
theorem Mh{a:List Nat}(m:w.ownsRow base 3 1 v a.length (U' a))(l:a≠[]):∃gj c kcs,v=Qs gj a.length c/\w.heap[gj]?=some (Qe kcs 3)/\∀k,k<a.length->kcs[k]?=some (Qa ((a.getD k 0:Nat):Int)):=by
 rcases m.2 with⟨_,i⟩ | ⟨g,e,f,o,q,j,p,_,r,n⟩
 .exact absurd (XV i) l
 .refine⟨g,e,f,o,j,fun k d=>?_⟩
  have b:(U' a)[k]?=some (Qa ((a.getD k 0:Nat):Int)):=by
   unfold U';rw[Ns,Zi d,Zv,Zi d];rfl
  rw[<-n,List.getElem?_take_of_lt I]at b;rw[<-b];simp
def gTo{α:Type}(sub:α->List Ins->List Ins)(jump:Int)(ts:List α)(cs:List Ins)(k:Nat):List Ins×List Nat:=(ts.take k).foldl (YZ sub jump) (cs,[])
theorem Ej(sub:α->List Ins->List Ins)(b:Int){a:List α}(c:List Ins)(h:k<a.length):gTo sub b a c (k+1)=YZ sub b (gTo sub b a c k) a[k]:=by
 unfold gTo;rw[List.take_add_one,Zi h,GG];rfl
theorem O'(sub:α->List Ins->List Ins){d:Int}{a:List α}{b:Bool}:Ja sub d b a c=NO b (gTo sub d a c a.length):=by
 unfold Ja gTo;rw[KA]
theorem MX{α:Type}(sub:α->List Ins->List Ins)(c:Int)(a:List α)(b:List Ins):∀k,k<=a.length->(gTo sub c a b k).2.length=k
 |0,_=>rfl
 |k+1,h=>by
  rw[Ej sub c b h];have:=MX sub c a b k I;unfold YZ;simp[this]
theorem Ok{α:Type}{sub:α->List Ins->List Ins}(d:∀t a,a.length<=(sub t a).length)(c:Int)(b:List α){a:List Ins}:∀k,k<=b.length->∀j∈(gTo sub c b a k).2,j<(gTo sub c b a k).1.length
 |0,_,j,hj=>by cases hj
 |k+1,h,j,hj=>by
  have e:=Ok d c b (a:=a) k (by omega);rw[Ej sub c (a:=b) a (k:=k) h]at hj ⊢;have f:=d b[k] (gTo sub c b a k).1;unfold YZ at hj ⊢;simp only[Z6,List.mem_singleton,Qz,Q1,Zl]at hj ⊢;rcases hj with hj|hj
  .have:=e j hj;omega
  .omega
theorem QyF(d:∀t a,a.length<=(sub t a).length)(c:Int)(b:List α)(k:Nat):(gTo sub c b a k).1.length<=(gTo sub c b a b.length).1.length:=by
 unfold gTo;rw[KA];have:=Ei d c (b.drop k) ((b.take k).foldl (YZ sub c) (a,[]));rw[<-GG,List.take_append_drop]at this;exact this
theorem Tn(sub:α->List Ins->List Ins){f:Int}{settled:Bool}{a:List α}{l c:Nat}(h:CC w B l d)(aH:a≠[])(aE:g<B)(aJ:a.length<=1000000)
 (R:∀t d,d.length<=(sub t d).length) (x:(Ja sub f settled a d).length<=1000000)
 (W:∀j (hj:j<a.length),∃ty y,w.cell? ⟨g,j,none⟩=some (.iface ty y)/\SubC 255 B l w (.iface ty y) (sub a[j])):Calls prog 274 #[.pointer (some ⟨l,0,none⟩),.slice (some ⟨g,0,none⟩) a.length c,.int .i64 f,.bool settled] w (X_ B l (Ja sub f settled a d) w):=by
 obtain⟨i0,hi,hz0,hz1,hz2⟩:=ZU Tryz.infoIntJ;rw[O']at x ⊢;rw[CH]at x;have HL:=O x;have HC:=O W;have HM:=O R;have H:=O h;clear W R h x;go_enter func274,ntmps274;go_wp2_with fail
 go_loopw [8,10,14] (fun v _ i wr=>∃(k:Nat) (r:List Ins×List Nat),k<=a.length/\i=.int .i64 (k:Int)/\r=gTo sub f a d k/\wr.ownsRow w.heap.size 3 1 v r.2.length (U' r.2)/\CC wr B l r.1/\Fr (PCo B) w wr) (fun _ _ i _=>a.length-(intOf i).toNat)
 case atStart=>exact⟨0,_,QR,by go_num,rfl,Z5,H.o,Fr.refl _ _⟩
 case round=>
  obtain⟨k,r,P,rfl,m,F,aO,hF⟩:=hrel;have S:r.2.length=k:=by rw[m];exact MX sub f a d k P
  have K:=hF.co H.o;by_cases hlt:k<a.length
  .obtain⟨ty,y,ah,aq⟩:=HC.o k hlt
   have aL:wr.cell? ⟨g,k,none⟩=some (.iface ty y):=by
    rw[K.cell (p:=⟨g,k,none⟩) aE];exact ah
   have z:=O (Ej sub f (a:=a) d (k:=k) hlt);have D:=QyF HM.o f a (a:=d) (k+1);rw[z.o,<-m]at D;rw[<-m]at z;unfold YZ at D;simp only[Qz,Q1,Zl]at D;have U:=HL.o;have ab:=O aq;obtain⟨t,ht⟩:=Qw (a[k]);rw[ht]at z ab D;obtain⟨A,J⟩:=Qw (sub t r.1);have az:Hid ((sub t r.1).length<=1000000):=by show(sub t r.1).length<=_;omega
   have aA:Hid (A.length+1<=1000000):=by show _<=_;rw[<-J];omega
   have aC:Hid (gTo sub f a d (k+1)=(A++[insOp f],r.2++[A.length])):=by
    show _=_
    rw[z.o];unfold YZ;rw[J]
   have aT:=O J;have aZ:=O F;have HCC:=O aO;have HF:=O hF;have aU:=O K;obtain⟨la,lc,aG⟩:=Zj F;subst aG;have aM:r.2.length<=1000000:=by omega
   clear F aO hF K ah aq D U J ht m z S
   go_wp2_with (first
    |(go_at_call 255;refine(ab.o wr r.1 aU.o HCC.o az.o).mono ?_;rintro e w1 ⟨rfl,ae,X⟩;rw[aT.o]at ae;have HC1:=O ae;have HF1:=O (HF.o.trans X);have aB:=O (Yc aZ.o X (fun _ _=>PCo.not (by decide) (by decide)));clear ae X;skip)
    |(go_at_call 216;refine(Ge (B:=B) (b:=l) (a:=A) (i:=insOp f) (W:=w1) HC1.o (B1) aA.o).mono ?_;rintro e w2 ⟨rfl,C,u⟩;have T:=O C;have G:=O (HF1.o.trans u);have HO2:=O (Yc aB.o u (fun _ _=>PCo.not (by decide) (by decide)));have aN:=G.o.size;clear C u;skip)
    | (at_builtin;refine XM _ rfl _ _ 24 rfl w.heap.size 3 i0 _ 1 8 underlying24 hi hz0 hz1 hz2 rfl (by decide) _ _ _ rfl (HO2.o.alloc _) ⟨w2.heap.size,0,none⟩ 1 1 [.int .i64 (A.length:Int)] rfl rfl (V2 _ _ _) (Oi) (by unfold maxLen;omega) (by omega) (by simp;omega) ?_;intro v5 w5 ho5 hg5 _;obtain ⟨a5,k5,hv5⟩:=Zj ho5;subst hv5;have HO5:=O ho5;have HG5:=O hg5;clear ho5 hg5;skip))
   go_roundw
   case rel=>
    refine⟨k+1,(A++[insOp f],r.2++[A.length]),by omega,by go_num,aC.o.symm,?_,(T.o.alloc _).grownInt (HO2.o.alloc _) HG5.o,(G.o.alloc _).grownNew HG5.o (fun k P=>(HO2.o.lt k P).1)⟩;show w5.ownsRow w.heap.size 3 1 _ (r.2++[A.length]).length (U' (r.2++[A.length]))
    rw[Qz,<-Hj];exact HO5.o
   case measure=>simp[intOf];omega
  .have aF:k=a.length:=by omega
   subst aF;have aI:r.2≠[]:=fun e=>aH (XV (by rw[<-S,e];rfl))
   obtain⟨gj,cj,aK,hv,aR,ao⟩:=Mh F aI;subst hv;have ap:∀j∈r.2,j<r.1.length:=by rw[m];exact Ok HM.o f a (a:=d) a.length QF
   have U:r.1.length+3<=1000000:=by rw[m];exact HL.o
   have aa:Hid (NO settled (gTo sub f a d a.length)=landL [r.1.length+1] (landL r.2 (r.1++[pushI (!settled),insOp 3])++[pushI settled])):=by
    show _=_
    rw[<-m];rfl
   obtain⟨q,M⟩:=Qw (r.1++[pushI (!settled),insOp 3]);have ac:q.length=r.1.length+2:=by rw[<-M];simp
   obtain⟨s,N⟩:=Qw (landL r.2 q);have ad:s.length=r.1.length+2:=by rw[<-N,KF,ac]
   obtain⟨E,L⟩:=Qw (r.1.length+1);rw[M,N,L]at aa;have q1:r.1.length+2<=1000000:=by omega
   have q2:∀j∈r.2,j<q.length:=fun j hj=>by have:=ap j hj;omega
   have q3:q.length<=1000000:=by omega
   have q4:r.2.length<=1000000:=by rw[S];exact aJ
   have Y:s.length+1<=1000000:=by omega
   have q6:E<(s++[pushI settled]).length:=by rw[Qz,ad,<-L];simp
   have q7:(s++[pushI settled]).length<=1000000:=by rw[Qz];exact Y
   have Q:=O (And.intro q1 (And.intro q2 (And.intro q3 (And.intro q4 (And.intro Y (And.intro q6 q7))))));have aV:=O M;have aW:=O N;have aX:=O L;have HJB:=O aR;have aY:=O ao;have HCC:=O aO;have HF:=O hF;clear F aO hF K m aR ao ap U M ac N ad L q1 q2 q3 q4 Y q6 q7 S hlt P HC HM HL;have aS:∀b:Bool,Zy (pushI b) (.slice none 0 0) (.slice none 0 0)=.agg #[.int .i64 (pushI b).op,.int .i64 (pushI b).n,.int .i64 (pushI b).tag,.bool (pushI b).oct,.slice none 0 0,.slice none 0 0,.int .i64 (pushI b).at_]:=fun _=>rfl
   have HPP:=O aS;clear aS
   go_wp2_with (first
    |(have gg:=aQ;go_at_call 256;refine(Lx (B:=B) (b:=l) (j:=E) aQ.o Q.o.2.2.2.2.2.1 Q.o.2.2.2.2.2.2).mono ?_;rintro e w6 ⟨rfl,ag,ak⟩;have ar:=O ag;have ax:=O (aw.o.trans ak);clear ag ak;skip)
    |(have gg:=Z;go_at_call 216;refine(Ge (B:=B) (b:=l) (a:=s) (i:=pushI settled) Z.o (ME) Q.o.2.2.2.2.1).mono ?_;rintro e w5 ⟨rfl,aD,aj⟩;have aQ:=O aD;have aw:=O (av.o.trans aj);clear aD aj;skip)
    |(have gg:=aP;go_at_call 273;refine(D9 settled).mono ?_;rintro e w4 ⟨rfl,V⟩;rw[HPP.o];have Z:=O (aP.o.below V);have av:=O (au.o.trans (Fr.of_below V));clear V;skip)
    |(have gg:=T;go_at_call 256;refine(DI (B:=B) (d:=l) gj (c:=cj) (a:=r.2) aK (b:=q) T.o Q.o.2.1 ay.o aY.o Q.o.2.2.1 Q.o.2.2.2.1).mono ?_;rintro e w3 ⟨rfl,af,ai⟩;rw[aW.o]at af;have aP:=O af;have au:=O (G.o.trans ai);clear af ai;skip)
    |(have gg:=HC1;go_at_call 216;refine(Qxz (B:=B) (c:=l) (a:=r.1) (i:=pushI (!settled)) (j:=insOp 3) HC1.o (ME) (B1) Q.o.1).mono ?_;rintro e w2 ⟨he,C,u⟩;rw[aX.o]at he;subst he;rw[aV.o]at C;have T:=O C;have G:=O (HF1.o.trans u);have ay:=O (u.block _ _ HJ1.o (PCo.not (by decide) (by decide)));clear C u;skip)
    | (go_at_call 273;refine (D9 (!settled)).mono ?_;rintro e w1 ⟨rfl,hb1⟩;rw [HPP.o];have HC1:=O (HCC.o.below hb1);have HF1:=O (HF.o.trans (Fr.of_below hb1));have HJ1:=O (Ze HJB.o hb1);clear hb1;skip))
   go_end0;rw[aa.o];exact⟨rfl,ar.o,ax.o⟩
theorem Dt(z:L8):z.length<=(Zd z).length:=by
 unfold Zd;rw[Q1,Qz]
 have:z.length<=(z.flatMap Va).length:=by
  induction z with
  |nil=>simp
  |cons c r ih=>
   rw[YS,Qz,Q1];have:1<=(Va c).length:=by unfold Va;split<;>simp
   omega
 omega
theorem Dd(xs:Qn):(∀z∈xs,z.length<=(XF xs).length)/\xs.length<=(XF xs).length+1:=by
 match xs with
 | []=>exact⟨fun z a=>(by cases a),QR⟩
 | [x]=>exact⟨fun z a=>(by rw[ZV a];exact Dt x),Qh⟩
 |x::y::r=>
  have e:(XF (x::y::r)).length=(JJ [44,32] ((x::y::r).map Zd)).length+2:=by unfold XF;simp
  refine⟨fun z a=>?_,?_⟩
  .have b:=BG ((x::y::r).map Zd) (Zd z) (Vn a);have c:=Dt z;omega
  .have b:=At ((x::y::r).map Zd);rw[XB]at b;omega
theorem IF{req:Qn}(B d:Nat):∀(n:Nat) (x:Zn n) (w:World) (v:Value),TestV n (fun k=>k<B) x w v->JQ (WfT req) n x->(Zx n x).length<=100000->SubC 255 B d w v (ZS n x)
 |0,x,w,v,h,ha,_=>ha.elim
 |n+1,x,w,v,hv0,ha,hlen=>fun W cs hW hCC hl=>by
  obtain⟨hw,ab⟩:=ha;have h:YY (fun k=>k<B) (TestV n) x W v:=(J7 (n+1)).keep _ _ _ _ _ hv0 (fun k hk _=>hW.block k hk);have hlen:(Xl x.1 (x.2.map (Zx n))).length<=100000:=hlen;have hl:(XE (ZS n) x.1 x.2 cs).length<=1000000:=hl;show Calls prog 255 #[Qc d,v] W (X_ B d (XE (ZS n) x.1 x.2 cs) W)
  have N:B<=W.heap.size:=Xj (JR hCC.lt.1 hCC.lt.2)
  have U:∀a∈x.2,∀u,TestV n (fun k=>k<B) a W u->(Zx n a).length<=100000->∃s y,u=.iface s y/\SubC 255 B d W (.iface s y) (ZS n a):=fun a ha u i hl=>by
   obtain⟨s,y,rfl⟩:=(J7 n).form _ _ _ _ i;exact⟨s,y,rfl,IF B d n a W _ i (ab a ha) hl⟩
  have L:∀E,(Jq E x.1).length<=100000->x.1.fr.length<=1000000/\x.1.keys.length<=1000000/\(∀z∈x.1.fr,z.length<=100000)/\(∀z∈x.1.keys,z.length<=100000):=fun E h=>by
   have t:(XF x.1.fr).length<=100000:=QE (J9 Qh) h;have o:(XF x.1.keys).length<=100000:=QE (J9 Qh) h;obtain⟨q,r⟩:=Dd x.1.fr;obtain⟨V,b2⟩:=Dd x.1.keys;exact⟨I,I,fun z G=>QE (q z G) t,fun z G=>QE (V z G) o⟩
  have R:∀(E:L8) (u:Value) (H:Int) (b:Bool),trX (fun k=>k<B) (TestV n) x.2 W u->x.2≠[]->(Y7 E (x.2.map (Zx n))).length<=100000->(Ja (ZS n) H b x.2 cs).length<=1000000->∃a m c,u=.slice a m c/\∀A,Below B W A->CC A B d cs->Calls prog 274 #[Qc d,.slice a m c,Qa H,.bool b] A (X_ B d (Ja (ZS n) H b x.2 cs) A):=fun E u H b i F K aa=>by
   obtain⟨g,c,rfl,Q,hx⟩:=i;refine⟨_,_,_,rfl,fun A P X=>?_⟩
   have Z:x.2.length<=1000000:=by
    have t:=At (x.2.map (Zx n));rw[XB]at t;unfold Y7 at K;simp only[Qz]at K;omega
   refine Tn (ZS n) X F Q Z (BV n) aa (fun j S=>?_);obtain⟨uj,Y,ac⟩:=hx j S;have T:x.2[j]∈x.2:=ZT S;obtain⟨s,y,rfl,M⟩:=U _ T uj ac (QE (F4 (hw:=E) (Vn T)) K);exact⟨s,y,by rw[P.cell (p:=⟨g,j,none⟩) Q];exact Y,M.below P⟩
  unfold YY at h
  split at h
  .rename_i e;obtain⟨o,rfl⟩:=h;have f:XE (ZS n) x.1 x.2 cs=cs++[pushI true]:=by unfold XE;rw[e];rfl
   rw[f]at hl ⊢;exact H6 hCC (by simpa using hl)
  .rename_i e;obtain⟨o,rfl⟩:=h;have f:XE (ZS n) x.1 x.2 cs=cs++[pushI false]:=by unfold XE;rw[e];rfl
   rw[f]at hl ⊢;exact H6 hCC (by simpa using hl)
  .rename_i e;obtain⟨a,u,o,rfl,i⟩:=h;have f:XE (ZS n) x.1 x.2 cs=ZS n a cs++[insOp 2]:=by unfold XE;rw[e,o];rfl
   have l:Xl x.1 (x.2.map (Zx n))=ZC [kNot,Zx n a]:=by unfold Xl;rw[e,o];rfl
   rw[f]at hl ⊢;rw[l]at hlen;obtain⟨s,y,rfl,M⟩:=U a (by rw[o];simp) u i (QE (J9 (ps:=[kNot,Zx n a]) Qh) hlen);exact Qv2 s hCC (by simpa using hl) M
  .rename_i e;obtain⟨u,rfl,i,F⟩:=h;have f:XE (ZS n) x.1 x.2 cs=Ja (ZS n) 5 false x.2 cs:=by unfold XE;rw[e];rfl
   have l:Xl x.1 (x.2.map (Zx n))=Y7 JV (x.2.map (Zx n)):=by unfold Xl;rw[e];rfl
   rw[f]at hl ⊢;rw[l]at hlen;obtain⟨a,m,c,rfl,J⟩:=R JV u 5 false i F hlen hl;exact TS a hCC N J
  .rename_i e;obtain⟨u,rfl,i,F⟩:=h;have f:XE (ZS n) x.1 x.2 cs=Ja (ZS n) 4 true x.2 cs:=by unfold XE;rw[e];rfl
   have l:Xl x.1 (x.2.map (Zx n))=Y7 JU (x.2.map (Zx n)):=by unfold Xl;rw[e];rfl
   rw[f]at hl ⊢;rw[l]at hlen;obtain⟨a,m,c,rfl,J⟩:=R JU u 4 true i F hlen hl;exact T2 a hCC N J
  .rename_i e;obtain⟨o,u,rfl,i⟩:=h;have f:XE (ZS n) x.1 x.2 cs=cs++[Xu 6 x.1]:=by unfold XE;rw[e];rfl
   have l:Xl x.1 (x.2.map (Zx n))=Jq Y_ x.1:=by unfold Xl;rw[e];rfl
   rw[f]at hl ⊢;rw[l]at hlen;obtain⟨q,r,C,D⟩:=L _ hlen;exact S2 x.1 hCC (by simpa using hl) i q r C D
  .rename_i e;obtain⟨o,u,rfl,i⟩:=h;have f:XE (ZS n) x.1 x.2 cs=cs++[Xu 7 x.1]:=by unfold XE;rw[e];rfl
   have l:Xl x.1 (x.2.map (Zx n))=Jq Zb x.1:=by unfold Xl;rw[e];rfl
   rw[f]at hl ⊢;rw[l]at hlen;obtain⟨q,r,C,D⟩:=L _ hlen;exact RM x.1 hCC (by simpa using hl) i q r C D
  .rename_i e;obtain⟨o,u,rfl,i⟩:=h;have f:XE (ZS n) x.1 x.2 cs=cs++[Xu 8 x.1]:=by unfold XE;rw[e];rfl
   have l:Xl x.1 (x.2.map (Zx n))=Jq Xc x.1:=by unfold Xl;rw[e];rfl
   rw[f]at hl ⊢;rw[l]at hlen;obtain⟨q,r,C,D⟩:=L _ hlen;exact Sy x.1 hCC (by simpa using hl) i q r C D
  .rename_i e;obtain⟨o,u,rfl,i⟩:=h;have f:XE (ZS n) x.1 x.2 cs=cs++[⟨9,0,0,false,x.1.fr,[],0⟩]:=by unfold XE;rw[e];rfl
   have l:Xl x.1 (x.2.map (Zx n))=ZC [YL,XF x.1.fr]:=by unfold Xl;rw[e];rfl
   rw[f]at hl ⊢;rw[l]at hlen;have t:(XF x.1.fr).length<=100000:=QE (J9 (ps:=[YL,XF x.1.fr]) Qh) hlen;obtain⟨q,r⟩:=Dd x.1.fr;exact S8 hCC (by simpa using hl) i I (fun z G=>QE (q z G) t)
  .rename_i h0 t o h3 h4 h5 h6 h7 h8;obtain⟨_,rfl⟩:=h
   have e:x.1.kind=9:=by
    have a0:x.1.kind≠0:=h0;have q:x.1.kind≠1:=t;have r:x.1.kind≠2:=o;have C:x.1.kind≠3:=h3;have D:x.1.kind≠4:=h4;have a5:x.1.kind≠5:=h5;have a6:x.1.kind≠6:=h6;have a7:x.1.kind≠7:=h7;have a8:x.1.kind≠8:=h8;have:=hw.kind;omega
   have f:XE (ZS n) x.1 x.2 cs=cs++[⟨10,x.1.num,x.1.tag,false,[],[],0⟩]:=by unfold XE;rw[e];rfl
   rw[f]at hl ⊢;exact W8 x.1.tag hCC (by simpa using hl) hw.num
section
attribute [local go_sem ↓] Zt Zu
theorem Qt6{a:Nat}(h:CC w B a b)(j:b.length+1<=1000000):Calls prog 176 #[Qc a,.iface 269 (.agg #[Qf hw,Qa p,Qa 1,Qf arg])] w (X_ B a (b++[Xs 1 p []]) w):=by
 have r:=Tryz.yesAct;have d:∀o,Qo w (w.alloc o):=fun o=>QH o
 change Qd _ at j d;replace h:=O h;go_enter func176,ntmps176;go_wp2_with (first|(go_at_call 217;refine Qv (Wr p) ?_;rintro n f;have c:=O ((d _).trans (f.mono Qh));have k:=O (h.o.below c);clear f;unfold Zy;skip)|(go_at_call 216;refine Qv (Ge k (Ga rfl rfl (by show(-9223372036854775808:Int)<=0;decide) (by show(0:Int)<=9223372036854775807;decide)) j) ?_;rintro q ⟨g,i⟩;have l:=O g;have m:=O ((Fr.of_below c).trans i);clear g i;skip));go_end0;exact⟨rfl,l,m⟩
theorem DV(k:Nat){a:Nat}(h:CC w B a b)(s:b.length+1<=1000000)(f:k≠1)(D:arg.length<=100000):Calls prog 176 #[Qc a,.iface 269 (.agg #[Qf hw,Qa p,Qa k,Qf arg])] w (X_ B a (b++[Xs k p [arg]]) w):=by
 have G:=Tryz.yesAct;have C:=Xj (JR h.lt.1 h.lt.2);have c:∀o,Qo w (w.alloc o):=fun o=>QH o
 change Qd _ at s c;replace h:=O h;go_enter func176,ntmps176;go_wp2_with (first|(go_at_call 217;refine(Sv p f).mono ?_;rintro e t ⟨g,rfl,i,d,q⟩;have u:Hid (Apt w.heap.size [(Xs k p [arg],Value.slice (some ⟨g,0,none⟩) 1 1,Value.slice none 0 0)]):=Apt.two (L2:=t.heap.size) (fun E r=>⟨(by have e:g=E:=(by simpa[Value.ownBlock]using r);rw[<-e];exact QE (c _).size q),i.lt r⟩) (fun k f=>nomatch f) (QE Qh d.size) QF QF;have l:=O ((c _).trans (d.mono Qh));have v:=O (h.o.toL.below l);have A:=O i;clear d i q;unfold Zy;skip)|(go_at_call 216;refine Qv (GR (Xs k p [arg]) v ⟨A,Qt ⟨rfl,rfl⟩,(fun z j=>(by rw[ZV j];exact D)),(fun z j=>nomatch j),(by show 1<=1000000;decide),QR,(by show(-9223372036854775808:Int)<=0;decide),(by show(0:Int)<=9223372036854775807;decide)⟩ u C s) ?_;rintro F ⟨m,n⟩;have x:=O m;have y:=O ((Fr.of_below l).trans n);clear m n;skip));go_end0;exact⟨rfl,x,y⟩
theorem QyN{a:Option Addr}(g:Option Addr){c i:Nat}{j:Bool}{b:Nat}(h:CC w B b d)(r:B<=w.heap.size)(s:∀W,Below B w W->CC W B b d->Calls prog 218 #[Qc b,.agg #[Qf hw,Qa p,.slice a n c,.bool j,.slice g k i]] W (X_ B b f W)):Calls prog 176 #[Qc b,.iface 261 (.agg #[Qf hw,Qa p,.slice a n c,.bool j,.slice g k i])] w (X_ B b f w):=by
 have t:Hid (∀o,Below B w (w.alloc o)):=fun o=>(QO _ _).alloc r o
 change Qd _ at s;have y:=Tryz.noAct;have z:=Tryz.noSet;have A:=Tryz.noDiscard;have C:=Tryz.noStop;have E:=Tryz.yesIf;have u:Hid (∀o,CC (w.alloc o) B b d):=fun o=>h.alloc o
 have l:∀o,Qo w (w.alloc o):=fun o=>QH o
 clear h r;change Qd _ at l;go_enter func176,ntmps176;go_wp2_with (first|(go_at_call 218;refine Qv (s _ (t _) (u _)) ?_;rintro D ⟨m,q⟩;have v:=O m;have x:=O ((Fr.of_below (l _)).trans q);clear m q;skip));go_end0;exact⟨rfl,v,x⟩
end
theorem WP{a:Nat}:SubC 120 B a w Qp (fun cs=>cs):=fun W cs hW hCC hl=>by
 change Qd _ at hCC;go_enter func120,ntmps120;go_wp2_with fail;refine Vs 1 ?_;rw[UB];go_wp2;go_end0;exact⟨rfl,hCC,Fr.refl _ _⟩
theorem TP(sub:α->List Ins->List Ins){a:List α}(b:List Ins)(h:k<a.length):blockC sub (a.take (k+1)) b=sub a[k] (blockC sub (a.take k) b):=by
 unfold blockC;rw[List.take_add_one,Zi h,GG];rfl
theorem Ws(c:∀t a,a.length<=(sub t a).length)(b:List α)(k:Nat):(blockC sub (b.take k) a).length<=(blockC sub b a).length:=by
 have:=V_ c (b.drop k) (blockC sub (b.take k) a);unfold blockC at this ⊢;rw[<-GG,List.take_append_drop]at this;exact this
theorem Ta(sub:α->List Ins->List Ins){a:List α}{l c:Nat}(u:g<B)(C:a.length<=1000000)
 (s:∀t cs,cs.length<=(sub t cs).length)
 (n:∀j (z:j<a.length),∃ty y,w.cell? ⟨g,j,none⟩=some (.iface ty y)/\SubC 176 B l w (.iface ty y) (sub a[j])) :
 SubC 120 B l w (.slice (some ⟨g,0,none⟩) a.length c) (blockC sub a):=fun W cs hW hCC hl=>by
 have G:=O hl;have F:=O n;have J:=O s;have D:=O hW;have H:=O hCC;clear n s hCC hl hW;go_enter func120,ntmps120;go_wp2_with fail
 go_loopw [5,8] (fun _ i wr=>∃(k:Nat) (r:List Ins),k<=a.length/\i=.int .i64 (k:Int)/\r=blockC sub (a.take k) cs/\CC wr B l r/\Fr (PCo B) W wr) (fun _ i _=>a.length-(intOf i).toNat)
 case atStart=>exact⟨0,_,QR,by go_num,rfl,H.o,Fr.refl _ _⟩
 case round=>
  obtain⟨k,r,A,rfl,b,hCC,hF⟩:=hrel;have d:Below B W wr:=hF.co H.o;by_cases hlt:k<a.length
  .obtain⟨ty,y,q,E⟩:=F.o k hlt
   have x:wr.cell? ⟨g,k,none⟩=some (.iface ty y):=by
    rw[(D.o.trans d).cell (p:=⟨g,k,none⟩) u];exact q
   have f:=TP sub (a:=a) cs (k:=k) hlt;have m:=Ws J.o a (a:=cs) (k+1);rw[f,<-b]at m;rw[<-b]at f;have K:=O f;have HLA:=O (QE m G.o);have HTY:=O E;have HCC:=O hCC;have HF:=O hF;have HBe:=O (D.o.trans d);clear hCC hF d q E m b f
   go_wp2_with (first
    | (go_at_call 176;refine (HTY.o wr r HBe.o HCC.o HLA.o).mono ?_;rintro e w1 ⟨rfl,hc1,hf1⟩;have HC1:=O hc1;have HF1:=O (HF.o.trans hf1);clear hc1 hf1;skip))
   go_roundw
   case rel=>exact⟨k+1,_,by omega,by go_num,rfl,by rw[K.o];exact HC1.o,HF1.o⟩
   case measure=>simp[intOf];omega
  .have v:k=a.length:=by omega
   subst v;rw[KA]at b;subst b;have HCC:=O hCC;have HF:=O hF;clear hCC hF d;go_wp2;go_end0;exact⟨rfl,HCC.o,HF.o⟩
end Go.Proofs.YtgnkjijocdmniaaGreatDoor
