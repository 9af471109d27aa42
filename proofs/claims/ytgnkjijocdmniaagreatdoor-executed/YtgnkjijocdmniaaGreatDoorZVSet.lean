import Derived.Lib.SmallJoins
import Derived.Test.YtgnkjijocdmniaaGreatDoorQParse
import Derived.Test.YtgnkjijocdmniaaGreatDoorZVHolds
namespace Go.Proofs.YtgnkjijocdmniaaGreatDoor
set_option linter.unusedVariables false
set_option linter.unusedSimpArgs false
set_option maxRecDepth 100000
set_option maxHeartbeats 4000000
open Go.Proofs.Tryz
open Go.RowKit
attribute [local go_sem ↓] Go.wp_at_zero Go.wp_at_succ
variable{H:Type}{B base g n q sb size:Nat}{M:Msg}{W w w':World}{a b en kp u:Bool}{c v v':Value}{e:TypeId}{enc:TypeId×Value->H}{er pz:Int}{l:Qa}{o:Obj}{r:Int×List (Int×L8)}{s s':SS}{x:L8}{xs:List Value}{y:DataW H×List MemPlace}{z:StV}
structure Env (w:World):Prop where
 m1:∃ m,w.cell? ⟨1,0,none⟩=some (.int .i64 m)
 et:Xk w
 tab:Tab w
theorem Env.below{w w':World}(h:Env w)(a:Below w.heap.size w w'):Env w':=by
 obtain⟨m,b⟩:=h.m1;exact⟨⟨m,by rw[a.cell (p:=⟨1,0,none⟩) (Qq b)];exact b⟩,h.et.below a,h.tab.below a⟩
theorem Tryz.infoActionV:(prog.info? 52).map (fun i=>(i.zero,i.size,i.bytes))=some (some (.agg #[.int .i64 0,.string ⟨#[]⟩]),2,24):=by kernel_rfl
theorem EN(a b:Int×L8)(W:World):(binOp .eql 52 (.agg #[.int .i64 a.1,.string (sA a.2)]) (.agg #[.int .i64 b.1,.string (sA b.2)])).run prog W=.ok (.bool (decide (a=b))) W:=by
 have c:((sA a.2).toList==(sA b.2).toList)=decide (a.2=b.2):=JL a.2 b.2;have d:prog.underlying 52=some (.struct (prog.fieldsOf 52)):=by kernel_rfl
 have f:prog.stoodInHeld 52=false:=by kernel_rfl
 have e:(prog.fieldsOf 52).toList=[⟨ "Kind",3,0,false, "", "",0⟩,⟨ "Arg",9,1,false, "", "",8⟩]:=by kernel_rfl
 rw[run_eql_struct,run_equalIn_struct W _ _ _ _ d f,e];simp[Op.eqFields,go_sem,Result.andThen,c];obtain⟨x,y⟩:=a;obtain⟨z,u⟩:=b;by_cases h1:x=z<;>by_cases h2:y=u<;>simp[h1,h2]
theorem Ss(w:World)(x:Int×L8)(t:TypeId):∀ j u,[Value.int .i64 x.1,.string (sA x.2)][j]?=some u->(w.alloc (.cells #[.int .i64 x.1,.string (sA x.2)] t)).cell? ((⟨w.heap.size,0,none⟩:Addr).add j)=some u:=by
 intro j u a
 match j,a with
 |0,a=>simp at a;subst a;simp[Addr.add]
 |1,a=>simp at a;subst a;simp[Addr.add]
theorem SP(x:Int×L8):∀ u∈[Value.int .i64 x.1,Value.string (sA x.2)],u.oneCell'=true:=by
 intro u a;simp at a;rcases a with rfl|rfl<;>rfl
theorem JW(h:w.ownsRow base e size v n xs)(g:∀ k,v.ownBlock=some k->w'.heap[k]?=w.heap[k]?):w'.ownsRow base e size v n xs:=by
 refine⟨h.1,?_⟩;rcases h.2 with f | ⟨a,c,d,b,i,j,r⟩
 ·exact Qd f
 ·exact Qc ⟨a,c,d,b,i,by rw[g a (by rw[b];rfl)];exact j,r⟩
theorem TxL.of{zs:Qa}(h:TxL w v zs)(e:∀ k,v.ownBlock=some k->w'.heap[k]?=w.heap[k]?):TxL w' v zs:=by
 rcases h with h | ⟨g,c,b,d⟩
 ·exact Qd h
 ·exact Qc ⟨g,c,b,fun j f=>by rw[ZA (a:=⟨g,j,none⟩) (w:=w) (e g (by rw[b];rfl))];exact d j f⟩
theorem Ku{b:Nat}{t:TypeId}{i:Nat}{j:List Value}(h:w.ownsRow base e size v n xs)(d:w.ownsRow b t i v' g j)(he:e≠t):∀ k,v.ownBlock=some k->v'.ownBlock≠some k:=fun k hk hk'=>by
 rcases d.2 with⟨a,_⟩ | ⟨c,l,m,a,_,f,_⟩
 ·rw[a]at hk';cases hk'
 ·have:c=k:=by rw[a]at hk';simpa[Value.ownBlock]using hk'
  subst this;exact ZF h f he hk
theorem StI.modS{C t p i:Bool}{u D j r:Int}(h:StI w B sb M s z q C t u D)(d:Mod sb w w')
 (x:SB w' sb M.fr M.to M.size z.hv s'.vs z.nv z.vv z.cv z.av p i j r) (m:s'.vs=s.vs) (A:s'.vals=s.vals) (o:s'.told=s.told) (f:s'.met=s.met):StI w' B sb M s' z q p i j r:=by
 have b:∀ {e:TypeId} {size:Nat} {v:Value} {n:Nat} {xs:List Value},w.ownsRow B e size v n xs->e≠104->w'.ownsRow B e size v n xs:=fun g he=>JW g fun k b=>d.block k (g.lt k b).2 (fun e=>ZF g h.blk he (by rw[<-e];exact b))
 refine⟨h.hB,x,b h.n (by decide),b h.v (by decide),by rw[f];exact b h.a (by decide),fun e=>?_,fun e=>h.c0 (by rw[<-m];exact e),h.cap,fun k b=>Y5 (h.capt k b) (d.block k (h.capl k b) (h.cap k b).2.2.2),h.nvv,h.l,h.nl,fun y=>by rw[A];exact h.vals y,h.h.below (d.below h.hB h.lt),h.mb,h.vb,by rw[o];exact h.tb,by rw[f];exact h.alone,by rw[f];exact h.six⟩;rw[o];exact(h.c (by rw[<-m];exact e)).of fun k b=>d.block k (h.capl k b) (h.cap k b).2.2.2
theorem StI.fail{f:Int}(h:StI w B sb M s z q a b 0 f)(e p:Int) :
 Calls prog 46 #[.pointer (some ⟨sb,0,none⟩),.int .i64 e,.int .i64 p] w fun x w'=>x=.returned (.tuple #[])/\Mod sb w w'/\StI w' B sb M s z q a true e p:=by
 refine(M7 sb M.fr M.to M.size z.hv s.vs z.nv z.vv z.cv z.av a b 0 f e p w h.blk).mono ?_;rintro x w' ⟨g,c,d⟩;rw[if_pos rfl,if_pos rfl,if_pos rfl]at d;exact⟨g,c,h.modS c d rfl rfl rfl rfl⟩
theorem StI.metS(h:StI w B sb M s z q kp en er pz):StI w B sb M (XE s s.met) z q kp en er pz:=h
theorem StI.growA{f:World}{m:Bool}{o y:Int}(h:StI w B sb M s z q u m o y)(j:∀ k,k<w.heap.size->some k≠z.av.ownBlock->f.heap[k]?=w.heap[k]?)(H:Below B w f){met':List (Int×L8)}(r:f.ownsRow B 52 2 v' met'.length (QZ met'))(hv:v'.ownBlock=z.av.ownBlock\/∀ k,v'.ownBlock=some k->w.heap.size<=k)(G:∀ x∈met',x.1=4->met'.length=1)(F:met'.length<=6) :
 StI (f.setCell ⟨sb,8,none⟩ v') B sb M (XE s met') ⟨z.hv,z.nv,z.vv,z.cv,v',z.ns,z.vl⟩ q u m o y:=by
 have L:f.heap[sb]?=w.heap[sb]?:=j sb h.lt (fun e=>ZF h.a h.blk (by decide) e.symm);have i:=h.blk;unfold SB at i;rw[<-L]at i;have K:Mod sb f (f.setCell ⟨sb,8,none⟩ v'):=(Mod.refl sb f).setCell _ _;have p:f.ownsRow B 9 1 z.nv z.ns.length (Qv z.ns):=JW h.n fun k d=>j k (h.n.lt k d).2 (fun e=>Ku h.n h.a (by decide) k d e.symm)
 have t:f.ownsRow B 9 1 z.vv z.vl.length (Qv z.vl):=JW h.v fun k d=>j k (h.v.lt k d).2 (fun e=>Ku h.v h.a (by decide) k d e.symm)
 refine⟨h.hB,Qt _ _ _ _ _ _ i,ZY p (ZF p i (by decide)),ZY t (ZF t i (by decide)),ZY r (ZF r i (by decide)),fun e=>?_,h.c0,fun k d=>?_,fun k d=>Y5 (Y5 (h.capt k d) (j k (h.capl k d) (fun g=>(h.cap k d).2.2.1 g.symm))) (QK (h.cap k d).2.2.2),h.nvv,h.l,h.nl,h.vals,(h.h.below H).below (K.below h.hB (Qg i)),h.mb,h.vb,h.tb,G,F⟩
 ·have J:=h.c e;refine TxL.setV (b:=sb) ?_ (fun g=>(h.cap sb g).2.2.2 rfl);exact J.of fun k d=>j k (h.capl k d) (fun g=>(h.cap k d).2.2.1 g.symm)
 ·obtain⟨A,C,D,E⟩:=h.cap k d;refine⟨A,C,fun g=>?_,E⟩;rcases hv with hv|hv
  ·exact D (by rw[<-hv];exact g)
  ·have:=hv k g;have:=h.capl k d;omega
theorem StI.appA{wr c:World}{v p:Bool}{r w:Int}(h:StI wr B sb M s z q v p r w){la:Option Addr}{o b f:Nat}{a:Int×L8}{g:Obj}(l:z.av=.slice la s.met.length o)(u:(wr.alloc g).drew.grownBy c (Value.slice la s.met.length o).ownBlock)
 (F:c.ownsRow B 52 2 (.slice (some ⟨b,0,none⟩) (s.met.length+1) f) (s.met.length+1) (QZ s.met++[.int .i64 a.1,.string (sA a.2)])) (E:(Value.slice la s.met.length o).ownBlock=some b\/b=(wr.alloc g).drew.heap.size) (D:∀ x∈s.met++[a],x.1=4->(s.met++[a]).length=1) (H:s.met.length<=5) :
 ∃ z',StI (c.setCell ⟨sb,8,none⟩ (.slice (some ⟨b,0,none⟩) (s.met.length+1) f)) B sb M (XE s (s.met++[a])) z' q v p r w/\Below B wr (c.setCell ⟨sb,8,none⟩ (.slice (some ⟨b,0,none⟩) (s.met.length+1) f))/\KB wr (c.setCell ⟨sb,8,none⟩ (.slice (some ⟨b,0,none⟩) (s.met.length+1) f)):=by
 have n:(wr.alloc g).drew.heap.size=wr.heap.size+1:=by show(wr.heap.push g).size=_;simp
 have A:B<=wr.heap.size:=Qs h.hB (Nat.le_of_lt h.lt)
 have t:Below B wr c:=by
  have y:Below B wr (wr.alloc g).drew:=((Below.refl _ _).alloc A g).drew;exact y.grown u (by rw[n];omega) (fun k d=>(h.a.lt k (by rw[l];exact d)).1)
 have j:∀ k,k<wr.heap.size->some k≠z.av.ownBlock->c.heap[k]?=wr.heap[k]?:=fun k d m=>by
  rw[u.block k (by rw[n];omega) (by rw[<-l];exact m)];exact Below.heap_alloc _ _ _ d
 have G:c.heap[sb]?=wr.heap[sb]?:=j sb h.lt (fun e=>ZF h.a h.blk (by decide) e.symm);have i:=h.blk;unfold SB at i;rw[<-G]at i;have C:KB wr (c.setCell ⟨sb,8,none⟩ (.slice (some ⟨b,0,none⟩) (s.met.length+1) f)):=(Nl h.a (by decide) j).trans (Vm i (by decide) _ _);refine⟨_,h.growA (v':=.slice (some ⟨b,0,none⟩) (s.met.length+1) f) (met':=s.met++[a]) (fun k d m=>?_) t ?_ ?_ D (by rw[Ze];simp;omega),t.setCell (by exact h.hB) _,C⟩
 ·exact j k d m
 ·rw[Ze,<-B0];exact F
 ·rw[l];rcases E with e|e
  ·exact Qd e.symm
  ·right;intro k d;have:b=k:=by simpa[Value.ownBlock]using d
   rw[n]at e;omega
def YK(met:List (Int×L8))(a:Int×L8):Int×List (Int×L8):=
 if a∈met then(0,met)
 else if met≠[]/\(a.1=4\/(met.headD (0,[])).1=4)then(10,met)
 else if met.length=6 then(11,met)
 else(0,met++[a])
def Un(a:Int×L8)(l:List (Int×L8)):Bool:=l.any fun x=>decide (x=a)
theorem Ed(a:Int×L8)(l:List (Int×L8)):Un a l=true↔a∈l:=by
 unfold Un;simp
theorem PB(a:Int×L8)(l:List (Int×L8))(k:Nat)(h:k<l.length):Un a (l.drop k)=(decide (l[k]=a) || Un a (l.drop (k+1))):=by
 rw[List.drop_eq_getElem_cons h];rfl
def Jh(B sb:Nat)(M:Msg)(s:SS)(q:Nat)(kp en:Bool)(pz p:Int)(r:Int×List (Int×L8))(w':World):Prop:=
 ∃ z',StI w' B sb M (XE s r.2) z' q kp (if r.1=0 then en else true) r.1 (if r.1=0 then pz else p)
theorem Jh.err{c p e:Int}(d:r=(e,s.met))(he:¬ e=0)(h:StI w' B sb M s z q a true e p):Jh B sb M s q a b c p r w':=by
 subst d;refine⟨z,?_⟩;show StI w' B sb M s z q a (if e=0 then b else true) e (if e=0 then c else p)
 rw[if_neg he,if_neg he];exact h
theorem Jh.ok{c p:Int}{m:List (Int×L8)}(d:r=(0,m))(h:StI w' B sb M (XE s m) z q b a 0 c):Jh B sb M s q b a c p r w':=by
 subst d;exact⟨z,h⟩
theorem EU(B sb:Nat)(M:Msg)(s:SS)(z:StV)(q:Nat)(kp en:Bool)(pz:Int)(a:Int×L8)(p:Int)(w:World)(h:StI w B sb M s z q kp en 0 pz) :
 Calls prog 79 #[.pointer (some ⟨sb,0,none⟩),.agg #[.int .i64 a.1,.string (sA a.2)],.int .i64 p] w fun e w'=>e=.returned (.tuple #[])/\(Below B w w'/\KB w w')/\Jh B sb M s q kp en pz p (YK s.met a) w':=by
 obtain⟨la,F,ab⟩:=QQ h.a;have c8:w.cell? ⟨sb,8,none⟩=some (.slice la s.met.length F):=by rw[<-ab];exact Qi h.blk 8
 have Q:=h.lt;have h6:=h.six;have H:=I h;have HE:=I EN;have G:B<=w.heap.size:=Qs h.hB (Nat.le_of_lt h.lt);have J:=I ab;clear h ab;go_enter func79,ntmps79;go_wp2
 go_loopw [6] (fun E wr=>∃(k:Nat),k<=s.met.length/\E=.int .i64 k/\Hid (Below w.heap.size w wr)/\Hid (wr.heap[w.heap.size]?=some (.cells #[.int .i64 a.1,.string (sA a.2)] 52))/\Hid (Un a s.met=Un a (s.met.drop k))) (fun E _=>s.met.length - (intOf E).toNat)
 case atStart=>exact⟨0,QE,rfl,Qp _,QC _ _,rfl⟩
 case round=>
  obtain⟨k,hk,rfl,b,n,f⟩:=hrel;have Y:wr.cell? ⟨sb,8,none⟩=some (.slice la s.met.length F):=by rw[b.o.cell (p:=⟨sb,8,none⟩) Q];exact c8
  have p0:=Qk n.o;have p1:=Qr n.o;by_cases hkl:k<s.met.length
  ·have ac:(k:Int)<(s.met.length:Int):=by omega
   have L:=I (PB a s.met k hkl);have D:=Xt H.o.a b.o;rw[J.o]at D;obtain⟨g,c,hv,aB,aC,hcells⟩:=Xo D (by omega);injection hv with hv1 hv2 hv3
   subst hv1;have q0:=hcells (k*2) _ (K0 s.met k hkl).1;have q1:=hcells (k*2+1) _ (K0 s.met k hkl).2;have hq:=HE.o s.met[k] a;obtain⟨d,P⟩:=Qe (s.met[k]);rw[P]at q0 q1 hq L;clear hcells D hv2 hv3 P;by_cases he:d=a
   ·rw[Qw he]at hq L
    have m:Hid (YK s.met a=(0,s.met)):=by
     show _=_
     unfold YK;rw[if_pos ((Ed a s.met).1 (by rw[f.o,L.o,Bool.true_or]))]
    clear he;go_wp2;go_region;go_wp2;refine bodyPost_ret (v:=.tuple #[]) (by simp[results,results79,go_sem]) rfl ?_;exact⟨rfl,⟨(b.o.mono G).drew,X5 b.o.drew⟩,z,by rw[m.o];exact(H.o.below b.o.drew).metS⟩
   ·rw[Qh he]at hq L;have i:Hid (Un a s.met=Un a (s.met.drop (k+1))):=by show _=_;rw[f.o,L.o,Bool.false_or]
    clear he;go_wp2;go_region;go_wp2;exact⟨⟨k+1,by omega,by go_num,b.o.drew,n,i⟩,by simp[intOf];omega⟩
  ·have aa:k=s.met.length:=by omega
   subst aa;have ac:¬(s.met.length:Int)<(s.met.length:Int):=by omega
   have ad:Hid (¬ a∈s.met):=by
    intro e;have:=(Ed a s.met).2 e;rw[f.o,Zb Ql]at this;cases this
   have W:Hid (YK s.met a=if s.met≠[]/\(a.1=4\/(s.met.headD (0,[])).1=4)then(10,s.met)else if s.met.length=6 then(11,s.met)else(0,s.met++[a])):=by
    show _=_
    unfold YK;rw[if_neg ad.o]
   clear f p0 p1;have ag:=b;have ah:=n;clear b n;go_wp2
   go_loopw [7] (fun E wr=>∃(k:Nat),k<=s.met.length/\E=.int .i64 k/\Hid (Below w.heap.size w wr)/\Hid (wr.heap[w.heap.size]?=some (.cells #[.int .i64 a.1,.string (sA a.2)] 52))/\Hid (0<k->¬(a.1=4\/(s.met.headD (0,[])).1=4))) (fun E _=>s.met.length - (intOf E).toNat)
   case atStart=>exact⟨0,QE,rfl,ag,ah,fun e=>absurd e (by omega)⟩
   case round=>
    clear ag ah Y;obtain⟨k,hk,rfl,b,n,f⟩:=hrel;have Y:wr.cell? ⟨sb,8,none⟩=some (.slice la s.met.length F):=by rw[b.o.cell (p:=⟨sb,8,none⟩) Q];exact c8
    have p0:=Qk n.o;have p1:=Qr n.o;by_cases hkl:k<s.met.length
    ·have ac:(k:Int)<(s.met.length:Int):=by omega
     have D:=Xt H.o.a b.o;rw[J.o]at D;obtain⟨g,c,hv,aB,aC,hcells⟩:=Xo D (by omega);injection hv with hv1 hv2 hv3
     subst hv1;have q0:=hcells (k*2) _ (K0 s.met k hkl).1;have q1:=hcells (k*2+1) _ (K0 s.met k hkl).2
     have X:Hid (k=0->(s.met.headD (0,[])).1=s.met[k].1):=by
      intro e
      have T:∀(l:List (Int×L8)) (h:k<l.length),k=0->(l.headD (0,[])).1=(l[k]'h).1:=fun l h e=>by subst e;cases l with
       |nil=>exact absurd h (Nat.not_lt_zero _)
       |cons x r=>rfl
      exact T s.met hkl e
     have R:Hid (0<k->¬ s.met[k].1=4):=fun N e=>by
      have:=H.o.alone _ (List.getElem_mem hkl) e;omega
     have ax:Hid (s.met≠[]):=fun e=>by rw[e]at hkl;exact absurd hkl (Nat.not_lt_zero _)
     have aI:=I (H.o.below b.o);obtain⟨d,P⟩:=Qe (s.met[k]);rw[P]at q0 q1 X R;clear hcells D hv2 hv3 P;have S:=I ((H.o.below b.o).fail 10 p);have aJ:=I ((H.o.below b.o.drew).fail 10 p)
     have ak:(d.1=4\/a.1=4)->YK s.met a=(10,s.met):=fun e=>by
      by_cases N:0<k
      ·exfalso;rcases e with e|e
       ·exact R.o N e
       ·exact f.o N (Qd e)
      ·rw[W.o,if_pos ⟨ax.o,by rw[X.o (by omega)];exact e.symm⟩]
     have aj:¬(d.1=4\/a.1=4)->¬(a.1=4\/(s.met.headD (0,[])).1=4):=fun e=>by
      by_cases N:0<k
      ·exact f.o N
      ·rw[X.o (by omega)];exact fun t=>e t.symm
     have ae:=I ak;have ay:=I aj;clear ak aj;by_cases e1:d.1=4
     ·have b1:(d.1==4)=true:=by simpa using e1
      have m:=I (ae.o (Qd e1));clear e1;go_wp2_with fail;refine S.o.mono ?_;rintro e w2 ⟨rfl,A,u⟩;have i:=I A;have K:=I u;clear A u;go_wp2;refine bodyPost_ret (v:=.tuple #[]) (by simp[results,results79,go_sem]) rfl ?_;exact⟨rfl,⟨(b.o.mono G).trans (i.o.below H.o.hB (Zs Q b.o.size)),(X5 b.o).trans (K8 i.o (H.o.below b.o).blk (by decide))⟩,Jh.err m.o (by decide) K.o⟩
     ·have b1:(d.1==4)=false:=by simpa using e1
      by_cases t:a.1=4
      ·have b2:(a.1==4)=true:=by simpa using t
       have m:=I (ae.o (Qc t));clear e1 t;go_wp2_with fail;refine S.o.mono ?_;rintro e w2 ⟨rfl,A,u⟩;have i:=I A;have K:=I u;clear A u;go_wp2;refine bodyPost_ret (v:=.tuple #[]) (by simp[results,results79,go_sem]) rfl ?_;exact⟨rfl,⟨(b.o.mono G).trans (i.o.below H.o.hB (Zs Q b.o.size)),(X5 b.o).trans (K8 i.o (H.o.below b.o).blk (by decide))⟩,Jh.err m.o (by decide) K.o⟩
      ·have b2:(a.1==4)=false:=by simpa using t
       have aw:=I (ay.o (fun e=>e.elim e1 t));clear e1 t;go_wp2;exact⟨⟨k+1,by omega,by go_num,b,n,fun _=>aw.o⟩,by simp[intOf];omega⟩
    ·have aa:k=s.met.length:=by omega
     subst aa;have ac:¬(s.met.length:Int)<(s.met.length:Int):=by omega
     have V:Hid (YK s.met a=if s.met.length=6 then(11,s.met)else(0,s.met++[a])):=by
      show _=_
      rw[W.o,if_neg];rintro⟨Z,h2⟩;exact f.o (List.length_pos_iff.2 Z) h2
     by_cases h66:s.met.length=6
     ·have b6:((s.met.length:Int)==6)=true:=by simp;omega
      have m:Hid (YK s.met a=(11,s.met)):=by show _=_;rw[V.o,if_pos h66]
      have S:=I ((H.o.below b.o).fail 11 p);clear h66;go_wp2_with fail;refine S.o.mono ?_;rintro e w2 ⟨rfl,A,u⟩;have i:=I A;have K:=I u;clear A u;go_wp2;refine bodyPost_ret (v:=.tuple #[]) (by simp[results,results79,go_sem]) rfl ?_;exact⟨rfl,⟨(b.o.mono G).trans (i.o.below H.o.hB (Zs Q b.o.size)),(X5 b.o).trans (K8 i.o (H.o.below b.o).blk (by decide))⟩,Jh.err m.o (by decide) K.o⟩
     ·have b6:((s.met.length:Int)==6)=false:=by simp;omega
      have m:Hid (YK s.met a=(0,s.met++[a])):=by show _=_;rw[V.o,if_neg h66]
      have C:=I (H.o.below b.o);have ar:Hid (wr.ownsRow B 52 2 (.slice la s.met.length F) s.met.length (QZ s.met)):=by rw[<-J.o];exact C.o.a
      have af:Hid (¬(Value.slice la s.met.length F).ownBlock=some sb):=by rw[<-J.o];exact ZF C.o.a C.o.blk (by decide)
      have ap:sb<wr.heap.size:=C.o.lt;have aL:B<=wr.heap.size:=Qs G b.o.size;have au:=I (Qu C.o.blk);have h5:s.met.length<=5:=by omega
      have R:Hid (∀ x∈s.met++[a],x.1=4->(s.met++[a]).length=1):=by
       intro x hx e;by_cases T:s.met=[]
       ·rw[T];rfl
       ·exfalso;have hc:=f.o (List.length_pos_iff.2 T);rcases List.mem_append.1 hx with hx|hx
        ·have Z:=C.o.alone x hx e;obtain⟨y,hy⟩:=List.length_eq_one_iff.1 Z;rw[hy]at hx hc;rw[XH hx]at e;exact hc (Qc e)
        ·rw[XH hx]at e;exact hc (Qd e)
      obtain⟨i0,hi,aF,aG,aH⟩:=info_parts Tryz.infoActionV;clear h66 V W f HE ad;go_wp2;go_region_law (refine step_append_lies _ rfl (.tmp 65) (.tmp 67) 32 rfl B 52 i0 (.agg #[.int .i64 0,.string ⟨#[]⟩]) 2 24 underlying32 hi aF aG aH rfl (by decide) (.slice la s.met.length F) s.met.length (QZ s.met) (by simp[Act.eval,Act.put]) (ar.o.alloc _) ⟨wr.heap.size,0,none⟩ 1 1 [.int .i64 a.1,.string (sA a.2)] (by simp[Act.eval,Act.put]) rfl (Ss _ a _) (SP a) (by decide) (by unfold maxLen;omega) (by omega) (by simp;omega) _ rfl ?_;intro g' aK w5 ao U ai aN;have az:=I ao;have av:=I U;have aq:=I ai;have t8:w5.cell? ⟨sb,8,none⟩=some (.slice la s.met.length F):=U.cell (a:=⟨sb,8,none⟩) ((ZA (a:=⟨sb,8,none⟩) (w:=wr) (Below.heap_alloc _ _ _ ap)).trans Y) (fun e=>af.o e.symm);have aM:∀ j,w5.frozen? ⟨sb,j,none⟩=false:=fun j=>(World.frozen?_of_block (a:=⟨sb,j,none⟩) (w:=wr) ((U.block sb (by simp;omega) (fun e=>af.o e.symm)).trans (Below.heap_alloc _ _ _ ap))).trans (au.o j);clear ao U ai;skip)
      all_goals go_wp2
      all_goals go_end0
      all_goals obtain⟨z',aE,aA,aD⟩:=C.o.appA J.o av.o az.o aq.o R.o h5
      all_goals exact⟨rfl,⟨(b.o.mono G).trans aA,(X5 b.o).trans aD⟩,Jh.ok m.o aE⟩
structure StK (w:World) (B sb:Nat) (M:Msg) (s:SS) (z:StV) (kp en:Bool) (er pz:Int):Prop where
 hB:B<=sb
 blk:SB w sb M.fr M.to M.size z.hv s.vs z.nv z.vv z.cv z.av kp en er pz
 n:w.ownsRow B 9 1 z.nv z.ns.length (Qv z.ns)
 v:w.ownsRow B 9 1 z.vv z.vl.length (Qv z.vl)
 a:w.ownsRow B 52 2 z.av s.met.length (QZ s.met)
 c:s.vs=true->TxL w z.cv (s.told.take 10)
 c0:s.vs=false->z.cv=.slice none 0 0
 cap:∀ k,z.cv.ownBlock=some k->z.nv.ownBlock≠some k∧z.vv.ownBlock≠some k∧z.av.ownBlock≠some k∧k≠sb
 capt:∀ k,z.cv.ownBlock=some k->∃ cs,w.heap[k]?=some (.cells cs 9)
 nvv:∀ k,z.nv.ownBlock=some k->z.vv.ownBlock≠some k
 h:HdB w B M z.hv
 mb:KR M
 vb:∀ t∈z.vl,t.length<=100000
 tb:∀ t∈s.told,t.length<=100000
 alone:∀ x∈s.met,x.1=4->s.met.length=1
 six:s.met.length<=6
theorem StK.capl{d:Bool}{b e:Int}(h:StK w B sb M s z d a b e):∀ k,z.cv.ownBlock=some k->k<w.heap.size:=fun k hk=>by
 obtain⟨f,c⟩:=h.capt k hk;exact Qg c
theorem StI.toK(h:StI w B sb M s z q kp en er pz):StK w B sb M s z kp en er pz:=⟨h.hB,h.blk,h.n,h.v,h.a,h.c,h.c0,h.cap,h.capt,h.nvv,h.h,h.mb,h.vb,h.tb,h.alone,h.six⟩
theorem StK.toI(h:StK w B sb M s z kp en er pz)(e1:s'.vs=s.vs)(e2:s'.told=s.told)(e3:s'.met=s.met)(hl:z.ns.length=z.vl.length)(hn:z.ns.length<=q)(hv:∀ x,s'.vals x=lookQ z.ns z.vl x):StI w B sb M s' z q kp en er pz:=⟨h.hB,by rw[e1];exact h.blk,h.n,h.v,by rw[e3];exact h.a,by rw[e1,e2];exact h.c,by rw[e1];exact h.c0,h.cap,h.capt,h.nvv,hl,hn,hv,h.h,h.mb,h.vb,by rw[e2];exact h.tb,by rw[e3];exact h.alone,by rw[e3];exact h.six⟩
theorem StK.growNV{f:World}{m:Bool}{o x:Int}(h:StK w B sb M s z u m o x)(j:∀ k,k<w.heap.size->some k≠z.nv.ownBlock->f.heap[k]?=w.heap[k]?)(E:Below B w f)(r:f.ownsRow B 9 1 v' l.length (Qv l))(hv:v'.ownBlock=z.nv.ownBlock\/∀ k,v'.ownBlock=some k->w.heap.size<=k) :
 StK (f.setCell ⟨sb,5,none⟩ v') B sb M s ⟨z.hv,v',z.vv,z.cv,z.av,l,z.vl⟩ u m o x:=by
 have H:f.heap[sb]?=w.heap[sb]?:=j sb (Qg h.blk) (fun e=>ZF h.n h.blk (by decide) e.symm);have i:=h.blk;unfold SB at i;rw[<-H]at i;have F:Mod sb f (f.setCell ⟨sb,5,none⟩ v'):=(Mod.refl sb f).setCell _ _;have t:=JW (w':=f) h.v fun k d=>j k (h.v.lt k d).2 (fun e=>h.nvv k e.symm d)
 have p:=JW (w':=f) h.a fun k d=>j k (h.a.lt k d).2 (fun e=>Ku h.a h.n (by decide) k d e.symm)
 have q:∀ k,k<w.heap.size->z.nv.ownBlock≠some k->v'.ownBlock≠some k:=fun k d G e=>by
  rcases hv with hv|hv
  ·exact G (by rw[<-hv];exact e)
  ·have:=hv k e;omega
 refine⟨h.hB,Qt _ _ _ _ _ _ i,ZY r (ZF r i (by decide)),ZY t (ZF t i (by decide)),ZY p (ZF p i (by decide)),fun e=>?_,h.c0,fun k d=>?_,fun k d=>Y5 (Y5 (h.capt k d) (j k (h.capl k d) (fun g=>(h.cap k d).1 g.symm))) (QK (h.cap k d).2.2.2),fun k d=>?_,(h.h.below E).below (F.below h.hB (Qg i)),h.mb,h.vb,h.tb,h.alone,h.six⟩
 ·exact TxL.setV (b:=sb) ((h.c e).of fun k d=>j k (h.capl k d) (fun g=>(h.cap k d).1 g.symm)) (fun g=>(h.cap sb g).2.2.2 rfl)
 ·obtain⟨y,A,C,D⟩:=h.cap k d;exact⟨q k (h.capl k d) y,A,C,D⟩
 ·exact fun e=>q k (h.v.lt k e).2 (fun g=>h.nvv k g e) d
theorem StK.growVV{f:World}{x m:Bool}{o y:Int}(h:StK w B sb M s z x m o y)(j:∀ k,k<w.heap.size->some k≠z.vv.ownBlock->f.heap[k]?=w.heap[k]?)(F:Below B w f)(r:f.ownsRow B 9 1 v' l.length (Qv l))(hv:v'.ownBlock=z.vv.ownBlock\/∀ k,v'.ownBlock=some k->w.heap.size<=k)(K:∀ t∈l,t.length<=100000) :
 StK (f.setCell ⟨sb,6,none⟩ v') B sb M s ⟨z.hv,z.nv,v',z.cv,z.av,z.ns,l⟩ x m o y:=by
 have J:f.heap[sb]?=w.heap[sb]?:=j sb (Qg h.blk) (fun e=>ZF h.v h.blk (by decide) e.symm);have g:=h.blk;unfold SB at g;rw[<-J]at g;have G:Mod sb f (f.setCell ⟨sb,6,none⟩ v'):=(Mod.refl sb f).setCell _ _;have u:=JW (w':=f) h.n fun k d=>j k (h.n.lt k d).2 (fun e=>h.nvv k d e.symm)
 have p:=JW (w':=f) h.a fun k d=>j k (h.a.lt k d).2 (fun e=>Ku h.a h.v (by decide) k d e.symm)
 have q:∀ k,k<w.heap.size->z.vv.ownBlock≠some k->v'.ownBlock≠some k:=fun k d H e=>by
  rcases hv with hv|hv
  ·exact H (by rw[<-hv];exact e)
  ·have:=hv k e;omega
 refine⟨h.hB,Qt _ _ _ _ _ _ g,ZY u (ZF u g (by decide)),ZY r (ZF r g (by decide)),ZY p (ZF p g (by decide)),fun e=>?_,h.c0,fun k d=>?_,fun k d=>Y5 (Y5 (h.capt k d) (j k (h.capl k d) (fun i=>(h.cap k d).2.1 i.symm))) (QK (h.cap k d).2.2.2),fun k d=>?_,(h.h.below F).below (G.below h.hB (Qg g)),h.mb,K,h.tb,h.alone,h.six⟩
 ·exact TxL.setV (b:=sb) ((h.c e).of fun k d=>j k (h.capl k d) (fun i=>(h.cap k d).2.1 i.symm)) (fun i=>(h.cap sb i).2.2.2 rfl)
 ·obtain⟨A,C,D,E⟩:=h.cap k d;exact⟨A,q k (h.capl k d) C,D,E⟩
 ·exact q k (h.n.lt k d).2 (h.nvv k d)
theorem Ex{c:Nat}(h:w.ownsRow base e 1 (.slice (some ⟨g,0,none⟩) n c) n xs)(k:Nat)(x:Value):(w.setCell ⟨g,k,none⟩ x).ownsRow base e 1 (.slice (some ⟨g,0,none⟩) n c) n (xs.set k x):=by
 refine⟨by rw[List.length_set];exact h.1,?_⟩;rcases h.2 with⟨a,_⟩ | ⟨p,b,d,o,l,m,a,f,i,j⟩
 ·cases a
 ·injection o with e1 e2 e3
  injection e1 with e1
  injection e1 with e1
  subst e1;refine Qc ⟨g,b,d.setIfInBounds k x,by rw[e3],l,Qt _ _ _ _ _ _ m,a,f,by rw[Array.size_setIfInBounds];exact i,?_⟩;rw[Array.toList_setIfInBounds,List.take_set,j]
theorem DX:∀(a b:Qa) (k:Nat) (x z:L8) (c:k<a.length),a.length=b.length->a[k]=x->(∀ j (d:j<k),a[j]'(by omega)≠x)->∀ y,lookQ a (b.set k z) y=if y=x then some z else lookQ a b y
 | [],_,k,_,_,c,_,_,_,_=>absurd c (Nat.not_lt_zero _)
 |n::a,[],_,_,_,_,hl,_,_,_=>by cases hl
 |n::a,v::b,0,x,z,c,hl,hx,d,y=>by
  have g:n=x:=hx;subst g;show(if n=y then some z else lookQ a b y)=if y=n then some z else(if n=y then some v else lookQ a b y)
  by_cases e:y=n
  ·rw[if_pos e,if_pos e.symm]
  ·rw[if_neg e,if_neg (fun h=>e h.symm),if_neg (fun h=>e h.symm)]
 |n::a,v::b,k+1,x,z,c,hl,hx,d,y=>by
  have f:n≠x:=d 0 (Nat.succ_pos _);have i:=DX a b k x z (Nat.lt_of_succ_lt_succ c) (by simpa using hl) hx (fun j h=>d (j+1) (Nat.succ_lt_succ h)) y;show(if n=y then some v else lookQ a (b.set k z) y)=if y=x then some z else(if n=y then some v else lookQ a b y)
  rw[i];by_cases e:y=x
  ·rw[if_pos e,if_neg (fun h=>f (h.trans e)),if_pos e]
  ·rw[if_neg e,if_neg e]
theorem D2:∀(a b:Qa) (x z:L8),a.length=b.length->(∀ n∈a,n≠x)->∀ y,lookQ (a++[x]) (b++[z]) y=if y=x then some z else lookQ a b y
 | [],[],x,z,_,_,y=>by
  show(if x=y then some z else none)=if y=x then some z else none
  by_cases e:y=x
  ·rw[if_pos e,if_pos e.symm]
  ·rw[if_neg e,if_neg (fun h=>e h.symm)]
 | [],_::_,_,_,hl,_,_=>by cases hl
 |_::_,[],_,_,hl,_,_=>by cases hl
 |n::a,v::b,x,z,hl,hn,y=>by
  have f:=D2 a b x z (by simpa using hl) (fun m d=>hn m (List.mem_cons_of_mem _ d)) y;have c:n≠x:=hn n List.mem_cons_self;show(if n=y then some v else lookQ (a++[x]) (b++[z]) y)=if y=x then some z else(if n=y then some v else lookQ a b y)
  rw[f];by_cases e:y=x
  ·rw[if_pos e,if_neg (fun h=>c (h.trans e)),if_pos e]
  ·rw[if_neg e,if_neg e]
theorem StI.setVal{D r:Bool}{u E:Int}(h:StI w B sb M s z q D r u E){c:Nat}(o:z.vv=.slice (some ⟨g,0,none⟩) z.vl.length c)(k:Nat)(x:L8)(P:x.length<=100000)(f:s'.vs=s.vs)(d:s'.told=s.told)(i:s'.met=s.met)(N:∀ y,s'.vals y=lookQ z.ns (z.vl.set k x) y) :
 StI (w.setCell ⟨g,k,none⟩ (.string (sA x))) B sb M s' ⟨z.hv,z.nv,z.vv,z.cv,z.av,z.ns,z.vl.set k x⟩ q D r u E/\Below B w (w.setCell ⟨g,k,none⟩ (.string (sA x)))/\KB w (w.setCell ⟨g,k,none⟩ (.string (sA x))):=by
 have b:z.vv.ownBlock=some g:=by rw[o];rfl
 have J:g≠sb:=fun e=>ZF h.v h.blk (by decide) (by rw[b,e])
 have H:=h.v.lt g b;have A:Below B w (w.setCell ⟨g,k,none⟩ (.string (sA x))):=(Below.refl _ _).setCell H.1 _;have F:KB w (w.setCell ⟨g,k,none⟩ (.string (sA x))):=Nl h.v (by decide) (fun p m K=>QK (fun e=>K (by rw[b,e])));have G:(w.setCell ⟨g,k,none⟩ (.string (sA x))).heap[sb]?=w.heap[sb]?:=QK (fun e=>J e.symm);have j:=h.blk;unfold SB at j;rw[<-G]at j;refine⟨⟨h.hB,by rw[f];exact j,ZY h.n (fun e=>h.nvv g e b),?_,by rw[i];exact ZY h.a (fun e=>Ku h.a h.v (by decide) g e b),fun e=>?_,by rw[f];exact h.c0,h.cap,fun p m=>Y5 (h.capt p m) (QK (fun e=>(h.cap p m).2.1 (by rw[b];exact congrArg some e.symm))),h.nvv,by rw[List.length_set];exact h.l,h.nl,N,h.h.below A,h.mb,fun t L=>?_,by rw[d];exact h.tb,by rw[i];exact h.alone,by rw[i];exact h.six⟩,A,F⟩
 ·have C:=h.v;rw[o]at C;have:=Ex C k (.string (sA x));show World.ownsRow _ B 9 1 z.vv (z.vl.set k x).length (Qv (z.vl.set k x))
  rw[List.length_set,show Qv (z.vl.set k x)=(Qv z.vl).set k (.string (sA x)) by unfold Qv;rw[List.map_set],o];exact this
 ·rw[d];exact(h.c (by rw[<-f];exact e)).setV (fun d=>(h.cap g d).2.1 b)
 ·rcases List.mem_or_eq_of_mem_set L with h1|h1
  ·exact h.vb t h1
  ·rw[h1];exact P
theorem Er(h:n<10):Lib.decDigits n=[UInt8.ofNat (48+n)]:=by rw[Lib.decDigits,dif_pos h]
theorem SL(h:¬ n<10):Lib.decDigits n=Lib.decDigits (n / 10)++[UInt8.ofNat (48+n % 10)]:=by rw[Lib.decDigits,dif_neg h]
theorem AF{d:Nat}(h:d<10):((UInt8.ofNat (48+d)).toNat:Int)=48+(d:Int):=by
 have:(UInt8.ofNat (48+d)).toNat=48+d:=by simp;omega
 omega
theorem Sy:∀(m n:Nat),n<=m->n<=2147483647->∀ w,Calls prog 82 #[.int .i64 n] w fun e w'=>e=.returned (.string (sA (Lib.decDigits n)))/\Below w.heap.size w w':=by
 intro m
 induction m with
 |zero=>
  intro n l p w;have a:n<10:=by omega
  rw[Er a];have g:=AF a;have i:decide ((n:Int)<10)=true:=Qw (by omega);generalize UInt8.ofNat (48+n)=d at *;have b:=I (Gh w d);go_enter func82,ntmps82;go_wp2;rw[b.o _ (by omega)];go_wp2;go_ret;exact⟨rfl,Qp _⟩
 |succ m ih=>
  intro n l p w;by_cases a:n<10
  ·rw[Er a];have g:=AF a;have i:decide ((n:Int)<10)=true:=Qw (by omega);generalize UInt8.ofNat (48+n)=d at *;have b:=I (Gh w d);clear ih;go_enter func82,ntmps82;go_wp2;rw[b.o _ (by omega)];go_wp2;go_ret;exact⟨rfl,Qp _⟩
  ·have j:=I (SL a);have g:=AF (Nat.mod_lt n (show 0<10 by decide));have i:decide ((n:Int)<10)=false:=Qh (by omega);have k:=I (ih (n / 10) (by omega) (by omega));generalize UInt8.ofNat (48+n % 10)=d at *;have b:=I (fun w=>Gh w d);have q:(Lib.decDigits (n / 10)).length<=100:=by rw[Lib.decDigits_length];have:=Lib.nDigits_le20 (n / 10) (by omega);omega
   clear ih;go_enter func82,ntmps82;go_wp2_with fail;refine(k.o _).mono ?_;rintro e t ⟨rfl,f⟩;have c:=I f;clear f;generalize Lib.decDigits (n / 10)=y at *;have r:=QN y;have s:(sA [d]).size=1:=rfl;go_wp2;rw[b.o _ _ (by omega)];go_wp2;go_ret;exact⟨by rw[j.o,<-K4];rfl,c.o.alloc (Below.size c.o) _⟩
theorem StK.appNV{b:World}{p f:Bool}{g q:Int}(h:StK w B sb M s z p f g q)(j:(w.alloc o).grownBy b z.nv.ownBlock)(v:b.ownsRow B 9 1 c (z.ns.length+1) (Qv z.ns++[.string (sA x)]))(t:c.ownBlock=z.nv.ownBlock\/c.ownBlock=some (w.heap.size+1)) :
 StK (b.setCell ⟨sb,5,none⟩ c) B sb M s ⟨z.hv,c,z.vv,z.cv,z.av,z.ns++[x],z.vl⟩ p f g q/\(Below B w (b.setCell ⟨sb,5,none⟩ c)/\KB w (b.setCell ⟨sb,5,none⟩ c))/\b.heap[sb]?=w.heap[sb]?:=by
 have y:(w.alloc o).heap.size=w.heap.size+1:=by simp
 have l:=Qg h.blk;have r:B<=w.heap.size:=Qs h.hB (Nat.le_of_lt l);have i:Below B w b:=JI (Below.refl B w) r j (fun k a=>(h.n.lt k a).1)
 have a:∀ k,k<w.heap.size->some k≠z.nv.ownBlock->b.heap[k]?=w.heap[k]?:=fun k a u=>by
  rw[j.block k (by rw[y];omega) u];exact Below.heap_alloc _ _ _ a
 have m:=a sb l (fun e=>ZF h.n h.blk (by decide) e.symm);have d:=h.blk;unfold SB at d;rw[<-m]at d;refine⟨h.growNV a i ?_ ?_,⟨i.setCell h.hB _,(Nl h.n (by decide) a).trans (Vm d (by decide) _ _)⟩,m⟩
 ·rw[Ze,<-X0];exact v
 ·rcases t with e|e
  ·exact Qd e
  ·refine Qc (fun k a=>?_);rw[e]at a;have:w.heap.size+1=k:=by simpa using a
   omega
theorem StK.appVV{b:World}{n f:Bool}{g p:Int}(h:StK w B sb M s z n f g p)(j:(w.alloc o).grownBy b z.vv.ownBlock)(y:b.ownsRow B 9 1 c (z.vl.length+1) (Qv z.vl++[.string (sA x)]))(r:c.ownBlock=z.vv.ownBlock\/c.ownBlock=some (w.heap.size+1))(D:x.length<=100000) :
 StK (b.setCell ⟨sb,6,none⟩ c) B sb M s ⟨z.hv,z.nv,c,z.cv,z.av,z.ns,z.vl++[x]⟩ n f g p/\(Below B w (b.setCell ⟨sb,6,none⟩ c)/\KB w (b.setCell ⟨sb,6,none⟩ c))/\b.heap[sb]?=w.heap[sb]?:=by
 have A:(w.alloc o).heap.size=w.heap.size+1:=by simp
 have l:=Qg h.blk;have q:B<=w.heap.size:=Qs h.hB (Nat.le_of_lt l);have i:Below B w b:=JI (Below.refl B w) q j (fun k a=>(h.v.lt k a).1)
 have a:∀ k,k<w.heap.size->some k≠z.vv.ownBlock->b.heap[k]?=w.heap[k]?:=fun k a u=>by
  rw[j.block k (by rw[A];omega) u];exact Below.heap_alloc _ _ _ a
 have m:=a sb l (fun e=>ZF h.v h.blk (by decide) e.symm);have d:=h.blk;unfold SB at d;rw[<-m]at d;refine⟨h.growVV a i ?_ ?_ ?_,⟨i.setCell h.hB _,(Nl h.v (by decide) a).trans (Vm d (by decide) _ _)⟩,m⟩
 ·rw[Ze,<-X0];exact y
 ·rcases r with e|e
  ·exact Qd e
  ·refine Qc (fun k a=>?_);rw[e]at a;have:w.heap.size+1=k:=by simpa using a
   omega
 ·intro t C;rcases List.mem_append.1 C with h1|h1
  ·exact h.vb t h1
  ·rw[XH h1];exact D
theorem Ay(h:w.ownsRow base e size v n xs):∃ p m c,v=.slice p m c:=by
 rcases h.2 with⟨a,_⟩ | ⟨g,c,_,a,_⟩
 ·exact⟨_,_,_,a⟩
 ·exact⟨_,_,_,a⟩
theorem Rq(tag:Int){y:L8}(h:y.length<=100000):(turnL tag y).length<=100000:=by
 unfold turnL;split
 ·unfold zL;rw[List.length_map];exact h
 ·split
  ·unfold capL;rw[List.length_map];exact h
  ·split
   ·rw[Lib.decDigits_length];have:=Lib.nDigits_le20 y.length (by omega);omega
   ·exact h
theorem TN(B sb:Nat)(M:Msg)(s:SS)(z:StV)(q:Nat)(kp en:Bool)(er pz:Int)(nm x:L8)(tag:Int)(w:World)(h:StI w B sb M s z q kp en er pz)(hq:q<=1000000)(hx:x.length<=100000)(ht:tag=0\/tag=1\/tag=2\/tag=3) :
 Calls prog 50 #[.pointer (some ⟨sb,0,none⟩),.string (sA nm),.string (sA x),.int .i64 tag] w fun e w'=>e=.returned (.tuple #[])/\(Below B w w'/\KB w w')/\∃ z',StI w' B sb M (KQ s nm tag x) z' (q+1) kp en er pz:=by
 have H:=I h;have S:B<=w.heap.size:=Qs h.hB (Nat.le_of_lt h.lt);have HX:=I (h.expand hq x hx);have aB:=V4 s hx;have aW:=h.lt;have HSET:Hid (KQ s nm tag x=⟨s.vs,fun y=>if y=nm then some ((turnL tag (expL s x)).take 48)else s.vals y,s.told,s.met,s.disc⟩):=rfl;obtain⟨y,hy⟩:=Qe (expL s x);rw[hy]at HX aB HSET;have a0:=QN y;clear hy h;go_enter func50,ntmps50;go_wp2_with fail;refine HX.o.mono ?_;rintro e w1 ⟨rfl,Q⟩;have G:=I Q;have ae:=Q.size;clear Q;go_upto_block 0 with fail
 go_cut [8] (fun vv wx=>vv=.string (sA (turnL tag y))/\Below w.heap.size w wx)
 case first=>
  rcases ht with rfl|rfl|rfl|rfl
  ·go_wp2;go_meet;exact⟨rfl,G.o⟩
  ·go_wp2_with fail;refine(Yv y _ (by omega)).mono ?_;rintro e w2 ⟨rfl,c⟩;have i:=I (G.o.trans (c.mono ae));clear c;go_wp2;go_meet;exact⟨rfl,i.o⟩
  ·go_wp2_with fail;refine(Mz y _ (by omega)).mono ?_;rintro e w2 ⟨rfl,c⟩;have i:=I (G.o.trans (c.mono ae));clear c;go_wp2;go_meet;exact⟨rfl,i.o⟩
  ·go_wp2_with fail;refine(Sy y.length y.length Ql (by omega) _).mono ?_;rintro e w2 ⟨rfl,c⟩;have i:=I (G.o.trans (c.mono ae));clear c;go_wp2;go_meet;exact⟨rfl,i.o⟩
 case rest=>
  obtain⟨rfl,R⟩:=hcut;have ah:=I R;have aZ:=R.size;have ax:=Rq tag aB;obtain⟨t,ad⟩:=Qe (turnL tag y);rw[ad]at ax HSET;rw[ad];have aN:=QN t;clear R ad;go_upto_if 29 with fail
  go_cut [8] (fun vv wx=>vv=.string (sA (t.take 48))/\wx=wc)
  case first=>
   by_cases h48:48<t.length
   ·have aI:(48:Int)<(t.length:Int):=by omega
    have aR:(sA t).extract 0 48=sA (t.take 48):=by rw[Jn];simp
    go_wp2;go_meet;exact⟨rfl,rfl⟩
   ·have aI:¬(48:Int)<(t.length:Int):=by omega
    have p:Hid (t.take 48=t):=List.take_of_length_le (by omega);go_wp2;go_meet;exact⟨by rw[p.o],rfl⟩
  case rest=>
   obtain⟨rfl,aA⟩:=hcut;rw[aA];clear aA;have hZl:(t.take 48).length<=100000:=by rw[List.length_take];omega
   obtain⟨Z,U⟩:=Qe (t.take 48);rw[U]at hZl HSET;rw[U];clear U ax aN t;obtain⟨na,nc,aq⟩:=QQ H.o.n;obtain⟨va,vc,ay⟩:=QQ H.o.v;have m:=I aq;have HVA:=I ay;have ap:=H.o.l;have aV:=H.o.nl;have HLL:=I ap;clear ap aq ay;have aY:z.vl.length<=1000000:=by have:=HLL.o;omega
   go_wp2
   go_loopw [9] (fun iv wr=>∃(k:Nat),k<=z.ns.length/\iv=.int .i64 k/\Hid (Below w.heap.size w wr)/\Hid (∀ n∈z.ns.take k,n≠nm)) (fun iv _=>z.ns.length - (intOf iv).toNat)
   case atStart=>exact⟨0,QE,rfl,ah,fun n d=>by cases d⟩
   case round=>
    clear ah;obtain⟨k,hk,rfl,f,J⟩:=hrel;have HS:=I (H.o.below f.o);have aM:=f.o.size;have aQ:B<=wr.heap.size:=Qs S aM;have d5:wr.cell? ⟨sb,5,none⟩=some (.slice na z.ns.length nc):=by rw[<-m.o];exact Qi HS.o.blk 5
    have d6:wr.cell? ⟨sb,6,none⟩=some (.slice va z.vl.length vc):=by rw[<-HVA.o];exact Qi HS.o.blk 6
    have aH:=Qu HS.o.blk;by_cases hkl:k<z.ns.length
    ·have aK:k<z.vl.length:=by have:=HLL.o;omega
     have aL:(k:Int)<(z.ns.length:Int):=by omega
     have aU:(k:Int)<(z.vl.length:Int):=by omega
     obtain⟨gn,cn,L,_,_,ak⟩:=Xo HS.o.n (by omega);obtain⟨gv,cv,N,_,aT,ao⟩:=Xo HS.o.v (by omega);rw[m.o]at L;rw[HVA.o]at N;injection L with L _ hgn3
     injection N with N _ hgv3
     subst L;subst N;have b1:=ak k (.string (sA z.ns[k])) (by simp[Qv,List.getElem?_eq_getElem hkl]);have b2:=ao k (.string (sA z.vl[k])) (by simp[Qv,List.getElem?_eq_getElem aK])
     have aS:wr.frozen? ⟨gv,k,none⟩=false:=by
      rcases HS.o.v.2 with⟨b,h2⟩ | ⟨g',aO,aP,b,_,hh,_⟩
      ·omega
      ·rw[HVA.o]at b;injection b with b
       injection b with b
       injection b with b
       subst b;exact Qu hh k
     have P:((sA z.ns[k]).toList==(sA nm).toList)=decide (z.ns[k]=nm):=JL _ _
     have p:Hid (∀ n∈z.ns.take (k+1),n∈z.ns.take k\/n=z.ns[k]):=fun n d=>by
      rw[List.take_succ_eq_append_getElem hkl]at d;rcases List.mem_append.1 d with h|h
      ·exact Qd h
      ·exact Qc (XH h)
     clear ak ao;by_cases he:z.ns[k]=nm
     ·rw[Qw he]at P
      have HFIN:=I (HS.o.setVal (s':=KQ s nm tag x) (z:=z) HVA.o k Z hZl (by rw [HSET.o]) (by rw [HSET.o]) (by rw [HSET.o]) (fun y=>by
       rw[HSET.o,DX z.ns z.vl k nm Z hkl HLL.o he (fun j a=>J.o _ (by rw[List.mem_take_iff_getElem];exact⟨j,by omega,rfl⟩)) y];show(if y=nm then some Z else s.vals y)=_
       rw [HS.o.vals y]))
      obtain⟨F,D⟩:=Qe (z.ns[k]);obtain⟨vk,az⟩:=Qe (z.vl[k]);rw[D]at b1 P;rw[az]at b2;clear he p D az;go_wp2;refine bodyPost_ret (v:=.tuple #[]) (by simp[results,results50,go_sem]) rfl ?_;exact⟨rfl,⟨(f.o.mono S).trans HFIN.o.2.1,(X5 f.o).trans HFIN.o.2.2⟩,_,HFIN.o.1.more (Nat.le_succ _)⟩
     ·rw[Qh he]at P
      have aF:Hid (∀ n∈z.ns.take (k+1),n≠nm):=fun n d=>by
       rcases p.o n d with h|h
       ·exact J.o n h
       ·rw[h];exact he
      obtain⟨F,D⟩:=Qe (z.ns[k]);rw[D]at b1 P;clear he p D b2;go_wp2;exact⟨⟨k+1,by omega,by go_num,f,aF⟩,by simp[intOf];omega⟩
    ·have aJ:k=z.ns.length:=by omega
     subst aJ;have aL:¬(z.ns.length:Int)<(z.ns.length:Int):=by omega
     have HNA2:Hid (∀ n∈z.ns,n≠nm):=fun n d=>J.o n (by rw[List.take_length];exact d)
     have HK:=I HS.o.toK;have ac:=HS.o.n;rw[m.o]at ac;obtain⟨i0,hi,aC,aD,aE⟩:=info_parts Tryz.infoStr;clear J;go_wp2_with (at_builtin;refine wpList_append_own_at _ rfl _ _ 61 rfl B 9 i0 (.string ⟨#[]⟩) 1 16 underlying61 hi aC aD aE rfl (by decide) _ _ _ rfl (ac.alloc _) ⟨wr.heap.size,0,none⟩ 1 1 [.string (sA nm)] rfl rfl ?c1 ?c2 ?c3 ?c4 ?c5 ?_)
     all_goals first|rfl|omega|(unfold maxLen;omega)|(simp;omega)|(intro j u a;match j,a with|0,a=>simp at a;subst a;simp[Addr.add])|(intro u E;simp at E;subst E;rfl)|skip
     ·intro v5 w5 aa X _ V;rw[<-m.o]at X V;obtain⟨r,K,au⟩:=HK.o.appNV (x:=nm) X aa V;have A:=HK.o.blk;unfold SB at A;rw[<-au]at A;have t5:=Q9 A;rw[m.o]at t5;have f5:=Qu A;obtain⟨p5,m5,c5,rfl⟩:=Ay aa;obtain⟨g,T⟩:=QF (w5.setCell ⟨sb,5,none⟩ (.slice p5 m5 c5));have aG:=I T;rw[<-T]at r K;have ai:=I r;have af:=I K;have n6:=Zz r.blk;rw[HVA.o]at n6
      have ar:g.ownsRow B 9 1 (.slice va z.vl.length vc) z.vl.length (Qv z.vl):=by
       have h:=r.v;rw[<-HVA.o];exact h
      have aX:wr.heap.size<=g.heap.size:=K.1.size;clear aa X V ac r K au A T d5 d6 aH;go_wp2_with (first|(at_builtin;refine wpList_append_own_at _ rfl _ _ 61 rfl B 9 i0 (.string ⟨#[]⟩) 1 16 underlying61 hi aC aD aE rfl (by decide) _ _ _ rfl (ar.alloc _) ⟨g.heap.size,0,none⟩ 1 1 [.string (sA Z)] rfl rfl ?e1 ?e2 ?e3 ?e4 ?e5 ?_)|(rw[<-aG.o]))
      all_goals first|rfl|omega|(unfold maxLen;omega)|(simp;omega)|(intro j u a;match j,a with|0,a=>simp at a;subst a;simp[Addr.add])|(intro u E;simp at E;subst E;rfl)|skip
      ·intro v8 w8 ab Y _ W;rw[<-HVA.o]at Y W;obtain⟨hK9,aj,aw⟩:=ai.o.appVV (x:=Z) Y ab W hZl;have C:=ai.o.blk;unfold SB at C;rw[<-aw]at C;have t8:=Zz C;rw[HVA.o]at t8;have f8:=Qu C;obtain⟨p8,m8,c8,rfl⟩:=Ay ab
       have HFIN:Hid (StI (w8.setCell ⟨sb,6,none⟩ (.slice p8 m8 c8)) B sb M (KQ s nm tag x) ⟨z.hv,.slice p5 m5 c5,.slice p8 m8 c8,z.cv,z.av,z.ns++[nm],z.vl++[Z]⟩ (q+1) kp en er pz):=hK9.toI (by rw [HSET.o]) (by rw [HSET.o]) (by rw [HSET.o]) (by show (z.ns++[nm]).length=(z.vl++[Z]).length;rw [Ze,Ze,HLL.o];rfl) (by show (z.ns++[nm]).length<=_;rw [Ze];simp;omega) (fun y=>by
        rw[HSET.o];show(if y=nm then some Z else s.vals y)=lookQ (z.ns++[nm]) (z.vl++[Z]) y
        rw [D2 z.ns z.vl nm Z HLL.o HNA2.o y,HS.o.vals y])
       have ag:=I aj;clear ab Y W ar hK9 aj aw C n6 t5;go_wp2;go_end0;exact⟨rfl,⟨((f.o.mono S).trans af.o.1).trans ag.o.1,((X5 f.o).trans af.o.2).trans ag.o.2⟩,_,HFIN.o⟩
def YA(w:World)(v:Value)(xs:Qa):Prop:=∃ a c,v=.slice a xs.length c/\(xs≠[]->∃ g off,a=some ⟨g,off,none⟩/\∀ j (hj:j<xs.length),w.cell? ⟨g,off+j,none⟩=some (.string (sA xs[j])))
def Jz(w:World)(v:Value)(hs:List (L8×L8)):Prop:=∃ a c,v=.slice a hs.length c/\(hs≠[]->∃ g off,a=some ⟨g,off,none⟩/\∀ j (hj:j<hs.length),w.cell? ⟨g,off+j*2,none⟩=some (.string (sA hs[j].1))/\w.cell? ⟨g,off+j*2+1,none⟩=some (.string (sA hs[j].2)))
structure Kd where
 op:Int
 n:Int
 tag:Int
 oct:Bool
 av:Value
 bv:Value
 as':Qa
 bs:Qa
 pos:Int
def Vu(v:Value):Prop:=(∀ p n c,v=.slice p n c->n<=c)/\∀ c,v=.slice none 0 c->c=0
def Nr(w:World)(g o:Nat)(x:Kd):Prop:=
 w.cell? ⟨g,o,none⟩=some (.int .i64 x.op)/\w.cell? ⟨g,o+1,none⟩=some (.int .i64 x.n)/\w.cell? ⟨g,o+2,none⟩=some (.int .i64 x.tag)/\w.cell? ⟨g,o+3,none⟩=some (.bool x.oct)/\w.cell? ⟨g,o+4,none⟩=some x.av/\w.cell? ⟨g,o+5,none⟩=some x.bv/\w.cell? ⟨g,o+6,none⟩=some (.int .i64 x.pos)/\YA w x.av x.as'/\YA w x.bv x.bs/\Vu x.av/\Vu x.bv
def JD(w:World)(v:Value)(l:List Kd):Prop:=∃ a c,v=.slice a l.length c/\(l≠[]->∃ g off,a=some ⟨g,off,none⟩/\∀ j (hj:j<l.length),Nr w g (off+j*7) l[j])
structure OpD where
 kind:Int
 a:Int
 b:Int
 s:L8
 fr:L8
 tt:L8
 sz:Int
 hv:Value
 hs:List (L8×L8)
 cv:Value
 code:List Kd
def Nw(w:World)(g o:Nat)(x:OpD):Prop:=
 w.cell? ⟨g,o,none⟩=some (.int .i64 x.kind)/\w.cell? ⟨g,o+1,none⟩=some (.int .i64 x.a)/\w.cell? ⟨g,o+2,none⟩=some (.int .i64 x.b)/\w.cell? ⟨g,o+3,none⟩=some (.string (sA x.s))/\w.cell? ⟨g,o+4,none⟩=some (.string (sA x.fr))/\w.cell? ⟨g,o+5,none⟩=some (.string (sA x.tt))/\w.cell? ⟨g,o+6,none⟩=some (.int .i64 x.sz)/\w.cell? ⟨g,o+7,none⟩=some x.hv/\w.cell? ⟨g,o+8,none⟩=some x.cv/\Jz w x.hv x.hs/\JD w x.cv x.code
def Ug(w:World)(v:Value)(l:List OpD):Prop:=∃ a c,v=.slice a l.length c/\(l≠[]->∃ g off,a=some ⟨g,off,none⟩/\∀ j (hj:j<l.length),Nw w g (off+j*9) l[j])
structure UV (x:OpD):Prop where
 a:-9223372036854775808<=x.a∧x.a<=9223372036854775807
 b:-9223372036854775808<=x.b∧x.b<=9223372036854775807
 s:x.s.length<=140737488355328
 fr:x.fr.length<=140737488355328
 tt:x.tt.length<=140737488355328
 hl:x.hs.length<=140737488355328
 hd:∀ h∈x.hs,h.1.length<=140737488355328∧h.2.length<=140737488355328
 cl:x.code.length<=140737488355328
 cd:∀ i∈x.code,(i.as'.length<=140737488355328∧∀ t∈i.as',t.length<=140737488355328)∧(i.bs.length<=140737488355328∧∀ t∈i.bs,t.length<=140737488355328)
 cn:∀ i∈x.code,-9223372036854775808<=i.n∧i.n<=9223372036854775807
theorem YA.below{xs:Qa}(h:YA w v xs)(f:Below w.heap.size w w'):YA w' v xs:=by
 obtain⟨a,c,k,h⟩:=h;refine⟨a,c,k,fun i=>?_⟩;obtain⟨g,d,e,h⟩:=h i;exact⟨g,d,e,fun j b=>by rw[f.cell (p:=⟨g,d+j,none⟩) (Qq (h j b))];exact h j b⟩
theorem YA.len{xs:Qa}(h:YA w v xs):∃ a c,v=.slice a xs.length c:=by
 obtain⟨a,c,b,_⟩:=h;exact⟨a,c,b⟩
def Jx(n:Nat)(xs:Qa):Prop:=xs.length<=n/\∀ t∈xs,t.length<=n
def Fb(n:Nat)(hs:List (L8×L8)):Prop:=hs.length<=n/\∀ h∈hs,h.1.length<=n/\h.2.length<=n
structure SmD (x:OpD):Prop where
 s:x.s.length<=65536
 fr:x.fr.length<=65536
 tt:x.tt.length<=65536
 hs:Fb 65536 x.hs
 cl:x.code.length<=65536
 cd:∀ i∈x.code,Jx 65536 i.as'∧Jx 65536 i.bs
theorem CY(v:Value)(xs:Qa)(w:World)(h:YA w v xs)(M:xs.length<=140737488355328)(b:∀ t∈xs,t.length<=140737488355328) :
 Calls prog 23 #[v] w fun e w'=>(∃ n:Nat,e=.returned (.int .i64 n)/\n<=300000000000000/\(n<=65536->Jx n xs))/\Below w.heap.size w w':=by
 have H:=I h;have A:=I b;obtain⟨a,c,rfl⟩:=h.len;clear h b;go_enter func23,ntmps23;go_wp2
 go_loopw [3,4] (fun J i wr=>∃(k n:Nat),k<=xs.length/\i=.int .i64 k/\J=.int .i64 n/\n<=300000000000000/\Below w.heap.size w wr/\Hid (xs.length<=n/\∀ t∈xs.take k,t.length<=n)) (fun _ i _=>xs.length - (intOf i).toNat)
 case atStart=>exact⟨0,xs.length,by omega,rfl,rfl,by omega,Below.refl _ _,Nat.le_refl _,fun t ht=>nomatch ht⟩
 case round=>
  obtain⟨k,n,L,rfl,rfl,s,m,f⟩:=hrel;have d:=I m;clear m;by_cases hlt:k<xs.length
  ·by_cases hnl:n<=65536
   ·obtain⟨B,K,u,l⟩:=H.o;obtain⟨g,y,E,q⟩:=l (List.ne_nil_of_length_pos (by omega));have D:a=B:=by injection u
    subst D;subst E;have j:=q k hlt;have C:wr.cell? ⟨g,y+k,none⟩=some (.string (sA xs[k])):=by rw[d.o.cell (p:=⟨g,y+k,none⟩) (Qq j)];exact j
    have G:=A.o xs[k] (List.getElem_mem hlt);obtain⟨x,b⟩:=Qe (xs[k]);rw[b]at C G;have N:=QN x
    have z:Hid (xs.length<=n+x.length/\∀ t∈xs.take (k+1),t.length<=n+x.length):=by
     refine⟨by have:=f.o.1;omega,fun t ht=>?_⟩;rw[List.take_succ_eq_append_getElem hlt]at ht;rcases List.mem_append.1 ht with ht|ht
     ·have:=f.o.2 t ht;omega
     ·rw[XH ht,b];omega
    have r:(k:Int)<(xs.length:Int):=by omega
    have F:(n:Int)<=65536:=by omega
    clear j q l u b;go_wp2;exact⟨⟨k+1,n+x.length,by omega,by go_num,by go_num,by omega,d.o,z⟩,by simp[intOf];omega⟩
   ·have r:(k:Int)<(xs.length:Int):=by omega
    have F:¬(n:Int)<=65536:=by omega
    go_wp2;go_ret;exact⟨⟨n,rfl,s,fun e=>absurd e hnl⟩,d.o⟩
  ·have r:¬(k:Int)<(xs.length:Int):=by omega
   go_wp2;go_ret;exact⟨⟨n,rfl,s,fun _=>⟨f.o.1,fun t ht=>f.o.2 t (by rw[List.take_of_length_le (by omega)];exact ht)⟩⟩,d.o⟩
def Fa(fr tt:L8)(sz:Int)(hv:Value):Value:=.agg #[.string (sA fr),.string (sA tt),.int .i64 sz,hv]
theorem O6(d f:L8)(sz:Int)(s:Value)(b:List (L8×L8))(w:World)(h:Jz w s b)(Z:d.length<=140737488355328)(h2:f.length<=140737488355328)(h3:b.length<=140737488355328)(y:∀ h∈b,h.1.length<=140737488355328/\h.2.length<=140737488355328) :
 Calls prog 22 #[Fa d f sz s] w fun e w'=>(∃ n:Nat,e=.returned (.int .i64 n)/\n<=300000000000000/\(n<=65536->d.length<=n/\f.length<=n/\Fb n b))/\Below w.heap.size w w':=by
 have H:=I h;have G:=I y;obtain⟨a,c,U,_⟩:=h;subst U;have z1:=QN d;have z2:=QN f;clear y;unfold Fa;obtain⟨m,r⟩:=QF (w.alloc (.cells #[.string (sA d),.string (sA f),.int .i64 sz,.slice a b.length c] 28));have J:Hid (Below w.heap.size w m):=by show Below _ _ _;rw[r];exact Qp _
 have K:Hid (m.heap[w.heap.size]?=some (.cells #[.string (sA d),.string (sA f),.int .i64 sz,.slice a b.length c] 28)):=by show _=_;rw[r];exact QC _ _
 have N:=I r;clear r;go_enter func22,ntmps22;go_wp2_with fail;rw[<-N.o]
 go_loopw [3,4] (fun V i wr=>∃(k n:Nat),k<=b.length/\i=.int .i64 (k:Int)/\V=.int .i64 (n:Int)/\n<=300000000000000/\Below w.heap.size w wr/\wr.heap[w.heap.size]?=some (.cells #[.string (sA d),.string (sA f),.int .i64 sz,.slice a b.length c] 28)/\Hid (d.length+f.length+k<=n/\∀ h∈b.take k,h.1.length<=n/\h.2.length<=n)) (fun _ i _=>b.length - (intOf i).toNat)
 case atStart=>exact⟨0,d.length+f.length,QE,by go_num,(by first|rfl|congr 1),by omega,J.o,K.o,by omega,fun h hh=>nomatch hh⟩
 case round=>
  obtain⟨k,n,hk,rfl,rfl,F,z,q,l⟩:=hrel;have j:=I z;have L:=I q;have ae:=Qg q;have Y:=QR q;clear z q;by_cases hlt:k<b.length
  ·have T:(k:Int)<(b.length:Int):=by omega
   by_cases hle:n<=65536
   ·have S:(n:Int)<=65536:=by omega
    obtain⟨W,X,s,D⟩:=H.o;injection s with hv1 hv2 hv3
    subst hv1;obtain⟨g,t,R,C⟩:=D (List.ne_nil_of_length_pos (by omega));subst R;obtain⟨u,B⟩:=C k hlt;have E:g<w.heap.size:=Qq u;have P:wr.cell? ⟨g,t+k*2,none⟩=some (.string (sA b[k].1)):=by rw[j.o.cell (p:=⟨g,t+k*2,none⟩) E];exact u
    have Q:wr.cell? ⟨g,t+k*2+1,none⟩=some (.string (sA b[k].2)):=by rw[j.o.cell (p:=⟨g,t+k*2+1,none⟩) E];exact B
    have A:=G.o _ (List.getElem_mem hlt);obtain⟨x,v⟩:=Qe (b[k]);rw[v]at P Q A;have ac:=QN x.1;have ad:=QN x.2;obtain⟨aa,ab⟩:=A
    have M:Hid (d.length+f.length+(k+1)<=n+1+x.1.length+x.2.length/\∀ h∈b.take (k+1),h.1.length<=n+1+x.1.length+x.2.length/\h.2.length<=n+1+x.1.length+x.2.length):=by
     refine⟨by have:=l.o.1;omega,fun h hh=>?_⟩;rw[List.take_succ_eq_append_getElem hlt]at hh;rcases List.mem_append.1 hh with hh|hh
     ·have:=l.o.2 h hh;omega
     ·rw[XH hh,v];omega
    clear u B v hv3 D C;go_wp2_with fail;go_quiet (fail)
    all_goals go_wp2
    go_roundw
    case rel=>exact⟨k+1,n+1+x.1.length+x.2.length,by omega,by go_num,by go_num,by omega,⟨j.o.os,j.o.tape,j.o.output,j.o.size,j.o.block⟩,L.o,M⟩
    case measure=>simp[intOf];omega
   ·have S:¬(n:Int)<=65536:=by omega
    go_wp2;go_ret;exact⟨⟨n,rfl,F,fun e=>absurd e hle⟩,j.o⟩
  ·have T:¬(k:Int)<(b.length:Int):=by omega
   go_wp2;go_ret;exact⟨⟨n,rfl,F,fun _=>by have:=l.o.1;exact⟨by omega,by omega,by omega,fun h hh=>l.o.2 h (by rw[List.take_of_length_le (by omega)];exact hh)⟩⟩,j.o⟩
theorem Jz.below{f:List (L8×L8)}(h:Jz w v f)(e:Below w.heap.size w w'):Jz w' v f:=by
 obtain⟨a,c,l,h⟩:=h;refine⟨a,c,l,fun k=>?_⟩;obtain⟨g,d,i,h⟩:=h k;exact⟨g,d,i,fun j b=>⟨by rw[e.cell (p:=⟨g,d+j*2,none⟩) (Qq (h j b).1)];exact(h j b).1,by rw[e.cell (p:=⟨g,d+j*2+1,none⟩) (Qq (h j b).2)];exact(h j b).2⟩⟩
theorem Nr.below{w w':World}{g o:Nat}{x:Kd}(h:Nr w g o x)(b:Below w.heap.size w w'):Nr w' g o x:=by
 obtain⟨c,d,e,f,i,k,l,m,n,q⟩:=h;have r:g<w.heap.size:=Qq c;have a:∀ j,w'.cell? ⟨g,j,none⟩=w.cell? ⟨g,j,none⟩:=fun j=>b.cell (p:=⟨g,j,none⟩) r
 exact⟨by rw[a];exact c,by rw[a];exact d,by rw[a];exact e,by rw[a];exact f,by rw[a];exact i,by rw[a];exact k,by rw[a];exact l,m.below b,n.below b,q⟩
theorem JD.below{w w':World}{v:Value}{l:List Kd}(h:JD w v l)(d:Below w.heap.size w w'):JD w' v l:=by
 obtain⟨a,c,i,h⟩:=h;refine⟨a,c,i,fun f=>?_⟩;obtain⟨g,k,b,h⟩:=h f;exact⟨g,k,b,fun j e=>(h j e).below d⟩
theorem Nw.below{w w':World}{g o:Nat}{x:OpD}(h:Nw w g o x)(b:Below w.heap.size w w'):Nw w' g o x:=by
 obtain⟨c,d,f,i,k,l,m,n,q,r,e⟩:=h;have s:g<w.heap.size:=Qq c;have a:∀ j,w'.cell? ⟨g,j,none⟩=w.cell? ⟨g,j,none⟩:=fun j=>b.cell (p:=⟨g,j,none⟩) s
 exact⟨by rw[a];exact c,by rw[a];exact d,by rw[a];exact f,by rw[a];exact i,by rw[a];exact k,by rw[a];exact l,by rw[a];exact m,by rw[a];exact n,by rw[a];exact q,r.below b,e.below b⟩
theorem Mq(l:List OpD)(v:Value)(w:World)(h:Ug w v l)(hs:∀ x∈l,UV x)(hl:l.length<=140737488355328) :
 Calls prog 15 #[v] w fun e w'=>(∃ b:Bool,e=.returned (.bool b)/\(b=true->∀ x∈l,SmD x))/\Below w.heap.size w w':=by
 have H:=I h;have HS:=I hs;obtain⟨a,c,F,_⟩:=h;subst F;clear hs;go_enter func15,ntmps15;go_upto_block 0 with fail
 go_cut [3] (fun S wx=>∃ n:Nat,S=.int .i64 n/\n<=1000000000000000/\Below w.heap.size w wx/\(n<=65536->∀ x∈l,SmD x))
 case first=>
  go_wp2_with fail
  go_loopg [3,4,5,6,7,8,9] l.length (fun m S iv _ _ _ _ _ wr=>∃ k n:Nat,m=l.length - k/\k<=l.length/\iv=.int .i64 k/\S=.int .i64 n/\n<=1000000000000000/\Below w.heap.size w wr/\Hid (n<=65536->∀ x∈l.take k,SmD x))
  case atStart=>exact⟨0,l.length,by omega,by omega,rfl,rfl,by omega,Below.refl _ _,fun _ x G=>nomatch G⟩
  case round=>
   obtain⟨k,n,rfl,hk,rfl,rfl,hn,P,X⟩:=hrel;have J:=I P;clear P;by_cases hlt:k<l.length
   ·by_cases hnl:n<=65536
    ·obtain⟨a',c',F,f⟩:=H.o;obtain⟨g,aY,ha,Q⟩:=f (List.ne_nil_of_length_pos (by omega));have ea:a=a':=by injection F
     subst ea;subst ha;have E:=Q k hlt;have u:=HS.o l[k] (List.getElem_mem hlt);obtain⟨x,G⟩:=Qe (l[k]);rw[G]at E u
     have aM:Hid (∀ d:Nat,n<=d->(d<=65536->SmD x)->d<=65536->∀ z∈l.take (k+1),SmD z):=fun d Y f h3 z hz=>by
      rw[List.take_succ_eq_append_getElem hlt]at hz;rcases List.mem_append.1 hz with hz|hz
      ·exact X.o (by omega) z hz
      ·rw[XH hz,G];exact f h3
     have aq:=I E;obtain⟨p0,p1,p2,p3,p4,p5,p6,p7,p8,hh,aO⟩:=E;have aw:g<w.heap.size:=Qq p0;have r:∀ j,wr.cell? ⟨g,j,none⟩=w.cell? ⟨g,j,none⟩:=fun j=>J.o.cell (p:=⟨g,j,none⟩) aw
     have q0:=(r _).trans p0;have q1:=(r _).trans p1;have q2:=(r _).trans p2;have q3:=(r _).trans p3;have q4:=(r _).trans p4;have q5:=(r _).trans p5;have q6:=(r _).trans p6;have q7:=(r _).trans p7;have q8:=(r _).trans p8;have R:(k:Int)<(l.length:Int):=by omega
     have aj:(n:Int)<=65536:=by omega
     have hz:=QN x.s;have L:=I u;have aW:=u.s;have aT:=u.cl;have aV:g<wr.heap.size:=Zs aw J.o.size;obtain⟨C,D,ag,_⟩:=aO;obtain⟨aa,ab,ai,_⟩:=hh;rw[ag]at q8;rw[ai]at q7;clear p0 p1 p2 p3 p4 p5 p6 p7 p8 r Q f F G u;obtain⟨N,Z⟩:=QF (wr.alloc (.cells #[.int .i64 x.kind,.int .i64 x.a,.int .i64 x.b,.string (sA x.s),.string (sA x.fr),.string (sA x.tt),.int .i64 x.sz,.slice aa x.hs.length ab,.slice C x.code.length D] 47));have aN:=I Z;have ac:Hid (Below w.heap.size w N):=by show Below _ _ _;rw[Z];exact J.o.alloc J.o.size _
     have aF:Hid (N.heap[wr.heap.size]?=some (.cells #[.int .i64 x.kind,.int .i64 x.a,.int .i64 x.b,.string (sA x.s),.string (sA x.fr),.string (sA x.tt),.int .i64 x.sz,.slice aa x.hs.length ab,.slice C x.code.length D] 47)):=by show _=_;rw[Z];exact QC _ _
     have aE:Hid (Jz w (.slice aa x.hs.length ab) x.hs):=by rw[<-ai];exact aq.o.2.2.2.2.2.2.2.2.2.1
     have aD:Hid (JD w (.slice C x.code.length D) x.code):=by rw[<-ag];exact aq.o.2.2.2.2.2.2.2.2.2.2
     clear Z ai ag;go_wp2_with fail;rw[<-aN.o];refine(O6 x.fr x.tt x.sz _ x.hs N (aE.o.below ac.o) L.o.fr L.o.tt L.o.hl L.o.hd).mono ?_;rintro e w2 ⟨⟨sn,rfl,aX,ay⟩,ad⟩;have aI:=I ay;clear ay;have aA:=I (ac.o.trans (ad.mono ac.o.size));have W:=I (QP aF.o ad);have r3:=QR W.o;have r8:=JG W.o;clear ad q0 q1 q2 q3 q4 q5 q6 q7 q8;obtain⟨T,ak⟩:=Qe (wr.heap.size);rw[ak]at W r3 r8;go_upto_block 2 with fail
     have aQ:=I ak;clear ak;go_wp2_with fail
     go_loopg [3,7,8,9] x.code.length (fun m S jv _ _ wy=>∃ j n_:Nat,m=x.code.length - j/\j<=x.code.length/\jv=.int .i64 j/\S=.int .i64 n_/\n_<=1000000000000000/\Below w.heap.size w wy/\wy.heap[T]?=some (.cells #[.int .i64 x.kind,.int .i64 x.a,.int .i64 x.b,.string (sA x.s),.string (sA x.fr),.string (sA x.tt),.int .i64 x.sz,.slice aa x.hs.length ab,.slice C x.code.length D] 47)/\Hid (n+x.s.length+x.code.length+sn<=n_/\(n_<=65536->∀ i∈x.code.take j,Jx 65536 i.as'/\Jx 65536 i.bs)))
     case atStart=>exact⟨0,n+x.s.length+x.code.length+sn,by omega,by omega,rfl,by go_num,by omega,aA.o,W.o,Nat.le_refl _,fun _ i hi=>nomatch hi⟩
     case round=>
      obtain⟨j,d,rfl,hj,rfl,rfl,ax,P,hN,M⟩:=hrel;have B:=I P;have aH:=I hN;have s8:=JG hN;clear P hN;by_cases hjl:j<x.code.length
      ·by_cases hnl':d<=65536
       ·obtain⟨a',c',F,f⟩:=aD.o;obtain⟨A,K,ha,Q⟩:=f (List.ne_nil_of_length_pos (by omega));have ea:C=a':=by injection F
        subst ea;subst ha;have E:=Q j hjl;have u:=L.o.cd x.code[j] (List.getElem_mem hjl);obtain⟨y,hy⟩:=Qe (x.code[j]);rw[hy]at E u
        have aL:Hid (∀ n2:Nat,d<=n2->(n2<=65536->Jx 65536 y.as'/\Jx 65536 y.bs)->n2<=65536->∀ i∈x.code.take (j+1),Jx 65536 i.as'/\Jx 65536 i.bs):=fun n2 Y f h3 z hz=>by
         rw[List.take_succ_eq_append_getElem hjl]at hz;rcases List.mem_append.1 hz with hz|hz
         ·exact M.o.2 (by omega) z hz
         ·rw[XH hz,hy];exact f h3
        have aP:=I E;obtain⟨t0,t1,t2,t3,t4,t5,t6,t7,t8,_⟩:=E;have ah:A<w.heap.size:=Qq t0;have aU:A<wr.heap.size:=Zs ah B.o.size;obtain⟨va,vc,ao⟩:=t7.len;obtain⟨vb,vd,ap⟩:=t8.len;have m4:wr.cell? ⟨A,K+j*7+4,none⟩=some (.slice va y.as'.length vc):=by rw[B.o.cell (p:=⟨A,K+j*7+4,none⟩) ah,<-ao];exact t4
        have aJ:Hid (YA w (.slice va y.as'.length vc) y.as'):=by rw[<-ao];exact t7
        have aK:Hid (YA w (.slice vb y.bs.length vd) y.bs):=by rw[<-ap];exact t8
        have w5:w.cell? ⟨A,K+j*7+5,none⟩=some (.slice vb y.bs.length vd):=by rw[<-ap];exact t5
        have V:=I u;have R:(j:Int)<(x.code.length:Int):=by omega
        have aj:(d:Int)<=65536:=by omega
        clear t0 t1 t2 t3 t4 t5 t6 t7 t8 ao ap Q f F hy u;go_wp2_with fail;refine(CY _ y.as' wr (aJ.o.below B.o) V.o.1.1 V.o.1.2).mono ?_;rintro e w4 ⟨⟨an,rfl,aR,au⟩,ae⟩;have az:=I au;clear au;have U:=I (B.o.trans (ae.mono B.o.size));have ar:=I (QP aH.o ae);have aZ:=JG ar.o;have m5:w4.cell? ⟨A,K+j*7+5,none⟩=some (.slice vb y.bs.length vd):=by rw[U.o.cell (p:=⟨A,K+j*7+5,none⟩) ah];exact w5
        clear ae;go_wp2_with fail;refine(CY _ y.bs w4 (aK.o.below U.o) V.o.2.1 V.o.2.2).mono ?_;rintro e w6 ⟨⟨bn,rfl,aS,av⟩,af⟩;have aC:=I av;clear av;have aB:=I (U.o.trans (af.mono U.o.size));have aG:=I (QP ar.o af);clear af;go_wp2;go_roundg (x.code.length - (j+1))
        case measure=>omega
        case rel=>exact⟨j+1,d+an+bn,rfl,by omega,by go_num,by go_num,by omega,aB.o,aG.o,by have:=M.o.1;omega,aL.o (d+an+bn) (by omega) (fun h=>by have Y:=az.o (by omega);have f:=aC.o (by omega);exact⟨⟨by have:=Y.1;omega,fun t ht=>by have:=Y.2 t ht;omega⟩,⟨by have:=f.1;omega,fun t ht=>by have:=f.2 t ht;omega⟩⟩)⟩
       ·have R:(j:Int)<(x.code.length:Int):=by omega
        have aj:¬(d:Int)<=65536:=by omega
        go_wp2;go_roundg (l.length - (k+1))
        case measure=>omega
        case rel=>exact⟨k+1,d,rfl,by omega,by go_num,rfl,ax,B.o,fun e=>absurd e hnl'⟩
      ·have R:¬(j:Int)<(x.code.length:Int):=by omega
       go_wp2;go_roundg (l.length - (k+1))
       case measure=>omega
       case rel=>exact⟨k+1,d,rfl,by omega,by go_num,rfl,ax,B.o,aM.o d (by have:=M.o.1;omega) (fun h=>by have h0:=M.o.1;obtain⟨s1,s2,s3⟩:=aI.o (by omega);exact⟨by omega,by omega,by omega,⟨by have:=s3.1;omega,fun q hq=>by have:=s3.2 q hq;omega⟩,by omega,fun i hi=>M.o.2 h i (by rw[List.take_of_length_le (by omega)];exact hi)⟩)⟩
    ·have R:(k:Int)<(l.length:Int):=by omega
     have aj:¬(n:Int)<=65536:=by omega
     go_wp2;go_meet;exact⟨n,rfl,hn,J.o,fun e=>absurd e hnl⟩
   ·have R:¬(k:Int)<(l.length:Int):=by omega
    go_wp2;go_meet;exact⟨n,rfl,hn,J.o,fun e x G=>X.o e x (by rw[List.take_of_length_le (by omega)];exact G)⟩
 case rest=>
  obtain⟨n,rfl,hn,hb,hT⟩:=hcut;have X:=I hT;clear hT;go_wp2;go_ret;exact⟨⟨_,rfl,fun e=>X.o (by simp at e;omega)⟩,hb⟩
def pickL(c:Int)(n:Nat):Nat:=(if c<0 then(-(c+1)).toNat else c.toNat) % n
theorem AE(c:Int)(h:0<n):pickL c n<n:=Nat.mod_lt _ h
theorem Ao(c:Int)(n:Nat)(w:World)(d:-9223372036854775808<=c)(f:c<=9223372036854775807)(g:0<n)(j:n<=4611686018427387904) :
 Calls prog 31 #[.int .i64 c,.int .i64 n] w fun e w'=>e=.returned (.int .i64 (pickL c n))/\w'=w:=by
 have k:((n:Int)==0)=false:=by simp;omega
 have i:¬(n:Int)=0:=by omega
 by_cases hc:c<0
 ·obtain⟨m,b⟩:∃ m:Nat,-(c+1)=(m:Int):=⟨(-(c+1)).toNat,by omega⟩;have a:pickL c n=m % n:=by unfold pickL;rw[if_pos hc,b];rfl
  rw[a];clear a;go_enter func31,ntmps31;go_wp2;go_ret;exact⟨by simp,rfl⟩
 ·obtain⟨m,rfl⟩:∃ m:Nat,c=(m:Int):=⟨c.toNat,by omega⟩;have a:pickL (m:Int) n=m % n:=by unfold pickL;rw[if_neg hc];rfl
  rw[a];clear a;go_enter func31,ntmps31;go_wp2;go_ret;exact⟨by simp,rfl⟩
def opV(x:OpD):Value:=.agg #[.int .i64 x.kind,.int .i64 x.a,.int .i64 x.b,.string (sA x.s),.string (sA x.fr),.string (sA x.tt),.int .i64 x.sz,x.hv,x.cv]
theorem Tryz.infoPtrS:(prog.info? 53).map (fun i=>(i.zero,i.size,i.bytes))=some (some (.pointer none),1,8):=by kernel_rfl
theorem Tryz.infoPtrR:(prog.info? 76).map (fun i=>(i.zero,i.size,i.bytes))=some (some (.pointer none),1,8):=by kernel_rfl
def UR(X:Nat->Prop)(y:Qa×List (Zt 7))(w:World)(v:Value):Prop:=
 ∃ g rv lv,v=.pointer (some ⟨g,0,none⟩)/\X g/\w.heap[g]?=some (.cells #[rv,lv] 124)/\Yz X y.1 w rv/\blX X (Yo 7) y.2 w lv
theorem K2:TreeQ UR:=by
 refine⟨fun X a w m v h i=>?_,fun X Y a w v h f=>?_⟩
 ·obtain⟨g,l,k,j,c,b,d,e⟩:=h;exact⟨g,l,k,j,c,by rw[i g c (Qg b)];exact b,d.keep i,e.keep (Xm 7) i⟩
 ·obtain⟨g,l,k,j,c,b,d,e⟩:=h;exact⟨g,l,k,j,f g c (Qg b),b,d.weak f,e.weak (Xm 7) f⟩
theorem KW:TreeQ JV:=by
 refine⟨fun X a w m v h i=>?_,fun X Y a w v h f=>?_⟩
 ·obtain⟨g,l,k,j,c,b,d,e⟩:=h;exact⟨g,l,k,j,c,by rw[i g c (Qg b)];exact b,d.keep i,(ZL (ZZ 7)).keep _ _ _ _ _ e i⟩
 ·obtain⟨g,l,k,j,c,b,d,e⟩:=h;exact⟨g,l,k,j,f g c (Qg b),b,d.weak f,(ZL (ZZ 7)).weak _ _ _ _ _ e f⟩
abbrev J8:=Qa×List (Zt 7)
section
variable {wb:Nat} {u w w' w5:World} {xv mv v' x:Value} {ys1 ys2:List J8} {y:J8} {vs1 vs2:List Value} {o:Obj}
end
section
open Go.ChangeShapes Go.WideShapes Go.ChangeAt Go.WideMaps Go.WideElems Go.RowKit Go.Joins Go.Deep
theorem Tryz.cellsStrL:prog.cellsOf 9=1:=by kernel_rfl
theorem Tryz.bytesStrL:prog.bytesOf 9=16:=by kernel_rfl
theorem Tryz.cellsIntL:prog.cellsOf 3=1:=by kernel_rfl
theorem Tryz.cellsBoolL:prog.cellsOf 4=1:=by kernel_rfl
theorem Tryz.cellsStrsL:prog.cellsOf 61=1:=by kernel_rfl
theorem Tryz.cellsHdrL:prog.cellsOf 50=2:=by kernel_rfl
theorem Tryz.bytesHdrL:prog.bytesOf 50=32:=by kernel_rfl
theorem Tryz.cellsHdrsL:prog.cellsOf 26=1:=by kernel_rfl
theorem Tryz.cellsMsgL:prog.cellsOf 28=4:=by kernel_rfl
theorem Tryz.cellsInsL:prog.cellsOf 63=7:=by kernel_rfl
theorem Tryz.bytesInsL:prog.bytesOf 63=88:=by kernel_rfl
theorem Tryz.cellsInssL:prog.cellsOf 45=1:=by kernel_rfl
theorem Tryz.cellsOpL:prog.cellsOf 47=9:=by kernel_rfl
theorem Tryz.bytesOpL:prog.bytesOf 47=128:=by kernel_rfl
theorem GV:reachBytes=140737488351232:=rfl
theorem Bs{H:Type}{P:Program}{e:TypeId}:∀ {l:List (DataW H)} {d:DataW H},d∈l->∀ n∈d.weights P e,n∈DataW.weightsAll P e l
 |d'::r,d,hd,n,hn=>by
  simp only[DataW.weightsAll,List.mem_append];rcases List.mem_cons.1 hd with rfl|h
  ·exact Qd hn
  ·exact Qc (Bs h n hn)
theorem U6(s:ByteArray):sA s.data.toList=s:=by
 cases s;rfl
theorem G8{E:Bool}{α:Type}(t e:TypeId)(sz s:Nat)(w:prog.underlying t=some (.slice e))(Y:prog.cellsOf e=sz)(L:prog.bytesOf e=s)(V:0<sz)(Q:α->List Value->Prop)(q:α->Prop)
 (hel0:∀ n' cs y',DataW.trod enc prog W 0 (fun _=>true) E n' e cs=some y'->(∀ k∈y'.1.weights prog e,k<=reachBytes)->∃ x:α,Q x cs/\q x)
 (h:DataW.trod enc prog W 0 (fun _=>true) E n t [v]=some y) (Z:∀ k∈y.1.weights prog t,k<=reachBytes) :
 ∃ l:List α,Vu v/\(∃ a c,v=.slice a l.length c/\(l≠[]->∃ g off,a=some ⟨g,off,none⟩/\∀ j (A:j<l.length),∃ cs,Q l[j] cs/\∀ i,i<sz->W.cell? ⟨g,off+j*sz+i,none⟩=cs[i]?))/\(∀ x∈l,q x)/\l.length*s<=reachBytes:=by
 rcases open_slice w h with⟨d,o⟩ | ⟨a,len0,G,m,nn,D,Pl,d,_,P,hm,U,o,C⟩
 ·injection d with d
  subst d;exact⟨[],⟨fun p n c e=>(by injection e with _ e1 e2;rw[<-e1,<-e2];exact Ql),fun c e=>(by injection e with _ _ e;exact e.symm)⟩,⟨none,0,rfl,fun h=>absurd rfl h⟩,fun x o=>(nomatch o),by simp⟩
 ·injection d with d
  subst d;have T:m=G:=by rw[U];rfl
  subst T;rw[Y]at C;have hwy:∀ k∈DataW.weights prog t (.slice ((List.range len0).map D) ((List.range (m - len0)).map fun j=>D (len0+j))),k<=reachBytes:=fun k hk=>Z k (by rw[o];exact hk)
  have R:(len0+(m - len0))*s<=reachBytes:=hwy _ (by simp[DataW.weights,w,L]);have S:len0*s<=reachBytes:=Qs (Nat.mul_le_mul_right _ (by omega)) R
  have hex:∀ i,i<len0->∃ x:α,q x/\∃ cs,Q x cs/\∀ j,j<sz->W.cell? ((a.add (i*sz)).add j)=cs[j]?/\∃ u,cs[j]?=some u:=fun i hi=>by
   obtain⟨J,r,ht⟩:=C i (by omega);have hmem:D i∈(List.range len0).map D:=List.mem_map.2 ⟨i,List.mem_range.2 hi,rfl⟩
   obtain ⟨x,hq,hsm⟩:=hel0 _ _ _ ht (fun k hk=>hwy k (by
    simp only[DataW.weights,w,List.mem_cons,List.mem_append]
    exact Qc (Qd (Bs hmem k hk))))
   obtain⟨ac,_,M⟩:=World.cells?_some r;refine⟨x,hsm,J,hq,fun j A=>⟨M j (by omega),?_⟩⟩;exact⟨_,List.getElem?_eq_getElem (by omega)⟩
  by_cases h0:len0=0
  ·subst h0;exact⟨[],⟨fun p n c e=>(by injection e with _ e1 e2;rw[<-e1];exact QE),fun c e=>(by cases e)⟩,⟨some a,m,rfl,fun h=>absurd rfl h⟩,fun x o=>(nomatch o),by simp⟩
  have F:0<len0:=Nat.pos_of_ne_zero h0;have⟨x0,_⟩:=hex 0 F
  obtain⟨f,z⟩:∃ f:Nat->α,∀ i,i<len0->q (f i)/\∃ cs,Q (f i) cs/\∀ j,j<sz->W.cell? ((a.add (i*sz)).add j)=cs[j]?/\∃ u,cs[j]?=some u:=
   ⟨fun i=>if hi:i < len0 then (hex i hi).choose else x0,fun i hi=>by
    show q (dite _ _ _)/\∃ cs,Q (dite _ _ _) cs/\_
    rw[dif_pos hi]
    exact (hex i hi).choose_spec⟩
  obtain⟨b,off,ab⟩:=a
  have X:ab=none:=by
   obtain⟨_,cs,_,r⟩:=z 0 F;obtain⟨B,u,K⟩:=r 0 V;rw[K]at B;have:=World.cell?_spot B;simpa[Addr.add]using this
  subst X;refine⟨(List.range len0).map f,⟨fun p n c e=>(by injection e with _ e1 e2;rw[<-e1,<-e2];exact P),fun c e=>(by cases e)⟩,⟨some ⟨b,off,none⟩,m,by simp,fun _=>⟨b,off,rfl,fun j A=>?_⟩⟩,fun x aa=>?_,by simpa using S⟩
  ·have N:j<len0:=by simpa using A
   obtain⟨_,cs,hq,r⟩:=z j N;refine⟨cs,by simpa using hq,fun i hi=>?_⟩;have:=(r i hi).1;rw[Addr.add_lit,Addr.add_lit]at this;exact this
  ·obtain⟨i,hi,rfl⟩:=List.mem_map.1 aa;exact(z i (List.mem_range.1 hi)).1
theorem Dq{o:Bool}(h:DataW.trod enc prog W 0 (fun _=>true) o n 61 [v]=some y)(hw:∀ k∈y.1.weights prog 61,k<=reachBytes) :
 ∃ xs:Qa,Vu v/\YA W v xs/\xs.length<=140737488355328/\∀ t∈xs,t.length<=140737488355328:=by
 have u:=GV
 obtain ⟨l,hrm,⟨a,c,hv,hc⟩,hs,hl⟩:=G8 (α:=L8) 61 9 1 16 underlying61 Tryz.cellsStrL Tryz.bytesStrL (by decide) (fun x cs=>cs=[.string (sA x)]) (fun x=>x.length<=140737488355328) (fun n' cs y' ht hwt=>by
  obtain⟨b,e,f,_⟩:=DataW.trod_string underlying9 ht;have r:y'.1.weights prog 9=[b.data.toList.length]:=by rw[f];simp[DataW.weights]
  rw[r]at hwt;have:=hwt _ (List.mem_singleton.2 rfl)
  exact ⟨b.data.toList,by rw [U6];exact e,by omega⟩) h hw
 refine⟨l,hrm,⟨a,c,hv,fun q=>?_⟩,by omega,hs⟩;obtain⟨g,s,i,m⟩:=hc q;refine⟨g,s,i,fun j p=>?_⟩;obtain⟨cs,rfl,d⟩:=m j p;have:=d 0 (by decide);rw[Nat.mul_one,Nat.add_zero]at this;exact this
theorem Ms{z:Bool}(h:DataW.trod enc prog W 0 (fun _=>true) z n 26 [v]=some y)(hw:∀ k∈y.1.weights prog 26,k<=reachBytes) :
 ∃ hs:List (L8×L8),Jz W v hs/\hs.length<=140737488355328/\∀ t∈hs,t.1.length<=140737488355328/\t.2.length<=140737488355328:=by
 have F:=GV
 obtain ⟨l,_,⟨a,c,hv,hc⟩,hs,hl⟩:=G8 (α:=L8×L8) 26 50 2 32 underlying26 Tryz.cellsHdrL Tryz.bytesHdrL (by decide) (fun x cs=>cs=[.string (sA x.1),.string (sA x.2)]) (fun x=>x.1.length<=140737488355328∧x.2.length<=140737488355328) (fun n' cs y' ht hwt=>by
  obtain⟨K,L,m,D,hl,s,e⟩:=trod_struct2 underlying50 ht;rw[Tryz.cellsHdrL]at hl
  obtain⟨b,d,rfl⟩:∃ b d,cs=[b,d]:=by
   match cs,hl with
   | [b,d],_=>exact⟨b,d,rfl⟩
  obtain⟨b0,o,q,_⟩:=DataW.trod_string underlying9 s;obtain⟨b1,p,r,_⟩:=DataW.trod_string underlying9 e;rw[Tryz.cellsStrL]at o p;have f:[b]=[Value.string b0]:=o;have i:[d]=[Value.string b1]:=p;injection f with f
  injection i with i
  subst f i q r;have C:y'.1.weights prog 50=[b0.data.toList.length,b1.data.toList.length]:=by rw[D];simp[DataW.weights,DataW.weightsEach,underlying50]
  rw[C]at hwt;have G:=hwt b0.data.toList.length (by simp);have J:=hwt b1.data.toList.length (by simp)
  exact ⟨(b0.data.toList,b1.data.toList),by dsimp only;rw [U6,U6],by dsimp only;omega,by dsimp only;omega⟩) h hw
 refine⟨l,⟨a,c,hv,fun B=>?_⟩,by omega,hs⟩;obtain⟨g,E,u,w⟩:=hc B;refine⟨g,E,u,fun j A=>?_⟩;obtain⟨cs,rfl,e⟩:=w j A;exact⟨e 0 (by decide),e 1 (by decide)⟩
def E8(i:Kd):Prop:=(i.as'.length<=140737488355328/\∀ t∈i.as',t.length<=140737488355328)/\(i.bs.length<=140737488355328/\∀ t∈i.bs,t.length<=140737488355328)/\-9223372036854775808<=i.n/\i.n<=9223372036854775807
theorem MB{Z:Bool}(h:DataW.trod enc prog W 0 (fun _=>true) Z n 45 [v]=some y)(hw:∀ k∈y.1.weights prog 45,k<=reachBytes) :
 ∃ l:List Kd,JD W v l/\l.length<=140737488355328/\∀ i∈l,E8 i:=by
 have hr:=GV
 obtain ⟨l,_,⟨a,c,hv,hc⟩,hs,hl⟩:=G8 (α:=Kd) 45 63 7 88 underlying45 Tryz.cellsInsL Tryz.bytesInsL (by decide) (fun x cs=>cs=[.int .i64 x.op,.int .i64 x.n,.int .i64 x.tag,.bool x.oct,x.av,x.bv,.int .i64 x.pos]∧YA W x.av x.as'∧YA W x.bv x.bs∧Vu x.av∧Vu x.bv) E8 (fun n' cs y' ht hwt=>by
  obtain⟨Q,m,_,hx,hl,aa,d⟩:=DataW.trod_struct underlying63 ht;rw[Tryz.cellsInsL]at hl
  obtain⟨o,p,q,r,c4,c5,s,rfl⟩:∃ o p q r c4 c5 s,cs=[o,p,q,r,c4,c5,s]:=by
   match cs,hl with
   | [o,p,q,r,c4,c5,s],_=>exact⟨o,p,q,r,c4,c5,s,rfl⟩
  obtain⟨w,z,A,B,e,f,C,rfl⟩:∃ w z A B e f C,Q=[w,z,A,B,e,f,C]:=by
   match Q,aa with
   | [w,z,A,B,e,f,C],_=>exact⟨w,z,A,B,e,f,C,rfl⟩
  have L:=d 0 _ rfl;have t:=d 1 _ rfl;have u:=d 2 _ rfl;have b:=d 3 _ rfl;have M:=d 4 _ rfl;have N:=d 5 _ rfl;have P:=d 6 _ rfl;simp only[Tryz.cellsStrsL,Tryz.cellsIntL,Tryz.cellsBoolL,List.drop,List.take,List.getElem?_cons_zero,List.getElem?_cons_succ]at L t u b M N P;obtain⟨i0,D,R,_⟩:=DataW.trod_int underlying3 L;obtain⟨i1,E,S,ae⟩:=DataW.trod_int underlying3 t;obtain⟨i2,F,T,af⟩:=DataW.trod_int underlying3 u;obtain⟨b3,G,U⟩:=DataW.trod_bool underlying4 b;obtain⟨i6,J,V,_⟩:=DataW.trod_int underlying3 P;injection D with D
  injection E with E
  injection F with F
  injection G with G
  injection J with J
  subst D E F G J R S T U V
  have ac:y'.1.weights prog 63=e.1.weights prog 61++f.1.weights prog 61:=by
   rw[hx];simp[DataW.weights,DataW.weightsEach,underlying63]
  rw[ac]at hwt;obtain⟨as',hrm,ha,ha1,ha2⟩:=Dq M (fun k K=>hwt k (List.mem_append_left _ K));simp only[Lit.wf,Bool.and_eq_true,decide_eq_true_eq]at ae;have m1:IntKind.i64.min = -9223372036854775808:=rfl;have m2:IntKind.i64.max=9223372036854775807:=rfl;obtain⟨bs,hrm2,hb,hb1,hb2⟩:=Dq N (fun k K=>hwt k (List.mem_append_right _ K))
  exact ⟨⟨i0,i1,i2,b3,c4,c5,as',bs,i6⟩,⟨rfl,ha,hb,hrm,hrm2⟩,⟨ha1,ha2⟩,⟨hb1,hb2⟩,by show _<=i1;omega,by show i1<=_;omega⟩) h hw
 refine⟨l,⟨a,c,hv,fun ab=>?_⟩,by omega,hs⟩;obtain⟨g,ad,ha,Y⟩:=hc ab;refine⟨g,ad,ha,fun j hj=>?_⟩;obtain⟨cs,⟨rfl,t,u,X⟩,b⟩:=Y j hj;exact⟨b 0 (by decide),b 1 (by decide),b 2 (by decide),b 3 (by decide),b 4 (by decide),b 5 (by decide),b 6 (by decide),t,u,X⟩
theorem PD{r:Reach}{b0:Nat}{d:DataW H}{p:List MemPlace}(hv:Value.okWide prog W r b0 22 v)(h:DataW.Trod enc prog W 0 (fun _=>true) true 22 v d p)(hw:∀ k∈d.weights prog 22,k<=reachBytes) :
 ∃ l:List OpD,Ug W v l/\(∀ x∈l,UV x)/\l.length*128<=140737488351232:=by
 have hr:=GV;obtain⟨ab,ae⟩:=h;obtain⟨a0,ap,aa,ai⟩:∃ a n c,v=.slice a n c:=okWide_slice underlying22 hv;subst ai;have hf':DataW.trod enc prog W 0 (fun _=>true) true ab 22 [.slice a0 ap aa]=some (d,p):=ae
 obtain ⟨l,_,⟨a,c,hv1,hc⟩,hs,hl⟩:=G8 (α:=OpD) 22 47 9 128 underlying22 Tryz.cellsOpL Tryz.bytesOpL (by decide) (fun x cs=>cs=[.int .i64 x.kind,.int .i64 x.a,.int .i64 x.b,.string (sA x.s),.string (sA x.fr),.string (sA x.tt),.int .i64 x.sz,x.hv,x.cv]∧Jz W x.hv x.hs∧JD W x.cv x.code) UV (fun n' cs y' ht hwt=>by
  obtain⟨xs,m,_,hx,hl,af,f⟩:=DataW.trod_struct underlying47 ht;rw[Tryz.cellsOpL]at hl
  obtain⟨y,z,A,B,C,D,E,q,t,rfl⟩:∃ y z A B C D E q t,cs=[y,z,A,B,C,D,E,q,t]:=by
   match cs,hl with
   | [y,z,A,B,C,D,E,q,t],_=>exact⟨y,z,A,B,C,D,E,q,t,rfl⟩
  obtain⟨K,L,M,N,u,w,rfl⟩:∃ K L M N u w,xs=[K,L,M,N,u,w]:=by
   match xs,af with
   | [K,L,M,N,u,w],_=>exact⟨K,L,M,N,u,w,rfl⟩
  have h0:=f 0 _ rfl;have F:=f 1 _ rfl;have G:=f 2 _ rfl;have e:=f 3 _ rfl;have h4:=f 4 _ rfl;have h5:=f 5 _ rfl;simp only[Tryz.cellsStrL,Tryz.cellsIntL,Tryz.cellsMsgL,Tryz.cellsInssL,List.drop,List.take,List.getElem?_cons_zero,List.getElem?_cons_succ]at h0 F G e h4 h5;obtain⟨i0,S,f0,_⟩:=DataW.trod_int underlying3 h0;obtain⟨i1,T,f1,w1⟩:=DataW.trod_int underlying3 F;obtain⟨i2,U,f2,ar⟩:=DataW.trod_int underlying3 G;obtain⟨b3,V,f3,_⟩:=DataW.trod_string underlying9 e;obtain⟨zs,m4,_,ao,au,ag,J⟩:=DataW.trod_struct underlying28 h4
  obtain⟨P,Q,R,o,rfl⟩:∃ P Q R o,zs=[P,Q,R,o]:=by
   match zs,ag with
   | [P,Q,R,o],_=>exact⟨P,Q,R,o,rfl⟩
  have g0:=J 0 _ rfl;have g1:=J 1 _ rfl;have g2:=J 2 _ rfl;have g3:=J 3 _ rfl;simp only[Tryz.cellsStrL,Tryz.cellsIntL,Tryz.cellsHdrsL,List.drop,List.take,List.getElem?_cons_zero,List.getElem?_cons_succ]at g0 g1 g2 g3;obtain⟨b4,X,f4,_⟩:=DataW.trod_string underlying9 g0;obtain⟨b5,Y,f5,_⟩:=DataW.trod_string underlying9 g1;obtain⟨i6,Z,f6,_⟩:=DataW.trod_int underlying3 g2;injection S with S
  injection T with T
  injection U with U
  injection V with V
  injection X with X
  injection Y with Y
  injection Z with Z
  subst S T U V X Y Z f0 f1 f2 f3 f4 f5 f6
  have ak:u.1.weights prog 28=[b4.data.toList.length,b5.data.toList.length]++o.1.weights prog 26:=by
   rw[ao];simp[DataW.weights,DataW.weightsEach,underlying28]
  have aj:y'.1.weights prog 47=[b3.data.toList.length]++(([b4.data.toList.length,b5.data.toList.length]++o.1.weights prog 26)++w.1.weights prog 45):=by
   rw[hx,<-ak];simp[DataW.weights,DataW.weightsEach,underlying47]
  rw[aj]at hwt;have k3:=hwt b3.data.toList.length (by simp);have k4:=hwt b4.data.toList.length (by simp);have k5:=hwt b5.data.toList.length (by simp);obtain⟨hs,hh,hh1,hh2⟩:=Ms g3 (fun k hk=>hwt k (by simp only[List.mem_append];exact Qc (Qd (Qc hk))));obtain⟨cd,ac,hcd1,hcd2⟩:=MB h5 (fun k hk=>hwt k (by simp only[List.mem_append];exact Qc (Qc hk)));simp only[Lit.wf,Bool.and_eq_true,decide_eq_true_eq]at w1 ar;have m1:IntKind.i64.min = -9223372036854775808:=rfl;have m2:IntKind.i64.max=9223372036854775807:=rfl;refine⟨⟨i0,i1,i2,b3.data.toList,b4.data.toList,b5.data.toList,i6,q,hs,t,cd⟩,⟨?_,hh,ac⟩,?_⟩
  ·dsimp only;rw[U6,U6,U6]
  ·exact ⟨by show _<=i1∧i1<=_;omega,by show _<=i2∧i2<=_;omega,by show b3.data.toList.length<=_;omega,by show b4.data.toList.length<=_;omega,by show b5.data.toList.length<=_;omega,hh1,hh2,hcd1,(fun i hi=>⟨(hcd2 i hi).1,(hcd2 i hi).2.1⟩),fun i hi=>(hcd2 i hi).2.2⟩) hf' hw
 refine⟨l,⟨a,c,hv1,fun ah=>?_⟩,hs,by omega⟩;obtain⟨g,aq,ha,ad⟩:=hc ah;refine⟨g,aq,ha,fun j hj=>?_⟩;obtain⟨cs,⟨rfl,F,G⟩,e⟩:=ad j hj;exact⟨e 0 (by decide),e 1 (by decide),e 2 (by decide),e 3 (by decide),e 4 (by decide),e 5 (by decide),e 6 (by decide),e 7 (by decide),e 8 (by decide),F,G⟩
end
end Go.Proofs.YtgnkjijocdmniaaGreatDoor
