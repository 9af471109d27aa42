import Derived.Test.YtgnkjijocdmniaaGreatDoorZVRunP
namespace Go.Proofs.YtgnkjijocdmniaaGreatDoor
set_option linter.unusedVariables false
set_option linter.unusedSimpArgs false
set_option maxRecDepth 100000
set_option maxHeartbeats 4000000
open Go.Proofs.Tryz
open Go.RowKit
attribute [local go_sem ↓] Go.wp_at_zero Go.wp_at_succ
def N5(B:Nat)(w0:World)(nm:L8)(av:Value)(pos:Nat)(k:L8)(kind:Int)(ev:SS->CR):Prop:=nm=k/\∃ g1 c a,av=.slice (some ⟨g1,0,none⟩) 1 c/\g1<B/\w0.cell? ⟨g1,0,none⟩=some (.string (sA a))/\a.length<=100000/\∀ s,ev s=Kh s kind a pos
def Pq(B:Nat)(w0:World)(nm:L8)(av:Value)(tag cnt:Nat)(ev:SS->CR):Prop:=nm=ZW/\1<=cnt/\∃ g1 c x a,av=.slice (some ⟨g1,0,none⟩) 2 c/\g1<B/\w0.cell? ⟨g1,0,none⟩=some (.string (sA x))/\w0.cell? ⟨g1,1,none⟩=some (.string (sA a))/\a.length<=100000/\(tag=0\/tag=1\/tag=2\/tag=3)/\∀ s,ev s=.ok (Kx s x tag a,false)
def NIf(B:Nat)(M:Msg)(w0:World)(nm:L8)(tv bv:Value)(cnt:Nat)(ev:SS->CR):Prop:=nm=kIf/\∃(n:Nat) (tst:Nat->SS->Bool×SS) (blk:Nat->SS->CR) (els:Bool) (g1 g2 c1 c2:Nat),
 tv=.slice (some ⟨g1,0,none⟩) n c1/\g1<B/\bv=.slice (some ⟨g2,0,none⟩) (if els then n+1 else n) c2/\g2<B/\n<=100000/\
 (∀ j,j<n->∃ p,w0.cell? ⟨g1,j,none⟩=some (.pointer (some ⟨p,0,none⟩))/\Uj B M w0 (.pointer (some ⟨p,0,none⟩)) (tst j))/\
 (∀ j,j<(if els then n+1 else n)->∃ a l c,w0.cell? ⟨g2,j,none⟩=some (.slice a l c)/\U1 B M w0 (.slice a l c) cnt (blk j))/\
 (∀ j s,keepB (tst j s).2=keepB s)/\∃ go:Nat->SS->CR,(∀ s,ev s=go 0 s)/\(∀ k s,k<n->go k s=if(tst k s).1=true then blk k (tst k s).2 else go (k+1) (tst k s).2)/\∀ s,go n s=if els then blk n s else .ok (s,false)
def Ei(B:Nat)(M:Msg)(w0:World)(g:Nat)(cnt:Nat)(ev:SS->CR):Prop:=
 g<B/\∃ nm av tv bv,∃ tag pos:Nat,w0.heap[g]?=some (.cells #[.string (sA nm),av,.int .i64 tag,tv,bv,.int .i64 pos] 155)/\
 ((nm=JJ/\∀ s,ev s=.ok (s,true))\/(nm=JI/\∀ s,ev s=.ok (KE s,false))\/(nm=JH/\∀ s,ev s=Kh s 1 [] pos)\/N5 B w0 nm av pos Ze 2 ev\/N5 B w0 nm av pos Yn 3 ev\/N5 B w0 nm av pos Zf 4 ev\/Pq B w0 nm av tag cnt ev\/NIf B M w0 nm tv bv cnt ev)
def Yw{α:Type}(cn:α->Nat)(cs:List α)(k:Nat):Nat:=((cs.take k).map cn).sum
variable{α:Type}{a:List α}{k:Nat}
theorem Ej(b:α->Nat)(h:k<a.length):Yw b a (k+1)=Yw b a k+b a[k]:=by
 unfold Yw;rw[List.take_succ_eq_append_getElem h,List.map_append,List.sum_append];simp
theorem BD{α:Type}(b:α->Nat)(a:List α):∀ d k,k+d=a.length->Yw b a k<=Yw b a a.length
 |0,k,h=>by rw[show k=a.length by omega];exact Nat.le_refl _
 |d+1,k,h=>Qm (by rw[Ej b (by omega)];omega) (BD b a d (k+1) (by omega))
def N6{α:Type}(B sb:Nat)(M:Msg)(q:Nat)(pz:Int)(ev:α->SS->CR)(cn:α->Nat)(cs:List α)(s:SS)(k:Nat)(wr:World):Prop:=
 (∃ s1 z1,StI wr B sb M s1 z1 (q+Yw cn cs k) (keepB s1) false 0 pz/\bEval ev cs s=bEval ev (cs.drop k) s1)\/(endB (bEval ev cs s)=true/\RP B sb M (q+Yw cn cs cs.length) pz (bEval ev cs s) wr)
theorem N6.next{B sb:Nat}{M:Msg}{q:Nat}{f:Int}{b:α->SS->CR}{d:α->Nat}{s e:SS}{wx:World}(g:k<a.length)(he:bEval b a s=bEval b (a.drop k) e)(h:RP B sb M (q+Yw d a (k+1)) f (b a[k] e) wx):N6 B sb M q f b d a s (k+1) wx:=by
 rw[MJ b g]at he;have j:=BD d a (a.length - (k+1)) (k+1) (by omega)
 match hr:b a[k] e,h with
 | .ok (s2,false),h=>
  rw[hr]at he;obtain⟨i,h⟩:=h;exact Qd ⟨s2,i,h,he⟩
 | .ok (s2,true),h=>
  rw[hr]at he;refine Qc ⟨by rw[he];rfl,?_⟩;rw[he];exact RP.more h (by omega)
 | .error (c,p),h=>
  rw[hr]at he;refine Qc ⟨by rw[he];rfl,?_⟩;rw[he];exact RP.more h (by omega)
theorem BE(B:Nat)(M:Msg)(w0:World)(S:α->SS->CR)(F:α->Nat)(f:List α)(a:Option Addr)(c:Nat)(bH:f.length<=100000)(hd:∀ j (hj:j<f.length),∃ l1 g,a=some ⟨l1,0,none⟩/\l1<B/\w0.cell? ⟨l1,j,none⟩=some (.pointer (some ⟨g,0,none⟩))/\Ei B M w0 g (F f[j]) (S f[j])) :
 U1 B M w0 (.slice a f.length c) (Yw F f f.length) (bEval S f):=by
 intro w A s z q L hW hS hq;have HD:=I hd;have HS:=I hS;have HW:=I hW;have aC:=hS.hB;have bM:=hS.lt;clear hd hS hW;go_enter func56,ntmps56;go_wp2
 go_loopg [4,6,7] f.length (fun m iv _ _ wr=>∃(k:Nat),m=f.length - k/\k<=f.length/\iv=.int .i64 k/\Hid (Below B w wr)/\Hid (N6 B A M q L S F f s k wr))
 case atStart=>exact⟨0,by omega,QC,rfl,Below.refl _ _,Qd ⟨s,z,HS.o,rfl⟩⟩
 case round=>
  obtain⟨k,rfl,hk,rfl,HB,HR⟩:=hrel;rcases HR.o with⟨t,z1,aE,he⟩ | ⟨a3,aD⟩
  rotate_left
  ·have aT:=aD.ends.1;rw[a3]at aT;have ai:=I aD;clear a3 aD;by_cases hkl:k<f.length
   ·have aH:(k:Int)<(f.length:Int):=by omega
    go_wp2;go_end0;exact⟨rfl,HB.o,ai.o⟩
   ·have aH:¬(k:Int)<(f.length:Int):=by omega
    go_wp2;go_end0;exact⟨rfl,HB.o,ai.o⟩
  ·have aT:=Nv aE.blk;have K:=I aE;have HE:=I he;clear aE he HR;by_cases hkl:k<f.length;rotate_left
   ·have bu:k=f.length:=by omega
    subst bu;have aH:¬(f.length:Int)<(f.length:Int):=by omega
    have Y:Hid (bEval S f s=.ok (t,false)):=by show _=_;rw[HE.o,Zi Qt];rfl
    go_wp2;go_end0;exact⟨rfl,HB.o,by rw[Y.o];exact⟨z1,K.o⟩⟩
   ·have aH:(k:Int)<(f.length:Int):=by omega
    have bd:=Ej F hkl;have bf:=BD F f (f.length - (k+1)) (k+1) (by omega);obtain⟨l1,g,rfl,bw,a0,Q,i,av,tv,bv,af,R,aZ,a9⟩:=HD.o k hkl;have aa:=I (HW.o.trans HB.o);have b0:wr.cell? ⟨l1,k,none⟩=some (.pointer (some ⟨g,0,none⟩)):=by rw[aa.o.cell (p:=⟨l1,k,none⟩) bw];exact a0
    have hc:wr.heap[g]?=some (.cells #[.string (sA i),av,.int .i64 af,tv,bv,.int .i64 R] 155):=by rw[aa.o.block g Q];exact aZ
    have b1:=Qj hc;have b2:=Qo hc;have b3:=QG hc;have b4:=QH hc;have b5:=QJ hc;have b6:=QM hc;have bI:g≠A:=by omega
    have HC:=I hc;have Z:=I a9;have bh:A<wr.heap.size:=K.o.lt;have bG:B<=wr.heap.size:=by omega
    have ae:q+Yw F f k<=1000000:=by omega
    clear hc aZ a0 a9;go_upto_block 1 with fail
    go_cut [6,7] (fun _ _ wx=>Below B wr wx/\RP B A M (q+Yw F f (k+1)) L (S f[k] t) wx)
    case first=>
     have ah:=I bd;have bp:=I bf;clear bd bf HD HE;have ab:q+Yw F f k<=q+Yw F f (k+1):=by have:=ah.o;omega
     obtain⟨H,bx⟩:=Qf (q+Yw F f k);rw[bx]at K ae ab;rcases Z.o with hn|hn|hn|hn|hn|hn|hn|hn
     ·as_aux_lemma=>
      obtain⟨b,v⟩:=hn;have e0:=Zz [115,116,111,112] b rfl
      have E:=I (v t);have df:=Qz K.o.blk;clear b v Z;go_wp2;go_meet;exact⟨((Mod.refl A wr).setCell _ _).below aC bh,by rw[E.o];exact⟨z1,(K.o.ends).more ab⟩⟩
     ·as_aux_lemma=>
      obtain⟨b,v⟩:=hn;have e0:=Ql [115,116,111,112] b rfl
      have e1:=Zz [100,105,115,99,97,114,100] b rfl
      have E:=I (v t);have df:=Qz K.o.blk;have d9:=JU K.o.blk;have HK:Hid (keepB (KE t)=false):=by show(t.met.isEmpty && !true)=false;rw[Bool.not_true,Bool.and_false]
      clear b v Z;go_wp2;go_meet;exact⟨((Mod.refl A wr).setCell _ _).below aC bh,by rw[E.o];refine⟨z1,?_⟩;rw[HK.o];exact(K.o.disc).more ab⟩
     ·as_aux_lemma=>
      obtain⟨b,v⟩:=hn;have e0:=Ql [115,116,111,112] b rfl
      have e1:=Ql [100,105,115,99,97,114,100] b rfl
      have e2:=Zz [107,101,101,112] b rfl
      have E:=I (v t);have X:=I (ND B A M t z1 H (keepB t) false L 1 [] R wr K.o ae QC (Qd ⟨rfl,rfl⟩));clear b v Z;go_wp2_with fail;refine X.o.mono ?_;rintro e u ⟨rfl,l,y⟩;have N:=I l;have P:=I y;clear l y;go_wp2;go_meet;exact⟨N.o,by rw[E.o];exact(P.o.run).more ab⟩
     ·as_aux_lemma=>
      obtain⟨b,d,D,a,rfl,G,V,ad,v⟩:=hn;have e0:=Ql [115,116,111,112] b rfl
      have e1:=Ql [100,105,115,99,97,114,100] b rfl
      have e2:=Ql [107,101,101,112] b rfl
      have e3:=Zz [102,105,108,101,105,110,116,111] b rfl
      have E:=I (v t);have p0:wr.cell? ⟨d,0,none⟩=some (.string (sA a)):=by rw[aa.o.cell (p:=⟨d,0,none⟩) G];exact V
      have X:=I (ND B A M t z1 H (keepB t) false L 2 a R wr.drew (K.o.below (Below.refl _ _).drew) ae ad (by omega));clear b v Z V;go_wp2;go_region_held3 (fun C=>C.cell? ⟨g,1,none⟩=some (.slice (some ⟨d,0,none⟩) 1 D)/\C.cell? ⟨d,0,none⟩=some (.string (sA a))/\C.cell? ⟨g,5,none⟩=some (.int .i64 R)) (first|go_keep|exact⟨f1,f2,f3⟩) (first|(go_at_call 49;refine X.o.mono ?_;rintro e u ⟨rfl,l,y⟩;have N:=I l;have P:=I y;have f1:u.cell? ⟨g,1,none⟩=some (.slice (some ⟨d,0,none⟩) 1 D):=(by rw[l.cell (p:=⟨g,1,none⟩) Q];exact b2);have f2:u.cell? ⟨d,0,none⟩=some (.string (sA a)):=(by rw[l.cell (p:=⟨d,0,none⟩) G];exact p0);have f3:u.cell? ⟨g,5,none⟩=some (.int .i64 R):=(by rw[l.cell (p:=⟨g,5,none⟩) Q];exact b6);clear l y;skip))
      all_goals go_wp2
      all_goals go_meet
      all_goals exact⟨((Below.refl _ _).drew).trans N.o,by rw[E.o];exact(P.o.run).more ab⟩
     ·as_aux_lemma=>
      obtain⟨b,d,D,a,rfl,G,V,ad,v⟩:=hn;have e0:=Ql [115,116,111,112] b rfl
      have e1:=Ql [100,105,115,99,97,114,100] b rfl
      have e2:=Ql [107,101,101,112] b rfl
      have e3:=Ql [102,105,108,101,105,110,116,111] b rfl
      have e4:=Zz [114,101,100,105,114,101,99,116] b rfl
      have E:=I (v t);have p0:wr.cell? ⟨d,0,none⟩=some (.string (sA a)):=by rw[aa.o.cell (p:=⟨d,0,none⟩) G];exact V
      have X:=I (ND B A M t z1 H (keepB t) false L 3 a R wr.drew (K.o.below (Below.refl _ _).drew) ae ad (by omega));clear b v Z V;go_wp2;go_region_held3 (fun C=>C.cell? ⟨g,1,none⟩=some (.slice (some ⟨d,0,none⟩) 1 D)/\C.cell? ⟨d,0,none⟩=some (.string (sA a))/\C.cell? ⟨g,5,none⟩=some (.int .i64 R)) (first|go_keep|exact⟨f1,f2,f3⟩) (first|(go_at_call 49;refine X.o.mono ?_;rintro e u ⟨rfl,l,y⟩;have N:=I l;have P:=I y;have f1:u.cell? ⟨g,1,none⟩=some (.slice (some ⟨d,0,none⟩) 1 D):=(by rw[l.cell (p:=⟨g,1,none⟩) Q];exact b2);have f2:u.cell? ⟨d,0,none⟩=some (.string (sA a)):=(by rw[l.cell (p:=⟨d,0,none⟩) G];exact p0);have f3:u.cell? ⟨g,5,none⟩=some (.int .i64 R):=(by rw[l.cell (p:=⟨g,5,none⟩) Q];exact b6);clear l y;skip))
      all_goals go_wp2
      all_goals go_meet
      all_goals exact⟨((Below.refl _ _).drew).trans N.o,by rw[E.o];exact(P.o.run).more ab⟩
     ·as_aux_lemma=>
      obtain⟨b,d,D,a,rfl,G,V,ad,v⟩:=hn;have e0:=Ql [115,116,111,112] b rfl
      have e1:=Ql [100,105,115,99,97,114,100] b rfl
      have e2:=Ql [107,101,101,112] b rfl
      have e3:=Ql [102,105,108,101,105,110,116,111] b rfl
      have e4:=Ql [114,101,100,105,114,101,99,116] b rfl
      have e5:=Zz [114,101,106,101,99,116] b rfl
      have E:=I (v t);have p0:wr.cell? ⟨d,0,none⟩=some (.string (sA a)):=by rw[aa.o.cell (p:=⟨d,0,none⟩) G];exact V
      have X:=I (ND B A M t z1 H (keepB t) false L 4 a R wr.drew (K.o.below (Below.refl _ _).drew) ae ad (by omega));clear b v Z V;go_wp2;go_region_held3 (fun C=>C.cell? ⟨g,1,none⟩=some (.slice (some ⟨d,0,none⟩) 1 D)/\C.cell? ⟨d,0,none⟩=some (.string (sA a))/\C.cell? ⟨g,5,none⟩=some (.int .i64 R)) (first|go_keep|exact⟨f1,f2,f3⟩) (first|(go_at_call 49;refine X.o.mono ?_;rintro e u ⟨rfl,l,y⟩;have N:=I l;have P:=I y;have f1:u.cell? ⟨g,1,none⟩=some (.slice (some ⟨d,0,none⟩) 1 D):=(by rw[l.cell (p:=⟨g,1,none⟩) Q];exact b2);have f2:u.cell? ⟨d,0,none⟩=some (.string (sA a)):=(by rw[l.cell (p:=⟨d,0,none⟩) G];exact p0);have f3:u.cell? ⟨g,5,none⟩=some (.int .i64 R):=(by rw[l.cell (p:=⟨g,5,none⟩) Q];exact b6);clear l y;skip))
      all_goals go_wp2
      all_goals go_meet
      all_goals exact⟨((Below.refl _ _).drew).trans N.o,by rw[E.o];exact(P.o.run).more ab⟩
     ·as_aux_lemma=>
      obtain⟨b,bF,d,D,x,a,rfl,G,a2,V,ad,bz,v⟩:=hn;have e0:=Ql [115,116,111,112] b rfl
      have e1:=Ql [100,105,115,99,97,114,100] b rfl
      have e2:=Ql [107,101,101,112] b rfl
      have e3:=Ql [102,105,108,101,105,110,116,111] b rfl
      have e4:=Ql [114,101,100,105,114,101,99,116] b rfl
      have e5:=Ql [114,101,106,101,99,116] b rfl
      have e6:=Zz [115,101,116] b rfl
      have E:=I (v t);have p0:wr.cell? ⟨d,0,none⟩=some (.string (sA x)):=by rw[aa.o.cell (p:=⟨d,0,none⟩) G];exact a2
      have p1:wr.cell? ⟨d,1,none⟩=some (.string (sA a)):=by rw[aa.o.cell (p:=⟨d,1,none⟩) G];exact V
      have X:=I (MI B A M t z1 H (keepB t) false 0 L x a af wr.drew (K.o.below (Below.refl _ _).drew) ae ad (by omega));have bA:H+1<=q+Yw F f (k+1):=by have:=ah.o;omega
      clear b v Z V a2 bz;go_wp2;go_region_held3 (fun C=>C.cell? ⟨g,1,none⟩=some (.slice (some ⟨d,0,none⟩) 2 D)/\C.cell? ⟨d,0,none⟩=some (.string (sA x))/\C.cell? ⟨d,1,none⟩=some (.string (sA a))/\C.cell? ⟨g,2,none⟩=some (.int .i64 af)) (first|go_keep|exact⟨f1,f2,f4,f3⟩) (first|(go_at_call 50;refine X.o.mono ?_;rintro e u ⟨rfl,l,y⟩;have N:=I l;have P:=I y;have f1:u.cell? ⟨g,1,none⟩=some (.slice (some ⟨d,0,none⟩) 2 D):=(by rw[l.cell (p:=⟨g,1,none⟩) Q];exact b2);have f2:u.cell? ⟨d,0,none⟩=some (.string (sA x)):=(by rw[l.cell (p:=⟨d,0,none⟩) G];exact p0);have f4:u.cell? ⟨d,1,none⟩=some (.string (sA a)):=(by rw[l.cell (p:=⟨d,1,none⟩) G];exact p1);have f3:u.cell? ⟨g,2,none⟩=some (.int .i64 af):=(by rw[l.cell (p:=⟨g,2,none⟩) Q];exact b3);clear l y;skip))
      all_goals go_wp2
      all_goals go_meet
      all_goals obtain⟨z9,bC⟩:=P.o
      all_goals exact⟨((Below.refl _ _).drew).trans N.o,by rw[E.o];exact⟨z9,bC.more bA⟩⟩
     ·as_aux_lemma=>
      obtain⟨b,n,bD,aR,aU,d,T,D,c2,rfl,G,rfl,aG,bK,bi,aX,a7,go,a4,a6,a5⟩:=hn;have e0:=Ql [115,116,111,112] b rfl
      have e1:=Ql [100,105,115,99,97,114,100] b rfl
      have e2:=Ql [107,101,101,112] b rfl
      have e3:=Ql [102,105,108,101,105,110,116,111] b rfl
      have e4:=Ql [114,101,100,105,114,101,99,116] b rfl
      have e5:=Ql [114,101,106,101,99,116] b rfl
      have e6:=Ql [115,101,116] b rfl
      have e7:=Zz [105,102] b rfl
      have E:=I (a4 t);have bq:=I bi;have ap:=I aX;have bn:=I a7;have bk:=I a6;have aP:=I (a5);obtain⟨qn,aL⟩:=Qf (q+Yw F f (k+1));have aK:H+F f[k]=qn:=by have:=ah.o;omega
      have aM:H+F f[k]<=1000000:=by have:=ah.o;have:=bp.o;omega
      rw[aL]at ab;have ar:=I aL;obtain⟨aS,a1⟩:=Qf (F f[k]);rw[a1]at aK aM ap;obtain⟨U,aJ⟩:=Qf (if aU then n+1 else n);rw[aJ]at b5 ap;have aq:=I aJ;have aA:=I aK;clear b bi aX a7 a6 a5 a4 Z aL aJ aK a1 ah;go_wp2
      go_loopw [6,7] (fun dv kv wi=>∃(j:Nat),j<=n/\kv=.int .i64 j/\Hid (Below B wr wi)/\((dv=.bool false/\∃ J z2,Hid (StI wi B A M J z2 H (keepB J) false 0 L)/\Hid (S f[k] t=go j J))\/(dv=.bool true/\Hid (RP B A M qn L (S f[k] t) wi)))) (fun _ kv _=>n - (intOf kv).toNat)
      case atStart=>exact⟨0,QC,rfl,Below.refl _ _,Qd ⟨rfl,t,z1,K,E⟩⟩
      case round=>
       obtain⟨j,hj,rfl,ac,br⟩:=hrel;have ag:=I (aa.o.trans ac.o);have aF:wr.heap[g]?=some (.cells #[.string (sA i),av,.int .i64 af,.slice (some ⟨d,0,none⟩) n D,.slice (some ⟨T,0,none⟩) U c2,.int .i64 R] 155):=by rw[ac.o.block g Q,<-aq.o];exact HC.o
       have f4:=QH aF;have f5:=QJ aF;clear aF;rcases br with⟨rfl,J,z2,aj,au⟩ | ⟨rfl,ai⟩
       rotate_left
       ·by_cases hjn:j<n
        ·have aI:(j:Int)<(n:Int):=by omega
         go_wp2;go_region;go_wp2;go_meet;exact⟨ac.o.drew,by rw[ar.o];exact ai.o.below (Below.refl _ _).drew⟩
        ·have aI:¬(j:Int)<(n:Int):=by omega
         go_wp2;go_region;go_wp2;go_meet;exact⟨ac.o.drew,by rw[ar.o];exact ai.o.below (Below.refl _ _).drew⟩
       ·by_cases hjn:j<n
        ·have aI:(j:Int)<(n:Int):=by omega
         obtain⟨p,hp,bb⟩:=bq.o j hjn;have f6:wr.cell? ⟨d,j,none⟩=some (.pointer (some ⟨p,0,none⟩)):=by rw[ag.o.cell (p:=⟨d,j,none⟩) G];exact hp
         have HO:=I (bb wr A J z2 H (keepB J) false 0 L ag.o aj.o (by omega));have ay:=I (bk.o j J hjn);have az:=I (bn.o j J);obtain⟨r,hr⟩:=Qf (bD j J);rw[hr]at HO ay az;obtain⟨rb,rs⟩:=r;have bm:Hid (keepB rs=keepB J):=az.o;clear hp bb hr az;go_wp2_with fail;refine HO.o.mono ?_;rintro e w1 ⟨rfl,a8,bB⟩;obtain⟨z3,aV⟩:=bB;have aW:StI w1 B A M rs z3 H (keepB rs) false 0 L:=by rw[bm.o];exact aV
         have aQ:=I aW;have aw:=a8.below aC aj.o.lt;have aN:=I (ac.o.trans aw);have aO:=I (ag.o.trans aw);have g5:w1.cell? ⟨g,4,none⟩=some (.slice (some ⟨T,0,none⟩) U c2):=by rw[aw.cell (p:=⟨g,4,none⟩) Q];exact f5
         clear a8 aV aW aw
         cases rb with
         |true=>
          have Y:Hid (S f[k] t=aR j rs):=by show _=_;rw[au.o,ay.o,if_pos rfl]
          have bs:j<U:=by rw[<-aq.o];split<;>omega
          have bJ:(j:Int)<(U:Int):=by omega
          obtain⟨ba,bl,bc,ak,ao⟩:=ap.o j bs;have g6:w1.cell? ⟨T,j,none⟩=some (.slice ba bl bc):=by rw[aO.o.cell (p:=⟨T,j,none⟩) aG];exact ak
          have aB:=I (ao w1 A rs z3 H L aO.o aQ.o aM);clear ak ao;go_wp2_with fail;refine aB.o.mono ?_;rintro e u ⟨rfl,l,y⟩;have N:=I (aN.o.trans l);have P:Hid (RP B A M qn L (S f[k] t) u):=by show RP _ _ _ _ _ _ _;rw[Y.o,<-aA.o];exact y
          clear l y;go_wp2;exact⟨⟨j+1,by omega,by go_num,N,Qc ⟨rfl,P⟩⟩,by simp[intOf];omega⟩
         |false=>
          have Y:Hid (S f[k] t=go (j+1) rs):=by show _=_;rw[au.o,ay.o,if_neg (by decide)]
          go_wp2;exact⟨⟨j+1,by omega,by go_num,aN,Qd ⟨rfl,rs,z3,aQ,Y⟩⟩,by simp[intOf];omega⟩
        ·have bt:j=n:=by omega
         subst bt;have aI:¬(j:Int)<(j:Int):=by omega
         cases aU with
         |false=>
          have ax:U=j:=aq.o.symm;subst ax;have Y:Hid (S f[k] t=.ok (J,false)):=by show _=_;rw[au.o,aP.o J];rfl
          go_wp2;go_region;go_wp2;go_meet;exact⟨ac.o.drew,by rw[ar.o,Y.o];exact⟨z2,(aj.o.below (Below.refl _ _).drew).more (by have:=aA.o;omega)⟩⟩
         |true=>
          have ax:U=j+1:=aq.o.symm;have Y:Hid (S f[k] t=aR j J):=by show _=_;rw[au.o,aP.o J];rfl
          obtain⟨ba,bl,bc,ak,ao⟩:=ap.o j (by omega);have g6:wr.cell? ⟨T,j,none⟩=some (.slice ba bl bc):=by rw[ag.o.cell (p:=⟨T,j,none⟩) aG];exact ak
          have aB:=I (fun(W:World) (hW:Below wr.heap.size wr W)=>ao W A J z2 H L (ag.o.trans (hW.mono (by have:=aj.o.lt;omega))) (aj.o.below hW) aM);have bL:(j:Int)<(U:Int):=by omega
          have bE:=I ax;clear ak ao ax;go_wp2;go_region;go_wp2;go_region_held3 (fun C=>C.cell? ⟨g,3,none⟩=some (.slice (some ⟨d,0,none⟩) j D)/\C.cell? ⟨g,4,none⟩=some (.slice (some ⟨T,0,none⟩) U c2)/\C.cell? ⟨T,j,none⟩=some (.slice ba bl bc)) (first|go_keep|exact⟨h1,h2,h3⟩) (first|(go_at_call 56;refine(aB.o wr.drew.drew ((Below.refl _ _).drew.drew)).mono ?_;rintro e u ⟨rfl,l,y⟩;have h1:u.cell? ⟨g,3,none⟩=some (.slice (some ⟨d,0,none⟩) j D):=(by rw[l.cell (p:=⟨g,3,none⟩) Q];exact f4);have h2:u.cell? ⟨g,4,none⟩=some (.slice (some ⟨T,0,none⟩) U c2):=(by rw[l.cell (p:=⟨g,4,none⟩) Q];exact f5);have h3:u.cell? ⟨T,j,none⟩=some (.slice ba bl bc):=(by rw[l.cell (p:=⟨T,j,none⟩) aG];exact g6);have N:=I l;have P:=I y;clear l y;skip))
          all_goals go_wp2
          all_goals go_meet
          all_goals exact⟨ac.o.drew.drew.trans N.o,by rw[ar.o,Y.o,<-aA.o];exact P.o⟩
    case rest=>
     obtain⟨aY,bg⟩:=hcut;have bj:=I (HB.o.trans aY);have bo:=I (N6.next hkl HE.o bg);clear aY bg;go_wp2;go_roundg (f.length - (k+1))
     case measure=>omega
     case rel=>exact⟨k+1,rfl,by omega,by go_num,bj,bo⟩
end Go.Proofs.YtgnkjijocdmniaaGreatDoor
