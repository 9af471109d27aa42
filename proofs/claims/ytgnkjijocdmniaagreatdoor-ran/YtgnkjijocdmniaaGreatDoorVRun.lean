import Derived.Test.YtgnkjijocdmniaaGreatDoorZVRes
namespace Go.Proofs.YtgnkjijocdmniaaGreatDoor
set_option linter.all false
set_option maxRecDepth 100000
set_option maxHeartbeats 4000000
open Go.Proofs.Tryz
open Go.RowKit
attribute [local go_sem ↓] Zt Zu
def A4(B:Nat)(w0:World)(nm:L8)(av:Value)(pos:Nat)(k:L8)(kind:Int)(ev:SS->CR):Prop:=nm=k/\∃g1 c a,av=Qs g1 1 c/\g1<B/\w0.cell? (Ql g1 0)=some (Qf a)/\a.length<=100000/\∀s,ev s=UQ s kind a pos
def Rn(B:Nat)(w0:World)(nm:L8)(av:Value)(tag cnt:Nat)(ev:SS->CR):Prop:=nm=Xw/\1<=cnt/\∃g1 c x a,av=Qs g1 2 c/\g1<B/\w0.cell? (Ql g1 0)=some (Qf x)/\w0.cell? (Ql g1 1)=some (Qf a)/\a.length<=100000/\(tag=0\/tag=1\/tag=2\/tag=3)/\∀s,ev s=.ok (Ur s x tag a,false)
def NIf(B:Nat)(M:Msg)(w0:World)(nm:L8)(tv bv:Value)(cnt:Nat)(ev:SS->CR):Prop:=nm=kIf/\∃(n:Nat) (tst:Nat->SS->Bool×SS) (blk:Nat->SS->CR) (els:Bool) (g1 g2 c1 c2:Nat),
 tv=Qs g1 n c1/\g1<B/\bv=Qs g2 (if els then n+1 else n) c2/\g2<B/\n<=100000/\
 (∀j,j<n->∃p,w0.cell? ⟨g1,j,none⟩=some (Qc p)/\Gx B M w0 (Qc p) (tst j))/\
 (∀j,j<(if els then n+1 else n)->∃a l c,w0.cell? ⟨g2,j,none⟩=some (.slice a l c)/\Nn B M w0 (.slice a l c) cnt (blk j))/\
 (∀j s,keepB (tst j s).2=keepB s)/\∃go:Nat->SS->CR,(∀s,ev s=go 0 s)/\(∀k s,k<n->go k s=if(tst k s).1=true then blk k (tst k s).2 else go (k+1) (tst k s).2)/\∀s,go n s=if els then blk n s else .ok (s,false)
def OF(B:Nat)(M:Msg)(w0:World)(g:Nat)(cnt:Nat)(ev:SS->CR):Prop:=
 g<B/\∃nm av tv bv,∃tag pos:Nat,w0.heap[g]?=some (Qe #[Qf nm,av,Qa tag,tv,bv,Qa pos] 155)/\
 ((nm=Uk/\∀s,ev s=.ok (s,true))\/(nm=K_/\∀s,ev s=.ok (Gl s,false))\/(nm=Ul/\∀s,ev s=UQ s 1 [] pos)\/A4 B w0 nm av pos ZN 2 ev\/A4 B w0 nm av pos Jt 3 ev\/A4 B w0 nm av pos ZM 4 ev\/Rn B w0 nm av tag cnt ev\/NIf B M w0 nm tv bv cnt ev)
def Jk{α:Type}(cn:α->Nat)(cs:List α)(k:Nat):Nat:=((cs.take k).map cn).sum
variable{α:Type}{B k:Nat}{M:Msg}{a:List α}
theorem LE(b:α->Nat)(h:k<a.length):Jk b a (k+1)=Jk b a k+b a[k]:=by
 unfold Jk;rw[Y4 h,KC,List.sum_append];simp
theorem EE{α:Type}(b:α->Nat)(a:List α):∀d k,k+d=a.length->Jk b a k<=Jk b a a.length
 |0,k,h=>by rw[show k=a.length by omega];exact Q4 _
 |d+1,k,h=>QE (by rw[LE b I];omega) (EE b a d (k+1) I)
def A9{α:Type}(B sb:Nat)(M:Msg)(q:Nat)(pz:Int)(ev:α->SS->CR)(cn:α->Nat)(cs:List α)(s:SS)(k:Nat)(wr:World):Prop:=
 (∃s1 z1,StI wr B sb M s1 z1 (q+Jk cn cs k) (keepB s1) false 0 pz/\bEval ev cs s=bEval ev (cs.drop k) s1)\/(Fi (bEval ev cs s)=true/\RP B sb M (q+Jk cn cs cs.length) pz (bEval ev cs s) wr)
theorem A9.next{g:Nat}{q:Nat}{f:Int}{b:α->SS->CR}{d:α->Nat}{s e:SS}{i:World}(j:k<a.length)(he:bEval b a s=bEval b (a.drop k) e)(h:RP B g M (q+Jk d a (k+1)) f (b a[k] e) i):A9 B g M q f b d a s (k+1) i:=by
 rw[QtH b j]at he;have m:=EE d a (a.length-(k+1)) (k+1) I
 match hr:b a[k] e,h with
 | .ok (s2,false),h=>
  rw[hr]at he;obtain⟨l,h⟩:=h;exact Qt ⟨s2,l,h,he⟩
 | .ok (s2,true),h=>
  rw[hr]at he;refine Qr ⟨by rw[he];rfl,?_⟩;rw[he];exact RP.more h I
 | .error (c,p),h=>
  rw[hr]at he;refine Qr ⟨by rw[he];rfl,?_⟩;rw[he];exact RP.more h I
theorem D_{w0:World}(Q:α->SS->CR)(G:α->Nat){f:List α}(a:Option Addr)(c:Nat)(bt:f.length<=100000)(hd:∀j (hj:j<f.length),∃l1 g,a=some ⟨l1,0,none⟩/\l1<B/\w0.cell? ⟨l1,j,none⟩=some (Qc g)/\OF B M w0 g (G f[j]) (Q f[j])) :
 Nn B M w0 (.slice a f.length c) (Jk G f f.length) (bEval Q f):=by
 intro w C s z q L hW hS hq;have HW:=O hW;have aC:=hS.hB;clear hW;change Qd _ at hd hS;go_enter func56,ntmps56;go_wp2
 go_loopg [4,6,7] f.length (fun m iv _ _ wr=>∃(k:Nat),m=f.length-k/\k<=f.length/\iv=Qa k/\Hid (Below B w wr)/\Hid (A9 B C M q L Q G f s k wr))
 case atStart=>exact⟨0,I,QR,rfl,QO _ _,Qt ⟨s,z,hS,rfl⟩⟩
 case round=>
  obtain⟨k,rfl,hk,rfl,HB,HR⟩:=hrel;rcases HR.o with⟨t,Z,D,he⟩ | ⟨aZ,ax⟩
  rotate_left
  .have aQ:=ax.ends.1;rw[aZ]at aQ;clear aZ;change Qd _ at ax;by_cases hkl:k<f.length
   .have aG:(k:Int)<(f.length:Int):=I
    go_wp2;go_end0;exact⟨rfl,HB,ax⟩
   .have aG:¬(k:Int)<(f.length:Int):=I
    go_wp2;go_end0;exact⟨rfl,HB,ax⟩
  .have aQ:=E1 D.blk;clear HR;change Qd _ at he;replace D:=O D;by_cases hkl:k<f.length;rotate_left
   .have bj:k=f.length:=I
    subst bj;have aG:¬(f.length:Int)<(f.length:Int):=I
    have Y:Hid (bEval Q f s=.ok (t,false)):=by show _=_;rw[he.o,ZE QF];rfl
    go_wp2;go_end0;exact⟨rfl,HB,by rw[Y.o];exact⟨Z,D⟩⟩
   .have aG:(k:Int)<(f.length:Int):=I
    have ag:=LE G hkl;have a6:=EE G f (f.length-(k+1)) (k+1) I;obtain⟨l1,g,rfl,bk,aW,N,i,av,tv,bv,aj,P,aV,V⟩:=hd k hkl;have aa:=O (HW.o.trans HB);have b0:=QN aa aW bk
    have hc:wr.heap[g]?=some (Qe #[Qf i,av,Qa aj,tv,bv,Qa P] 155):=by rw[aa.o.block g N];exact aV
    have b1:=Zs hc;have b2:=Q9 hc;have b3:=Xx hc;have b4:=XU hc;have b5:=YF hc;have b6:=J1 hc;have a8:C<wr.heap.size:=D.o.lt;have ah:q+Jk G f k<=1000000:=I
    clear aV aW;change Qd _ at hc V;go_upto_block 1 with fail
    go_cut [6,7] (fun _ _ wx=>Below B wr wx/\RP B C M (q+Jk G f (k+1)) L (Q f[k] t) wx)
    case first=>
     clear hd he;change Qd _ at ag a6;have ab:q+Jk G f k<=q+Jk G f (k+1):=by have:=ag.o;omega
     obtain⟨J,bm⟩:=Qw (q+Jk G f k);rw[bm]at D ah ab;rcases V.o with hn|hn|hn|hn|hn|hn|hn|hn
     .as_aux_lemma=>
      obtain⟨b,y⟩:=hn;have e0:=XK [115,116,111,112] b rfl
      have F:=O (y t);have df:=QQ D.blk;clear b y V;go_wp2;go_meet;exact⟨((Mod.refl C wr).setCell _ _).below aC a8,by rw[F.o];exact⟨Z,(D.o.ends).more ab⟩⟩
     .as_aux_lemma=>
      obtain⟨b,y⟩:=hn;have e0:=QG [115,116,111,112] b rfl
      have e1:=XK [100,105,115,99,97,114,100] b rfl
      have F:=O (y t);have df:=QQ D.blk;have d9:=Cw D.blk;have HK:Hid (keepB (Gl t)=false):=by show(t.met.isEmpty && !true)=false;rw[Bool.not_true,Bool.and_false]
      clear b y V;go_wp2;go_meet;exact⟨((Mod.refl C wr).setCell _ _).below aC a8,by rw[F.o];refine⟨Z,?_⟩;rw[HK.o];exact(D.disc).more ab⟩
     .as_aux_lemma=>
      obtain⟨b,y⟩:=hn;have e0:=QG [115,116,111,112] b rfl
      have e1:=QG [100,105,115,99,97,114,100] b rfl
      have e2:=XK [107,101,101,112] b rfl
      have F:=O (y t);have X:=O (BU 1 (x:=[]) P D ah QR (Qt ⟨rfl,rfl⟩));clear b y V;go_wp2_with fail;refine X.mono ?_;rintro e u ⟨rfl,l,v⟩;change Qd _ at l;replace v:=O v;go_wp2;go_meet;exact⟨l,by rw[F.o];exact(v.o.run).more ab⟩
     .as_aux_lemma=>
      obtain⟨b,d,E,a,rfl,H,U,ae,y⟩:=hn;have e0:=QG [115,116,111,112] b rfl
      have e1:=QG [100,105,115,99,97,114,100] b rfl
      have e2:=QG [107,101,101,112] b rfl
      have e3:=XK [102,105,108,101,105,110,116,111] b rfl
      have F:=O (y t);have p0:=QN aa U H
      have X:=O (BU 2 P (D.o.below (QO _ _).drew) ah ae I);clear b y V U;go_wp2;go_region_held3 (fun A=>A.cell? (Ql g 1)=some (Qs d 1 E)/\A.cell? (Ql d 0)=some (Qf a)/\A.cell? (Ql g 5)=some (Qa P)) (first|go_keep|exact⟨f1,f2,f3⟩) (first|(go_at_call 49;refine X.mono ?_;rintro e u ⟨rfl,l,v⟩;have ac:=O l;have T:=O v;have f1:u.cell? (Ql g 1)=some (Qs d 1 E):=(by rw[l.cell (p:=⟨g,1,none⟩) N];exact b2);have f2:u.cell? (Ql d 0)=some (Qf a):=(by rw[l.cell (p:=⟨d,0,none⟩) H];exact p0);have f3:u.cell? (Ql g 5)=some (Qa P):=(by rw[l.cell (p:=⟨g,5,none⟩) N];exact b6);clear l v;skip))
      all_goals go_wp2
      all_goals go_meet
      all_goals exact⟨((QO _ _).drew).trans ac,by rw[F.o];exact(T.o.run).more ab⟩
     .as_aux_lemma=>
      obtain⟨b,d,E,a,rfl,H,U,ae,y⟩:=hn;have e0:=QG [115,116,111,112] b rfl
      have e1:=QG [100,105,115,99,97,114,100] b rfl
      have e2:=QG [107,101,101,112] b rfl
      have e3:=QG [102,105,108,101,105,110,116,111] b rfl
      have e4:=XK [114,101,100,105,114,101,99,116] b rfl
      have F:=O (y t);have p0:=QN aa U H
      have X:=O (BU 3 P (D.o.below (QO _ _).drew) ah ae I);clear b y V U;go_wp2;go_region_held3 (fun A=>A.cell? (Ql g 1)=some (Qs d 1 E)/\A.cell? (Ql d 0)=some (Qf a)/\A.cell? (Ql g 5)=some (Qa P)) (first|go_keep|exact⟨f1,f2,f3⟩) (first|(go_at_call 49;refine X.mono ?_;rintro e u ⟨rfl,l,v⟩;have ac:=O l;have T:=O v;have f1:u.cell? (Ql g 1)=some (Qs d 1 E):=(by rw[l.cell (p:=⟨g,1,none⟩) N];exact b2);have f2:u.cell? (Ql d 0)=some (Qf a):=(by rw[l.cell (p:=⟨d,0,none⟩) H];exact p0);have f3:u.cell? (Ql g 5)=some (Qa P):=(by rw[l.cell (p:=⟨g,5,none⟩) N];exact b6);clear l v;skip))
      all_goals go_wp2
      all_goals go_meet
      all_goals exact⟨((QO _ _).drew).trans ac,by rw[F.o];exact(T.o.run).more ab⟩
     .as_aux_lemma=>
      obtain⟨b,d,E,a,rfl,H,U,ae,y⟩:=hn;have e0:=QG [115,116,111,112] b rfl
      have e1:=QG [100,105,115,99,97,114,100] b rfl
      have e2:=QG [107,101,101,112] b rfl
      have e3:=QG [102,105,108,101,105,110,116,111] b rfl
      have e4:=QG [114,101,100,105,114,101,99,116] b rfl
      have e5:=XK [114,101,106,101,99,116] b rfl
      have F:=O (y t);have p0:=QN aa U H
      have X:=O (BU 4 P (D.o.below (QO _ _).drew) ah ae I);clear b y V U;go_wp2;go_region_held3 (fun A=>A.cell? (Ql g 1)=some (Qs d 1 E)/\A.cell? (Ql d 0)=some (Qf a)/\A.cell? (Ql g 5)=some (Qa P)) (first|go_keep|exact⟨f1,f2,f3⟩) (first|(go_at_call 49;refine X.mono ?_;rintro e u ⟨rfl,l,v⟩;have ac:=O l;have T:=O v;have f1:u.cell? (Ql g 1)=some (Qs d 1 E):=(by rw[l.cell (p:=⟨g,1,none⟩) N];exact b2);have f2:u.cell? (Ql d 0)=some (Qf a):=(by rw[l.cell (p:=⟨d,0,none⟩) H];exact p0);have f3:u.cell? (Ql g 5)=some (Qa P):=(by rw[l.cell (p:=⟨g,5,none⟩) N];exact b6);clear l v;skip))
      all_goals go_wp2
      all_goals go_meet
      all_goals exact⟨((QO _ _).drew).trans ac,by rw[F.o];exact(T.o.run).more ab⟩
     .as_aux_lemma=>
      obtain⟨b,bs,d,E,x,a,rfl,H,aY,U,ae,bn,y⟩:=hn;have e0:=QG [115,116,111,112] b rfl
      have e1:=QG [100,105,115,99,97,114,100] b rfl
      have e2:=QG [107,101,101,112] b rfl
      have e3:=QG [102,105,108,101,105,110,116,111] b rfl
      have e4:=QG [114,101,100,105,114,101,99,116] b rfl
      have e5:=QG [114,101,106,101,99,116] b rfl
      have e6:=XK [115,101,116] b rfl
      have F:=O (y t);have p0:=QN aa aY H
      have p1:=QN aa U H
      have X:=O (QxN x aj (D.o.below (QO _ _).drew) ah ae I);have bo:J+1<=q+Jk G f (k+1):=by have:=ag.o;omega
      clear b y V U aY bn;go_wp2;go_region_held3 (fun A=>A.cell? (Ql g 1)=some (Qs d 2 E)/\A.cell? (Ql d 0)=some (Qf x)/\A.cell? (Ql d 1)=some (Qf a)/\A.cell? (Ql g 2)=some (Qa aj)) (first|go_keep|exact⟨f1,f2,f4,f3⟩) (first|(go_at_call 50;refine X.mono ?_;rintro e u ⟨rfl,l,v⟩;have ac:=O l;have T:=O v;have f1:u.cell? (Ql g 1)=some (Qs d 2 E):=(by rw[l.cell (p:=⟨g,1,none⟩) N];exact b2);have f2:u.cell? (Ql d 0)=some (Qf x):=(by rw[l.cell (p:=⟨d,0,none⟩) H];exact p0);have f4:u.cell? (Ql d 1)=some (Qf a):=(by rw[l.cell (p:=⟨d,1,none⟩) H];exact p1);have f3:u.cell? (Ql g 2)=some (Qa aj):=(by rw[l.cell (p:=⟨g,2,none⟩) N];exact b3);clear l v;skip))
      all_goals go_wp2
      all_goals go_meet
      all_goals obtain⟨z9,bq⟩:=T.o
      all_goals exact⟨((QO _ _).drew).trans ac,by rw[F.o];exact⟨z9,bq.more bo⟩⟩
     .as_aux_lemma=>
      obtain⟨b,n,br,aO,aR,d,R,E,c2,rfl,H,rfl,aF,bw,a9,aT,a3,go,a0,a2,a1⟩:=hn;have e0:=QG [115,116,111,112] b rfl
      have e1:=QG [100,105,115,99,97,114,100] b rfl
      have e2:=QG [107,101,101,112] b rfl
      have e3:=QG [102,105,108,101,105,110,116,111] b rfl
      have e4:=QG [114,101,100,105,114,101,99,116] b rfl
      have e5:=QG [114,101,106,101,99,116] b rfl
      have e6:=QG [115,101,116] b rfl
      have e7:=XK [105,102] b rfl
      have F:=O (a0 t);have au:=O aT;have aM:=O (a1);obtain⟨qn,ai⟩:=Qw (q+Jk G f (k+1));have aq:J+G f[k]=qn:=by have:=ag.o;omega
      have aJ:J+G f[k]<=1000000:=by have:=ag.o;have:=a6.o;omega
      rw[ai]at ab;obtain⟨aP,aX⟩:=Qw (G f[k]);rw[aX]at aq aJ au;obtain⟨S,af⟩:=Qw (if aR then n+1 else n);rw[af]at b5 au;clear b aT a1 a0 V aX ag;change Qd _ at a9 a3 a2 ai af aq;go_wp2
      go_loopw [6,7] (fun dv kv wi=>∃(j:Nat),j<=n/\kv=Qa j/\Hid (Below B wr wi)/\((dv=.bool false/\∃K z2,Hid (StI wi B C M K z2 J (keepB K) false 0 L)/\Hid (Q f[k] t=go j K))\/(dv=.bool true/\Hid (RP B C M qn L (Q f[k] t) wi)))) (fun _ kv _=>n-(intOf kv).toNat)
      case atStart=>exact⟨0,QR,rfl,QO _ _,Qt ⟨rfl,t,Z,D,F⟩⟩
      case round=>
       obtain⟨j,hj,rfl,ad,bg⟩:=hrel;have ak:=O (aa.o.trans ad);have aE:wr.heap[g]?=some (Qe #[Qf i,av,Qa aj,Qs d n E,Qs R S c2,Qa P] 155):=by rw[ad.o.block g N,<-af.o];exact hc
       have f4:=XU aE;have f5:=YF aE;clear aE;rcases bg with⟨rfl,K,z2,ao,aw⟩ | ⟨rfl,aN⟩
       rotate_left
       .by_cases hjn:j<n
        .have aH:(j:Int)<(n:Int):=I
         go_wp2;go_region;go_wp2;go_meet;exact⟨ad.o.drew,by rw[ai.o];exact aN.o.below (QO _ _).drew⟩
        .have aH:¬(j:Int)<(n:Int):=I
         go_wp2;go_region;go_wp2;go_meet;exact⟨ad.o.drew,by rw[ai.o];exact aN.o.below (QO _ _).drew⟩
       .by_cases hjn:j<n
        .have aH:(j:Int)<(n:Int):=I
         obtain⟨p,hp,a5⟩:=a9 j hjn;have f6:=QN ak hp H
         have HO:=O (a5 wr C K z2 J (keepB K) false 0 L ak ao I);have az:=O (a2 j K hjn);have aA:=O (a3 j K);obtain⟨r,hr⟩:=Qw (br j K);rw[hr]at HO az aA;obtain⟨rb,rs⟩:=r;have bd:Hid (keepB rs=keepB K):=aA.o;clear hp a5 hr aA;go_wp2_with fail;refine HO.mono ?_;rintro e w1 ⟨rfl,a4,bp⟩;obtain⟨z3,aS⟩:=bp;have aD:StI w1 B C M rs z3 J (keepB rs) false 0 L:=by rw[bd.o];exact aS
         have ay:=a4.below aC ao.o.lt;have aK:=O (ad.o.trans ay);have aL:=O (ak.o.trans ay);have g5:=QN ay f5 N
         clear a4 aS ay;change Qd _ at aD
         cases rb with
         |true=>
          have Y:Hid (Q f[k] t=aO j rs):=by show _=_;rw[aw.o,az.o,Qi rfl]
          have bh:j<S:=by rw[<-af.o];split<;>omega
          have bu:(j:Int)<(S:Int):=I
          obtain⟨ba,bl,bc,ap,ar⟩:=au j bh;have g6:=QN aL ap aF
          have aB:=O (ar w1 C rs z3 J L aL aD aJ);clear ap ar;go_wp2_with fail;refine aB.mono ?_;rintro e u ⟨rfl,l,v⟩;have ac:=O (aK.o.trans l);have T:Hid (RP B C M qn L (Q f[k] t) u):=by show RP _ _ _ _ _ _ _;rw[Y.o,<-aq.o];exact v
          clear l v;go_wp2;exact⟨⟨j+1,I,by go_num,ac,Qr ⟨rfl,T⟩⟩,by simp[intOf];omega⟩
         |false=>
          have Y:Hid (Q f[k] t=go (j+1) rs):=by show _=_;rw[aw.o,az.o,Qg Qb]
          go_wp2;exact⟨⟨j+1,I,by go_num,aK,Qt ⟨rfl,rs,z3,aD,Y⟩⟩,by simp[intOf];omega⟩
        .have bi:j=n:=I
         subst bi;have aH:¬(j:Int)<(j:Int):=I
         cases aR with
         |false=>
          have aI:S=j:=af.symm;subst aI;have Y:Hid (Q f[k] t=.ok (K,false)):=by show _=_;rw[aw.o,aM K];rfl
          go_wp2;go_region;go_wp2;go_meet;exact⟨ad.o.drew,by rw[ai.o,Y.o];exact⟨z2,(ao.o.below (QO _ _).drew).more (by have:=aq.o;omega)⟩⟩
         |true=>
          have aI:S=j+1:=af.symm;have Y:Hid (Q f[k] t=aO j K):=by show _=_;rw[aw.o,aM K];rfl
          obtain⟨ba,bl,bc,ap,ar⟩:=au j I;have g6:=QN ak ap aF
          have aB:=O (fun(W:World) (hW:Qo wr W)=>ar W C K z2 J L (ak.o.trans (hW.mono (by have:=ao.o.lt;omega))) (ao.o.below hW) aJ);have bx:(j:Int)<(S:Int):=I
          clear ap ar aI;go_wp2;go_region;go_wp2;go_region_held3 (fun A=>A.cell? (Ql g 3)=some (Qs d j E)/\A.cell? (Ql g 4)=some (Qs R S c2)/\A.cell? ⟨R,j,none⟩=some (.slice ba bl bc)) (first|go_keep|exact⟨h1,h2,h3⟩) (first|(go_at_call 56;refine Qv (aB wr.drew.drew ((QO _ _).drew.drew)) ?_;rintro u ⟨l,v⟩;have h1:u.cell? (Ql g 3)=some (Qs d j E):=(by rw[l.cell (p:=⟨g,3,none⟩) N];exact f4);have h2:u.cell? (Ql g 4)=some (Qs R S c2):=(by rw[l.cell (p:=⟨g,4,none⟩) N];exact f5);have h3:u.cell? ⟨R,j,none⟩=some (.slice ba bl bc):=(by rw[l.cell (p:=⟨R,j,none⟩) aF];exact g6);have ac:=O l;have T:=O v;clear l v;skip))
          all_goals go_wp2
          all_goals go_meet
          all_goals exact⟨ad.o.drew.drew.trans ac,by rw[ai.o,Y.o,<-aq.o];exact T⟩
    case rest=>
     obtain⟨aU,a7⟩:=hcut;have bb:=O (HB.o.trans aU);have bf:=O (A9.next hkl he a7);clear aU a7;go_wp2;go_roundg (f.length-(k+1))
     case measure=>omega
     case rel=>exact⟨k+1,rfl,I,by go_num,bb,bf⟩
end Go.Proofs.YtgnkjijocdmniaaGreatDoor
