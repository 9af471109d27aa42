import Derived.Test.YtgnkjijocdmniaaGreatDoorZPlainCodeB
import Derived.Test.YtgnkjijocdmniaaGreatDoorVHolds
namespace Go.Proofs.YtgnkjijocdmniaaGreatDoor
set_option linter.all false
set_option maxRecDepth 100000
set_option maxHeartbeats 4000000
open Go.Proofs.Tryz
open Go.RowKit
attribute [local go_sem ↓] Zt Zu
def UM(s:SS)(xs:Qn)(k:Nat):Qn:=(xs.take k).map (expL s)
variable{α:Type}{A v:Int}{B ad c d g i k q tag:Nat}{M:Msg}{U:Value}{a:List α}{oct u y:Bool}{s:SS}{w:World}{xs:Qn}{z:StV}
theorem QtM(s:SS)(h:k<xs.length):UM s xs (k+1)=UM s xs k++[expL s xs[k]]:=by
 unfold UM;rw[Y4 h,KC];rfl
theorem QuS(s:SS)(h:k<=xs.length):(UM s xs k).length=k:=by
 unfold UM;rw[XB,YT];omega
theorem Qvv:UM s xs xs.length=xs.map (expL s):=by
 unfold UM;rw[KA]
theorem IM(b:α->SS->Bool×SS)(c:Bool)(h:k<a.length)(s:SS):X3 b c (a.drop k) s=if(b a[k] s).1=c then(c,(b a[k] s).2)else X3 b c (a.drop (k+1)) (b a[k] s).2:=by
 rw[Xt h];rfl
theorem QxJ{m:L8}(W kv:Value)(h:StI w B d M s z q y u v A)(hq:q<=1000000)(af:g<B)(x:w.heap[g]?=some (Qe #[Qf m,U,W,kv,Qa tag,.bool oct,Qa ad] 200))(t:m=JV)(b:α->SS->Bool×SS)(ac:U=Qs i a.length c)(ae:i<B)(P:∀j (hj:j<a.length),∃g2,w.cell? ⟨i,j,none⟩=some (Qc g2)/\Gx B M w (Qc g2) (b a[j]))(ag:a.length<=4294967280):Calls prog 85 #[Qc d,Qc g] w (HP B d M q y u v A w (X3 b false a s)):=by
 subst ac;have c0:=Qj x 0;have V:=Qj x 1;have X:=h.hB;have ab:=h.lt;have Y:=QI x;have e0:=QG [116,114,117,101] t rfl
 have e1:=QG [102,97,108,115,101] t rfl
 have e2:=QG [110,111,116] t rfl
 have e3:=XK [97,108,108,111,102] t rfl
 clear x t;change Qd _ at h P;go_enter func85,ntmps85;go_wp2
 go_loopw [6] (fun H wr=>∃(k:Nat) (l:SS) (C:StV),k<=a.length/\H=Qa k/\Hid (Mod d w wr)/\Hid (StI wr B d M l C q y u v A)/\Hid (X3 b false a s=X3 b false (a.drop k) l)) (fun H _=>a.length-(intOf H).toNat)
 case atStart=>exact⟨0,s,z,QR,rfl,Mod.refl d w,h,rfl⟩
 case round=>
  obtain⟨k,l,C,hk,rfl,n,N,D⟩:=hrel;have b1:wr.cell? (Ql g 1)=some (Qs i a.length c):=by rw[n.o.cell (p:=⟨g,1,none⟩) Y (by show g≠d;omega)];exact V
  by_cases hkl:k<a.length
  .have aa:(k:Int)<(a.length:Int):=I
   obtain⟨g2,F,R⟩:=P k hkl;have b2:wr.cell? ⟨i,k,none⟩=some (Qc g2):=by rw[n.o.cell (p:=⟨i,k,none⟩) (QX F) (by show i≠d;omega)];exact F
   have L:=O (R wr d l C q y u v A (n.o.below X ab) N hq);have E:=O (IM b false hkl l);obtain⟨r,S⟩:=Qw (b a[k] l);rw[S]at L E;obtain⟨rb,J⟩:=r;clear R F S;go_wp2_with fail;refine L.mono ?_;rintro e w1 ⟨rfl,Q,G⟩;have K:=O (n.o.trans Q);clear Q;change Qd _ at G
   cases rb with
   |false=>
    have f:Hid (X3 b false a s=(false,J)):=by show _=_;rw[D.o,E.o,Qi rfl]
    go_wp2;go_ret;exact⟨Zf (by rw[f.o]),K,by rw[f.o];exact G⟩
   |true=>
    have f:Hid (X3 b false a s=X3 b false (a.drop (k+1)) J):=by show _=_;rw[D.o,E.o,Qg Qb]
    obtain⟨z2,T⟩:=G.o;change Qd _ at T;go_wp2;exact⟨⟨k+1,J,z2,I,by go_num,K,T,f⟩,by simp[intOf];omega⟩
  .have Z:k=a.length:=I
   subst Z;have aa:¬(a.length:Int)<(a.length:Int):=I
   have f:Hid (X3 b false a s=(true,l)):=by show _=_;rw[D.o,ZE QF];rfl
   go_wp2;go_ret;exact⟨Zf (by rw[f.o]),n,C,by rw[f.o];exact N⟩
theorem QxC{l:L8}(W kv:Value)(h:StI w B d M s z q y u v A)(hq:q<=1000000)(af:g<B)(x:w.heap[g]?=some (Qe #[Qf l,U,W,kv,Qa tag,.bool oct,Qa ad] 200))(n:l=JU)(b:α->SS->Bool×SS)(ac:U=Qs i a.length c)(ae:i<B)(P:∀j (hj:j<a.length),∃g2,w.cell? ⟨i,j,none⟩=some (Qc g2)/\Gx B M w (Qc g2) (b a[j]))(ag:a.length<=4294967280):Calls prog 85 #[Qc d,Qc g] w (HP B d M q y u v A w (X3 b true a s)):=by
 subst ac;have c0:=Qj x 0;have V:=Qj x 1;have X:=h.hB;have ab:=h.lt;have Y:=QI x;have e0:=QG [116,114,117,101] n rfl
 have e1:=QG [102,97,108,115,101] n rfl
 have e2:=QG [110,111,116] n rfl
 have e3:=QG [97,108,108,111,102] n rfl
 have e4:=XK [97,110,121,111,102] n rfl
 clear x n;change Qd _ at h P;go_enter func85,ntmps85;go_wp2
 go_loopw [8] (fun H wr=>∃(k:Nat) (m:SS) (C:StV),k<=a.length/\H=Qa k/\Hid (Mod d w wr)/\Hid (StI wr B d M m C q y u v A)/\Hid (X3 b true a s=X3 b true (a.drop k) m)) (fun H _=>a.length-(intOf H).toNat)
 case atStart=>exact⟨0,s,z,QR,rfl,Mod.refl d w,h,rfl⟩
 case round=>
  obtain⟨k,m,C,hk,rfl,t,N,D⟩:=hrel;have b1:wr.cell? (Ql g 1)=some (Qs i a.length c):=by rw[t.o.cell (p:=⟨g,1,none⟩) Y (by show g≠d;omega)];exact V
  by_cases hkl:k<a.length
  .have aa:(k:Int)<(a.length:Int):=I
   obtain⟨g2,F,R⟩:=P k hkl;have b2:wr.cell? ⟨i,k,none⟩=some (Qc g2):=by rw[t.o.cell (p:=⟨i,k,none⟩) (QX F) (by show i≠d;omega)];exact F
   have L:=O (R wr d m C q y u v A (t.o.below X ab) N hq);have E:=O (IM b true hkl m);obtain⟨r,S⟩:=Qw (b a[k] m);rw[S]at L E;obtain⟨rb,J⟩:=r;clear R F S;go_wp2_with fail;refine L.mono ?_;rintro e w1 ⟨rfl,Q,G⟩;have K:=O (t.o.trans Q);clear Q;change Qd _ at G
   cases rb with
   |true=>
    have f:Hid (X3 b true a s=(true,J)):=by show _=_;rw[D.o,E.o,Qi rfl]
    go_wp2;go_ret;exact⟨Zf (by rw[f.o]),K,by rw[f.o];exact G⟩
   |false=>
    have f:Hid (X3 b true a s=X3 b true (a.drop (k+1)) J):=by show _=_;rw[D.o,E.o,Qg Qb]
    obtain⟨z2,T⟩:=G.o;change Qd _ at T;go_wp2;exact⟨⟨k+1,J,z2,I,by go_num,K,T,f⟩,by simp[intOf];omega⟩
  .have Z:k=a.length:=I
   subst Z;have aa:¬(a.length:Int)<(a.length:Int):=I
   have f:Hid (X3 b true a s=(false,m)):=by show _=_;rw[D.o,ZE QF];rfl
   go_wp2;go_ret;exact⟨Zf (by rw[f.o]),t,C,by rw[f.o];exact N⟩
theorem QuQ{F:Nat}{T G:Bool}{H V:Int}{b:L8}(tv:Value){Y kv:Value}{aB:Nat}(h:StI w B F M s z q T G H V)(hq:q<=1000000)(aC:g<B)(f:w.heap[g]?=some (Qe #[Qf b,tv,Y,kv,Qa tag,.bool oct,Qa aB] 200))(a:b=Xc){c:Qn}{t m1 v U:Nat}(aq:Y=Qs t xs.length m1)(au:kv=Qs v c.length U)(ae:ZQ w t xs)(ad:ZQ w v c)(ay:xs.length<=100000)(aD:c.length<=100000)(R:∀x∈xs,x.length<=100000)(aa:∀x∈c,x.length<=100000)(ht:tag=1\/tag=2\/tag=3):Calls prog 85 #[Qc F,Qc g] w (HP B F M q T G H V w (askL s tag oct (xs.map (expL s)) c)):=by
 subst aq;subst au;have c0:=Qj f 0;have c1:=Qj f 1;have c2:=Qj f 2;have c3:=Qj f 3;have c4:=Qj f 4;have c5:=Qj f 5;have L:TxO w (Qs v c.length U) c:=Co ad;have HT:Hid ((tag:Int)=1\/(tag:Int)=2\/(tag:Int)=3):=by show _\/_;omega
 have e0:=QG [116,114,117,101] a rfl
 have e1:=QG [102,97,108,115,101] a rfl
 have e2:=QG [110,111,116] a rfl
 have e3:=QG [97,108,108,111,102] a rfl
 have e4:=QG [97,110,121,111,102] a rfl
 have e5:=QG [101,120,105,115,116,115] a rfl
 have e6:=QG [115,105,122,101] a rfl
 have e7:=QG [104,101,97,100,101,114] a rfl
 have e8:=QG [101,110,118,101,108,111,112,101] a rfl
 clear a ad;change Qd _ at f ae aa R;replace h:=O h;replace L:=O L;obtain⟨i0,hi,az,aA,E⟩:=ZU Tryz.infoStr;go_enter func85,ntmps85;go_wp2
 go_loopw [12,13] (fun lv S wr=>∃(k:Nat),k<=xs.length/\S=Qa k/\wr.ownsRow w.heap.size 9 1 lv (UM s xs k).length (QW (UM s xs k))/\Hid (Qo w wr)) (fun _ S _=>xs.length-(intOf S).toNat)
 case atStart=>exact⟨0,QR,rfl,Z5,QO _ _⟩
 case round=>
  obtain⟨k,K,rfl,i,d⟩:=hrel;have ax:=d.size;have l:=Ze f d;have d2:=Qj l 2;have d3:=Qj l 3;have d4:=Qj l 4;have d5:=Qj l 5;by_cases hkx:k<xs.length
  .have av:(k:Int)<(xs.length:Int):=I
   have A:=ae k hkx;rw[Zv,Zi hkx]at A;have b1:=QN d A (QX A)
   have r:=O ((h.o.below d).expand hq xs[k] (R _ (ZT hkx)));have ac:=QtM s hkx;have X:=O ac;have N:=QuS s K;obtain⟨y,D⟩:=Qw (expL s xs[k]);rw[D]at r X;obtain⟨xk,ag⟩:=Qw (xs[k]);rw[ag]at r b1;rw[N]at i;clear D ag ac A l;change Qd _ at N i;go_wp2_with fail;refine r.mono ?_;rintro e w2 ⟨rfl,J⟩;have P:=YA i J;have W:=O (d.o.trans (J.mono ax));have aw:=W.size;clear J r;go_wp2_with (at_builtin;refine XM _ rfl _ _ 61 rfl w.heap.size 9 i0 (.string ⟨#[]⟩) 1 16 Uw hi az aA E rfl Qb _ _ _ rfl (P.alloc _) ⟨w2.heap.size,0,none⟩ 1 1 [Qf y] rfl rfl ?c1 ?c2 ?c3 ?c4 ?c5 ?_)
   case c1=>
    intro j u C
    match j,C with
    |0,C=>simp at C;subst C;simp[Addr.add]
   case c2=>intro u hu;simp at hu;subst hu;rfl
   case c3=>unfold maxLen;omega
   case c4=>omega
   case c5=>simp;omega
   .intro v5 w5 Q Z _;have ai:=O (Vv W aw Z (fun k K=>(P.lt k K).1));rw[Jw]at Q
    have ao:Hid (w5.ownsRow w.heap.size 9 1 v5 (UM s xs (k+1)).length (QW (UM s xs (k+1)))):=by
     show World.ownsRow _ _ _ _ _ _ _
     rw[X.o,Qz,N.o];exact Q
    clear Q Z P;go_wp2;go_roundw
    case rel=>exact⟨k+1,I,by go_num,ao,ai⟩
    case measure=>simp[intOf];omega
  .have ar:k=xs.length:=I
   subst ar;have av:¬(xs.length:Int)<(xs.length:Int):=I
   rw[Qvv]at i;obtain⟨n,m⟩:=Qw (xs.map (expL s));have aE:n.length<=100000:=by rw[<-m,XB];exact ay
   have af:∀x∈n,x.length<=100000:=fun x a=>by
    rw[<-m]at a;obtain⟨y,D,rfl⟩:=List.mem_map.1 a;exact AO s (R y D)
   rw[m]at i;have ak:=O (CU oct (h.o.below d.o.drew) hq ((TxL.of_ownsV i).toO.below (QO _ _).drew) (L.o.below d.o.drew) HT I I af aa);have ah:=O d.o.drew;clear i af l;change Qd _ at m;go_wp2;go_region_with (first|(go_at_call 72;refine ak.mono ?_;rintro e w2 ⟨rfl,ab,E⟩;have aj:=O ((Mod.of_below ah).trans ab);have ap:=O E;clear ab E;skip))
   all_goals go_wp2
   all_goals go_ret
   all_goals exact⟨Zf (by rw[m.o]),aj,by rw[m.o];exact ap⟩
end Go.Proofs.YtgnkjijocdmniaaGreatDoor
