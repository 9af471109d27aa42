import Derived.Test.YtgnkjijocdmniaaGreatDoorZQMatch
import Derived.Test.YtgnkjijocdmniaaGreatDoorZVMatches
namespace Go.Proofs.YtgnkjijocdmniaaGreatDoor
set_option linter.all false
set_option maxRecDepth 100000
set_option maxHeartbeats 4000000
open Go.Proofs.Tryz
open Go.RowKit
attribute [local go_sem ↓] Zt Zu
def HP(B sb:Nat)(M:Msg)(q:Nat)(kp en:Bool)(er pz:Int)(w:World)(r:Bool×SS)(e:Ending)(w':World):Prop:=e=.returned (.bool r.1)/\Mod sb w w'/\∃z',StI w' B sb M r.2 z' q kp en er pz
def Gx(B:Nat)(M:Msg)(w0:World)(v:Value)(ev:SS->Bool×SS):Prop:=∀W sb s z q kp en er pz,Below B w0 W->StI W B sb M s z q kp en er pz->q<=1000000->Calls prog 85 #[Qc sb,v] W (HP B sb M q kp en er pz W (ev s))
variable{B G c d f g m q tag:Nat}{E:Value}{M:Msg}{a:L8}{i n oct u:Bool}{j p:Int}{s:SS}{w:World}{xs:Qn}{z:StV}
theorem StI.existsV{D:Bool}{o E:Int}(h:StI w B d M s z q D n o E)(u:q<=1000000)(a:Option Addr)(c:Nat)(xs:Qn)(b:∀j (f:j<xs.length),∃g off,a=some ⟨g,off,none⟩/\w.cell? ⟨g,off+j,none⟩=some (.string (sA xs[j])))(y:xs.length<=c)(A:xs.length<=100000)(C:∀x∈xs,x.length<=100000):Calls prog 74 #[Qc d,.slice a xs.length c] w fun e w'=>e=.returned (.bool (existsL M (xs.map (expL s))))/\Qo w w':=by
 obtain⟨t,v,p,r⟩:=h.h;have i:=h.mb;have:=Wy M t v (h.var u) h.vb (DO h.tb) (by rw[<-p];exact Qj h.blk 3) (fun j f=>by obtain⟨g,off,k,_,l,m⟩:=r j f;exact⟨g,off,k,l,m⟩) b y A C (by have:=i.hl;omega) (fun x b=>by have:=(i.hs x b).1;omega);rw[MA]at this;exact this
theorem Pm{a:Nat}{c:Bool}{d:Int}{b:L8}(n k l:Value)(h:StI w B a M s z q i c d j)(u:q<=1000000)(t:g<B)(e:w.heap[g]?=some (Qe #[Qf b,n,k,l,Qa tag,.bool oct,Qa m] 200))(f:b=Uj):Calls prog 85 #[Qc a,Qc g] w (HP B a M q i c d j w (true,s)):=by
 have p:=Qj e 0;have r:=XK [116,114,117,101] f rfl
 clear e f;change Qd _ at h;go_enter func85,ntmps85;go_wp2;go_ret;exact⟨rfl,Mod.refl a w,z,h⟩
theorem Qxj{b:Nat}{d:Bool}{e:Int}(n k l:Value)(h:StI w B b M s z q i d e j)(v:q<=1000000)(u:g<B)(f:w.heap[g]?=some (Qe #[Qf a,n,k,l,Qa tag,.bool oct,Qa m] 200))(c:a=Ud):Calls prog 85 #[Qc b,Qc g] w (HP B b M q i d e j w (false,s)):=by
 have p:=Qj f 0;have r:=QG [116,114,117,101] c rfl
 have t:=XK [102,97,108,115,101] c rfl
 clear f c;change Qd _ at h;go_enter func85,ntmps85;go_wp2;go_ret;exact⟨rfl,Mod.refl b w,z,h⟩
theorem PN{m:Bool}{n:Int}{A:Value}(C F:Value)(h:StI w B f M s z q m i j n)(D:q<=1000000)(Q:g<B)(k:w.heap[g]?=some (Qe #[Qf a,A,C,F,Qa tag,.bool oct,Qa G] 200))(d:a=kNot)(t u c:Nat){b:SS->Bool×SS}(E:A=Qs t 1 c)(P:w.cell? (Ql t 0)=some (Qc u))(x:Gx B M w (Qc u) b):Calls prog 85 #[Qc f,Qc g] w (HP B f M q m i j n w (!(b s).1,(b s).2)):=by
 subst E;have H:=Qj k 0;have J:=Qj k 1;have p:=O (x w f s z q m i j n (QO _ _) h D);have K:=QG [116,114,117,101] d rfl
 have L:=QG [102,97,108,115,101] d rfl
 have N:=XK [110,111,116] d rfl
 obtain⟨r,l⟩:=Qw (b s);rw[l]at p;rw[l];obtain⟨R,S⟩:=r;clear k d h x l;go_enter func85,ntmps85;go_wp2_with fail;refine p.mono ?_;rintro e T ⟨rfl,v,y⟩;change Qd _ at v y;go_wp2;go_ret;exact⟨rfl,v,y⟩
theorem O3{e:Nat}{j f:Bool}{i k:Int}(p m n:Value)(h:StI w B e M s z q j f i k)(H:q<=1000000)(G:g<B)(c:w.heap[g]?=some (Qe #[Qf a,p,m,n,Qa tag,.bool oct,Qa d] 200))(b:a=JK)(J:tag=1\/tag=2):Calls prog 85 #[Qc e,Qc g] w (HP B e M q j f i k w (sizeB M tag d,s)):=by
 have r:=Qj c 0;have t:=Qj c 4;have v:=Qj c 6;have K:=Qj h.blk 2;have l:=O (fun u=>QtO M d tag u I);have x:=QG [116,114,117,101] b rfl
 have y:=QG [102,97,108,115,101] b rfl
 have A:=QG [110,111,116] b rfl
 have C:=QG [97,108,108,111,102] b rfl
 have D:=QG [97,110,121,111,102] b rfl
 have E:=QG [101,120,105,115,116,115] b rfl
 have F:=XK [115,105,122,101] b rfl
 clear c b;replace h:=O h;go_enter func85,ntmps85;go_wp2;go_quiet (first|(go_at_call 75;refine Kg (l _)));go_wp2;go_ret;exact⟨rfl,⟨rfl,rfl,rfl,Q4 _,fun _ _ _=>rfl⟩,z,h.o.below ⟨rfl,rfl,rfl,Q4 _,fun _ _=>rfl⟩⟩
theorem Qv7{k:Nat}{t l:Bool}{m u:Int}(H:Value){n:Value}(F:Value)(h:StI w B k M s z q t l m u)(A:q<=1000000)(T:g<B)(i:w.heap[g]?=some (Qe #[Qf a,H,n,F,Qa tag,.bool oct,Qa G] 200))(b:a=YL)(y:n=Qs d xs.length c)(r:ZQ w d xs)(C:xs.length<=c)(D:xs.length<=100000)(E:∀x∈xs,x.length<=100000):Calls prog 85 #[Qc k,Qc g] w (HP B k M q t l m u w (existsL M (xs.map (expL s)),s)):=by
 subst y;have J:=Qj i 0;have K:=Qj i 2;have v:=O (h.existsV A (some ⟨d,0,none⟩) c xs (fun j p=>⟨d,0,rfl,by rw[J4,r j p];simp[Zv,Zi p]⟩) C D E);have L:=QG [116,114,117,101] b rfl
 have N:=QG [102,97,108,115,101] b rfl
 have P:=QG [110,111,116] b rfl
 have Q:=QG [97,108,108,111,102] b rfl
 have R:=QG [97,110,121,111,102] b rfl
 have S:=XK [101,120,105,115,116,115] b rfl
 clear i b r;replace h:=O h;go_enter func85,ntmps85;go_wp2_with fail;refine v.mono ?_;rintro e U ⟨rfl,f⟩;change Qd _ at f;go_wp2;go_ret;exact⟨rfl,Mod.of_below f,z,h.o.below f⟩
theorem Co(h:ZQ w g xs):TxO w (Qs g xs.length c) xs:=⟨_,_,rfl,fun j hj=>⟨g,0,rfl,by rw[J4,h j hj];simp[Zv,Zi hj]⟩⟩
theorem D6{α:Type}(f:α->Qn)(m:Nat):∀(l:List α),(∀x∈l,(f x).length<=m)->(l.flatMap f).length<=l.length*m
 | [],_=>QR
 |x::l,h=>by
  rw[YS,Qz,Q1,Nat.succ_mul];have b:=h x Kh;have c:=D6 f m l (fun y a=>h y (Kz _ a));omega
theorem Vq:type_of%@List.mem_flatMap:=@List.mem_flatMap
theorem QsU(d:GK M){b:Qn}(h:b.length<=100000):(fieldsL M b).length<=10000000000/\∀x∈fieldsL M b,x.length<=100000:=by
 constructor
 .have e:=D6 (fun n=>(M.hdrs.filter (X9 · n)).map (·.2)) 100000 b (fun n _=>by rw[XB];exact QE (List.length_filter_le _ _) d.hl);have c:b.length*100000<=100000*100000:=Nat.mul_le_mul_right _ h;exact QE e I
 .intro x g;obtain⟨n,_,c⟩:=Vq.1 g;obtain⟨a,f,rfl⟩:=List.mem_map.1 c;exact(d.hs a (List.mem_filter.1 f).1).2
theorem Qz4(c:GK M){b:Qn}(h:b.length<=100000):(envL M b).length<=10000000000/\∀x∈envL M b,x.length<=100000:=by
 constructor
 .have d:=D6 (fun p=>if zL p=[102,114,111,109]then [M.fr]else if zL p=[116,111]then [M.to]else []) 1 b (fun n _=>by split;exact Q4 _;split;exact Q4 _;exact QR);exact QE d I
 .intro x e;obtain⟨n,_,a⟩:=Vq.1 e
  split at a
  .rw[ZV a];exact c.fr
  .split at a
   .rw[ZV a];exact c.tu
   .cases a
theorem QwO{l:Nat}{A:Int}(tv:Value){R:Value}{ac:Nat}(h:StI w B l M s z q u n p A)(J:q<=1000000)(ad:g<B)(j:w.heap[g]?=some (Qe #[Qf a,tv,E,R,Qa tag,.bool oct,Qa ac] 200))(b:a=Y_){c:Qn}{v i y:Nat}(Y:E=Qs f xs.length v)(aa:R=Qs i c.length y)(L:ZQ w f xs)(K:ZQ w i c)(N:xs.length<=100000)(ae:c.length<=100000)(ab:∀x∈xs,x.length<=100000)(Z:∀x∈c,x.length<=100000)(ht:tag=1\/tag=2\/tag=3):Calls prog 85 #[Qc l,Qc g] w (HP B l M q u n p A w (askL s tag oct (fieldsL M (xs.map (expL s))) c)):=by
 subst Y;subst aa;have c0:=Qj j 0;have c2:=Qj j 2;have P:TxO w (Qs f xs.length v) xs:=Co L;have r:TxO w (Qs i c.length y) c:=Co K;have D:=O (h.fields J (Qs f xs.length v) xs P N ab);have F:(fieldsL M (xs.map (expL s))).length<=10000000000/\∀x∈fieldsL M (xs.map (expL s)),x.length<=100000:=QsU h.mb (by rw[XB];exact N);have m:=O F;have T:=O Z;have W:Hid ((tag:Int)=1\/(tag:Int)=2\/(tag:Int)=3):=by show _\/_;omega
 have e0:=QG [116,114,117,101] b rfl
 have e1:=QG [102,97,108,115,101] b rfl
 have e2:=QG [110,111,116] b rfl
 have e3:=QG [97,108,108,111,102] b rfl
 have e4:=QG [97,110,121,111,102] b rfl
 have e5:=QG [101,120,105,115,116,115] b rfl
 have e6:=QG [115,105,122,101] b rfl
 have e7:=XK [104,101,97,100,101,114] b rfl
 obtain⟨C,t⟩:=Qw (fieldsL M (xs.map (expL s)));rw[t]at D m;rw[t];clear b L K t P F;change Qd _ at j;replace h:=O h;replace r:=O r;go_enter func85,ntmps85;go_wp2_with fail;refine D.mono ?_;rintro e w1 ⟨rv,rfl,H,d⟩;have k:=Ze j d;have d3:=Qj k 3;have d4:=Qj k 4;have d5:=Qj k 5;have V:=O (CU oct (h.o.below d.drew) J ((TxL.of_ownsV H).toO.below (QO _ _).drew) (r.o.below d.drew) W m.1 I m.2 T);have S:=O d.drew;clear H d k;go_wp2;go_region_with (first|(go_at_call 72;refine V.mono ?_;rintro e w2 ⟨rfl,G,Q⟩;have U:=O ((Mod.of_below S).trans G);have X:=O Q;clear G Q;skip))
 all_goals go_wp2
 all_goals go_ret
 all_goals exact⟨rfl,U,X⟩
theorem WK{A:Int}{b:L8}(tv:Value){N:Value}{ab:Nat}(h:StI w B f M s z q u n p A)(Y:q<=1000000)(ac:g<B)(k:w.heap[g]?=some (Qe #[Qf b,tv,E,N,Qa tag,.bool oct,Qa ab] 200))(a:b=Zb){c:Qn}{i v j y:Nat}(V:E=Qs i xs.length v)(X:N=Qs j c.length y)(K:ZQ w i xs)(J:ZQ w j c)(Z:xs.length<=100000)(ad:c.length<=100000)(aa:∀x∈xs,x.length<=100000)(W:∀x∈c,x.length<=100000)(ht:tag=1\/tag=2\/tag=3):Calls prog 85 #[Qc f,Qc g] w (HP B f M q u n p A w (askL s tag oct (envL M xs) c)):=by
 subst V;subst X;have c0:=Qj k 0;have c2:=Qj k 2;have r:TxO w (Qs j c.length y) c:=Co J;have D:=O (QtU f M (Qs i xs.length v) xs w (Qj h.blk 0) (Qj h.blk 1) (Qr ⟨i,v,rfl,K⟩) I (fun x a=>by have:=aa x a;omega));have F:(envL M xs).length<=10000000000/\∀x∈envL M xs,x.length<=100000:=Qz4 h.mb Z;have m:=O F;have Q:=O W;have T:Hid ((tag:Int)=1\/(tag:Int)=2\/(tag:Int)=3):=by show _\/_;omega
 have e0:=QG [116,114,117,101] a rfl
 have e1:=QG [102,97,108,115,101] a rfl
 have e2:=QG [110,111,116] a rfl
 have e3:=QG [97,108,108,111,102] a rfl
 have e4:=QG [97,110,121,111,102] a rfl
 have e5:=QG [101,120,105,115,116,115] a rfl
 have e6:=QG [115,105,122,101] a rfl
 have e7:=QG [104,101,97,100,101,114] a rfl
 have e8:=XK [101,110,118,101,108,111,112,101] a rfl
 obtain⟨C,t⟩:=Qw (envL M xs);rw[t]at D m;rw[t];clear a K J t F;change Qd _ at k;replace h:=O h;replace r:=O r;go_enter func85,ntmps85;go_wp2_with fail;refine D.mono ?_;rintro e w1 ⟨rv,rfl,H,d⟩;have l:=Ze k d;have d3:=Qj l 3;have d4:=Qj l 4;have d5:=Qj l 5;have S:=O (CU oct (h.o.below d.drew) Y ((TxL.of_ownsV H).toO.below (QO _ _).drew) (r.o.below d.drew) T m.1 I m.2 Q);have P:=O d.drew;clear H d l;go_wp2;go_region_with (first|(go_at_call 72;refine S.mono ?_;rintro e w2 ⟨rfl,G,L⟩;have R:=O ((Mod.of_below P).trans G);have U:=O L;clear G L;skip))
 all_goals go_wp2
 all_goals go_ret
 all_goals exact⟨rfl,R,U⟩
end Go.Proofs.YtgnkjijocdmniaaGreatDoor
