import Derived.Test.YtgnkjijocdmniaaGreatDoorZSAct
namespace Go.Proofs.YtgnkjijocdmniaaGreatDoor
set_option linter.unusedVariables false
set_option linter.unusedSimpArgs false
set_option maxRecDepth 100000
set_option maxHeartbeats 4000000
open Go.Proofs.Tryz
open Go.RowKit
attribute [local go_sem ↓] Go.wp_at_zero Go.wp_at_succ
variable{a b m tb:Nat}{acc l s x:L8}{d e k n p:Int}{r:Option (L8×Nat)}{w w':World}
theorem XR(c:Int)(w:World) :
 Calls prog 110 #[.int .u8 c] w fun e w'=>e=.returned (.bool (QI c))/\w'=w:=by
 go_enter func110,ntmps110;go_wp2
 all_goals (go_ret;exact⟨QS (by simp[QI, *];try omega),rfl⟩)
theorem X6(c:Int)(w:World) :
 Calls prog 109 #[.int .u8 c] w fun e w'=>e=.returned (.bool (QL c))/\w'=w:=by
 go_enter func109,ntmps109;go_wp2
 all_goals (go_ret;exact⟨QS (by unfold QL XT;rw[Zo];simp;omega),rfl⟩)
theorem Uv(c:Int)(w:World) :
 Calls prog 118 #[.int .u8 c] w fun e w'=>e=.returned (.bool (Zn c))/\w'=w:=by
 go_enter func118,ntmps118;go_wp2
 all_goals (go_ret;exact⟨QS (by simp only[Zn];rw[Zo];simp[*]),rfl⟩)
theorem TP(w:World)(c:UInt8):(convert 198 9 (.slice (some ⟨w.heap.size,0,none⟩) 1 1)).run prog (w.alloc (.cells #[.int .u8 (c.toNat:Int)] 5))=.ok (.string (sA [c])) (w.alloc (.cells #[.int .u8 (c.toNat:Int)] 5)):=
 run_convert_bytes_back (P:=prog) _ 198 9 5 ⟨w.heap.size,0,none⟩ 1 [c] underlying198 underlying5 underlying9 (fun j hj=>by
  obtain rfl:j=0:=by simp at hj;omega
  rw [Ys];exact Qi (QC _ _) 0)
theorem Gh(w:World)(c:UInt8)(n:Int)(h:n=(c.toNat:Int)):(convert 198 9 (.slice (some ⟨w.heap.size,0,none⟩) 1 1)).run prog (w.alloc (.cells #[.int .u8 n] 5))=.ok (.string (sA [c])) (w.alloc (.cells #[.int .u8 n] 5)):=by
 subst h;exact TP w c
theorem Lg{k:Nat}(h:k<x.length):zL (x.take (k+1))=zL (x.take k)++[XK x[k]]:=by
 rw[List.take_succ_eq_append_getElem h];exact List.map_append
theorem Yv(x:L8)(w:World)(u:x.length<=140737488355328) :
 Calls prog 80 #[.string (sA x)] w fun e w'=>e=.returned (.string (sA (zL x)))/\Below w.heap.size w w':=by
 have v:=QN x;go_enter func80,ntmps80;go_wp2
 go_loopw [3,4] (fun o i wr=>∃ k:Nat,k<=x.length/\i=.int .i64 k/\o=.string (sA (zL (x.take k)))/\Below w.heap.size w wr) (fun _ i _=>x.length - (intOf i).toNat)
 case atStart=>exact⟨0,by omega,rfl,rfl,Below.refl _ _⟩
 case round=>
  obtain⟨k,r,rfl,rfl,l⟩:=hrel;have a:=I l;clear l;by_cases hlt:k<(sA x).size
  ·have p:k<x.length:=by omega
   have j:=Lg p;have m:x[k]=(sA x)[k]:=by simp[sA,ByteArray.getElem_eq_getElem_data]
   rw[m]at j;have g:=I j;have s:(zL (x.take k)).length<=140737488355328:=by simp[zL];omega
   have z:=QN (zL (x.take k));have d:=I (Gh wr (XK (sA x)[k]));have q:=UInt8.toNat_lt (sA x)[k];have A:(sA [XK (sA x)[k]]).size=1:=rfl;have b:=I (K4 (zL (x.take k)) [XK (sA x)[k]]);generalize zL (x.take k)=y at *;clear m j;by_cases h65:(65:Int)<=((sA x)[k].toNat:Int)
   ·by_cases h90:((sA x)[k].toNat:Int)<=90
    ·have t:=Ci (sA x)[k] (by unfold XT;simp;omega);go_wp2;rw[d.o _ (by omega)];go_wp2;rw[b.o];go_roundw
     case rel=>exact⟨k+1,by omega,by go_num,by rw[g.o],a.o.alloc (Below.size a.o) _⟩
     case measure=>simp[intOf];omega
    ·have f:=I (N7 (sA x)[k] (by unfold XT;simp;omega));go_wp2;rw[d.o _ (by have e:=congrArg (fun c:UInt8=>(c.toNat:Int)) f.o;exact e.symm)];go_wp2;rw[b.o];go_roundw
     case rel=>exact⟨k+1,by omega,by go_num,by rw[g.o],a.o.alloc (Below.size a.o) _⟩
     case measure=>simp[intOf];omega
   ·have f:=I (N7 (sA x)[k] (by unfold XT;simp;omega));go_wp2;rw[d.o _ (by have e:=congrArg (fun c:UInt8=>(c.toNat:Int)) f.o;exact e.symm)];go_wp2;rw[b.o];go_roundw
    case rel=>exact⟨k+1,by omega,by go_num,by rw[g.o],a.o.alloc (Below.size a.o) _⟩
    case measure=>simp[intOf];omega
  ·have n:k=x.length:=by omega
   subst n;rw[List.take_length];go_wp2;go_ret;exact⟨rfl,a.o⟩
theorem OW{k:Nat}(h:k<x.length):capL (x.take (k+1))=capL (x.take k)++[Ji x[k]]:=by
 rw[List.take_succ_eq_append_getElem h];exact List.map_append
theorem Mz(x:L8)(w:World)(u:x.length<=140737488355328) :
 Calls prog 81 #[.string (sA x)] w fun e w'=>e=.returned (.string (sA (capL x)))/\Below w.heap.size w w':=by
 have v:=QN x;go_enter func81,ntmps81;go_wp2
 go_loopw [3,4,5] (fun o i _ wr=>∃ k:Nat,k<=x.length/\i=.int .i64 k/\o=.string (sA (capL (x.take k)))/\Below w.heap.size w wr) (fun _ i _ _=>x.length - (intOf i).toNat)
 case atStart=>exact⟨0,by omega,rfl,rfl,Below.refl _ _⟩
 case round=>
  obtain⟨k,r,rfl,rfl,l⟩:=hrel;have a:=I l;clear l;by_cases hlt:k<(sA x).size
  ·have p:k<x.length:=by omega
   have j:=OW p;have m:x[k]=(sA x)[k]:=by simp[sA,ByteArray.getElem_eq_getElem_data]
   rw[m]at j;have g:=I j;have s:(capL (x.take k)).length<=140737488355328:=by simp[capL];omega
   have z:=QN (capL (x.take k));have d:=I (Gh wr (Ji (sA x)[k]));have q:=UInt8.toNat_lt (sA x)[k];have A:(sA [Ji (sA x)[k]]).size=1:=rfl;have b:=I (K4 (capL (x.take k)) [Ji (sA x)[k]]);generalize capL (x.take k)=y at *;clear m j;by_cases h65:(97:Int)<=((sA x)[k].toNat:Int)
   ·by_cases h90:((sA x)[k].toNat:Int)<=122
    ·have t:=D1 (sA x)[k] (by unfold YJ;simp;omega);go_wp2;rw[d.o _ (by omega)];go_wp2;rw[b.o];go_roundw
     case rel=>exact⟨k+1,by omega,by go_num,by rw[g.o],a.o.alloc (Below.size a.o) _⟩
     case measure=>simp[intOf];omega
    ·have f:=I (AM (sA x)[k] (by unfold YJ;simp;omega));go_wp2;rw[d.o _ (by have e:=congrArg (fun c:UInt8=>(c.toNat:Int)) f.o;exact e.symm)];go_wp2;rw[b.o];go_roundw
     case rel=>exact⟨k+1,by omega,by go_num,by rw[g.o],a.o.alloc (Below.size a.o) _⟩
     case measure=>simp[intOf];omega
   ·have f:=I (AM (sA x)[k] (by unfold YJ;simp;omega));go_wp2;rw[d.o _ (by have e:=congrArg (fun c:UInt8=>(c.toNat:Int)) f.o;exact e.symm)];go_wp2;rw[b.o];go_roundw
    case rel=>exact⟨k+1,by omega,by go_num,by rw[g.o],a.o.alloc (Below.size a.o) _⟩
    case measure=>simp[intOf];omega
  ·have n:k=x.length:=by omega
   subst n;rw[List.take_length];go_wp2;go_ret;exact⟨rfl,a.o⟩
theorem MX(M:Msg)(n tag:Int)(w:World)(a:tag=1\/tag=2) :
 Calls prog 75 #[.int .i64 M.size,.int .i64 n,.int .i64 tag] w fun e w'=>e=.returned (.bool (sizeB M tag n))/\w'=w:=by
 rcases a with rfl|rfl
 ·go_enter func75,ntmps75;go_wp2;go_ret;exact⟨rfl,rfl⟩
 ·go_enter func75,ntmps75;go_wp2;go_ret;exact⟨rfl,rfl⟩
theorem Tr(s:ByteArray)(h:0<s.size):isBoxL s.data.toList=((s[0] != 46&&(s.data.toList.drop 0).all JE)&&decide (s.size<=16)):=by
 unfold isBoxL;have a:s.data.toList.length=s.size:=by simp
 rw[CW s h,Nj s h,a,List.drop_zero];cases decide (s.size<=16)<;>simp[bne]
theorem MO(s:ByteArray)(w:World)(D:s.size<=140737488355328) :
 Calls prog 77 #[.string s] w fun e w'=>e=.returned (.bool (isBoxL s.data.toList))/\w'=w:=by
 go_enter func77,ntmps77;go_wp2
 go_loop [3] (fun i=>∃ k:Nat,k<=s.size/\i=.int .i64 k/\(0<k->isBoxL s.data.toList=((s.data.toList.drop k).all JE&&decide (s.size<=16)))) (fun i=>s.size - (intOf i).toNat)
 case atStart=>exact⟨0,by omega,rfl,fun h=>absurd h (Nat.lt_irrefl _)⟩
 case round=>
  obtain⟨k,B,rfl,r⟩:=hrel;have g:=I r;clear r;by_cases hlt:k<s.size;rotate_left
  ·by_cases h0:s.size=0
   ·have y:=VF h0;have x:Hid (isBoxL s.data.toList=false):=by show _=_;rw[<-ByteArray.toList_eq,y];rfl
    have d:k=0:=by omega
    subst d;go_wp2;go_ret;exact⟨QS x.o.symm,rfl⟩
   have a:=I (AZ s JE k (by omega));have f:=I (g.o (by omega));by_cases h16:s.size<=16
   ·go_wp2;go_ret;exact⟨QS (by rw[f.o,a.o,Bool.true_and];exact decide_eq_decide.2 (by omega)),rfl⟩
   ·go_wp2;go_ret;exact⟨QS (by rw[f.o,a.o,Bool.true_and];exact decide_eq_decide.2 (by omega)),rfl⟩
  have a:=I (Be s JE k hlt);have c:Hid (JE s[k]=(QL (s[k].toNat:Int) || QI (s[k].toNat:Int) || s[k]==45 || s[k]==46)):=rfl;have z:((s[k].toNat:Int) != 45)=!(s[k]==45):=by rw[bne,show((s[k].toNat:Int)==45)=decide (s[k]=45)from Km s[k] 45];by_cases h:s[k]=45<;>simp[h]
  have A:((s[k].toNat:Int) != 46)=!(s[k]==46):=by rw[bne,show((s[k].toNat:Int)==46)=decide (s[k]=46)from Km s[k] 46];by_cases h:s[k]=46<;>simp[h]
  by_cases d:k=0
  ·subst d;have j:=I (Tr s hlt);have m:Hid ((s[0] != 46)=!(s[0]==46)):=rfl
   have p:QL (s[0].toNat:Int)=true->(s[0]==46)=false:=fun h=>by
    cases e:s[0]==46 with
    |false=>rfl
    |true=>
     have b:s[0]=46:=by simpa using e
     rw[b]at h;cases h
   have q:QI (s[0].toNat:Int)=true->(s[0]==46)=false:=fun h=>by
    cases e:s[0]==46 with
    |false=>rfl
    |true=>
     have b:s[0]=46:=by simpa using e
     rw[b]at h;cases h
   have n:(s[0]==45)=true->(s[0]==46)=false:=fun h=>by
    have b:s[0]=45:=by simpa using h
    rw[b];rfl
   have u:=I p;have v:=I q;have t:=I n;clear p q n;generalize (s[0]==45)=b45 at *;generalize (s[0]==46)=b46 at *
   cases hc:QL (s[0].toNat:Int)<;>cases hd:QI (s[0].toNat:Int)<;>cases b45<;>cases b46 <;>
   (first
     |(exact absurd (u.o hc) (by decide))
     |(exact absurd (v.o hd) (by decide))
     |(exact absurd (t.o rfl) (by decide))
     | (go_wp2_with (first | (go_at_call 109;refine (X6 _ _).mono ?_;rintro e w' ⟨rfl,rfl⟩) | (go_at_call 110;refine (XR _ _).mono ?_;rintro e w' ⟨rfl,rfl⟩))
        first
         |(go_ret;exact⟨QS (by rw[j.o,a.o,c.o,m.o,hc,hd];simp),rfl⟩)
         | (go_round
            case rel=>exact⟨0+1,by omega,by go_num,fun _=>by rw[j.o,a.o,c.o,m.o,hc,hd];simp⟩
            case measure=>simp [intOf];omega)))
  ·have C:¬((k:Nat):Int)=0:=by omega
   have l:=I (g.o (by omega));generalize (s[k]==45)=b45 at *;generalize (s[k]==46)=b46 at *
   cases hc:QL (s[k].toNat:Int)<;>cases hd:QI (s[k].toNat:Int)<;>cases b45<;>cases b46 <;>
   (go_wp2_with (first | (go_at_call 109;refine (X6 _ _).mono ?_;rintro e w' ⟨rfl,rfl⟩) | (go_at_call 110;refine (XR _ _).mono ?_;rintro e w' ⟨rfl,rfl⟩))
    first
     |(go_ret;exact⟨QS (by rw[l.o,a.o,c.o,hc,hd];simp),rfl⟩)
     | (go_round
        case rel=>exact⟨k+1,by omega,by go_num,fun _=>by rw[l.o,a.o,c.o,hc,hd];simp⟩
        case measure=>simp [intOf];omega))
def Ng(l:L8)(a e d k:Int)(s:L8)(n p:Int):Array Value:=
 #[.string (sA l),.int .i64 a,.int .i64 e,.int .i64 d,.int .u8 k,.string (sA s),.int .i64 n,.int .i64 p]
def QT(w:World)(tb:Nat)(l:L8)(a e d k:Int)(s:L8)(n p:Int):Prop:=
 w.heap[tb]?=some (.cells (Ng l a e d k s n p) 138)
theorem QT.lt{a:Int}(h:QT w tb l a e d k s n p):tb<w.heap.size:=Qg h
theorem QT.below{a:Int}(h:QT w tb l a e d k s n p)(hb:Below w.heap.size w w'):QT w' tb l a e d k s n p:=QP h hb
theorem QT.at_{a:Int}(h:QT w tb l a e d k s n p)(a':Int):QT (w.setCell ⟨tb,1,none⟩ (.int .i64 a')) tb l a' e d k s n p:=Qt _ _ _ _ _ _ h
def Yr(w:World)(tb:Nat)(l:L8)(f:Flt):Prop:=QT w tb l l.length f.err f.pos 0 [] 0 l.length/\f.err≠0
theorem KZ(tb:Nat)(l:L8)(a d k:Int)(s:L8)(n p:Int)(f:Flt)(w:World)(h:QT w tb l a 0 d k s n p)(x:l.length<=600)(c:f.err≠0) :
 Calls prog 70 #[.pointer (some ⟨tb,0,none⟩),.int .i64 f.err,.int .i64 f.pos] w fun e w'=>e=.returned (.tuple #[])/\Mod tb w w'/\Yr w' tb l f:=by
 have b:=fun o=>Qi h o
 have v:=fun o=>Qu h o
 have g:w.cell? ⟨tb,0,none⟩=some (.string (sA l)):=b 0;have i:w.cell? ⟨tb,1,none⟩=some (.int .i64 a):=b 1;have j:w.cell? ⟨tb,2,none⟩=some (.int .i64 0):=b 2;have m:w.cell? ⟨tb,3,none⟩=some (.int .i64 d):=b 3;have q:w.cell? ⟨tb,4,none⟩=some (.int .u8 k):=b 4;have r:w.cell? ⟨tb,5,none⟩=some (.string (sA s)):=b 5;have t:w.cell? ⟨tb,6,none⟩=some (.int .i64 n):=b 6;have u:w.cell? ⟨tb,7,none⟩=some (.int .i64 p):=b 7;have y:=QN l;have H:=I h;clear b h;go_enter func70,ntmps70;go_wp2;go_end0;exact⟨rfl,((((((((Mod.refl tb w).setCell _ _).setCell _ _).setCell _ _).setCell _ _).setCell _ _).setCell _ _).setCell _ _),Qt _ _ _ _ _ _ (Qt _ _ _ _ _ _ (Qt _ _ _ _ _ _ (Qt _ _ _ _ _ _ (Qt _ _ _ _ _ _ (Qt _ _ _ _ _ _ (Qt _ _ _ _ _ _ H.o)))))),c⟩
theorem Po(tb:Nat)(l:L8)(f:Flt)(x y:Int)(w:World)(h:Yr w tb l f) :
 Calls prog 70 #[.pointer (some ⟨tb,0,none⟩),.int .i64 x,.int .i64 y] w fun e w'=>e=.returned (.tuple #[])/\w'=w:=by
 have b:=QJ h.1;have a:¬(f.err:Int)=0:=by have:=h.2;omega
 have c:((f.err:Int)==0)=false:=by simpa using a
 clear h;go_enter func70,ntmps70;go_wp2;go_end0;exact⟨rfl,rfl⟩
def atW(w:World)(tb:Nat):Nat:=
 match w.heap[tb]? with
 |some (.cells cs _ _)=>(intOf (cs.getD 1 undef)).toNat
 |_=>0
theorem QT.atW{w:World}{tb:Nat}{l:L8}{a:Nat}{e d k:Int}{s:L8}{n p:Int}(h:QT w tb l a e d k s n p):atW w tb=a:=by
 unfold Go.Proofs.YtgnkjijocdmniaaGreatDoor.atW;rw[h];simp[Ng,intOf]
theorem Mod.drewN{b:Nat}{u w:World}{n:Nat}(h:Mod b u w):Mod b u (w.drewN n):=⟨h.os,h.tape,h.output,h.size,h.block⟩
theorem JQ{w1 c:World}{f k1:Int}{n:L8}{p1 g k2:Int}{o:L8}{m p2:Int}(i:QT w1 tb l a f d k1 n k p1)(j:QT c tb l b g e k2 o m p2)(p:a<b)(q:b<=l.length):l.length - atW c tb<l.length - atW w1 tb:=by
 rw[i.atW,j.atW];omega
theorem Kl{u:World}{n:Nat}(h:Mod b (u.drewN n) w):Mod b u w:=⟨h.os,h.tape,h.output,h.size,h.block⟩
def YW(r:Qb Nat)(tb:Nat)(l:L8)(d k:Int)(s:L8)(n p:Int)(w:World)(e:Ending)(w':World):Prop:=
 e=.returned (.tuple #[])/\Mod tb w w'/\
 match r with
 | .ok m=>QT w' tb l m 0 d k s n p/\m<=l.length
 | .error f=>Yr w' tb l f
theorem YW.ok{r:Qb Nat}{tb:Nat}{l:L8}{d k:Int}{s:L8}{n p:Int}{w w':World}{m:Nat}(h:r=.ok m)(b:Mod tb w w')(c:QT w' tb l m 0 d k s n p)(a:m<=l.length):YW r tb l d k s n p w (.returned (.tuple #[])) w':=by
 subst h;exact⟨rfl,b,c,a⟩
theorem YW.err{r:Qb Nat}{f:Flt}(h:r=.error f)(a:Mod tb w w')(b:Yr w' tb l f):YW r tb l d k s n p w (.returned (.tuple #[])) w':=by
 subst h;exact⟨rfl,a,b⟩
theorem YW.cases{r:Qb Nat}{tb:Nat}{l:L8}{d k:Int}{s:L8}{n p:Int}{w w':World}{e:Ending}(h:YW r tb l d k s n p w e w'):e=.returned (.tuple #[])/\Mod tb w w'/\((∃ m,r=.ok m/\QT w' tb l m 0 d k s n p/\m<=l.length)\/∃ f,r=.error f/\Yr w' tb l f):=by
 obtain⟨b,c,a⟩:=h;refine⟨b,c,?_⟩
 cases r with
 |ok m=>exact Qd ⟨m,rfl,a⟩
 |error f=>exact Qc ⟨f,rfl,a⟩
theorem ZC(h:a<(sA l).size):l.drop a=(sA l)[a]::l.drop (a+1):=by
 have b:a<l.length:=h;rw[List.drop_eq_getElem_cons b];congr 1
theorem Pd(tb:Nat)(l:L8)(a:Nat)(d k:Int)(s:L8)(n p:Int)(w:World)(h:QT w tb l a 0 d k s n p)(hl:l.length<=600)(ha:a<=l.length) :
 Calls prog 108 #[.pointer (some ⟨tb,0,none⟩)] w (YW (skipS (l.drop a) a) tb l d k s n p w):=by
 have H:=I h;have hz:=QN l;clear h;go_enter func108,ntmps108;go_wp2
 go_loopw [2,3,4] (fun _ _ _ wr=>∃ b:Nat,b<=l.length/\QT wr tb l b 0 d k s n p/\Mod tb w wr/\skipS (l.drop a) a=skipS (l.drop b) b) (fun _ _ _ wr=>l.length - atW wr tb)
 case atStart=>exact⟨a,ha,H.o,Mod.refl _ _,rfl⟩
 case round=>
  obtain⟨b,A,D,Y,Z⟩:=hrel;have j:=I D;have u:=I Y;have v:=I Z;have F:=Qk D;have G:=Qr D;have J:=fun o=>Qu D o
  clear D Y Z H;by_cases hlt:b<(sA l).size;rotate_left
  ·have X:¬(b:Int)<(l.length:Int):=by omega
   go_wp2_with fail;go_quiet (fail);go_wp2;go_end0;exact YW.ok (v.o.trans (by rw[Zb (by omega)];rfl)) u.o.drewN j.o A
  have X:(b:Int)<(l.length:Int):=by omega
  have y:=I (ZC hlt);have ar:(0:Int)<=(b:Int):=by omega
  go_wp2_with fail;go_quiet (fail);go_wp2_with fail;go_quiet (fail);cases hbl:Zn ((sA l)[b].toNat:Int);rotate_left
  ·have ad:Hid (skipS (l.drop a) a=skipS (l.drop (b+1)) (b+1)):=by
    show _=_
    rw[v.o,y.o,Cs _ _ hbl]
   have g:=I (j.o.at_ ((b:Int)+1));go_wp2_with (go_at_call 118;refine(Uv _ _).mono ?_;rintro e x ⟨rfl,rfl⟩);go_roundw
   case rel=>exact⟨b+1,by omega,g.o,(u.o.drewN).setCell _ _,ad.o⟩
   case measure=>
    exact JQ (b:=b+1) j.o g.o (by omega) (by omega)
  by_cases h35:(sA l)[b]=35
  ·have ae:Hid (skipS (l.drop a) a=KE (l.drop b) b):=by
    show _=_
    rw[v.o,y.o,Hc _ _ (by rw[h35];rfl)]
   have aa:=I h35;go_wp2_with (go_at_call 118;refine(Uv _ _).mono ?_;rintro e x ⟨rfl,rfl⟩);clear h35;generalize hW:wr.drewN _=W;have N:Hid (QT W tb l b 0 d k s n p):=by rw[<-hW];exact j.o
   have M:Hid (Mod tb w W):=by rw[<-hW];exact u.o.drewN
   clear hW F G J X
   go_loopw [] (fun r=>∃ c:Nat,b<=c/\c<=l.length/\QT r tb l c 0 d k s n p/\Mod tb w r/\skipS (l.drop a) a=KE (l.drop c) c) (fun r=>l.length - atW r tb)
   case atStart=>exact⟨b,Nat.le_refl _,A,N.o,M.o,ae.o⟩
   case round=>
    obtain⟨c,V,B,i,C,E⟩:=hrel;have g:=I i;have q:=I C;have t:=I E;have F:=Qk i;have G:=Qr i;have J:=fun o=>Qu i o
    clear i C E;by_cases hlt2:c<(sA l).size
    ·have K:(c:Int)<(l.length:Int):=by omega
     have ag:(0:Int)<=(c:Int):=by omega
     have z:=I (ZC hlt2);by_cases h10:(sA l)[c]=10
     ·have f:Hid (skipS (l.drop a) a=skipS (l.drop c) c):=by
       show _=_
       rw[t.o,z.o,KE,if_pos h10]
      have ah:b<c:=by
       rcases Nat.lt_or_eq_of_le V with h|h
       ·exact h
       ·subst h;rw[aa.o]at h10;cases h10
      go_wp2_with fail;go_quiet (fail);go_wp2;go_roundw
      case rel=>exact⟨c,B,g.o,q.o.drewN,f.o⟩
      case measure=>exact JQ j.o g.o ah B
     ·have f:Hid (skipS (l.drop a) a=KE (l.drop (c+1)) (c+1)):=by
       show _=_
       rw[t.o,z.o,KE,if_neg h10]
      have aw:(((sA l)[c].toNat:Int) != 10)=true:=by
       have h:¬(sA l)[c].toNat=10:=fun h=>h10 (UInt8.toNat_inj.1 h)
       simp;omega
      have m:=I (g.o.at_ ((c:Int)+1));go_wp2_with fail;go_quiet (fail);go_wp2;go_roundw
      case rel=>exact⟨c+1,by omega,by omega,m.o,(q.o.drewN).setCell _ _,f.o⟩
      case measure=>exact JQ (b:=c+1) g.o m.o (by omega) (by omega)
    ·have K:¬(c:Int)<(l.length:Int):=by omega
     have ak:decide ((c:Int)<(l.length:Int))=false:=Qh K
     have f:Hid (skipS (l.drop a) a=skipS (l.drop c) c):=by
      show _=_
      rw[t.o,Zb (by omega)];rfl
     have ab:Hid (b<c):=by show b<c;omega
     obtain rfl:c=l.length:=by omega
     clear hlt2 K ak;go_wp2_with fail;go_quiet (fail);go_wp2;go_roundw
     case rel=>exact⟨l.length,B,g.o,q.o.drewN,f.o⟩
     case measure=>exact JQ j.o g.o ab.o B
  by_cases h47:(sA l)[b]=47;rotate_left
  ·have f:Hid (skipS (l.drop a) a=.ok b):=by
    show _=_
    rw[v.o,y.o];exact NV _ _ hbl h35 (fun h=>h47 h.1)
   have T:(((sA l)[b].toNat:Int)==35)=false:=by
    have h:¬(sA l)[b].toNat=35:=fun h=>h35 (UInt8.toNat_inj.1 h)
    simp;omega
   have aq:(((sA l)[b].toNat:Int)==47)=false:=by
    have h:¬(sA l)[b].toNat=47:=fun h=>h47 (UInt8.toNat_inj.1 h)
    simp;omega
   clear h35 h47;go_wp2_with (first|(go_at_call 118;refine(Uv _ _).mono ?_;rintro e x ⟨rfl,rfl⟩)|fail);go_quiet (fail);go_wp2;go_end0;exact YW.ok f.o u.o.drewN.drewN j.o A
  have T:(((sA l)[b].toNat:Int)==35)=false:=by rw[h47];rfl
  have ao:=I h47;have ap:=I hbl;by_cases hend:b+1=l.length
  ·have f:Hid (skipS (l.drop a) a=.ok b):=by
    show _=_
    rw[v.o,y.o];refine NV _ _ hbl h35 (fun h=>?_);rw[Zb (by omega)]at h;cases h.2
   have ay:(b:Int)+1=(l.length:Int):=by omega
   clear h35 hend;go_wp2_with (first|(go_at_call 118;refine(Uv _ _).mono ?_;rintro e x ⟨rfl,rfl⟩)|fail);go_quiet (fail);go_wp2;go_end0;exact YW.ok f.o u.o.drewN.drewN j.o A
  have ai:b+1<(sA l).size:=by omega
  have az:(b:Int)+1<(l.length:Int):=by omega
  have au:(0:Int)<=(b:Int)+1:=by omega
  have R:=I (ZC ai);by_cases h42:(sA l)[b+1]=42;rotate_left
  ·have f:Hid (skipS (l.drop a) a=.ok b):=by
    show _=_
    rw[v.o,y.o];refine NV _ _ hbl h35 (fun h=>?_);rw[R.o]at h;exact h42 (Option.some.inj h.2)
   have U:(((sA l)[b+1].toNat:Int)==42)=false:=by
    have h:¬(sA l)[b+1].toNat=42:=fun h=>h42 (UInt8.toNat_inj.1 h)
    simp;omega
   clear h35 h42;go_wp2_with (first|(go_at_call 118;refine(Uv _ _).mono ?_;rintro e x ⟨rfl,rfl⟩)|fail);go_quiet (fail);go_wp2;go_end0;exact YW.ok f.o u.o.drewN.drewN j.o A
  have af:Hid (skipS (l.drop a) a=Je b (l.drop (b+1+1)) (b+2)):=by
   show _=_
   rw[v.o,y.o,R.o,h47,h42,L6]
  have U:(((sA l)[b+1].toNat:Int)==42)=true:=by rw[h42];rfl
  clear h35 h42;go_wp2_with (first|(go_at_call 118;refine(Uv _ _).mono ?_;rintro e x ⟨rfl,rfl⟩)|fail);go_quiet (fail);go_wp2;have ac:=I (j.o.at_ ((b:Int)+2));generalize hW:(wr.drewN _).setCell _ _=W;have N:Hid (QT W tb l (b+2:Nat) 0 d k s n p):=by rw[<-hW];exact ac.o
  have M:Hid (Mod tb w W):=by rw[<-hW];exact(u.o.drewN).setCell _ _
  clear hW F G J T U
  go_loopw [] (fun r=>∃ c:Nat,b+2<=c/\c<=l.length/\QT r tb l c 0 d k s n p/\Mod tb w r/\skipS (l.drop a) a=Je b (l.drop c) c) (fun r=>l.length - atW r tb)
  case atStart=>exact⟨b+2,Nat.le_refl _,by omega,N.o,M.o,af.o⟩
  case round=>
   obtain⟨c,V,B,i,C,E⟩:=hrel;have g:=I i;have q:=I C;have t:=I E;have F:=Qk i;have G:=Qr i;have c2:=QJ i;have J:=fun o=>Qu i o
   clear i C E;by_cases hlt2:c+1<(sA l).size
   ·have K:(c:Int)+1<(l.length:Int):=by omega
    have aj:c<(sA l).size:=by omega
    have aA:(c:Int)<(l.length:Int):=by omega
    have ag:(0:Int)<=(c:Int):=by omega
    have av:(0:Int)<=(c:Int)+1:=by omega
    have z:=I (ZC aj);have L:=I (ZC hlt2);by_cases h42:(sA l)[c]=42;rotate_left
    ·have f:Hid (skipS (l.drop a) a=Je b (l.drop (c+1)) (c+1)):=by
      show _=_
      rw[t.o,z.o,L.o,Je,if_neg (fun h=>h42 h.1)]
     have g1:(((sA l)[c].toNat:Int) != 42)=true:=by
      have h:¬(sA l)[c].toNat=42:=fun h=>h42 (UInt8.toNat_inj.1 h)
      simp;omega
     have m:=I (g.o.at_ ((c:Int)+1));clear h42;go_wp2_with fail;go_quiet (fail);go_wp2;go_roundw
     case rel=>exact⟨c+1,by omega,by omega,m.o,(q.o.drewN).setCell _ _,f.o⟩
     case measure=>exact JQ (b:=c+1) g.o m.o (by omega) (by omega)
    have g1:(((sA l)[c].toNat:Int) != 42)=false:=by rw[h42];rfl
    by_cases h47':(sA l)[c+1]=47;rotate_left
    ·have f:Hid (skipS (l.drop a) a=Je b (l.drop (c+1)) (c+1)):=by
      show _=_
      rw[t.o,z.o,L.o,Je,if_neg (fun h=>h47' h.2)]
     have g2:(((sA l)[c+1].toNat:Int) != 47)=true:=by
      have h:¬(sA l)[c+1].toNat=47:=fun h=>h47' (UInt8.toNat_inj.1 h)
      simp;omega
     have m:=I (g.o.at_ ((c:Int)+1));clear h42 h47';go_wp2_with fail;go_quiet (fail);go_wp2;go_roundw
     case rel=>exact⟨c+1,by omega,by omega,m.o,(q.o.drewN).setCell _ _,f.o⟩
     case measure=>exact JQ (b:=c+1) g.o m.o (by omega) (by omega)
    have g2:(((sA l)[c+1].toNat:Int) != 47)=false:=by rw[h47'];rfl
    have f:Hid (skipS (l.drop a) a=skipS (l.drop (c+1+1)) (c+1+1)):=by
     show _=_
     rw[t.o,z.o,L.o,Je,if_pos ⟨h42,h47'⟩]
    have m:=I (g.o.at_ ((c:Int)+2));have g3:decide ((l.length:Int)<=(c:Int)+1)=false:=Qh (by omega);clear h42 h47';go_wp2_with fail;go_quiet (fail);go_wp2_with fail;go_quiet (fail);go_wp2;go_roundw
    case rel=>exact⟨c+1+1,by omega,m.o,(q.o.drewN).setCell _ _,f.o⟩
    case measure=>exact JQ (b:=c+1+1) j.o m.o (by omega) (by omega)
   ·have f:Hid (skipS (l.drop a) a=.error ⟨2,b⟩):=by
     show _=_
     rw[t.o];rcases Nat.lt_or_ge c l.length with h|h
     ·rw[ZC (a:=c) (by omega),Zb (by omega)];rfl
     ·rw[Zb (by omega)];rfl
    have S:=I (fun n'=>KZ tb l c d k s n p ⟨2,b⟩ (wr.drewN n') g.o hl (Nat.succ_ne_zero 1));rcases Nat.lt_or_ge c l.length with hbl2|hbl2
    ·have he:(c:Int)+1=(l.length:Int):=by omega
     clear hlt2 hbl2;go_wp2_with fail;go_quiet (fail);go_wp2_with fail;go_quiet (fail);go_wp2_with (go_at_call 70;refine(S.o _).mono ?_;rintro e x ⟨rfl,Q,P⟩);go_end0;exact YW.err f.o (q.o.trans (Kl Q)) P
    ·obtain rfl:c=l.length:=by omega
     have he:decide ((l.length:Int)+1<(l.length:Int))=false:=Qh (by omega);have ax:decide ((l.length:Int)<=(l.length:Int)+1)=true:=Qw (by omega);clear hlt2 hbl2;go_wp2_with fail;go_quiet (fail);go_wp2_with fail;go_quiet (fail);go_wp2_with (go_at_call 70;refine(S.o _).mono ?_;rintro e x ⟨rfl,Q,P⟩);go_end0;exact YW.err f.o (q.o.trans (Kl Q)) P
theorem BE(h:b<(sA l).size)(a:Q0 (sA l)[b]=true):b+Za (l.drop b)=(b+1)+Za (l.drop (b+1)):=by
 rw[ZC h];unfold Za;rw[List.takeWhile_cons_of_pos a,ZN];omega
theorem BJ(h:b<(sA l).size)(a:Q0 (sA l)[b]=false):Za (l.drop b)=0:=by
 rw[ZC h];unfold Za;rw[List.takeWhile_cons_of_neg (by rw[a];decide)];rfl
theorem BY(h:l.length<=b):Za (l.drop b)=0:=by
 rw[Zb h];rfl
theorem Jn(x:L8)(a b:Nat):(sA x).extract a b=sA ((x.drop a).take (b - a)):=by
 apply ByteArray.ext;apply Array.ext';simp[sA]
def Bh(tb:Nat)(l:L8)(a:Nat)(d k:Int)(s:L8)(n p:Int)(w:World)(e:Ending)(w':World):Prop:=
 e=.returned (.string (sA (zL ((l.drop a).take (Za (l.drop a))))))/\Mod tb w w'/\QT w' tb l (a+Za (l.drop a):Nat) 0 d k s n p/\a+Za (l.drop a)<=l.length
theorem DF(j:a+Za (l.drop a)=b+Za (l.drop b))(m:Za (l.drop b)=0)(o:a<=b)(f:b<=l.length)(g:Mod tb w w')(i:QT w' tb l b 0 d k s n p):Bh tb l a d k s n p w (.returned (.string (sA (zL ((l.drop a).take (b - a)))))) w':=by
 have e:b=a+Za (l.drop a):=by omega
 have c:b - a=Za (l.drop a):=by omega
 unfold Bh;rw[c];rw[<-e];exact⟨rfl,g,i,f⟩
theorem Dz(tb:Nat)(l:L8)(a:Nat)(d k:Int)(s:L8)(n p:Int)(w:World)(h:QT w tb l a 0 d k s n p)(X:l.length<=600)(Q:a<=l.length) :
 Calls prog 111 #[.pointer (some ⟨tb,0,none⟩)] w (Bh tb l a d k s n p w):=by
 have H:=I h;have Z:=QN l;have c:=Qr h;clear h;go_enter func111,ntmps111;go_wp2
 go_loopw [4,5] (fun _ _ wr=>∃ b:Nat,a<=b/\b<=l.length/\QT wr tb l b 0 d k s n p/\Mod tb w wr/\a+Za (l.drop a)=b+Za (l.drop b)) (fun _ _ wr=>l.length - atW wr tb)
 case atStart=>exact⟨a,Nat.le_refl _,Q,H.o,Mod.refl _ _,rfl⟩
 case round=>
  obtain⟨b,J,K,q,L,M⟩:=hrel;have z:=I q;have D:=I L;have B:=I M;clear c;have g:=Qk q;have c:=Qr q;have C:=fun o=>Qu q o
  clear q L M H;have W:=Jn l a b;have U:(a:Int)<=(b:Int):=by omega
  have V:(b:Int)<=(l.length:Int):=by omega
  have S:(0:Int)<=(a:Int):=by omega
  have T:(0:Int)<=(b:Int):=by omega
  by_cases hlt:b<(sA l).size;rotate_left
  ·obtain rfl:b=l.length:=by omega
   have m:=I (BY (l:=l) (b:=l.length) Ql);have v:Hid (((l.drop a).take (l.length - a)).length<=140737488355328):=by show _<=_;simp;omega
   go_wp2_with fail;go_quiet (fail);go_wp2_with fail;generalize hW:wr.drewN _=W1;have f:QT W1 tb l l.length 0 d k s n p:=by rw[<-hW];exact z.o
   have x:Hid (Mod tb w W1):=by rw[<-hW];exact D.o.drewN
   clear hW g c C;have g:=Qk f;have c:=Qr f;have A:=I f;clear f;go_region_held3 (fun t=>t.cell? ⟨tb,0,none⟩=some (.string (sA l))/\t.cell? ⟨tb,1,none⟩=some (.int .i64 l.length)) (first|go_keep|exact⟨Qi i.o 0,Qi i.o 1⟩) (first|(go_at_call 80;refine(Yv ((l.drop a).take (l.length - a)) W1.drew v.o).mono ?_;rintro e R ⟨rfl,j⟩;have i:=I (QT.below (w:=W1.drew) A.o j);have y:=I (x.o.drew.trans (Mod.of_below j));clear j;skip))
   all_goals go_wp2
   all_goals go_ret
   all_goals exact DF B.o m.o J K y.o i.o
  have Y:(b:Int)<(l.length:Int):=by omega
  go_wp2_with fail;go_quiet (fail);go_wp2_with fail;generalize hW:wr.drewN _=W1;have f:QT W1 tb l b 0 d k s n p:=by rw[<-hW];exact z.o
  have x:Hid (Mod tb w W1):=by rw[<-hW];exact D.o.drewN
  clear hW g c C;have g:=Qk f;have c:=Qr f;have A:=I f;clear f;go_quiet (first|(go_at_call 109;refine Calls.quiet_of_same (X6 _ _)));go_wp2_with fail;generalize hW:W1.drewN _=W2;have u:QT W2 tb l b 0 d k s n p:=by rw[<-hW];exact A.o
  have N:Hid (Mod tb w W2):=by rw[<-hW];exact x.o.drewN
  clear hW g c;have g:=Qk u;have c:=Qr u;have P:=I u;clear u;go_quiet (first|(go_at_call 110;refine Calls.quiet_of_same (XR _ _)));generalize hW:W2.drewN _=W3;have r:QT W3 tb l b 0 d k s n p:=by rw[<-hW];exact P.o
  have E:Hid (Mod tb w W3):=by rw[<-hW];exact N.o.drewN
  clear hW g c;have g:=Qk r;have c:=Qr r;have C:=fun o=>Qu r o
  have F:=I r;clear r;cases hc:QL ((sA l)[b].toNat:Int)<;>cases hd:QI ((sA l)[b].toNat:Int)
  case false.false=>
   have m:=I (BJ hlt (by unfold Q0;rw[hc,hd];rfl));have v:Hid (((l.drop a).take (b - a)).length<=140737488355328):=by show _<=_;simp;omega
   go_wp2_with fail;go_region_held3 (fun t=>t.cell? ⟨tb,0,none⟩=some (.string (sA l))/\t.cell? ⟨tb,1,none⟩=some (.int .i64 b)) (first|go_keep|exact⟨Qi i.o 0,Qi i.o 1⟩) (first|(go_at_call 80;refine(Yv ((l.drop a).take (b - a)) W3.drew v.o).mono ?_;rintro e R ⟨rfl,j⟩;have i:=I (QT.below (w:=W3.drew) F.o j);have y:=I (E.o.drew.trans (Mod.of_below j));clear j;skip))
   all_goals go_wp2
   all_goals go_ret
   all_goals exact DF B.o m.o J K y.o i.o
  all_goals
   have m:=I (BE hlt (by unfold Q0;rw[hc,hd];rfl));have G:=I (F.o.at_ ((b:Int)+1));go_wp2;go_roundw
   case rel=>exact⟨b+1,by omega,by omega,G.o,E.o.setCell _ _,B.o.trans m.o⟩
   case measure=>exact JQ (b:=b+1) z.o G.o (by omega) (by omega)
def KN(acc:L8)(m:Nat)(r:Option (L8×Nat)):Option (L8×Nat):=r.map fun x=>(acc++x.1,x.2+m)
theorem Ph(h:l.length<=b):qL (l.drop b)=none:=by rw[Zb h];rfl
theorem Lr(h:b<(sA l).size)(a:(sA l)[b]=34):qL (l.drop b)=some ([],1):=by
 rw[ZC h,a,qL.eq_def];rfl
theorem FC(h:b<(sA l).size)(a:(sA l)[b]=92)(he:b+1=l.length):qL (l.drop b)=none:=by
 rw[ZC h,a,Zb (by omega),qL.eq_def];rfl
theorem Mn(h:b<(sA l).size)(c:(sA l)[b]=92)(a:b+1<(sA l).size):KN acc m (qL (l.drop b))=KN (acc++[(sA l)[b+1]]) (m+2) (qL (l.drop (b+1+1))):=by
 rw[ZC h,c,ZC a]
 have e:qL (92::(sA l)[b+1]::l.drop (b+1+1))=(qL (l.drop (b+1+1))).map fun x=>((sA l)[b+1]::x.1,x.2+2):=by
  rw[qL.eq_def];rfl
 rw[e];unfold KN
 cases qL (l.drop (b+1+1))with
 |none=>rfl
 |some x=>simp;omega
theorem Mg(h:b<(sA l).size)(a:¬(sA l)[b]=34)(c:¬(sA l)[b]=92):KN acc m (qL (l.drop b))=KN (acc++[(sA l)[b]]) (m+1) (qL (l.drop (b+1))):=by
 rw[ZC h]
 have e:qL ((sA l)[b]::l.drop (b+1))=(qL (l.drop (b+1))).map fun x=>((sA l)[b]::x.1,x.2+1):=by
  rw[qL.eq_def];dsimp only;have d:¬(sA l)[b].toNat=34:=fun e=>a (UInt8.toNat_inj.1 e)
  have f:¬(sA l)[b].toNat=92:=fun e=>c (UInt8.toNat_inj.1 e)
  rw[if_neg d,if_neg f]
 rw[e];unfold KN
 cases qL (l.drop (b+1))with
 |none=>rfl
 |some x=>simp;omega
theorem NI(h:b<(sA l).size):(sA l).extract b (b+1)=sA [(sA l)[b]]:=by
 rw[Jn,ZC h,show b+1 - b=1 by omega];rfl
def K9(r:Option (L8×Nat))(tb:Nat)(l:L8)(a:Nat)(d:Int)(w:World)(e:Ending)(w':World):Prop:=
 e=.returned (.tuple #[])/\Mod tb w w'/\
 match r with
 |some x=>QT w' tb l (a+(1+x.2):Nat) 0 d 34 x.1 0 a
 |none=>Yr w' tb l ⟨2,a⟩
theorem K9.ok{x:L8×Nat}(h:r=some x)(b:Mod tb w w')(c:QT w' tb l (a+(1+x.2):Nat) 0 d 34 x.1 0 a):K9 r tb l a d w (.returned (.tuple #[])) w':=by
 subst h;exact⟨rfl,b,c⟩
theorem K9.bad(h:r=none)(b:Mod tb w w')(c:Yr w' tb l ⟨2,a⟩):K9 r tb l a d w (.returned (.tuple #[])) w':=by
 subst h;exact⟨rfl,b,c⟩
theorem LR(tb:Nat)(l:L8)(a:Nat)(d k:Int)(s:L8)(n p:Int)(w:World)(h:QT w tb l a 0 d k s n p)(R:l.length<=600)(ha:a<l.length) :
 Calls prog 113 #[.pointer (some ⟨tb,0,none⟩)] w (K9 (qL (l.drop (a+1))) tb l a d w):=by
 have H:=I h;have hz:=QN l;have q:=Qr h;have y:=fun o=>Qu h o
 clear h;go_enter func113,ntmps113;go_wp2
 go_loopw [3] (fun v wr=>∃(b m:Nat) (acc:L8),a+1<=b/\b<=l.length/\m=b - (a+1)/\acc.length<=b/\v=.string (sA acc)/\QT wr tb l b 0 d k s n p/\Mod tb w wr/\qL (l.drop (a+1))=KN acc m (qL (l.drop b))) (fun _ wr=>l.length - atW wr tb)
 case atStart=>exact⟨a+1,0,[],Nat.le_refl _,ha,by omega,by simp,rfl,H.o.at_ _,(Mod.refl _ _).setCell _ _,by cases qL (l.drop (a+1))<;>rfl⟩
 case round=>
  obtain⟨b,m,acc,ae,hb,U,af,rfl,i,T,V⟩:=hrel;have j:=I i;have r:=I T;have u:=I V;clear q y;have A:=Qk i;have q:=Qr i;have M:=QV i;have N:=Q9 i;have P:=Zz i;have Q:=Yf i;have y:=fun o=>Qu i o
  clear i T V H;have ap:=QN acc;have F:=I U;clear U;by_cases hlt:b<(sA l).size;rotate_left
  ·obtain rfl:b=l.length:=by omega
   have D:=I (fun K=>KZ tb l l.length d k s n p ⟨2,a⟩ (wr.drewN K) j.o R (Nat.succ_ne_zero 1));have g:Hid (qL (l.drop (a+1))=none):=by show _=_;rw[u.o,Ph Ql];rfl
   go_wp2_with fail;go_quiet (fail);go_wp2_with fail;go_quiet (fail);go_wp2_with (go_at_call 70;refine(D.o _).mono ?_;rintro e w' ⟨rfl,J,G⟩);go_end0;exact K9.bad g.o (r.o.trans (Kl J)) G
  have ai:(b:Int)<(l.length:Int):=by omega
  have ad:(0:Int)<=(b:Int):=by omega
  by_cases h34:(sA l)[b]=34
  ·have g:Hid (qL (l.drop (a+1))=some (acc,1+m)):=by show _=_;rw[u.o,Lr hlt h34];simp[KN]
   have Y:(((sA l)[b].toNat:Int) != 34)=false:=by rw[h34];rfl
   have ab:decide ((l.length:Int)<=(b:Int))=false:=Qh (by omega);clear h34;go_wp2_with fail;go_quiet (fail);go_wp2_with fail;go_quiet (fail);have he:((a+(1+(1+m)):Nat):Int)=(b:Int)+1:=by have:=F.o;omega
   have W:=I he;clear he;go_wp2;go_end0;refine K9.ok g.o ((((((r.o.drewN).setCell _ _).setCell _ _).setCell _ _).setCell _ _).setCell _ _) ?_;show QT _ tb l ((a+(1+(1+m)):Nat):Int) 0 d 34 acc 0 a
   rw[W.o];exact Qt _ _ _ _ _ _ (Qt _ _ _ _ _ _ (Qt _ _ _ _ _ _ (Qt _ _ _ _ _ _ (Qt _ _ _ _ _ _ j.o))))
  have Y:(((sA l)[b].toNat:Int) != 34)=true:=by
   have h:¬(sA l)[b].toNat=34:=fun h=>h34 (UInt8.toNat_inj.1 h)
   simp;omega
  have ag:acc.length<=600:=by omega
  by_cases h92:(sA l)[b]=92;rotate_left
  ·have Z:(((sA l)[b].toNat:Int)==92)=false:=by
    have h:¬(sA l)[b].toNat=92:=fun h=>h92 (UInt8.toNat_inj.1 h)
    simp;omega
   have g:=I (u.o.trans (Mg (acc:=acc) (m:=m) hlt h34 h92));have B:=NI hlt;have aa:(sA [(sA l)[b]]).size=1:=rfl;have C:=I (K4 acc [(sA l)[b]]);have x:(b:Int)<=(b:Int)+1:=by omega
   have ah:(b:Int)+1<=(l.length:Int):=by omega
   have t:=I (j.o.at_ ((b:Int)+1));clear h34 h92;go_wp2_with fail;go_quiet (fail);go_wp2_with fail;go_quiet (fail);go_wp2_with fail;go_quiet (fail);go_wp2;rw[C.o];go_roundw
   case rel=>exact⟨b+1,m+1,acc++[(sA l)[b]],by omega,by omega,by have:=F.o;omega,by simp;omega,rfl,t.o,(r.o.drewN).setCell _ _,g.o⟩
   case measure=>exact JQ (b:=b+1) j.o t.o (by omega) (by omega)
  have Z:(((sA l)[b].toNat:Int)==92)=true:=by rw[h92];rfl
  have t:=I (j.o.at_ ((b:Int)+1));by_cases hend:b+1=l.length
  ·have g:Hid (qL (l.drop (a+1))=none):=by show _=_;rw[u.o,FC hlt h92 hend];rfl
   have he:(b:Int)+1=(l.length:Int):=by omega
   clear h34 h92;go_wp2_with fail;go_quiet (fail);go_wp2_with fail;go_quiet (fail);go_wp2_with fail;generalize hW:(wr.drewN _).setCell _ _=W1;have f:QT W1 tb l l.length 0 d k s n p:=by rw[<-hW,<-he];exact t.o
   have E:Hid (Mod tb w W1):=by rw[<-hW];exact(r.o.drewN).setCell _ _
   clear hW A q M N P Q y;have A:=Qk f;have q:=Qr f;have D:=I (fun K=>KZ tb l l.length d k s n p ⟨2,a⟩ (W1.drewN K) f R (Nat.succ_ne_zero 1));clear f;go_quiet (fail);go_wp2_with fail;go_quiet (fail);go_wp2_with (go_at_call 70;refine(D.o _).mono ?_;rintro e w' ⟨rfl,J,G⟩);go_end0;exact K9.bad g.o (E.o.trans (Kl J)) G
  ·obtain⟨c,x⟩:=QF (b+1);have S:c<(sA l).size:=by omega
   have g:Hid (qL (l.drop (a+1))=KN (acc++[(sA l)[c]]) (m+2) (qL (l.drop (c+1)))):=by
    show _=_
    subst x;exact u.o.trans (Mn (acc:=acc) (m:=m) hlt h92 S)
   have B:=NI S;have aa:(sA [(sA l)[c]]).size=1:=rfl;have C:=I (K4 acc [(sA l)[c]]);have X:=I B;have z:=I x;clear h34 h92 B;go_wp2_with fail;go_quiet (fail);go_wp2_with fail;go_quiet (fail);go_wp2_with fail;generalize hW:(wr.drewN _).setCell _ _=W1;have f:QT W1 tb l c 0 d k s n p:=by rw[<-hW,x];exact t.o
   have E:Hid (Mod tb w W1):=by rw[<-hW];exact(r.o.drewN).setCell _ _
   clear hW A q M N P Q y;have aj:(c:Int)<(l.length:Int):=by omega
   have ak:(c:Int)<=(c:Int)+1:=by omega
   have ao:(c:Int)+1<=(l.length:Int):=by omega
   have h0:(0:Int)<=(c:Int):=by omega
   have B:=X.o;have ac:((c:Int)==(l.length:Int))=false:=by simp;omega
   have A:=Qk f;have q:=Qr f;have y:=fun o=>Qu f o
   have L:=I (f.at_ ((c:Int)+1));clear f x hend;go_quiet (fail);go_wp2_with fail;go_quiet (fail);go_wp2;rw[C.o];go_roundw
   case rel=>exact⟨c+1,m+2,acc++[(sA l)[c]],by have:=z.o;omega,by omega,by have:=F.o;have:=z.o;omega,by have:=z.o;simp;omega,rfl,L.o,(E.o.drewN).setCell _ _,g.o⟩
   case measure=>exact JQ (b:=c+1) j.o L.o (by have:=z.o;omega) (by omega)
def adr(n:Nat):L8->Nat->Int->Bool
 | [],_,at_=>decide (0<at_)&&(decide (at_<(n:Int) - 1)&&decide (n<=32))
 |c::r,i,at_=>if Zn c.toNat || (c==64&&decide (0<=at_))then false else adr n r (i+1) (if c==64 then(i:Int)else at_)
theorem DY(n:Nat):∀(r:L8) (i:Nat) (a:Int),0<=a->adr n r i a=(r.all (fun c=>!Zn c.toNat)&&decide (r.count 64=0)&&(decide (0<a)&&(decide (a<(n:Int) - 1)&&decide (n<=32))))
 | [],i,a,h=>by simp[adr]
 |c::r,i,a,h=>by
  rw[adr,Qw h]
  cases hb:Zn c.toNat with
  |true=>simp[hb]
  |false=>
   by_cases hc:c=64
   ·subst hc;simp[hb]
   ·have b:(c==64)=false:=by simpa using hc
    rw[b];have d:=DY n r (i+1) a h;simp[hb,d,List.count_cons,hc]
theorem EJ(n:Nat):∀(r:L8) (i:Nat),adr n r i (-1)=(r.all (fun c=>!Zn c.toNat)&&decide (r.count 64=1)&&(decide (0<i+r.idxOf 64)&&(decide (((i+r.idxOf 64:Nat):Int)<(n:Int) - 1)&&decide (n<=32))))
 | [],i=>by simp[adr]
 |c::r,i=>by
  rw[adr,Qh (by omega)]
  cases hb:Zn c.toNat with
  |true=>simp[hb]
  |false=>
   by_cases hc:c=64
   ·subst hc;have a:=DY n r (i+1) i (by omega);have d:Zn (64:Int)=false:=rfl;simp[hb,a,d]
   ·have b:(c==64)=false:=by simpa using hc
    rw[b];have a:=EJ n r (i+1);have e:i+1+r.idxOf 64=i+(c::r).idxOf 64:=by rw[List.idxOf_cons,b];simp;omega
    simp only[Bool.false_and,Bool.or_false,Bool.false_eq_true,if_false,a,e];simp[hb,List.count_cons,hc]
theorem TI(x:L8):adr x.length x 0 (-1)=isAddrL x:=by
 rw[EJ];unfold isAddrL;rw[Zo];simp only[Bool.and_eq_true,decide_eq_true_eq,Nat.zero_add,bne_iff_ne,ne_eq];constructor
 ·rintro⟨⟨j,b⟩,i,g,d⟩
  have q:x.head?≠some 64:=by
   intro e
   match x,e with
   |c::r,e=>
    have:c=64:=by simpa using e
    subst this;simp at i
  have s:x.getLast?≠some 64:=by
   intro e
   obtain⟨y,rfl⟩:∃ y,x=y++[64]:=by
    have k:x≠[]:=by intro l;rw[l]at e;cases e
    have m:=List.getLast?_eq_some_getLast k;rw[m]at e;exact⟨x.dropLast,by rw[<-Option.some.inj e];exact(List.dropLast_concat_getLast k).symm⟩
   have t:64 ∉ y:=by
    intro f;have:=List.count_pos_iff.2 f;rw[List.count_append]at b;simp at b;omega
   rw[List.idxOf_append,if_neg t]at g;simp at g
  exact⟨by omega,d,b,j,q,s⟩
 ·rintro⟨j,b,i,g,d,n⟩;have f:64∈x:=List.count_pos_iff.1 (by omega);have hi:=List.idxOf_lt_length_of_mem f;refine⟨⟨g,i⟩,?_,?_,b⟩
  ·apply Nat.pos_of_ne_zero;intro a
   match x,a,d,f with
   |c::r,a,d,f=>
    rw[List.idxOf_cons]at a;by_cases hc:c=64
    ·subst hc;exact d rfl
    ·have o:(c==64)=false:=by simpa using hc
     rw[o]at a;simp at a
  ·have u:x.idxOf 64≠x.length - 1:=by
    intro e;have p:x[x.idxOf 64]'hi=64:=List.getElem_idxOf hi;apply n;rw[List.getLast?_eq_getElem?,List.getElem?_eq_getElem (by omega)];congr 1;rw[<-p];congr 1;omega
   omega
theorem FM(x:L8)(w:World)(u:x.length<=140737488355328) :
 Calls prog 78 #[.string (sA x)] w fun e w'=>e=.returned (.bool (isAddrL x))/\w'=w:=by
 have v:=QN x;rw[<-TI];go_enter func78,ntmps78;go_wp2
 go_loopw [3,4,5] (fun n g _ wr=>∃(k:Nat) (a:Int),k<=x.length/\g=.int .i64 k/\n=.int .i64 a/\-1<=a/\a<=k/\adr x.length x 0 (-1)=adr x.length (x.drop k) k a/\wr=w) (fun _ g _ _=>x.length - (intOf g).toNat)
 case atStart=>exact⟨0,-1,by omega,rfl,rfl,by omega,by omega,rfl,rfl⟩
 case round=>
  obtain⟨k,a,t,rfl,rfl,r,s,l,rfl⟩:=hrel;have f:=I l;clear l;by_cases hlt:k<(sA x).size
  ·have m:=ZC hlt;obtain⟨c,p⟩:=Qe ((sA x)[k]);rw[p]at m;rw[m]at f;have d:=I (Uv (c.toNat:Int) wr);have j:((c.toNat:Int)==64)=(c==64):=by rw[show((c.toNat:Int)==64)=decide (c=64)from Km c 64];by_cases h:c=64<;>simp[h]
   cases hb:Zn (c.toNat:Int)with
   |true=>
    have b:Hid (adr x.length x 0 (-1)=false):=by show _=_;rw[f.o,adr,show Zn c.toNat=true from hb];rfl
    rw[hb]at d;go_wp2_with fail;refine d.o.mono ?_;rintro e i ⟨rfl,rfl⟩;go_wp2;go_ret;exact⟨QS b.o.symm,rfl⟩
   |false=>
    rw[hb]at d
    cases h64:(c==64)with
    |true=>
     rw[h64]at j;by_cases ha:0<=a
     ·have b:Hid (adr x.length x 0 (-1)=false):=by show _=_;rw[f.o,adr,show Zn c.toNat=false from hb,h64,Qw ha];rfl
      go_wp2_with fail;refine d.o.mono ?_;rintro e i ⟨rfl,rfl⟩;go_wp2;go_ret;exact⟨QS b.o.symm,rfl⟩
     ·have b:Hid (adr x.length x 0 (-1)=adr x.length (x.drop (k+1)) (k+1) k):=by show _=_;rw[f.o,adr,show Zn c.toNat=false from hb,h64,Qh ha];rfl
      go_wp2_with fail;refine d.o.mono ?_;rintro e i ⟨rfl,rfl⟩;go_wp2;exact⟨⟨k+1,k,by omega,by go_num,rfl,by omega,by omega,b.o,by first|rfl|trivial⟩,by simp[intOf];omega⟩
    |false=>
     rw[h64]at j;have b:Hid (adr x.length x 0 (-1)=adr x.length (x.drop (k+1)) (k+1) a):=by show _=_;rw[f.o,adr,show Zn c.toNat=false from hb,h64];rfl
     go_wp2_with fail;refine d.o.mono ?_;rintro e i ⟨rfl,rfl⟩;go_wp2;exact⟨⟨k+1,a,by omega,by go_num,rfl,by omega,by omega,b.o,by first|rfl|trivial⟩,by simp[intOf];omega⟩
  ·have q:k=x.length:=by omega
   subst q;have b:Hid (adr x.length x 0 (-1)=(decide (0<a)&&(decide (a<(x.length:Int) - 1)&&decide (x.length<=32)))):=by show _=_;rw[f.o,Zb Ql];rfl
   by_cases h1:0<a
   all_goals by_cases h2:a<(x.length:Int) - 1
   all_goals by_cases h3:x.length<=32
   all_goals go_wp2
   all_goals go_ret
   all_goals exact⟨QS (by rw[b.o,Zo];simp only[Bool.and_eq_true,decide_eq_true_eq,Bool.false_eq_true];constructor<;>intro h<;>(first|omega|exact h.elim)),rfl⟩
end Go.Proofs.YtgnkjijocdmniaaGreatDoor
