import Derived.Test.YtgnkjijocdmniaaGreatDoorZNext
namespace Go.Proofs.YtgnkjijocdmniaaGreatDoor
set_option linter.all false
set_option maxRecDepth 100000
set_option maxHeartbeats 4000000
open Go.Proofs.Tryz
open Go.RowKit
variable{a b m tb:Nat}{acc l x:L8}{c d e k n p:Int}{f:Flt}{r:Option (L8×Nat)}{s:ByteArray}{w w':World}
section
attribute [local go_sem ↓] Zt Zu
theorem Y8(c:Int)(w:World):Calls prog 110 #[.int .u8 c] w fun e w'=>e=.returned (.bool (Q7 c))/\w'=w:=by
 go_enter func110,ntmps110;go_wp2
 all_goals (go_ret;exact⟨Zf (by simp[Q7, *];try omega),rfl⟩)
theorem Jx:Calls prog 109 #[.int .u8 c] w fun e w'=>e=.returned (.bool (Za c))/\w'=w:=by
 go_enter func109,ntmps109;go_wp2
 all_goals (go_ret;exact⟨Zf (by unfold Za Jb;rw[Xb];simp;omega),rfl⟩)
theorem GU:Calls prog 118 #[.int .u8 c] w fun e w'=>e=.returned (.bool (ZZ c))/\w'=w:=by
 go_enter func118,ntmps118;go_wp2
 all_goals (go_ret;exact⟨Zf (by simp only[ZZ];rw[Xb];simp[*]),rfl⟩)
theorem P'{c:UInt8}:(convert 198 9 (Qs w.heap.size 1 1)).run prog (w.alloc (Qe #[.int .u8 (c.toNat:Int)] 5))=.ok (.string (sA [c])) (w.alloc (Qe #[.int .u8 (c.toNat:Int)] 5)):=
 run_convert_bytes_back (P:=prog) _ 198 9 5 ⟨w.heap.size,0,none⟩ 1 [c] UA underlying5 Z2 (fun j hj=>by
  obtain rfl:j=0:=by simp at hj;omega
  rw [J8];exact Qj (Q0) 0)
theorem A0(w:World)(c:UInt8)(n:Int)(h:n=(c.toNat:Int)):(convert 198 9 (Qs w.heap.size 1 1)).run prog (w.alloc (Qe #[.int .u8 n] 5))=.ok (.string (sA [c])) (w.alloc (Qe #[.int .u8 n] 5)):=by
 subst h;exact P'
theorem TH{k:Nat}(h:k<x.length):zL (x.take (k+1))=zL (x.take k)++[YX x[k]]:=by
 rw[Y4 h];exact KC
theorem KA:type_of%@List.take_length:=@List.take_length
theorem J6(w:World)(s:x.length<=140737488355328):Calls prog 80 #[Qf x] w fun e w'=>e=.returned (Qf (zL x))/\Qo w w':=by
 have t:=Zc x;go_enter func80,ntmps80;go_wp2
 go_loopw [3,4] (fun o i wr=>∃k:Nat,k<=x.length/\i=Qa k/\o=Qf (zL (x.take k))/\Qo w wr) (fun _ i _=>x.length-(intOf i).toNat)
 case atStart=>exact⟨0,I,rfl,rfl,QO _ _⟩
 case round=>
  obtain⟨k,p,rfl,rfl,a⟩:=hrel;replace a:=O a;by_cases hlt:k<(sA x).size
  .have m:k<x.length:=I
   have b:=TH m;have j:x[k]=(sA x)[k]:=by simp[sA,ByteArray.getElem_eq_getElem_data]
   rw[j]at b;have q:(zL (x.take k)).length<=140737488355328:=by simp[zL];omega
   have u:=Zc (zL (x.take k));have f:=O (A0 wr (YX (sA x)[k]));have n:=UInt8.toNat_lt (sA x)[k];have v:(sA [YX (sA x)[k]]).size=1:=rfl;have d:=O (Gc (zL (x.take k)) [YX (sA x)[k]]);generalize zL (x.take k)=y at *;clear j;change Qd _ at b;by_cases h65:(65:Int)<=((sA x)[k].toNat:Int)
   .by_cases h90:((sA x)[k].toNat:Int)<=90
    .have r:=HJ (c:=(sA x)[k]) (by unfold Jb;simp;omega);go_wp2;rw[f _ I];go_wp2;rw[d.o];go_roundw
     case rel=>exact⟨k+1,I,by go_num,by rw[b.o],a.o.alloc (Below.size a) _⟩
     case measure=>simp[intOf];omega
    .have g:=O (Dp (sA x)[k] (by unfold Jb;simp;omega));go_wp2;rw[f _ (by have e:=ZI (fun c:UInt8=>(c.toNat:Int)) g;exact e.symm)];go_wp2;rw[d.o];go_roundw
     case rel=>exact⟨k+1,I,by go_num,by rw[b.o],a.o.alloc (Below.size a) _⟩
     case measure=>simp[intOf];omega
   .have g:=O (Dp (sA x)[k] (by unfold Jb;simp;omega));go_wp2;rw[f _ (by have e:=ZI (fun c:UInt8=>(c.toNat:Int)) g;exact e.symm)];go_wp2;rw[d.o];go_roundw
    case rel=>exact⟨k+1,I,by go_num,by rw[b.o],a.o.alloc (Below.size a) _⟩
    case measure=>simp[intOf];omega
  .have l:k=x.length:=I
   subst l;rw[KA];go_wp2;go_ret;exact⟨rfl,a⟩
end
theorem VD(c d:UInt8):((c.toNat:Int)==(d.toNat:Int))=decide (c=d):=by
 by_cases h:c=d
 .subst h;simp
 .rw[QB h];simp;intro e;exact h (Xi.1 I)
theorem EM(p:UInt8->Bool){k:Nat}(h:k<s.size):(s.data.toList.drop k).all p=(p s[k]&&(s.data.toList.drop (k+1)).all p):=by
 rw[YU h,List.all_cons]
theorem EH(s:ByteArray)(p:UInt8->Bool)(k:Nat)(h:s.size<=k):(s.data.toList.drop k).all p=true:=by
 rw[ZE (by simpa using h)];rfl
theorem Cc(h:0<s.size):s.data.toList.head?=some s[0]:=by
 have:=YU h;rw[Jm]at this;rw[this];rfl
theorem Ht(h:0<s.size):s.data.toList.isEmpty=false:=by
 have:=YU h;rw[Jm]at this;rw[this];rfl
theorem LM(r:s.size<=1000000):Calls prog 268 #[.string s] w fun e w'=>e=.returned (.bool (isBoxL s.data.toList))/\w'=w:=by
 have f:s.data.toList.length=s.size:=Qh
 by_cases h0:s.size=0
 .have j:=Aj h0;have a:isBoxL s.data.toList=false:=by rw[<-XL,j];rfl
  clear f;change Qd _ at a;go_enter func268,ntmps268;go_wp2;go_ret;exact⟨Zf a.symm,rfl⟩
 have j:=Ah h0;have p:s.toList.isEmpty=false:=by simpa using j
 have l:0<s.size:=I
 have b:=Ht l;by_cases h16:16<s.size
 .have a:isBoxL s.data.toList=false:=by unfold isBoxL;rw[b,QB I];rfl
  clear f b;change Qd _ at a;go_enter func268,ntmps268;go_wp2;go_ret;exact⟨Zf a.symm,rfl⟩
 have d:((s[0].toNat:Int)==46)=decide (s[0]=46):=VD s[0] 46;by_cases hd:s[0]=46
 .rw[QU hd]at d;have a:isBoxL s.data.toList=false:=by unfold isBoxL;rw[b,QU I,Cc l,hd];rfl
  clear f b hd;change Qd _ at a;go_enter func268,ntmps268;go_wp2;go_ret;exact⟨Zf a.symm,rfl⟩
 rw[QB hd]at d
 have a:isBoxL s.data.toList=(s.data.toList.drop 0).all US:=by
  unfold isBoxL;rw[b,QU I,Cc l,Jm];simp[hd]
 clear f b hd;change Qd _ at a;go_enter func268,ntmps268;go_wp2
 go_loop [19] (fun i=>∃k:Nat,k<=s.size/\i=Qa k/\isBoxL s.data.toList=(s.data.toList.drop k).all US) (fun i=>s.size-(intOf i).toNat)
 case atStart=>exact⟨0,I,rfl,a⟩
 case round=>
  obtain⟨k,q,rfl,g⟩:=hrel;clear d;change Qd _ at g;by_cases hlt:k<s.size;rotate_left
  .have c:=O (EH s US k I);go_wp2;go_ret;exact⟨Zf (by rw[g.o,c.o]),rfl⟩
  have c:=O (EM US hlt);have m:Hid (US s[k]=(Za (s[k].toNat:Int) || Q7 (s[k].toNat:Int) || s[k]==45 || s[k]==46)):=rfl;have n:((s[k].toNat:Int) != 45)=!(s[k]==45):=by rw[bne,show((s[k].toNat:Int)==45)=decide (s[k]=45)from VD s[k] 45];by_cases h:s[k]=45<;>simp[h]
  have d:((s[k].toNat:Int) != 46)=!(s[k]==46):=by rw[bne,show((s[k].toNat:Int)==46)=decide (s[k]=46)from VD s[k] 46];by_cases h:s[k]=46<;>simp[h]
  generalize (s[k]==45)=b45 at *;generalize (s[k]==46)=b46 at *
  cases hc:Za (s[k].toNat:Int)<;>cases hd:Q7 (s[k].toNat:Int)<;>cases b45<;>cases b46 <;>
  (go_wp2_with (first | (go_at_call 224;refine (X6).mono ?_;rintro e w' ⟨rfl,rfl⟩) | (go_at_call 227;refine (XQ).mono ?_;rintro e w' ⟨rfl,rfl⟩))
   first
    |(go_ret;exact⟨Zf (by rw[g.o,c.o,m.o,hc,hd];rfl),rfl⟩)
    | (go_round
       case rel=>exact⟨k+1,I,by go_num,by rw[g.o,c.o,m.o,hc,hd];rfl⟩
       case measure=>simp [intOf];omega))
section
attribute [local go_sem ↓] Zt Zu
theorem QuG{k:Nat}(h:k<x.length):capL (x.take (k+1))=capL (x.take k)++[Uu x[k]]:=by
 rw[Y4 h];exact KC
theorem Qt3(s:x.length<=140737488355328):Calls prog 81 #[Qf x] w fun e w'=>e=.returned (Qf (capL x))/\Qo w w':=by
 have t:=Zc x;go_enter func81,ntmps81;go_wp2
 go_loopw [3,4,5] (fun o i _ wr=>∃k:Nat,k<=x.length/\i=Qa k/\o=Qf (capL (x.take k))/\Qo w wr) (fun _ i _ _=>x.length-(intOf i).toNat)
 case atStart=>exact⟨0,I,rfl,rfl,QO _ _⟩
 case round=>
  obtain⟨k,p,rfl,rfl,a⟩:=hrel;replace a:=O a;by_cases hlt:k<(sA x).size
  .have m:k<x.length:=I
   have b:=QuG m;have j:x[k]=(sA x)[k]:=by simp[sA,ByteArray.getElem_eq_getElem_data]
   rw[j]at b;have q:(capL (x.take k)).length<=140737488355328:=by simp[capL];omega
   have u:=Zc (capL (x.take k));have f:=O (A0 wr (Uu (sA x)[k]));have n:=UInt8.toNat_lt (sA x)[k];have v:(sA [Uu (sA x)[k]]).size=1:=rfl;have d:=O (Gc (capL (x.take k)) [Uu (sA x)[k]]);generalize capL (x.take k)=y at *;clear j;change Qd _ at b;by_cases h65:(97:Int)<=((sA x)[k].toNat:Int)
   .by_cases h90:((sA x)[k].toNat:Int)<=122
    .have r:=Mw (c:=(sA x)[k]) (by unfold Ku;simp;omega);go_wp2;rw[f _ I];go_wp2;rw[d.o];go_roundw
     case rel=>exact⟨k+1,I,by go_num,by rw[b.o],a.o.alloc (Below.size a) _⟩
     case measure=>simp[intOf];omega
    .have g:=O (En (sA x)[k] (by unfold Ku;simp;omega));go_wp2;rw[f _ (by have e:=ZI (fun c:UInt8=>(c.toNat:Int)) g;exact e.symm)];go_wp2;rw[d.o];go_roundw
     case rel=>exact⟨k+1,I,by go_num,by rw[b.o],a.o.alloc (Below.size a) _⟩
     case measure=>simp[intOf];omega
   .have g:=O (En (sA x)[k] (by unfold Ku;simp;omega));go_wp2;rw[f _ (by have e:=ZI (fun c:UInt8=>(c.toNat:Int)) g;exact e.symm)];go_wp2;rw[d.o];go_roundw
    case rel=>exact⟨k+1,I,by go_num,by rw[b.o],a.o.alloc (Below.size a) _⟩
    case measure=>simp[intOf];omega
  .have l:k=x.length:=I
   subst l;rw[KA];go_wp2;go_ret;exact⟨rfl,a⟩
theorem QtO(M:Msg)(n tag:Int)(w:World)(a:tag=1\/tag=2):Calls prog 75 #[Qa M.size,Qa n,Qa tag] w fun e w'=>e=.returned (.bool (sizeB M tag n))/\w'=w:=by
 rcases a with rfl|rfl
 .go_enter func75,ntmps75;go_wp2;go_ret;exact⟨rfl,rfl⟩
 .go_enter func75,ntmps75;go_wp2;go_ret;exact⟨rfl,rfl⟩
theorem QzE(h:0<s.size):isBoxL s.data.toList=((s[0] != 46&&(s.data.toList.drop 0).all US)&&decide (s.size<=16)):=by
 unfold isBoxL;have a:s.data.toList.length=s.size:=Qh
 rw[Ht h,Cc h,a,Jm];cases decide (s.size<=16)<;>simp[bne]
theorem Qug(s:ByteArray)(w:World)(z:s.size<=140737488355328):Calls prog 77 #[.string s] w fun e w'=>e=.returned (.bool (isBoxL s.data.toList))/\w'=w:=by
 go_enter func77,ntmps77;go_wp2
 go_loop [3] (fun i=>∃k:Nat,k<=s.size/\i=Qa k/\(0<k->isBoxL s.data.toList=((s.data.toList.drop k).all US&&decide (s.size<=16)))) (fun i=>s.size-(intOf i).toNat)
 case atStart=>exact⟨0,I,rfl,fun h=>absurd h (Nat.lt_irrefl _)⟩
 case round=>
  obtain⟨k,x,rfl,f⟩:=hrel;change Qd _ at f;by_cases hlt:k<s.size;rotate_left
  .by_cases h0:s.size=0
   .have t:=Aj h0;have r:Hid (isBoxL s.data.toList=false):=by show _=_;rw[<-XL,t];rfl
    have d:k=0:=I
    subst d;go_wp2;go_ret;exact⟨Zf r.symm,rfl⟩
   have a:=O (EH s US k I);have g:=O (f I);by_cases h16:s.size<=16
   .go_wp2;go_ret;exact⟨Zf (by rw[g.o,a.o,KE];exact decide_eq_decide.2 I),rfl⟩
   .go_wp2;go_ret;exact⟨Zf (by rw[g.o,a.o,KE];exact decide_eq_decide.2 I),rfl⟩
  have a:=O (EM US hlt);have c:Hid (US s[k]=(Za (s[k].toNat:Int) || Q7 (s[k].toNat:Int) || s[k]==45 || s[k]==46)):=rfl;have u:((s[k].toNat:Int) != 45)=!(s[k]==45):=by rw[bne,show((s[k].toNat:Int)==45)=decide (s[k]=45)from VD s[k] 45];by_cases h:s[k]=45<;>simp[h]
  have v:((s[k].toNat:Int) != 46)=!(s[k]==46):=by rw[bne,show((s[k].toNat:Int)==46)=decide (s[k]=46)from VD s[k] 46];by_cases h:s[k]=46<;>simp[h]
  by_cases d:k=0
  .subst d;have j:=O (QzE hlt);have m:Hid ((s[0] != 46)=!(s[0]==46)):=rfl
   have p:Za (s[0].toNat:Int)=true->(s[0]==46)=false:=fun h=>by
    cases e:s[0]==46 with
    |false=>rfl
    |true=>
     have b:s[0]=46:=by simpa using e
     rw[b]at h;cases h
   have q:Q7 (s[0].toNat:Int)=true->(s[0]==46)=false:=fun h=>by
    cases e:s[0]==46 with
    |false=>rfl
    |true=>
     have b:s[0]=46:=by simpa using e
     rw[b]at h;cases h
   have n:(s[0]==45)=true->(s[0]==46)=false:=fun h=>by
    have b:s[0]=45:=by simpa using h
    rw[b];rfl
   change Qd _ at p q n;generalize (s[0]==45)=b45 at *;generalize (s[0]==46)=b46 at *
   cases hc:Za (s[0].toNat:Int)<;>cases hd:Q7 (s[0].toNat:Int)<;>cases b45<;>cases b46 <;>
   (first
     |(exact absurd (p hc) Qb)
     |(exact absurd (q hd) Qb)
     |(exact absurd (n rfl) Qb)
     | (go_wp2_with (first | (go_at_call 109;refine (Jx).mono ?_;rintro e w' ⟨rfl,rfl⟩) | (go_at_call 110;refine (Y8 _ _).mono ?_;rintro e w' ⟨rfl,rfl⟩))
        first
         |(go_ret;exact⟨Zf (by rw[j.o,a.o,c.o,m.o,hc,hd];simp),rfl⟩)
         | (go_round
            case rel=>exact⟨0+1,I,by go_num,fun _=>by rw[j.o,a.o,c.o,m.o,hc,hd];simp⟩
            case measure=>simp [intOf];omega)))
  .have y:¬((k:Nat):Int)=0:=I
   have l:=O (f I);generalize (s[k]==45)=b45 at *;generalize (s[k]==46)=b46 at *
   cases hc:Za (s[k].toNat:Int)<;>cases hd:Q7 (s[k].toNat:Int)<;>cases b45<;>cases b46 <;>
   (go_wp2_with (first | (go_at_call 109;refine (Jx).mono ?_;rintro e w' ⟨rfl,rfl⟩) | (go_at_call 110;refine (Y8 _ _).mono ?_;rintro e w' ⟨rfl,rfl⟩))
    first
     |(go_ret;exact⟨Zf (by rw[l.o,a.o,c.o,hc,hd];simp),rfl⟩)
     | (go_round
        case rel=>exact⟨k+1,I,by go_num,fun _=>by rw[l.o,a.o,c.o,hc,hd];simp⟩
        case measure=>simp [intOf];omega))
def Ca(l:L8)(a e d k:Int)(s:L8)(n p:Int):Array Value:=
 #[Qf l,Qa a,Qa e,Qa d,.int .u8 k,Qf s,Qa n,Qa p]
def QT(w:World)(tb:Nat)(l:L8)(a e d k:Int)(s:L8)(n p:Int):Prop:=
 w.heap[tb]?=some (Qe (Ca l a e d k s n p) 138)
theorem QT.lt{a:Int}{s:L8}(h:QT w tb l a e d k s n p):tb<w.heap.size:=QI h
theorem QT.below{a:Int}{s:L8}(h:QT w tb l a e d k s n p)(hb:Qo w w'):QT w' tb l a e d k s n p:=Ze h hb
theorem QT.at_{a:Int}{s:L8}(h:QT w tb l a e d k s n p)(a':Int):QT (w.setCell ⟨tb,1,none⟩ (Qa a')) tb l a' e d k s n p:=QM h
def JZ(w:World)(tb:Nat)(l:L8)(f:Flt):Prop:=QT w tb l l.length f.err f.pos 0 [] 0 l.length/\f.err≠0
theorem V8{a:Int}{s:L8}(f:Flt)(h:QT w tb l a 0 d k s n p)(x:l.length<=600)(c:f.err≠0):Calls prog 70 #[Qc tb,Qa f.err,Qa f.pos] w fun e w'=>e=.returned (.tuple #[])/\Mod tb w w'/\JZ w' tb l f:=by
 have b:=fun o=>Qj h o
 have v:=fun o=>QQ h o
 have g:w.cell? (Ql tb 0)=some (Qf l):=b 0;have i:w.cell? (Ql tb 1)=some (Qa a):=b 1;have j:w.cell? (Ql tb 2)=some (Qa 0):=b 2;have m:w.cell? (Ql tb 3)=some (Qa d):=b 3;have q:w.cell? (Ql tb 4)=some (.int .u8 k):=b 4;have r:w.cell? (Ql tb 5)=some (Qf s):=b 5;have t:w.cell? (Ql tb 6)=some (Qa n):=b 6;have u:w.cell? (Ql tb 7)=some (Qa p):=b 7;have y:=Zc l;clear b;change Qd _ at h;go_enter func70,ntmps70;go_wp2;go_end0;exact⟨rfl,((((((((Mod.refl tb w).setCell _ _).setCell _ _).setCell _ _).setCell _ _).setCell _ _).setCell _ _).setCell _ _),QM (QM (QM (QM (QM (QM (QM h)))))),c⟩
theorem Qu9{x y:Int}(h:JZ w tb l f):Calls prog 70 #[Qc tb,Qa x,Qa y] w fun e w'=>e=.returned (.tuple #[])/\w'=w:=by
 have b:=Xx h.1;have a:¬(f.err:Int)=0:=by have:=h.2;omega
 have c:((f.err:Int)==0)=false:=by simpa using a
 clear h;go_enter func70,ntmps70;go_wp2;go_end0;exact⟨rfl,rfl⟩
def atW(w:World)(tb:Nat):Nat:=
 match w.heap[tb]? with
 |some (.cells cs _ _)=>(intOf (cs.getD 1 undef)).toNat
 |_=>0
theorem QT.atW{w:World}{tb:Nat}{l:L8}{a:Nat}{e d k:Int}{s:L8}{n p:Int}(h:QT w tb l a e d k s n p):atW w tb=a:=by
 unfold Go.Proofs.YtgnkjijocdmniaaGreatDoor.atW;rw[h];simp[Ca,intOf]
theorem Mod.drewN{b:Nat}{u w:World}{n:Nat}(h:Mod b u w):Mod b u (w.drewN n):=⟨h.os,h.tape,h.output,h.size,h.block⟩
theorem U_{w1 c:World}{f k1:Int}{n:L8}{p1 g k2:Int}{o:L8}{m p2:Int}(i:QT w1 tb l a f d k1 n k p1)(j:QT c tb l b g e k2 o m p2)(p:a<b)(q:b<=l.length):l.length-atW c tb<l.length-atW w1 tb:=by
 rw[i.atW,j.atW];omega
theorem VC{u:World}{n:Nat}(h:Mod b (u.drewN n) w):Mod b u w:=⟨h.os,h.tape,h.output,h.size,h.block⟩
def KR(r:Qq Nat)(tb:Nat)(l:L8)(d k:Int)(s:L8)(n p:Int)(w:World)(e:Ending)(w':World):Prop:=
 e=.returned (.tuple #[])/\Mod tb w w'/\
 match r with
 | .ok m=>QT w' tb l m 0 d k s n p/\m<=l.length
 | .error f=>JZ w' tb l f
theorem KR.ok{r:Qq Nat}{tb:Nat}{l:L8}{d k:Int}{s:L8}{n p:Int}{w w':World}{m:Nat}(h:r=.ok m)(b:Mod tb w w')(c:QT w' tb l m 0 d k s n p)(a:m<=l.length):KR r tb l d k s n p w (.returned (.tuple #[])) w':=by
 subst h;exact⟨rfl,b,c,a⟩
theorem KR.err{r:Qq Nat}{s:L8}(h:r=.error f)(a:Mod tb w w')(b:JZ w' tb l f):KR r tb l d k s n p w (.returned (.tuple #[])) w':=by
 subst h;exact⟨rfl,a,b⟩
theorem KR.cases{r:Qq Nat}{tb:Nat}{l:L8}{d k:Int}{s:L8}{n p:Int}{w w':World}{e:Ending}(h:KR r tb l d k s n p w e w'):e=.returned (.tuple #[])/\Mod tb w w'/\((∃m,r=.ok m/\QT w' tb l m 0 d k s n p/\m<=l.length)\/∃f,r=.error f/\JZ w' tb l f):=by
 obtain⟨b,c,a⟩:=h;refine⟨b,c,?_⟩
 cases r with
 |ok m=>exact Qt ⟨m,rfl,a⟩
 |error f=>exact Qr ⟨f,rfl,a⟩
theorem Xm(h:a<(sA l).size):l.drop a=(sA l)[a]::l.drop (a+1):=by
 have b:=h;rw[Xt b];congr 1
theorem Qu4{s:L8}(h:QT w tb l a 0 d k s n p)(hl:l.length<=600)(ha:a<=l.length):Calls prog 108 #[.pointer (some ⟨tb,0,none⟩)] w (KR (skipS (l.drop a) a) tb l d k s n p w):=by
 have H:=O h;have hz:=Zc l;clear h;go_enter func108,ntmps108;go_wp2
 go_loopw [2,3,4] (fun _ _ _ wr=>∃b:Nat,b<=l.length/\QT wr tb l b 0 d k s n p/\Mod tb w wr/\skipS (l.drop a) a=skipS (l.drop b) b) (fun _ _ _ wr=>l.length-atW wr tb)
 case atStart=>exact⟨a,ha,H.o,Mod.refl _ _,rfl⟩
 case round=>
  obtain⟨b,z,i,t,u⟩:=hrel;have HQ:=O i;have HM:=O t;have HS:=O u;have B:=Zs i;have C:=Q9 i;have D:=fun o=>QQ i o
  clear i t u H;by_cases hlt:b<(sA l).size;rotate_left
  .have T:¬(b:Int)<(l.length:Int):=by omega
   go_wp2_with fail;go_quiet (fail);go_wp2;go_end0;exact KR.ok (HS.o.trans (by rw[ZE (by omega)];rfl)) HM.o.drewN HQ.o z
  have T:(b:Int)<(l.length:Int):=by omega
  have x:=O (Xm hlt);have ag:(0:Int)<=(b:Int):=by omega
  go_wp2_with fail;go_quiet (fail);go_wp2_with fail;go_quiet (fail);cases hbl:ZZ ((sA l)[b].toNat:Int);rotate_left
  .have X:Hid (skipS (l.drop a) a=skipS (l.drop (b+1)) (b+1)):=by
    show _=_
    rw[HS.o,x.o,Ha _ _ hbl]
   have P:=O (HQ.o.at_ ((b:Int)+1));go_wp2_with (go_at_call 118;refine(GU).mono ?_;rintro e v ⟨rfl,rfl⟩);go_roundw
   case rel=>exact⟨b+1,by omega,P.o,(HM.o.drewN).setCell _ _,X.o⟩
   case measure=>
    exact U_ (b:=b+1) HQ.o P.o (by omega) (by omega)
  by_cases h35:(sA l)[b]=35
  .have Y:Hid (skipS (l.drop a) a=VM (l.drop b) b):=by
    show _=_
    rw[HS.o,x.o,S7 (by rw[h35];rfl)]
   have av:=O h35;go_wp2_with (go_at_call 118;refine(GU).mono ?_;rintro e v ⟨rfl,rfl⟩);clear h35;generalize hW:wr.drewN _=W;have J:Hid (QT W tb l b 0 d k s n p):=by rw[<-hW];exact HQ.o
   have G:Hid (Mod tb w W):=by rw[<-hW];exact HM.o.drewN
   clear hW B C D T
   go_loopw [] (fun r=>∃c:Nat,b<=c/\c<=l.length/\QT r tb l c 0 d k s n p/\Mod tb w r/\skipS (l.drop a) a=VM (l.drop c) c) (fun r=>l.length-atW r tb)
   case atStart=>exact⟨b,Q4 _,z,J.o,G.o,Y.o⟩
   case round=>
    obtain⟨c,S,A,f,m,q⟩:=hrel;have P:=O f;have ar:=O m;have au:=O q;have B:=Zs f;have C:=Q9 f;have D:=fun o=>QQ f o
    clear f m q;by_cases hlt2:c<(sA l).size
    .have E:(c:Int)<(l.length:Int):=by omega
     have aa:(0:Int)<=(c:Int):=by omega
     have y:=O (Xm hlt2);by_cases h10:(sA l)[c]=10
     .have g:Hid (skipS (l.drop a) a=skipS (l.drop c) c):=by
       show _=_
       rw[au.o,y.o,VM,Qi h10]
      have ab:b<c:=by
       rcases Nat.lt_or_eq_of_le S with h|h
       .exact h
       .subst h;rw[av.o]at h10;cases h10
      go_wp2_with fail;go_quiet (fail);go_wp2;go_roundw
      case rel=>exact⟨c,A,P.o,ar.o.drewN,g.o⟩
      case measure=>exact U_ HQ.o P.o ab A
     .have g:Hid (skipS (l.drop a) a=VM (l.drop (c+1)) (c+1)):=by
       show _=_
       rw[au.o,y.o,VM,Qg h10]
      have aj:(((sA l)[c].toNat:Int) != 10)=true:=by
       have h:¬(sA l)[c].toNat=10:=fun h=>h10 (Xi.1 h)
       simp;omega
      have j:=O (P.o.at_ ((c:Int)+1));go_wp2_with fail;go_quiet (fail);go_wp2;go_roundw
      case rel=>exact⟨c+1,by omega,by omega,j.o,(ar.o.drewN).setCell _ _,g.o⟩
      case measure=>exact U_ (b:=c+1) P.o j.o (by omega) (by omega)
    .have E:¬(c:Int)<(l.length:Int):=by omega
     have ae:decide ((c:Int)<(l.length:Int))=false:=QB E
     have g:Hid (skipS (l.drop a) a=skipS (l.drop c) c):=by
      show _=_
      rw[au.o,ZE (by omega)];rfl
     have U:Hid (b<c):=by show b<c;omega
     obtain rfl:c=l.length:=by omega
     clear hlt2 E ae;go_wp2_with fail;go_quiet (fail);go_wp2;go_roundw
     case rel=>exact⟨l.length,A,P.o,ar.o.drewN,g.o⟩
     case measure=>exact U_ HQ.o P.o U.o A
  by_cases h47:(sA l)[b]=47;rotate_left
  .have g:Hid (skipS (l.drop a) a=.ok b):=by
    show _=_
    rw[HS.o,x.o];exact C8 hbl h35 (fun h=>h47 h.1)
   have Q:(((sA l)[b].toNat:Int)==35)=false:=by
    have h:¬(sA l)[b].toNat=35:=fun h=>h35 (Xi.1 h)
    simp;omega
   have af:(((sA l)[b].toNat:Int)==47)=false:=by
    have h:¬(sA l)[b].toNat=47:=fun h=>h47 (Xi.1 h)
    simp;omega
   clear h35 h47;go_wp2_with (first|(go_at_call 118;refine(GU).mono ?_;rintro e v ⟨rfl,rfl⟩)|fail);go_quiet (fail);go_wp2;go_end0;exact KR.ok g.o HM.o.drewN.drewN HQ.o z
  have Q:(((sA l)[b].toNat:Int)==35)=false:=by rw[h47];rfl
  by_cases hend:b+1=l.length
  .have g:Hid (skipS (l.drop a) a=.ok b):=by
    show _=_
    rw[HS.o,x.o];refine C8 hbl h35 (fun h=>?_);rw[ZE (by omega)]at h;cases h.2
   have ao:(b:Int)+1=(l.length:Int):=by omega
   clear h35 hend;go_wp2_with (first|(go_at_call 118;refine(GU).mono ?_;rintro e v ⟨rfl,rfl⟩)|fail);go_quiet (fail);go_wp2;go_end0;exact KR.ok g.o HM.o.drewN.drewN HQ.o z
  have ac:b+1<(sA l).size:=by omega
  have ap:(b:Int)+1<(l.length:Int):=by omega
  have ah:(0:Int)<=(b:Int)+1:=by omega
  have M:=O (Xm ac);by_cases h42:(sA l)[b+1]=42;rotate_left
  .have g:Hid (skipS (l.drop a) a=.ok b):=by
    show _=_
    rw[HS.o,x.o];refine C8 hbl h35 (fun h=>?_);rw[M.o]at h;exact h42 (ZK h.2)
   have R:(((sA l)[b+1].toNat:Int)==42)=false:=by
    have h:¬(sA l)[b+1].toNat=42:=fun h=>h42 (Xi.1 h)
    simp;omega
   clear h35 h42;go_wp2_with (first|(go_at_call 118;refine(GU).mono ?_;rintro e v ⟨rfl,rfl⟩)|fail);go_quiet (fail);go_wp2;go_end0;exact KR.ok g.o HM.o.drewN.drewN HQ.o z
  have Z:Hid (skipS (l.drop a) a=Uo b (l.drop (b+1+1)) (b+2)):=by
   show _=_
   rw[HS.o,x.o,M.o,h47,h42,Wl]
  have R:(((sA l)[b+1].toNat:Int)==42)=true:=by rw[h42];rfl
  clear h35 h42;go_wp2_with (first|(go_at_call 118;refine(GU).mono ?_;rintro e v ⟨rfl,rfl⟩)|fail);go_quiet (fail);go_wp2;have V:=O (HQ.o.at_ ((b:Int)+2));generalize hW:(wr.drewN _).setCell _ _=W;have J:Hid (QT W tb l (b+2:Nat) 0 d k s n p):=by rw[<-hW];exact V.o
  have G:Hid (Mod tb w W):=by rw[<-hW];exact(HM.o.drewN).setCell _ _
  clear hW B C D Q R
  go_loopw [] (fun r=>∃c:Nat,b+2<=c/\c<=l.length/\QT r tb l c 0 d k s n p/\Mod tb w r/\skipS (l.drop a) a=Uo b (l.drop c) c) (fun r=>l.length-atW r tb)
  case atStart=>exact⟨b+2,Q4 _,by omega,J.o,G.o,Z.o⟩
  case round=>
   obtain⟨c,S,A,f,m,q⟩:=hrel;have P:=O f;have ar:=O m;have au:=O q;have B:=Zs f;have C:=Q9 f;have D:=fun o=>QQ f o
   clear f m q;by_cases hlt2:c+1<(sA l).size
   .have E:(c:Int)+1<(l.length:Int):=by omega
    have ad:c<(sA l).size:=by omega
    have aq:(c:Int)<(l.length:Int):=by omega
    have aa:(0:Int)<=(c:Int):=by omega
    have ai:(0:Int)<=(c:Int)+1:=by omega
    have y:=O (Xm ad);have F:=O (Xm hlt2);by_cases h42:(sA l)[c]=42;rotate_left
    .have g:Hid (skipS (l.drop a) a=Uo b (l.drop (c+1)) (c+1)):=by
      show _=_
      rw[au.o,y.o,F.o,Uo,Qg (fun h=>h42 h.1)]
     have g1:(((sA l)[c].toNat:Int) != 42)=true:=by
      have h:¬(sA l)[c].toNat=42:=fun h=>h42 (Xi.1 h)
      simp;omega
     have j:=O (P.o.at_ ((c:Int)+1));clear h42;go_wp2_with fail;go_quiet (fail);go_wp2;go_roundw
     case rel=>exact⟨c+1,by omega,by omega,j.o,(ar.o.drewN).setCell _ _,g.o⟩
     case measure=>exact U_ (b:=c+1) P.o j.o (by omega) (by omega)
    have g1:(((sA l)[c].toNat:Int) != 42)=false:=by rw[h42];rfl
    by_cases h47':(sA l)[c+1]=47;rotate_left
    .have g:Hid (skipS (l.drop a) a=Uo b (l.drop (c+1)) (c+1)):=by
      show _=_
      rw[au.o,y.o,F.o,Uo,Qg (fun h=>h47' h.2)]
     have g2:(((sA l)[c+1].toNat:Int) != 47)=true:=by
      have h:¬(sA l)[c+1].toNat=47:=fun h=>h47' (Xi.1 h)
      simp;omega
     have j:=O (P.o.at_ ((c:Int)+1));clear h42 h47';go_wp2_with fail;go_quiet (fail);go_wp2;go_roundw
     case rel=>exact⟨c+1,by omega,by omega,j.o,(ar.o.drewN).setCell _ _,g.o⟩
     case measure=>exact U_ (b:=c+1) P.o j.o (by omega) (by omega)
    have g2:(((sA l)[c+1].toNat:Int) != 47)=false:=by rw[h47'];rfl
    have g:Hid (skipS (l.drop a) a=skipS (l.drop (c+1+1)) (c+1+1)):=by
     show _=_
     rw[au.o,y.o,F.o,Uo,Qi ⟨h42,h47'⟩]
    have j:=O (P.o.at_ ((c:Int)+2));have g3:decide ((l.length:Int)<=(c:Int)+1)=false:=QB (by omega);clear h42 h47';go_wp2_with fail;go_quiet (fail);go_wp2_with fail;go_quiet (fail);go_wp2;go_roundw
    case rel=>exact⟨c+1+1,by omega,j.o,(ar.o.drewN).setCell _ _,g.o⟩
    case measure=>exact U_ (b:=c+1+1) HQ.o j.o (by omega) (by omega)
   .have g:Hid (skipS (l.drop a) a=.error ⟨2,b⟩):=by
     show _=_
     rw[au.o];rcases Ki c l.length with h|h
     .rw[Xm (a:=c) (by omega),ZE (by omega)];rfl
     .rw[ZE (by omega)];rfl
    have N:=O (fun n'=>V8 (tb:=tb) (l:=l) (a:=c) (d:=d) (k:=k) (s:=s) (n:=n) (p:=p) ⟨2,b⟩ (w:=wr.drewN n') P.o hl (Yh 1));rcases Ki c l.length with hbl2|hbl2
    .have he:(c:Int)+1=(l.length:Int):=by omega
     clear hlt2 hbl2;go_wp2_with fail;go_quiet (fail);go_wp2_with fail;go_quiet (fail);go_wp2_with (go_at_call 70;refine(N.o _).mono ?_;rintro e v ⟨rfl,L,K⟩);go_end0;exact KR.err g.o (ar.o.trans (VC L)) K
    .obtain rfl:c=l.length:=by omega
     have he:decide ((l.length:Int)+1<(l.length:Int))=false:=QB (by omega);have ak:decide ((l.length:Int)<=(l.length:Int)+1)=true:=QU (by omega);clear hlt2 hbl2;go_wp2_with fail;go_quiet (fail);go_wp2_with fail;go_quiet (fail);go_wp2_with (go_at_call 70;refine(N.o _).mono ?_;rintro e v ⟨rfl,L,K⟩);go_end0;exact KR.err g.o (ar.o.trans (VC L)) K
theorem Fw(h:b<(sA l).size)(a:Zr (sA l)[b]=true):b+ZF (l.drop b)=(b+1)+ZF (l.drop (b+1)):=by
 rw[Xm h];unfold ZF;rw[List.takeWhile_cons_of_pos a,Q1];omega
theorem Ft(h:b<(sA l).size)(a:Zr (sA l)[b]=false):ZF (l.drop b)=0:=by
 rw[Xm h];unfold ZF;rw[List.takeWhile_cons_of_neg (by rw[a];decide)];rfl
theorem FB(h:l.length<=b):ZF (l.drop b)=0:=by
 rw[ZE h];rfl
theorem UC(x:L8)(a b:Nat):(sA x).extract a b=sA ((x.drop a).take (b-a)):=by
 apply ByteArray.ext;apply Array.ext';simp[sA]
def EX(tb:Nat)(l:L8)(a:Nat)(d k:Int)(s:L8)(n p:Int)(w:World)(e:Ending)(w':World):Prop:=
 e=.returned (.string (sA (zL ((l.drop a).take (ZF (l.drop a))))))/\Mod tb w w'/\QT w' tb l (a+ZF (l.drop a):Nat) 0 d k s n p/\a+ZF (l.drop a)<=l.length
theorem LN{s:L8}(j:a+ZF (l.drop a)=b+ZF (l.drop b))(m:ZF (l.drop b)=0)(o:a<=b)(f:b<=l.length)(g:Mod tb w w')(i:QT w' tb l b 0 d k s n p):EX tb l a d k s n p w (.returned (.string (sA (zL ((l.drop a).take (b-a)))))) w':=by
 have e:b=a+ZF (l.drop a):=I
 have c:b-a=ZF (l.drop a):=I
 unfold EX;rw[c];rw[<-e];exact⟨rfl,g,i,f⟩
theorem Kg:type_of%@Go.Calls.quiet_of_same:=@Go.Calls.quiet_of_same
theorem I'{s:L8}(h:QT w tb l a 0 d k s n p)(Q:l.length<=600)(H:a<=l.length):Calls prog 111 #[Qc tb] w (EX tb l a d k s n p w):=by
 have S:=Zc l;have c:=Q9 h;change Qd _ at h;go_enter func111,ntmps111;go_wp2
 go_loopw [4,5] (fun _ _ wr=>∃b:Nat,a<=b/\b<=l.length/\QT wr tb l b 0 d k s n p/\Mod tb w wr/\a+ZF (l.drop a)=b+ZF (l.drop b)) (fun _ _ wr=>l.length-atW wr tb)
 case atStart=>exact⟨a,Q4 _,H,h,Mod.refl _ _,rfl⟩
 case round=>
  obtain⟨b,E,F,m,B,v⟩:=hrel;clear c;have g:=Zs m;have c:=Q9 m;have A:=fun o=>QQ m o
  clear h;change Qd _ at m B v;have P:=UC l a b;have M:(a:Int)<=(b:Int):=I
  have N:(b:Int)<=(l.length:Int):=I
  have K:(0:Int)<=(a:Int):=I
  have L:(0:Int)<=(b:Int):=I
  by_cases hlt:b<(sA l).size;rotate_left
  .obtain rfl:b=l.length:=I
   have r:=O (FB (l:=l) (b:=l.length) QF);have x:Hid (((l.drop a).take (l.length-a)).length<=140737488355328):=by show _<=_;simp;omega
   go_wp2_with fail;go_quiet (fail);go_wp2_with fail;generalize hW:wr.drewN _=W1;have f:QT W1 tb l l.length 0 d k s n p:=by rw[<-hW];exact m
   have y:Hid (Mod tb w W1):=by rw[<-hW];exact B.drewN
   clear hW g c A;have g:=Zs f;have c:=Q9 f;change Qd _ at f;go_region_held3 (fun t=>t.cell? (Ql tb 0)=some (Qf l)/\t.cell? (Ql tb 1)=some (Qa l.length)) (first|go_keep|exact⟨Qj i 0,Qj i 1⟩) (first|(go_at_call 80;refine Qv (J6 W1.drew x) ?_;rintro J j;have i:=O (QT.below (w:=W1.drew) f j);have z:=O (y.o.drew.trans (Mod.of_below j));clear j;skip))
   all_goals go_wp2
   all_goals go_ret
   all_goals exact LN v r E F z i
  have R:(b:Int)<(l.length:Int):=I
  go_wp2_with fail;go_quiet (fail);go_wp2_with fail;generalize hW:wr.drewN _=W1;have f:QT W1 tb l b 0 d k s n p:=by rw[<-hW];exact m
  have y:Hid (Mod tb w W1):=by rw[<-hW];exact B.drewN
  clear hW g c A;have g:=Zs f;have c:=Q9 f;change Qd _ at f;go_quiet (first|(go_at_call 109;refine Kg (Jx)));go_wp2_with fail;generalize hW:W1.drewN _=W2;have u:QT W2 tb l b 0 d k s n p:=by rw[<-hW];exact f
  have G:Hid (Mod tb w W2):=by rw[<-hW];exact y.drewN
  clear hW g c;have g:=Zs u;have c:=Q9 u;change Qd _ at u;go_quiet (first|(go_at_call 110;refine Kg (Y8 _ _)));generalize hW:W2.drewN _=W3;have q:QT W3 tb l b 0 d k s n p:=by rw[<-hW];exact u
  have C:Hid (Mod tb w W3):=by rw[<-hW];exact G.drewN
  clear hW g c;have g:=Zs q;have c:=Q9 q;have A:=fun o=>QQ q o
  replace q:=O q;cases hc:Za ((sA l)[b].toNat:Int)<;>cases hd:Q7 ((sA l)[b].toNat:Int)
  case false.false=>
   have r:=O (Ft hlt (by unfold Zr;rw[hc,hd];rfl));have x:Hid (((l.drop a).take (b-a)).length<=140737488355328):=by show _<=_;simp;omega
   go_wp2_with fail;go_region_held3 (fun t=>t.cell? (Ql tb 0)=some (Qf l)/\t.cell? (Ql tb 1)=some (Qa b)) (first|go_keep|exact⟨Qj i 0,Qj i 1⟩) (first|(go_at_call 80;refine Qv (J6 W3.drew x) ?_;rintro J j;have i:=O (QT.below (w:=W3.drew) q j);have z:=O (C.o.drew.trans (Mod.of_below j));clear j;skip))
   all_goals go_wp2
   all_goals go_ret
   all_goals exact LN v r E F z i
  all_goals
   have r:=O (Fw hlt (by unfold Zr;rw[hc,hd];rfl));have D:=O (q.o.at_ ((b:Int)+1));go_wp2;go_roundw
   case rel=>exact⟨b+1,I,I,D,C.setCell _ _,v.o.trans r⟩
   case measure=>exact U_ (b:=b+1) m D I I
def VV(acc:L8)(m:Nat)(r:Option (L8×Nat)):Option (L8×Nat):=r.map fun x=>(acc++x.1,x.2+m)
theorem Qws(h:l.length<=b):qL (l.drop b)=none:=by rw[ZE h];rfl
theorem Wq(h:b<(sA l).size)(a:(sA l)[b]=34):qL (l.drop b)=some ([],1):=by
 rw[Xm h,a,qL.eq_def];rfl
theorem RO(h:b<(sA l).size)(a:(sA l)[b]=92)(he:b+1=l.length):qL (l.drop b)=none:=by
 rw[Xm h,a,ZE I,qL.eq_def];rfl
theorem QsT(h:b<(sA l).size)(c:(sA l)[b]=92)(a:b+1<(sA l).size):VV acc m (qL (l.drop b))=VV (acc++[(sA l)[b+1]]) (m+2) (qL (l.drop (b+1+1))):=by
 rw[Xm h,c,Xm a]
 have e:qL (92::(sA l)[b+1]::l.drop (b+1+1))=(qL (l.drop (b+1+1))).map fun x=>((sA l)[b+1]::x.1,x.2+2):=by
  rw[qL.eq_def];rfl
 rw[e];unfold VV
 cases qL (l.drop (b+1+1))with
 |none=>rfl
 |some x=>simp;omega
theorem Qtg(h:b<(sA l).size)(a:¬(sA l)[b]=34)(c:¬(sA l)[b]=92):VV acc m (qL (l.drop b))=VV (acc++[(sA l)[b]]) (m+1) (qL (l.drop (b+1))):=by
 rw[Xm h]
 have e:qL ((sA l)[b]::l.drop (b+1))=(qL (l.drop (b+1))).map fun x=>((sA l)[b]::x.1,x.2+1):=by
  rw[qL.eq_def];dsimp only;have d:¬(sA l)[b].toNat=34:=fun e=>a (Xi.1 e)
  have f:¬(sA l)[b].toNat=92:=fun e=>c (Xi.1 e)
  rw[Qg d,Qg f]
 rw[e];unfold VV
 cases qL (l.drop (b+1))with
 |none=>rfl
 |some x=>simp;omega
theorem CM(h:b<(sA l).size):(sA l).extract b (b+1)=sA [(sA l)[b]]:=by
 rw[UC,Xm h,show b+1-b=1 by omega];rfl
def Gi(r:Option (L8×Nat))(tb:Nat)(l:L8)(a:Nat)(d:Int)(w:World)(e:Ending)(w':World):Prop:=
 e=.returned (.tuple #[])/\Mod tb w w'/\
 match r with
 |some x=>QT w' tb l (a+(1+x.2):Nat) 0 d 34 x.1 0 a
 |none=>JZ w' tb l ⟨2,a⟩
theorem Gi.ok{x:L8×Nat}(h:r=some x)(b:Mod tb w w')(c:QT w' tb l (a+(1+x.2):Nat) 0 d 34 x.1 0 a):Gi r tb l a d w (.returned (.tuple #[])) w':=by
 subst h;exact⟨rfl,b,c⟩
theorem Gi.bad(h:r=none)(b:Mod tb w w')(c:JZ w' tb l ⟨2,a⟩):Gi r tb l a d w (.returned (.tuple #[])) w':=by
 subst h;exact⟨rfl,b,c⟩
theorem Tg{s:L8}(h:QT w tb l a 0 d k s n p)(P:l.length<=600)(U:a<l.length):Calls prog 113 #[.pointer (some ⟨tb,0,none⟩)] w (Gi (qL (l.drop (a+1))) tb l a d w):=by
 have H:=O h;have hz:=Zc l;have q:=Q9 h;have x:=fun o=>QQ h o
 clear h;go_enter func113,ntmps113;go_wp2
 go_loopw [3] (fun v wr=>∃(b m:Nat) (acc:L8),a+1<=b/\b<=l.length/\m=b-(a+1)/\acc.length<=b/\v=.string (sA acc)/\QT wr tb l b 0 d k s n p/\Mod tb w wr/\qL (l.drop (a+1))=VV acc m (qL (l.drop b))) (fun _ wr=>l.length-atW wr tb)
 case atStart=>exact⟨a+1,0,[],Q4 _,U,by omega,by simp,rfl,H.o.at_ _,(Mod.refl _ _).setCell _ _,by cases qL (l.drop (a+1))<;>rfl⟩
 case round=>
  obtain⟨b,m,acc,aa,hb,A,ab,rfl,f,r,t⟩:=hrel;have HQ:=O f;have HM:=O r;have HS:=O t;clear q x;have y:=Zs f;have q:=Q9 f;have K:=YF f;have L:=J1 f;have M:=VZ f;have N:=K2 f;have x:=fun o=>QQ f o
  clear f r t H;have ah:=Zc acc;have aj:=O A;clear A;by_cases hlt:b<(sA l).size;rotate_left
  .obtain rfl:b=l.length:=by omega
   have C:=O (fun G=>V8 (tb:=tb) (l:=l) (a:=l.length) (d:=d) (k:=k) (s:=s) (n:=n) (p:=p) ⟨2,a⟩ (w:=wr.drewN G) HQ.o P (Yh 1));have i:Hid (qL (l.drop (a+1))=none):=by show _=_;rw[HS.o,Qws QF];rfl
   go_wp2_with fail;go_quiet (fail);go_wp2_with fail;go_quiet (fail);go_wp2_with (go_at_call 70;refine(C.o _).mono ?_;rintro e W ⟨rfl,F,E⟩);go_end0;exact Gi.bad i.o (HM.o.trans (VC F)) E
  have ae:(b:Int)<(l.length:Int):=by omega
  have Z:(0:Int)<=(b:Int):=by omega
  by_cases h34:(sA l)[b]=34
  .have i:Hid (qL (l.drop (a+1))=some (acc,1+m)):=by show _=_;rw[HS.o,Wq hlt h34];simp[VV]
   have S:(((sA l)[b].toNat:Int) != 34)=false:=by rw[h34];rfl
   clear h34;go_wp2_with fail;go_quiet (fail);go_wp2_with fail;go_quiet (fail);have he:((a+(1+(1+m)):Nat):Int)=(b:Int)+1:=by have:=aj.o;omega
   have HE:=O he;clear he;go_wp2;go_end0;refine Gi.ok i.o ((((((HM.o.drewN).setCell _ _).setCell _ _).setCell _ _).setCell _ _).setCell _ _) ?_;show QT _ tb l ((a+(1+(1+m)):Nat):Int) 0 d 34 acc 0 a
   rw[HE.o];exact QM (QM (QM (QM (QM HQ.o))))
  have S:(((sA l)[b].toNat:Int) != 34)=true:=by
   have h:¬(sA l)[b].toNat=34:=fun h=>h34 (Xi.1 h)
   simp;omega
  have ac:acc.length<=600:=by omega
  by_cases h92:(sA l)[b]=92;rotate_left
  .have T:(((sA l)[b].toNat:Int)==92)=false:=by
    have h:¬(sA l)[b].toNat=92:=fun h=>h92 (Xi.1 h)
    simp;omega
   have i:=O (HS.o.trans (Qtg (acc:=acc) (m:=m) hlt h34 h92));have z:=CM hlt;have V:(sA [(sA l)[b]]).size=1:=rfl;have B:=O (Gc acc [(sA l)[b]]);have j:(b:Int)<=(b:Int)+1:=by omega
   have ad:(b:Int)+1<=(l.length:Int):=by omega
   have u:=O (HQ.o.at_ ((b:Int)+1));clear h34 h92;go_wp2_with fail;go_quiet (fail);go_wp2_with fail;go_quiet (fail);go_wp2_with fail;go_quiet (fail);go_wp2;rw[B.o];go_roundw
   case rel=>exact⟨b+1,m+1,acc++[(sA l)[b]],by omega,by omega,by have:=aj.o;omega,by simp;omega,rfl,u.o,(HM.o.drewN).setCell _ _,i.o⟩
   case measure=>exact U_ (b:=b+1) HQ.o u.o (by omega) (by omega)
  have T:(((sA l)[b].toNat:Int)==92)=true:=by rw[h92];rfl
  have u:=O (HQ.o.at_ ((b:Int)+1));by_cases hend:b+1=l.length
  .have i:Hid (qL (l.drop (a+1))=none):=by show _=_;rw[HS.o,RO hlt h92 hend];rfl
   have he:(b:Int)+1=(l.length:Int):=by omega
   clear h34 h92;go_wp2_with fail;go_quiet (fail);go_wp2_with fail;go_quiet (fail);go_wp2_with fail;generalize hW:(wr.drewN _).setCell _ _=W1;have g:QT W1 tb l l.length 0 d k s n p:=by rw[<-hW,<-he];exact u.o
   have D:Hid (Mod tb w W1):=by rw[<-hW];exact(HM.o.drewN).setCell _ _
   clear hW y q K L M N x;have y:=Zs g;have q:=Q9 g;have C:=O (fun G=>V8 (tb:=tb) (l:=l) (a:=l.length) (d:=d) (k:=k) (s:=s) (n:=n) (p:=p) ⟨2,a⟩ (w:=W1.drewN G) g P (Yh 1));clear g;go_quiet (fail);go_wp2_with fail;go_quiet (fail);go_wp2_with (go_at_call 70;refine(C.o _).mono ?_;rintro e W ⟨rfl,F,E⟩);go_end0;exact Gi.bad i.o (D.o.trans (VC F)) E
  .obtain⟨c,j⟩:=Q3 (b+1);have Q:c<(sA l).size:=by omega
   have i:Hid (qL (l.drop (a+1))=VV (acc++[(sA l)[c]]) (m+2) (qL (l.drop (c+1)))):=by
    show _=_
    subst j;exact HS.o.trans (QsT (acc:=acc) (m:=m) hlt h92 Q)
   have z:=CM Q;have V:(sA [(sA l)[c]]).size=1:=rfl;have B:=O (Gc acc [(sA l)[c]]);have R:=O z;have ai:=O j;clear h34 h92 z;go_wp2_with fail;go_quiet (fail);go_wp2_with fail;go_quiet (fail);go_wp2_with fail;generalize hW:(wr.drewN _).setCell _ _=W1;have g:QT W1 tb l c 0 d k s n p:=by rw[<-hW,j];exact u.o
   have D:Hid (Mod tb w W1):=by rw[<-hW];exact(HM.o.drewN).setCell _ _
   clear hW y q K L M N x;have af:(c:Int)<=(c:Int)+1:=by omega
   have ag:(c:Int)+1<=(l.length:Int):=by omega
   have Y:(0:Int)<=(c:Int):=by omega
   have z:=R.o;have X:((c:Int)==(l.length:Int))=false:=by simp;omega
   have y:=Zs g;have q:=Q9 g;have x:=fun o=>QQ g o
   have J:=O (g.at_ ((c:Int)+1));clear g j hend;go_quiet (fail);go_wp2_with fail;go_quiet (fail);go_wp2;rw[B.o];go_roundw
   case rel=>exact⟨c+1,m+2,acc++[(sA l)[c]],by have:=ai.o;omega,by omega,by have:=aj.o;have:=ai.o;omega,by have:=ai.o;simp;omega,rfl,J.o,(D.o.drewN).setCell _ _,i.o⟩
   case measure=>exact U_ (b:=c+1) HQ.o J.o (by have:=ai.o;omega) (by omega)
def adr(n:Nat):L8->Nat->Int->Bool
 | [],_,at_=>decide (0<at_)&&(decide (at_<(n:Int)-1)&&decide (n<=32))
 |c::r,i,at_=>if ZZ c.toNat || (c==64&&decide (0<=at_))then false else adr n r (i+1) (if c==64 then(i:Int)else at_)
theorem My(n:Nat):∀(r:L8) (i:Nat) (a:Int),0<=a->adr n r i a=(r.all (fun c=>!ZZ c.toNat)&&decide (r.count 64=0)&&(decide (0<a)&&(decide (a<(n:Int)-1)&&decide (n<=32))))
 | [],i,a,h=>by simp[adr]
 |c::r,i,a,h=>by
  rw[adr,QU h]
  cases hb:ZZ c.toNat with
  |true=>simp[hb]
  |false=>
   by_cases hc:c=64
   .subst hc;simp[hb]
   .have b:(c==64)=false:=by simpa using hc
    rw[b];have d:=My n r (i+1) a h;simp[hb,d,List.count_cons,hc]
theorem MV(n:Nat):∀(r:L8) (i:Nat),adr n r i (-1)=(r.all (fun c=>!ZZ c.toNat)&&decide (r.count 64=1)&&(decide (0<i+r.idxOf 64)&&(decide (((i+r.idxOf 64:Nat):Int)<(n:Int)-1)&&decide (n<=32))))
 | [],i=>by simp[adr]
 |c::r,i=>by
  rw[adr,QB I]
  cases hb:ZZ c.toNat with
  |true=>simp[hb]
  |false=>
   by_cases hc:c=64
   .subst hc;have a:=My n r (i+1) i I;have d:ZZ (64:Int)=false:=rfl;simp[hb,a,d]
   .have b:(c==64)=false:=by simpa using hc
    rw[b];have a:=MV n r (i+1);have e:i+1+r.idxOf 64=i+(c::r).idxOf 64:=by rw[List.idxOf_cons,b];simp;omega
    simp only[Bool.false_and,Bool.or_false,J2,if_false,a,e];simp[hb,List.count_cons,hc]
theorem J4:type_of%@Nat.zero_add:=@Nat.zero_add
theorem N9:type_of%@decide_eq_true_eq:=@decide_eq_true_eq
theorem OY:adr x.length x 0 (-1)=isAddrL x:=by
 rw[MV];unfold isAddrL;rw[Xb];simp only[Jl,N9,J4,bne_iff_ne,ne_eq];constructor
 .rintro⟨⟨j,b⟩,i,g,d⟩
  have q:x.head?≠some 64:=by
   intro e
   match x,e with
   |c::r,e=>
    have:c=64:=by simpa using e
    subst this;simp at i
  have s:x.getLast?≠some 64:=by
   intro e
   obtain⟨y,rfl⟩:∃y,x=y++[64]:=by
    have k:x≠[]:=by intro l;rw[l]at e;cases e
    have m:=List.getLast?_eq_some_getLast k;rw[m]at e;exact⟨x.dropLast,by rw[<-ZK e];exact(List.dropLast_concat_getLast k).symm⟩
   have t:64 ∉ y:=by
    intro f;have:=List.count_pos_iff.2 f;rw[List.count_append]at b;simp at b;omega
   rw[List.idxOf_append,Qg t]at g;simp at g
  exact⟨I,d,b,j,q,s⟩
 .rintro⟨j,b,i,g,d,n⟩;have f:64∈x:=List.count_pos_iff.1 I;have hi:=List.idxOf_lt_length_of_mem f;refine⟨⟨g,i⟩,?_,?_,b⟩
  .apply Nat.pos_of_ne_zero;intro a
   match x,a,d,f with
   |c::r,a,d,f=>
    rw[List.idxOf_cons]at a;by_cases hc:c=64
    .subst hc;exact d rfl
    .have o:(c==64)=false:=by simpa using hc
     rw[o]at a;simp at a
  .have u:x.idxOf 64≠x.length-1:=by
    intro e;have p:x[x.idxOf 64]'hi=64:=List.getElem_idxOf hi;apply n;rw[List.getLast?_eq_getElem?,Zi I];congr 1;rw[<-p];congr 1;omega
   omega
theorem RR(x:L8)(w:World)(t:x.length<=140737488355328):Calls prog 78 #[Qf x] w fun e w'=>e=.returned (.bool (isAddrL x))/\w'=w:=by
 have u:=Zc x;rw[<-OY];go_enter func78,ntmps78;go_wp2
 go_loopw [3,4,5] (fun m g _ wr=>∃(k:Nat) (a:Int),k<=x.length/\g=Qa k/\m=Qa a/\-1<=a/\a<=k/\adr x.length x 0 (-1)=adr x.length (x.drop k) k a/\wr=w) (fun _ g _ _=>x.length-(intOf g).toNat)
 case atStart=>exact⟨0,-1,I,rfl,rfl,I,I,rfl,rfl⟩
 case round=>
  obtain⟨k,a,s,rfl,rfl,q,r,d,rfl⟩:=hrel;change Qd _ at d;by_cases hlt:k<(sA x).size
  .have l:=Xm hlt;obtain⟨c,n⟩:=Qw ((sA x)[k]);rw[n]at l;rw[l]at d;have f:=O (GU (c:=(c.toNat:Int)) (w:=wr));have j:((c.toNat:Int)==64)=(c==64):=by rw[show((c.toNat:Int)==64)=decide (c=64)from VD c 64];by_cases h:c=64<;>simp[h]
   cases hb:ZZ (c.toNat:Int)with
   |true=>
    have b:Hid (adr x.length x 0 (-1)=false):=by show _=_;rw[d.o,adr,show ZZ c.toNat=true from hb];rfl
    rw[hb]at f;go_wp2_with fail;refine f.mono ?_;rintro e i ⟨rfl,rfl⟩;go_wp2;go_ret;exact⟨Zf b.symm,rfl⟩
   |false=>
    rw[hb]at f
    cases h64:(c==64)with
    |true=>
     rw[h64]at j;by_cases ha:0<=a
     .have b:Hid (adr x.length x 0 (-1)=false):=by show _=_;rw[d.o,adr,show ZZ c.toNat=false from hb,h64,QU ha];rfl
      go_wp2_with fail;refine f.mono ?_;rintro e i ⟨rfl,rfl⟩;go_wp2;go_ret;exact⟨Zf b.symm,rfl⟩
     .have b:Hid (adr x.length x 0 (-1)=adr x.length (x.drop (k+1)) (k+1) k):=by show _=_;rw[d.o,adr,show ZZ c.toNat=false from hb,h64,QB ha];rfl
      go_wp2_with fail;refine f.mono ?_;rintro e i ⟨rfl,rfl⟩;go_wp2;exact⟨⟨k+1,k,I,by go_num,rfl,I,I,b,by first|rfl|trivial⟩,by simp[intOf];omega⟩
    |false=>
     rw[h64]at j;have b:Hid (adr x.length x 0 (-1)=adr x.length (x.drop (k+1)) (k+1) a):=by show _=_;rw[d.o,adr,show ZZ c.toNat=false from hb,h64];rfl
     go_wp2_with fail;refine f.mono ?_;rintro e i ⟨rfl,rfl⟩;go_wp2;exact⟨⟨k+1,a,I,by go_num,rfl,I,I,b,by first|rfl|trivial⟩,by simp[intOf];omega⟩
  .have p:k=x.length:=I
   subst p;have b:Hid (adr x.length x 0 (-1)=(decide (0<a)&&(decide (a<(x.length:Int)-1)&&decide (x.length<=32)))):=by show _=_;rw[d.o,ZE QF];rfl
   by_cases h1:0<a
   all_goals by_cases h2:a<(x.length:Int)-1
   all_goals by_cases h3:x.length<=32
   all_goals go_wp2
   all_goals go_ret
   all_goals exact⟨Zf (by rw[b.o,Xb];simp only[Jl,N9,J2];constructor<;>intro h<;>(first|omega|exact h.elim)),rfl⟩
end
theorem Px(h:0<s.size):s.data.toList.getLast?=some (s[s.size-1]' I):=by
 rw[List.getLast?_eq_getElem?];have:s.data.toList.length=s.size:=Qh
 rw[this,Zi I];rfl
theorem Fy(u:s.size<=1000000):Calls prog 269 #[.string s] w fun e w'=>e=.returned (.bool (isAddrL s.data.toList))/\w'=w:=by
 have b:s.data.toList.length=s.size:=Qh
 by_cases h3:s.size<3
 .have hr:isAddrL s.data.toList=false:=by unfold isAddrL;rw[QB I];rfl
  have f:(s.size:Int)<3:=I
  clear b;change Qd _ at hr;go_enter func269,ntmps269;go_wp2;go_ret;exact⟨Zf hr.symm,rfl⟩
 have f:¬(s.size:Int)<3:=I
 by_cases h32:32<s.size
 .have hr:isAddrL s.data.toList=false:=by unfold isAddrL;rw[QU I,QB I];rfl
  have g:(32:Int)<(s.size:Int):=I
  clear b;change Qd _ at hr;go_enter func269,ntmps269;go_wp2;go_ret;exact⟨Zf hr.symm,rfl⟩
 have g:¬(32:Int)<(s.size:Int):=I
 have a:Hid (∀W,Calls prog 285 #[.string s,.string ⟨#[64]⟩] W fun e w'=>e=.returned (Qa (Lib.countByte s.data.toList 64))/\w'=W):=fun W=>Tryz.strings_Count_one s 64 W
 obtain⟨n,hn⟩:=Qw (s.data.toList.count 64);rw[show Lib.countByte s.data.toList 64=n from hn]at a;by_cases h1:n=1;rotate_left
 .have hr:isAddrL s.data.toList=false:=by unfold isAddrL;rw[QU I,QU I,hn,QB h1];rfl
  have m:((n:Int) != 1)=true:=by simp;omega
  clear b hn;change Qd _ at hr;go_enter func269,ntmps269;go_wp2_with (go_at_call 285;refine Qu (a _) ?_);go_ret;exact⟨Zf hr.symm,rfl⟩
 subst h1;have d:0<s.size:=I
 have hr:isAddrL s.data.toList=((s.data.toList.drop 0).all (fun c=>!ZZ c.toNat)&&(!(s[0]==64) && !(s[s.size-1]==64))):=by
  unfold isAddrL;rw[QU I,QU I,hn,Cc d,Px d];rfl
 clear hn;change Qd _ at hr;go_enter func269,ntmps269;go_wp2_with (go_at_call 285;refine Qu (a _) ?_)
 go_loop [19] (fun i=>∃k:Nat,k<=s.size/\i=Qa k/\(s.data.toList.drop 0).all (fun c=>!ZZ c.toNat)=(s.data.toList.drop k).all (fun c=>!ZZ c.toNat)) (fun i=>s.size-(intOf i).toNat)
 case atStart=>exact⟨0,I,rfl,rfl⟩
 case round=>
  obtain⟨k,p,rfl,hn⟩:=hrel;change Qd _ at hn;by_cases hlt:k<s.size;rotate_left
  .have HS:=O (EH s (fun c=>!ZZ c.toNat) k I);have j:((s[0].toNat:Int) != 64)=!(s[0]==64):=by rw[bne,show((s[0].toNat:Int)==64)=decide (s[0]=64)from VD s[0] 64];by_cases h:s[0]=64<;>simp[h]
   have l:((s[s.size-1].toNat:Int) != 64)=!(s[s.size-1]==64):=by rw[bne,show((s[s.size-1].toNat:Int)==64)=decide (s[s.size-1]=64)from VD _ 64];by_cases h:s[s.size-1]=64<;>simp[h]
   have q:¬(k:Int)<(s.size:Int):=I
   generalize (s[0]==64)=b0 at *;generalize (s[s.size-1]==64)=b1 at *;have r:(s.size:Int)-1=((s.size-1:Nat):Int):=I
   have t:((s.size-1:Nat):Int)<(s.size:Int):=I
   cases b0<;>cases b1 <;>
   (go_wp2
    go_ret
    exact ⟨Zf (by rw [hr.o,hn.o,HS.o];rfl),rfl⟩)
  have HS:=O (EM (fun c=>!ZZ c.toNat) hlt);cases hc:ZZ (s[k].toNat:Int)
  .go_wp2_with (go_at_call 231;refine Qu (GP) ?_);go_round
   case rel=>exact⟨k+1,I,by go_num,by rw[hn.o,HS.o,hc];rfl⟩
   case measure=>simp[intOf];omega
  .go_wp2_with (go_at_call 231;refine Qu (GP) ?_);go_ret;exact⟨Zf (by rw[hr.o,hn.o,HS.o,hc];rfl),rfl⟩
end Go.Proofs.YtgnkjijocdmniaaGreatDoor
