import Derived.WalkSpells
import Derived.WalkLawsBesides
import Derived.BigQuiet
import Derived.Lib.AtoiErrMem
import Derived.Deep.RegionHeld3
import Derived.Deep.DrawnRows
import Derived.Test.YtgnkjijocdmniaaGreatDoorZPlainCodeLen
import Derived.Test.YtgnkjijocdmniaaGreatDoorShelf
namespace Go.Proofs.YtgnkjijocdmniaaGreatDoor
set_option linter.all false
set_option maxRecDepth 100000
set_option maxHeartbeats 4000000
open Go.Proofs.Tryz
open Go.RowKit
theorem Qv{f:Nat}{a:Array Value}{v:Ending}{w:World}{R:World->Prop}{Q:Ending->World->Prop}(h:Calls Go.Proofs.Tryz.prog f a w fun e x=>e=v/\R x)(g:∀x,R x->Q v x):Calls Go.Proofs.Tryz.prog f a w Q:=h.mono fun e x y=>by obtain⟨rfl,z⟩:=y;exact g x z
theorem Qu{f:Nat}{a:Array Value}{v:Ending}{w u:World}{Q:Ending->World->Prop}(h:Calls Go.Proofs.Tryz.prog f a w fun e x=>e=v/\x=u)(g:Q v u):Calls Go.Proofs.Tryz.prog f a w Q:=h.mono fun e x y=>by obtain⟨rfl,rfl⟩:=y;exact g
theorem Qm{p:Prop}(h:p:=by kernel_rfl):p:=h
abbrev Qc(b:Nat):Go.Value:=.pointer (some ⟨b,0,none⟩)
abbrev Ql(b o:Nat):Go.Addr:=⟨b,o,none⟩
abbrev Qp:Go.Value:=.slice none 0 0
abbrev Qa(n:Int):Go.Value:=.int .i64 n
abbrev Qf(l:L8):Go.Value:=.string (sA l)
abbrev Qs(b n c:Nat):Go.Value:=.slice (some ⟨b,0,none⟩) n c
abbrev QA(n:Nat)(a b:Array Go.Value):Go.Value:=.func (.func n) a b
abbrev Qe(a:Array Go.Value)(t:Go.TypeId):Go.Obj:=.cells a t
abbrev Qo(w v:Go.World):=Go.RowKit.Below w.heap.size w v
variable{B a b base g i k p v:Nat}{W w w' w1:World}{acc l:L8}{c:UInt8}{d:Value}{e:Ending}{f:Flt}{n:Int}{r:List Value}{s:ByteArray}{t:TypeId}{x:Wd}{zs:Qn}
theorem QH(o:Obj):Go.RowKit.Below w.heap.size w (w.alloc o):=(Go.RowKit.Below.refl _ _).alloc (Q4 _) o
def OH(p:Prop):Prop:=(fun _=>p) @Go.Calls
def OI(p:Prop):Prop:=(fun _=>p) @OH
def OJ(p:Prop):Prop:=(fun _=>p) @OI
def OK(p:Prop):Prop:=(fun _=>p) @OJ
def OL(p:Prop):Prop:=(fun _=>p) @OK
def OM(p:Prop):Prop:=(fun _=>p) @OL
def ON(p:Prop):Prop:=(fun _=>p) @OM
def OO(p:Prop):Prop:=(fun _=>p) @ON
def OP(p:Prop):Prop:=(fun _=>p) @OO
def OQ(p:Prop):Prop:=(fun _=>p) @OP
def OR(p:Prop):Prop:=(fun _=>p) @OQ
def OS(p:Prop):Prop:=(fun _=>p) @OR
def OT(p:Prop):Prop:=(fun _=>p) @OS
def OU(p:Prop):Prop:=(fun _=>p) @OT
def OV(p:Prop):Prop:=(fun _=>p) @OU
def OW(p:Prop):Prop:=(fun _=>p) @OV
def Qd(p:Prop):Prop:=(fun _=>p) @OW
theorem Qd.o{p:Prop}(h:Qd p):p:=h
theorem O{p:Prop}(h:p):Qd p:=h
theorem _root_.Go.RowKit.Hid.o{p:Prop}(h:Go.RowKit.Hid p):p:=h
theorem J8(b j:Nat):(⟨b,0,none⟩:Addr).add j=⟨b,j,none⟩:=by
 unfold Addr.add;split
 .subst_vars;rfl
 .simp
theorem Zf{a b:Bool}(h:a=b):Ending.returned (.bool a)=.returned (.bool b):=by rw[h]
theorem Jz{k:IntKind}{a b:Int}(h:a=b):Ending.returned (.int k a)=.returned (.int k b):=by rw[h]
theorem GP{c:Int}:Calls prog 231 #[.int .u8 c] w fun e w'=>e=.returned (.bool (ZZ c))/\w'=w:=by
 go_enter func231,ntmps231;go_wp2
 all_goals (go_ret;exact⟨Zf (by simp[ZZ, *]),rfl⟩)
theorem XQ{c:Int}:Calls prog 227 #[.int .u8 c] w fun e w'=>e=.returned (.bool (Q7 c))/\w'=w:=by
 go_enter func227,ntmps227;go_wp2
 all_goals (go_ret;exact⟨Zf (by simp[Q7, *];try omega),rfl⟩)
theorem CA{c:Int}:Calls prog 220 #[.int .u8 c] w fun e w'=>e=.returned (.bool (Jb c))/\w'=w:=by
 go_enter func220,ntmps220;go_wp2
 all_goals (go_ret;exact⟨Zf (by simp[Jb, *];try omega),rfl⟩)
theorem Da{c:Int}:Calls prog 257 #[.int .u8 c] w fun e w'=>e=.returned (.bool (Ku c))/\w'=w:=by
 go_enter func257,ntmps257;go_wp2
 all_goals (go_ret;exact⟨Zf (by simp[Ku, *];try omega),rfl⟩)
theorem X6{c:Int}:Calls prog 224 #[.int .u8 c] w fun e w'=>e=.returned (.bool (Za c))/\w'=w:=by
 go_enter func224,ntmps224
 cases hsm:Ku c<;>cases hca:Jb c <;>
 (go_wp2_with (first | (go_at_call 220;refine (CA).mono ?_;rintro e w' ⟨rfl,rfl⟩) | (go_at_call 257;refine (Da).mono ?_;rintro e w' ⟨rfl,rfl⟩))
  all_goals (go_ret;exact ⟨Zf (by rw [Qvl];simp [*]),rfl⟩))
theorem PB(s:ByteArray)(h:k<s.size):s.data.toList.getD k 0=s[k]:=by
 rw[Zv,Zi (by simpa using h)];rfl
theorem Qwg(a:s.size<=maxLen)(b:0<=n)(h:n<s.size):Calls prog 258 #[.string s,Qa n] w fun e w'=>e=.returned (.int .u8 (s.data.toList.getD n.toNat 0).toNat)/\w'=w:=by
 unfold maxLen at a;go_enter func258,ntmps258;go_wp2
 all_goals (go_ret;exact⟨Jz (by rw[PB s I]),rfl⟩)
theorem QsB(a:s.size<=maxLen)(h:s.size<=n):Calls prog 258 #[.string s,Qa n] w fun e w'=>e=.returned (.int .u8 (s.data.toList.getD n.toNat 0).toNat)/\w'=w:=by
 unfold maxLen at a;go_enter func258,ntmps258;go_wp2
 all_goals (go_ret;exact⟨Jz (by rw[Zv,GI (by simp;omega)];rfl),rfl⟩)
theorem Qth(w:World)(a:s.size<=maxLen)(b:0<=n):Calls prog 258 #[.string s,Qa n] w fun e w'=>e=.returned (.int .u8 (s.data.toList.getD n.toNat 0).toNat)/\w'=w:=by
 by_cases h:n<s.size
 .exact Qwg a b h
 .exact QsB a I
def byteOf(s:ByteArray)(n:Int):UInt8:=s.data.toList.getD n.toNat 0
theorem BQ(s:ByteArray)(hs:s.size<=maxLen)(h0:0<=n):Calls prog 258 #[.string s,Qa n] w fun e w'=>e=.returned (.int .u8 (byteOf s n).toNat)/\w'=w:=Qth w hs h0
theorem YU(h:k<s.size):s.data.toList.drop k=s[k]::s.data.toList.drop (k+1):=by
 rw[Xt (by simpa using h)];rfl
theorem XL:type_of%@Go.ByteArray.toList_eq:=@Go.ByteArray.toList_eq
theorem Aj(h:s.size=0):s.toList=[]:=by
 rw[XL];apply XV;simpa using h
theorem Ah(h:¬s.size=0):¬s.toList=[]:=by
 rw[XL];intro e;apply h;have:=ZI List.length e;simpa using this
theorem Qta(h:0<s.size)(a:Za (s[0].toNat:Int)=true):nameLen s.data.toList=1+ZF (s.data.toList.drop 1):=by
 have e:=YU h;rw[Jm]at e;rw[e];simp only[nameLen];rw[Qi a];rfl
theorem TT(h:0<s.size)(a:Za (s[0].toNat:Int)=false):nameLen s.data.toList=0:=by
 have e:=YU h;rw[Jm]at e;rw[e];simp only[nameLen];rw[Qg (by rw[a];decide)]
theorem R5(h:k<s.size):ZF (s.data.toList.drop k)=if Zr s[k]then 1+ZF (s.data.toList.drop (k+1))else 0:=by
 rw[YU h,Am]
theorem S1(s:ByteArray)(k:Nat)(h:s.size<=k):ZF (s.data.toList.drop k)=0:=by
 rw[ZE (by simpa using h)];rfl
theorem GO(j:s.size<=maxLen):Calls prog 226 #[.string s] w fun e w'=>e=.returned (Qa (nameLen s.data.toList))/\w'=w:=by
 unfold maxLen at j;by_cases h0:s.size=0
 .have d:=Aj h0;go_enter func226,ntmps226;go_wp2;go_ret;exact⟨Jz (by rw[<-XL,d];rfl),rfl⟩
 have d:=Ah h0;have l:s.toList.isEmpty=false:=by simpa using d
 have f:0<s.size:=I
 cases hl:Za (s[0].toNat:Int)
 .have H:Hid (nameLen s.data.toList=0):=TT f hl;go_enter func226,ntmps226;go_wp2_with (go_at_call 224;refine Qu (X6) ?_);go_ret;exact⟨Jz (by rw[H.o];rfl),rfl⟩
 .have H:Hid (nameLen s.data.toList=1+ZF (s.data.toList.drop 1)):=Qta f hl;go_enter func226,ntmps226;go_wp2_with (go_at_call 224;refine Qu (X6) ?_)
  go_loop [3] (fun i=>∃k:Nat,k<=s.size/\i=Qa k/\nameLen s.data.toList=k+ZF (s.data.toList.drop k)) (fun i=>s.size-(intOf i).toNat)
  case atStart=>exact⟨1,I,rfl,H⟩
  case round=>
   obtain⟨k,m,rfl,g⟩:=hrel;have c:Hid (nameLen s.data.toList=k+ZF (s.data.toList.drop k)):=g;clear g hl;by_cases hlt:k<s.size
   .have b:Hid (ZF (s.data.toList.drop k)=if Zr s[k]then 1+ZF (s.data.toList.drop (k+1))else 0):=R5 hlt;cases hc:Za (s[k].toNat:Int)
    .cases hd:Q7 (s[k].toNat:Int)
     .have a:Hid (Zr s[k]=false):=by show Zr s[k]=false;simp[Zr,hc,hd]
      go_wp2_with (first|(go_at_call 224;refine Qu (X6) ?_)|(go_at_call 227;refine Qu (XQ) ?_));go_ret;exact⟨Jz (by rw[c.o,b.o,a.o];simp),rfl⟩
     .have a:Hid (Zr s[k]=true):=by show Zr s[k]=true;simp[Zr,hd]
      go_wp2_with (first|(go_at_call 224;refine Qu (X6) ?_)|(go_at_call 227;refine Qu (XQ) ?_));go_round
      case rel=>exact⟨k+1,I,by go_num,by rw[c.o,b.o,a.o];simp;omega⟩
      case measure=>simp[intOf];omega
    .have a:Hid (Zr s[k]=true):=by show Zr s[k]=true;simp[Zr,hc]
     go_wp2_with (first|(go_at_call 224;refine Qu (X6) ?_)|(go_at_call 227;refine Qu (XQ) ?_));go_round
     case rel=>exact⟨k+1,I,by go_num,by rw[c.o,b.o,a.o];simp;omega⟩
     case measure=>simp[intOf];omega
   .have b:Hid (ZF (s.data.toList.drop k)=0):=S1 s k I;go_wp2;go_ret;exact⟨Jz (by rw[c.o,b.o];simp),rfl⟩
theorem pt(l:List Value)(a:_)(d:Nat)(v:Value):Act.put ⟨l.toArray,a⟩ (some d) v=⟨(l.set d v).toArray,a⟩:=by simp[Act.put]
theorem sz(x y:Value)(l:List Value):(x::l).set 0 y=y::l:=rfl
theorem sc(x y:Value)(l:List Value)(n:Nat):(x::l).set (n+1) y=x::l.set n y:=rfl
theorem QS{P:Program}{b:Array Oper}{Q:Exit->Act->World->Prop}{f:Region.Mode}{S:World->Prop}(i d:Nat)(v:Value){g:Oper}{fuel:Nat}{e:Array Bool}{a:Act}(hi:b[i]?=some g)(k:S w)(l:∀w',S w'->(execOp a.eval g).run P w'=.ok (.value v) w')(h:wpAnyH P f b Q S fuel (e.setIfInBounds i true) (a.put (some d) v) w)
 (j:g.dst=some d:=by rfl) (hs:Region.noSelect b=true:=by kernel_rfl) (hf:Region.free f b e i=true:=by kernel_rfl) (hr:(Region.ready f b e).contains i=true:=by kernel_rfl) (hQ:∀c a w,Q (.panic c) (a.put (some d) v) w->Q (.panic c) a w:=by exact fun _ _ _ h=>h) (hw:Region.wanted g (yielded b a.tmps)=true:=by rfl):wpAnyH P f b Q S (fuel+1) e a w:=
 wpAnyH_take hi hs hf hr (by rw[j];exact hQ) (Qt ⟨hw,l⟩) k (by rw[j];exact h)
theorem XC{P:Program}{b:Array Oper}{Q:Exit->Act->World->Prop}{f:Region.Mode}{S:World->Prop}(i d:Nat)(v:Value){g:Oper}{fuel:Nat}{e:Array Bool}{a:Act}(hi:b[i]?=some g)(k:S w)(h:wpAnyH P f b Q S fuel (e.setIfInBounds i true) (a.put (some d) v) w)(l:∀w',S w'->(execOp a.eval g).run P w'=.ok (.value v) w':=by intro q j;(try dsimp only at j);go_simp)
 (j:g.dst=some d:=by rfl) (hs:Region.noSelect b=true:=by kernel_rfl) (hf:Region.free f b e i=true:=by kernel_rfl) (hr:(Region.ready f b e).contains i=true:=by kernel_rfl) (hQ:∀c a w,Q (.panic c) (a.put (some d) v) w->Q (.panic c) a w:=by exact fun _ _ _ h=>h) (hw:Region.wanted g (yielded b a.tmps)=true:=by rfl):wpAnyH P f b Q S (fuel+1) e a w:=
 QS i d v hi k l h j hs hf hr hQ hw
def Kl(s:ByteArray)(k j:Nat):UInt8:=if j<k then YX (s.data.toList.getD j 0)else s.data.toList.getD j 0
theorem HJ(h:Jb (c.toNat:Int)=true):((YX c).toNat:Int)=(c.toNat:Int)-65+97:=by
 have a:=h;unfold Jb at a;simp at a;have e:YX c=c-65+97:=by unfold YX;rw[Qi h]
 rw[e,UInt8.toNat_add,UInt8.toNat_sub];simp;omega
theorem Dp(c:UInt8)(h:Jb (c.toNat:Int)=false):YX c=c:=by
 unfold YX;rw[Qg (by rw[h];decide)]
theorem S4(s:ByteArray)(k j:Nat)(h:Jb ((s.data.toList.getD k 0).toNat:Int)=false):Kl s k j=Kl s (k+1) j:=by
 unfold Kl;by_cases e:j=k
 .subst e;rw[Q8,Xy,Dp _ h]
 .by_cases l:j<k
  .rw[Qi l,Xy]
  .rw[Qg l,Q8]
theorem Sk(s:ByteArray)(j:Nat)(e:¬j=k):Kl s k j=Kl s (k+1) j:=by
 unfold Kl;by_cases l:j<k
 .rw[Qi l,Xy]
 .rw[Qg l,Q8]
theorem TM:Kl s (k+1) k=YX (s.data.toList.getD k 0):=by
 unfold Kl;rw[Xy]
theorem Z2:type_of%@Go.Proofs.Tryz.underlying9:=@Go.Proofs.Tryz.underlying9
theorem GD:type_of%@Go.World.cell?_setCell_other:=@Go.World.cell?_setCell_other
theorem GF:type_of%@Go.World.cell?_setCell_same:=@Go.World.cell?_setCell_same
theorem UA:type_of%@Go.Proofs.Tryz.underlying198:=@Go.Proofs.Tryz.underlying198
theorem AF(s:ByteArray)(w:World)(G:s.size<=140737488355328):Calls prog 181 #[.string s] w fun e w'=>e=.returned (.string ⟨(zL s.data.toList).toArray⟩)/\Qo w w':=by
 have q:=Lib.run_convert_string_bytes (P:=prog) w 9 198 5 s (u:=.string) Z2 UA underlying5;have f:=Lib.bytesWorld_below w 5 s
 have l:∀j,j<s.size->(Lib.bytesWorld w 5 s).cell? ⟨w.heap.size,j,none⟩=some (.int .u8 (Kl s 0 j).toNat):=fun j hj=>by
  rw[Lib.bytesWorld_cell w 5 s j hj];simp[Kl]
 have m:∀j,j<s.size->(Lib.bytesWorld w 5 s).frozen? ⟨w.heap.size,j,none⟩=false:=fun j hj=>by
  unfold World.frozen?;rw[Lib.bytesWorld_at_new];simp[Lib.bytesCells];omega
 have n:=Lib.bytesWorld_size w 5 s;generalize Lib.bytesWorld w 5 s=W1 at q f l m n
 have r:∀(wr:World),(∀j,j<s.size->wr.cell? ⟨w.heap.size,j,none⟩=some (.int .u8 (Kl s s.size j).toNat))->
  ∀C,(convert 198 9 (Qs w.heap.size s.size C)).run prog wr=.ok (.string ⟨(zL s.data.toList).toArray⟩) wr:=fun wr z C=>by
  have x:(zL s.data.toList).length=s.size:=by simp[zL]
  have:=run_convert_bytes_back (P:=prog) wr 198 9 5 ⟨w.heap.size,0,none⟩ C (zL s.data.toList) UA underlying5 Z2 (fun j hj=>by
   rw[J8,z j I];have hj':j<s.data.toList.length:=by simp[zL]at hj;simpa using hj
   simp only[Kl,zL,List.getElem_map]
   rw [Xy,Zv,Zi hj'];rfl)
  rw[x]at this;exact this
 change Qd _ at r;go_enter func181,ntmps181;go_wp2_with fail;generalize grownCap w s.size 0 5=C at *
 go_loopw [4,5,10] (fun _ _ i wr=>∃k:Nat,k<=s.size/\i=Qa k/\Qo w wr/\(∀j,j<s.size->wr.cell? ⟨w.heap.size,j,none⟩=some (.int .u8 (Kl s k j).toNat))/\(∀j,j<s.size->wr.frozen? ⟨w.heap.size,j,none⟩=false)/\wr.heap.size=w.heap.size+1) (fun _ _ i _=>s.size-(intOf i).toNat)
 case atStart=>exact⟨0,I,rfl,f,l,m,n⟩
 case round=>
  obtain⟨k,E,rfl,g,a,d,t⟩:=hrel;clear f l m n q;by_cases hlt:k<s.size
  .have b:=a k hlt;have D:=d k hlt;simp only[Kl]at b;rw[Q8]at b;generalize hcd:s.data.toList.getD k 0=c at b;change Qd _ at hcd;have A:=UInt8.toNat_lt c;change Qd _ at a d;cases hc:Jb (c.toNat:Int)
   .go_wp2_with (go_at_call 220;refine Qu (CA) ?_);refine⟨⟨k+1,I,by go_num,g,fun j hj=>?_,d,t⟩,by simp[intOf];omega⟩;rw[a j hj,S4 s k j (by rw[hcd.o];exact hc)]
   .have y:=O (HJ hc);have p:65<=(c.toNat:Int)/\(c.toNat:Int)<=90:=by unfold Jb at hc;simpa using hc
    obtain⟨p,B⟩:=p;go_wp2_with (go_at_call 220;refine Qu (CA) ?_);refine⟨⟨k+1,I,by go_num,?_,fun j hj=>?_,fun j hj=>?_,?_⟩,by simp[intOf];omega⟩
    .exact g.setCell QF _
    .by_cases e:j=k
     .subst e;rw[GF _ _ _ b,TM,hcd.o];rw[y.o]
     .rw[GD _ _ _ _ (by simp[e]),a j hj,Sk s j e]
    .rw[World.frozen?_setCell];exact d j hj
    .simpa using t
  .have v:k=s.size:=I
   subst v;have F:=r wr a C;go_wp2;go_ret;exact⟨rfl,g⟩
def X1(f:Flt)(w:World)(e:Ending)(w':World):Prop:=
 ∃b,w.heap.size<=b/\e=.panicked [{ v:=.iface 125 (Qc b),recovered:=false }]/\
  w'.heap[b]?=some (Qe #[Qa f.err,Qa f.pos] 130)
theorem Yr{b a:Int}:Calls prog 103 #[Qa b,Qa a] w fun e w'=>e=.returned (Qc w.heap.size)/\w'=w.alloc (Qe #[Qa b,Qa a] 130):=by
 go_enter func103,ntmps103;go_wp2;go_ret;exact⟨rfl,rfl⟩
theorem QtG(l:L8)(h:Lib.indexByte l 10<0):(lineLen l:Int)=l.length:=by unfold lineLen;rw[Qi h]
theorem QsE(l:L8)(h:¬Lib.indexByte l 10<0):(lineLen l:Int)=Lib.indexByte l 10+1:=by unfold lineLen;rw[Qg h];omega
theorem RS(f:s.size<=140737488355328):Calls prog 232 #[.string s] w fun e w'=>e=.returned (Qa (lineLen s.data.toList))/\w'=w:=by
 have d:=CX s.data.toList 10;have b:=O (QtG s.data.toList);have c:=O (QsE s.data.toList);have a:(s.data.toList.length:Int)=s.size:=Qh
 rw[a]at d;by_cases hn:Lib.indexByte s.data.toList 10<0
 .go_enter func232,ntmps232;go_wp2_with (go_at_call 230;refine Qu (Tryz.strings_IndexByte _ _ _) ?_);go_ret;exact⟨Jz (by rw[b hn,a]),rfl⟩
 .go_enter func232,ntmps232;go_wp2_with (go_at_call 230;refine Qu (Tryz.strings_IndexByte _ _ _) ?_);go_ret;exact⟨Jz (by rw[c I]),rfl⟩
theorem Al:(s.extract a s.size).data.toList=s.data.toList.drop a:=by
 rw[ByteArray.data_extract,Array.toList_extract,List.extract_eq_take_drop];rw[Z7];simp
theorem Bf(a:Nat):(s.extract a s.size).size=s.size-a:=by
 rw[Lib.size_eq,Al];simp
theorem Qvk{f:Nat}:Zw f [] p=.ok p:=by cases f<;>rfl
theorem WI(f p:Nat)(r:L8)(h:ZZ c.toNat=true):Zw (f+1) (c::r) p=Zw f r (p+1):=by
 simp only[Zw];rw[Qi h]
theorem Qtb(f p:Nat)(r:L8)(h:ZZ c.toNat=false)(a:c.toNat=35):Zw (f+1) (c::r) p=Zw f ((c::r).drop (lineLen (c::r))) (p+lineLen (c::r)):=by
 simp only[Zw];rw[Qg (by rw[h];decide),Qi a]
theorem Qti(f p:Nat){c:UInt8}(r:L8)(h:ZZ c.toNat=false)(a:¬c.toNat=35)(b:Lib.hasPrefix (c::r) [47,42]=true)(d:Lib.index (r.drop 1) [42,47]<0):Zw (f+1) (c::r) p=.error ⟨2,p⟩:=by
 simp only[Zw];rw[Qg (by rw[h];decide),Qg a,Qi b,Qi d]
theorem QtB(f p:Nat){c:UInt8}(r:L8)(h:ZZ c.toNat=false)(a:¬c.toNat=35)(b:Lib.hasPrefix (c::r) [47,42]=true)(d:¬Lib.index (r.drop 1) [42,47]<0):Zw (f+1) (c::r) p=Zw f ((c::r).drop (4+(Lib.index (r.drop 1) [42,47]).toNat)) (p+(4+(Lib.index (r.drop 1) [42,47]).toNat)):=by
 simp only[Zw];rw[Qg (by rw[h];decide),Qg a,Qi b,Qg d]
theorem Qt8(f p:Nat){c:UInt8}(r:L8)(h:ZZ c.toNat=false)(a:¬c.toNat=35)(b:Lib.hasPrefix (c::r) [47,42]=false):Zw (f+1) (c::r) p=.ok p:=by
 simp only[Zw];rw[Qg (by rw[h];decide),Qg a,Qg (by rw[b];decide)]
theorem R7{a b:UInt8}(h:Lib.hasPrefix l [a,b]=true):2<=l.length:=by
 have:=(N_.1 h).length_le;simpa using this
def U4(r:Qq Nat)(w:World)(e:Ending)(w':World):Prop:=
 match r with
 | .ok n=>e=.returned (Qa n)/\w'=w
 | .error f=>X1 f w e w'/\Qo w w'
theorem U4.ok{r:Qq Nat}{n:Nat}{w:World}{x:Int}(h:r=.ok n)(a:x=n):U4 r w (.returned (Qa x)) w:=by
 subst h;subst a;exact⟨rfl,rfl⟩
theorem LC(a p:Nat)(w:World):X1 ⟨a,p⟩ w (.panicked [{ v:=.iface 125 (Qc w.heap.size),recovered:=false }]) (w.alloc (Qe #[Qa a,Qa p] 130)):=by
 refine⟨w.heap.size,Q4 _,rfl,?_⟩;show(w.heap.push _)[w.heap.size]?=_
 simp
theorem U4.err{r:Qq Nat}(h:r=.error ⟨a,p⟩) :
 U4 r w (.panicked [{ v:=.iface 125 (Qc w.heap.size),recovered:=false }]) (w.alloc (Qe #[Qa a,Qa p] 130)):=by
 subst h;exact⟨LC a p w,QH _⟩
theorem Qxc{n:Nat}(r:Nat)(m:Int)(S:s.size<=4294967280)(G:n<=s.size)(H:s.size-n<r)(y:w.cell? (Ql 1 0)=some (Qa m)):Calls prog 194 #[.string s,Qa n] w (U4 (Zw r (s.data.toList.drop n) n) w):=by
 go_enter func194,ntmps194;go_wp2_with fail
 go_loop [1,5,6] (fun a _ _=>∃k f:Nat,k<=s.size/\s.size-k<f/\a=Qa k/\Zw r (s.data.toList.drop n) n=Zw f (s.data.toList.drop k) k) (fun a _ _=>s.size-(intOf a).toNat)
 case atStart=>exact⟨n,r,G,H,rfl,rfl⟩
 case round=>
  obtain⟨k,f,N,P,rfl,p⟩:=hrel;obtain⟨f,rfl⟩:∃g,f=g+1:=⟨f-1,I⟩;change Qd _ at p;by_cases hlt:k<s.size
  .have d:=YU hlt;obtain⟨b,z⟩:=Qw (s.extract k s.size);have q:Hid (b.data.toList=s.data.toList.drop k):=by rw[<-z];exact Al
   have K:b.size=s.size-k:=by rw[<-z];exact Bf k
   have L:0<b.size:=I
   have T:b.size<=s.size-k:=I
   clear K
   have D:b[0]=s[k]:=by
    have e:=q.o;rw[d]at e;have x:=YU L;rw[Jm,e]at x;exact(List.cons.inj x).1.symm
   generalize hcd:s[k]=c at D d;clear hcd;rw[d]at p;change Qd _ at d;cases hb:ZZ (c.toNat:Int)
   .by_cases h35:(c.toNat:Int)=35
    .have l:=O (Qtb f k (s.data.toList.drop (k+1)) hb I);have J:=IB b.data.toList;have Q:1<=lineLen b.data.toList:=by rw[q.o,d.o];exact C6 _ _
     have t:b.data.toList.length=b.size:=Qh
     rw[t]at J;have F:((c.toNat:Int)==35)=true:=by simpa using h35
     clear h35;have C:Hid (lineLen (c::s.data.toList.drop (k+1))=lineLen b.data.toList):=by show _=_;rw[q.o,d.o]
     go_wp2_with (first|(go_at_call 231;refine Qu (GP) ?_)|(go_at_call 232;refine Qu (RS I) ?_));refine⟨⟨k+lineLen b.data.toList,f,I,I,by go_num,?_⟩,by simp[intOf];omega⟩;rw[p.o,l.o,C.o,<-d.o,XN]
    .have F:((c.toNat:Int)==35)=false:=by simpa using h35
     cases hp:Lib.hasPrefix b.data.toList [47,42]
     .have l:=O (Qt8 f k (s.data.toList.drop (k+1)) hb I (by rw[<-d.o,<-q.o];exact hp));clear h35;go_wp2_with (first|(go_at_call 231;refine Qu (GP) ?_)|(go_at_call 233;refine Qu (Tryz.strings_HasPrefix _ _ _) ?_));go_ret;exact U4.ok (by rw[p.o,l.o]) rfl
     .have E:=R7 hp;have t:b.data.toList.length=b.size:=Qh
      rw[t]at E;obtain⟨i,A⟩:=Qw (b.extract 2 b.size)
      have v:Hid (i.data.toList=(s.data.toList.drop (k+1)).drop 1):=by
       show _=_
       rw[<-A,Al,q.o,d.o];rfl
      have M:i.size=b.size-2:=by rw[<-A];exact Bf 2
      have U:i.size<=b.size-2:=I
      have B:(i.data.toList.length:Int)=i.size:=Qh
      have u:=IJ i.data.toList [42,47];rw[B]at u;clear M t B;by_cases hi:Lib.index i.data.toList [42,47]<0
      .have l:=O (Qti f k (s.data.toList.drop (k+1)) hb I (by rw[<-d.o,<-q.o];exact hp) (by rw[<-v.o];exact hi));clear h35 u;go_wp2_with (first|(go_at_call 231;refine Qu (GP) ?_)|(go_at_call 233;refine Qu (Tryz.strings_HasPrefix _ _ _) ?_)|(go_at_call 234;refine Qu (Tryz.strings_Index _ _ m _ I y) ?_)|(go_at_call 103;refine Qu (Yr) ?_));exact⟨rfl,U4.err (by rw[p.o,l.o])⟩
      .have R:Lib.index i.data.toList [42,47]+2<=i.size:=by
        rcases u with h|h
        .exact absurd h hi
        .simpa using h
       have l:=O (QtB f k (s.data.toList.drop (k+1)) hb I (by rw[<-d.o,<-q.o];exact hp) (by rw[<-v.o];exact hi));clear h35 u;go_wp2_with (first|(go_at_call 231;refine Qu (GP) ?_)|(go_at_call 233;refine Qu (Tryz.strings_HasPrefix _ _ _) ?_)|(go_at_call 234;refine Qu (Tryz.strings_Index _ _ m _ I y) ?_)|(go_at_call 103;refine Qu (Yr) ?_));refine⟨⟨k+(4+(Lib.index i.data.toList [42,47]).toNat),f,I,I,ZI _ I,?_⟩,by simp[intOf];omega⟩;rw[p.o,l.o,<-v.o,<-d.o,XN]
   .have l:=O (WI f k (s.data.toList.drop (k+1)) hb);go_wp2_with (first|(go_at_call 231;refine Qu (GP) ?_));go_round
    case rel=>exact⟨k+1,f,I,I,by go_num,by rw[p.o,l.o]⟩
    case measure=>simp[intOf];omega
  .go_wp2;go_ret;exact U4.ok (by rw[p.o,ZE (by simp;omega),Qvk]) rfl
theorem SV(n:Nat):(s.extract a (a+n)).data.toList=(s.data.toList.drop a).take n:=by
 rw[ByteArray.data_extract,Array.toList_extract,List.extract_eq_take_drop];rw[show a+n-a=n from I]
theorem N6(hb:Qo W w1):(∀b o,b<W.heap.size->w1.cell? ⟨b,o,none⟩=W.cell? ⟨b,o,none⟩)/\(∀b o,b<W.heap.size->w1.frozen? ⟨b,o,none⟩=W.frozen? ⟨b,o,none⟩):=
 ⟨fun b o h=>hb.cell (p:=⟨b,o,none⟩) h,fun b o h=>hb.frozen (p:=⟨b,o,none⟩) h⟩
def wdV(x:Wd):Value:=.agg #[Qa x.kind,Qa x.pos,.string ⟨x.spelt.toArray⟩,.string ⟨x.said.toArray⟩,Qa x.num]
def ZY(r:Qq (Wd×Nat))(w:World)(e:Ending)(w':World):Prop:=
 Qo w w'/\
 match r with
 | .ok x=>e=.returned (.tuple #[wdV x.1,Qa x.2])
 | .error f=>X1 f w e w'
theorem ZY.ok{r:Qq (Wd×Nat)}{x:Wd×Nat}{w w':World}{v:Value}{n:Int}(h:r=.ok x)(a:Qo w w')(c:v=wdV x.1)(b:n=x.2):ZY r w (.returned (.tuple #[v,Qa n])) w':=by
 subst h;subst c;subst b;exact⟨a,rfl⟩
theorem ZY.err{r:Qq (Wd×Nat)}(h:r=.error f)(a:Qo w w')(b:X1 f w e w'):ZY r w e w':=by
 subst h;exact⟨a,b⟩
theorem X1.up(h:X1 f w1 e w')(c:w.heap.size<=w1.heap.size):X1 f w e w':=by
 obtain⟨b,a,h⟩:=h;exact⟨b,QE c a,h⟩
theorem KI(a p:Nat)(d:w.heap.size<=w1.heap.size)(c:b=w1.heap.size) :
 X1 ⟨a,p⟩ w (.panicked [{ v:=.iface 125 (Qc b),recovered:=false }]) (w1.alloc (Qe #[Qa a,Qa p] 130)):=by
 subst c;exact(LC a p w1).up d
theorem Q_:type_of%@Go.bodyPost_ret:=@Go.bodyPost_ret
theorem Sm(k:Int)(n:Nat)(q:s.size<=4294967280)(m:a+n<=s.size):Calls prog 225 #[Qa k,.string s,Qa a,Qa n] w fun e w'=>
  e=.returned (.tuple #[.agg #[Qa k,Qa a,.string ⟨(zL ((s.data.toList.drop a).take n)).toArray⟩,.string ⟨#[]⟩,Qa 0],Qa (a+n:Nat)])/\Qo w w':=by
 obtain⟨c,i⟩:=Qw (s.extract a (a+n));have d:Hid (c.data.toList=(s.data.toList.drop a).take n):=by rw[<-i];exact SV n
 have r:c.size<=s.size:=by
  rw[Lib.size_eq,d.o];simp;omega
 go_enter func225,ntmps225;go_wp2_with fail;refine Qv (AF c _ I) ?_;rintro l b;rw[d.o];obtain⟨g,p⟩:=N6 b;have j:w.heap.size<l.heap.size:=by have:=b.size;simp at this;omega
 replace b:=O b;go_wp2;have f:=(QH _).trans (b.mono Qh);refine Q_ (v:=.tuple #[.agg #[Qa k,Qa a,.string ⟨(zL ((s.data.toList.drop a).take n)).toArray⟩,.string ⟨#[]⟩,Qa 0],Qa (a+n:Nat)]) (by simp[results,results225,go_sem,g,j]) rfl ⟨rfl,?_⟩;exact((((f.setCell QF _).setCell QF _).setCell QF _).setCell QF _).setCell QF _
def Gg(v:Nat)(l:L8):Nat:=(l.takeWhile fun c=>Q7 c.toNat).foldl JA v
theorem Wj:Kb l=Gg 0 l:=rfl
theorem TZ:Gg v []=v:=rfl
theorem SN{r:L8}(h:Q7 c.toNat=true):Gg v (c::r)=Gg (JA v c) r:=by
 simp[Gg,List.takeWhile_cons,h]
theorem St{r:L8}(h:Q7 c.toNat=false):Gg v (c::r)=v:=by
 simp[Gg,List.takeWhile_cons,h]
theorem Wg{r:L8}(h:Q7 c.toNat=true):ZP (c::r)=1+ZP r:=by
 simp[ZP,List.takeWhile_cons,h];omega
theorem TD{r:L8}(h:Q7 c.toNat=false):ZP (c::r)=0:=by
 simp[ZP,List.takeWhile_cons,h]
theorem QtV:ZP []=0:=rfl
theorem QsV(v:Nat)(c:UInt8):JA v c<=2147483648:=by unfold JA;omega
theorem C'{b:L8}(p:Nat){j:Nat}(v' c:Nat){a:UInt8}(d:UInt8)(k:Kb b=v)(g:ZP b=j)(e:b.getD j 0=a)
 (l:v'=if isM a then v*1048576 else if isK a then v*1024 else v) (i:c=if isM a || isK a then j+1 else j) (f:b.getD c 0=d) :
 sNL b p=if Zr d then .error ⟨2,p⟩else if 2147483647<v' then .error ⟨3,p⟩else .ok (⟨4,p,[],[],v'⟩,p+c):=by
 subst k;subst g;subst e;subst l;subst i;subst f;rfl
theorem Ba(s:ByteArray)(a j:Nat)(x:Int)(h:x=(a+j:Nat)):(s.data.toList.drop a).getD j 0=byteOf s x:=by
 subst h;unfold byteOf;rw[Zv,List.getElem?_drop,Int.toNat_natCast,Zv]
theorem NK(h:Za (c.toNat:Int)=true\/Q7 (c.toNat:Int)=true):Zr c=true:=by
 unfold Zr;rcases h with h|h<;>simp[h]
theorem CO(h:Za (c.toNat:Int)=false)(a:Q7 (c.toNat:Int)=false):Zr c=false:=by
 unfold Zr;simp[h,a]
theorem five_ways(c:UInt8):((c.toNat:Int)==77)=true\/(((c.toNat:Int)==77)=false/\((c.toNat:Int)==109)=true)\/
 (((c.toNat:Int)==77)=false/\((c.toNat:Int)==109)=false/\((c.toNat:Int)==75)=true)\/
 (((c.toNat:Int)==77)=false/\((c.toNat:Int)==109)=false/\((c.toNat:Int)==75)=false/\((c.toNat:Int)==107)=true)\/
 (((c.toNat:Int)==77)=false/\((c.toNat:Int)==109)=false/\((c.toNat:Int)==75)=false/\((c.toNat:Int)==107)=false):=by
 cases((c.toNat:Int)==77)<;>cases((c.toNat:Int)==109)<;>cases((c.toNat:Int)==75)<;>cases((c.toNat:Int)==107)<;>simp
theorem Cl(h:((c.toNat:Int)==77)=true\/((c.toNat:Int)==109)=true):isM c=true:=by
 unfold isM;simp at h ⊢;omega
theorem B9(h:((c.toNat:Int)==77)=false)(a:((c.toNat:Int)==109)=false):isM c=false:=by
 unfold isM;simp at h a ⊢;omega
theorem Cj(h:((c.toNat:Int)==75)=true\/((c.toNat:Int)==107)=true):isK c=true:=by
 unfold isK;simp at h ⊢;omega
theorem M3(h:((c.toNat:Int)==75)=false)(a:((c.toNat:Int)==107)=false):isK c=false:=by
 unfold isK;simp at h a ⊢;omega
theorem RI(d:Nat)(w:World)(L:s.size<=4294967280)(G:d<=s.size):Calls prog 228 #[.string s,Qa d] w (ZY (sNL (s.data.toList.drop d) d) w):=by
 go_enter func228,ntmps228;go_wp2_with fail
 go_loop [6,7] (fun a b=>∃j v:Nat,d+j<=s.size/\v<=2147483648/\a=Qa v/\b=Qa (d+j:Nat)/\Kb (s.data.toList.drop d)=Gg v (s.data.toList.drop (d+j))/\ZP (s.data.toList.drop d)=j+ZP (s.data.toList.drop (d+j))) (fun _ b=>s.size-(intOf b).toNat)
 case atStart=>exact⟨0,0,I,I,rfl,Qh,by rw[Wj];rfl,Qh⟩
 case round=>
  obtain⟨j,v,K,M,rfl,rfl,y,x⟩:=hrel;change Qd _ at y x;by_cases hgo:∃h:d+j<s.size,Q7 (s[d+j].toNat:Int)=true
  .obtain⟨m,p⟩:=hgo;have C:=O (YU m);obtain⟨c,z⟩:=Qw (s[d+j]);rw[z]at p C;have F:48<=(c.toNat:Int)/\(c.toNat:Int)<=57:=by unfold Q7 at p;simpa using p
   obtain⟨H,J⟩:=F;go_wp2_with (go_at_call 227;refine Qu (XQ) ?_);refine⟨⟨j+1,JA v c,I,QsV v c,?_,ZI _ I,?_,?_⟩,by simp[intOf];omega⟩
   .refine ZI _ ?_;unfold JA;omega
   .rw[y.o,C.o,SN p];rfl
   .rw[x.o,C.o,Wg p,show d+j+1=d+(j+1)from rfl];omega
  .have B:Hid (Kb (s.data.toList.drop d)=v):=by
    show _=_
    rw[y.o];by_cases m:d+j<s.size
    .rw[YU m,St];cases h:Q7 (s[d+j].toNat:Int)
     .rfl
     .exact absurd ⟨m,h⟩ hgo
    .rw[ZE (by simp;omega),TZ]
   have A:Hid (ZP (s.data.toList.drop d)=j):=by
    show _=_
    rw[x.o];by_cases m:d+j<s.size
    .rw[YU m,TD]
     .rfl
     .cases h:Q7 (s[d+j].toNat:Int)
      .rfl
      .exact absurd ⟨m,h⟩ hgo
    .rw[ZE (by simp;omega),QtV];rfl
   clear y x;change Qd _ at hgo;by_cases m:d+j<s.size
   have p:Q7 (s[d+j].toNat:Int)=false:=by
    cases h:Q7 (s[d+j].toNat:Int)
    .rfl
    .exact absurd ⟨m,h⟩ hgo
   obtain⟨c,z⟩:=Qw (s[d+j]);rw[z]at p;clear hgo;go_wp2_with (go_at_call 227;refine Qu (XQ) ?_);clear z p;rotate_left;clear hgo;go_wp2_with (go_at_call 227;refine Qu (XQ) ?_)
   all_goals
    refine Qu (BQ s (by unfold maxLen;omega) I) ?_;have q:=O (Ba s d j (↑d+↑j) I);generalize byteOf s (↑d+↑j)=c1 at q;rcases five_ways c1 with k | ⟨k,l⟩ | ⟨k,l,r⟩ | ⟨k,l,r,t⟩ | ⟨k,l,r,t⟩
    iterate 2
     .have n:Hid (∀i,byteOf s (↑d+↑j+1)=i->sNL (s.data.toList.drop d) d=if Zr i then .error ⟨2,d⟩else if 2147483647<v*1048576 then .error ⟨3,d⟩else .ok (⟨4,d,[],[],v*1048576⟩,d+(j+1))):=fun i u=>
       C' d (v*1048576) (j+1) i B A q (by first|(rw[Cl (Qt k)];rfl)|(rw[Cl (Qr l)];rfl)) (by first|(rw[Cl (Qt k)];rfl)|(rw[Cl (Qr l)];rfl)) (by rw[Ba s d (j+1) (↑d+↑j+1) I];exact u)
      clear q;go_wp2_with fail;refine Qu (BQ s (by unfold maxLen;omega) I) ?_;have f:=O (n _ rfl);clear n;generalize byteOf s (↑d+↑j+1)=i at f;cases hl:Za (i.toNat:Int)
      .cases hdd:Q7 (i.toNat:Int)
       .rw[CO hl hdd]at f;by_cases hbig:2147483647<v*1048576
        .rw[Qg Qb,Qi hbig]at f;have E:(2147483647:Int)<(v:Int)*1024*1024:=I
         go_wp2_with (first|(go_at_call 224;refine Qu (X6) ?_)|(go_at_call 227;refine Qu (XQ) ?_)|(go_at_call 103;refine Qu (Yr) ?_));exact⟨rfl,ZY.err f ((QH _).alloc Qh _) (KI 3 d Qh Qh)⟩
        .rw[Qg Qb,Qg hbig]at f;go_wp2_with (first|(go_at_call 224;refine Qu (X6) ?_)|(go_at_call 227;refine Qu (XQ) ?_)|(go_at_call 103;refine Qu (Yr) ?_));refine Q_ (v:=.tuple #[.agg #[Qa 4,Qa d,.string ⟨#[]⟩,.string ⟨#[]⟩,Qa ((v:Int)*1024*1024)],Qa (↑d+↑j+1)]) (by simp[results,results228,go_sem]) rfl (ZY.ok f (QH _) ?_ ?_)
         .simp[wdV];try omega
         .simp;try omega
       .rw[NK (Qr hdd)]at f;rw[Qi rfl]at f;go_wp2_with (first|(go_at_call 224;refine Qu (X6) ?_)|(go_at_call 227;refine Qu (XQ) ?_)|(go_at_call 103;refine Qu (Yr) ?_));exact⟨rfl,ZY.err f ((QH _).alloc Qh _) (KI 2 d Qh Qh)⟩
      .rw[NK (Qt hl)]at f;rw[Qi rfl]at f;go_wp2_with (first|(go_at_call 224;refine Qu (X6) ?_)|(go_at_call 227;refine Qu (XQ) ?_)|(go_at_call 103;refine Qu (Yr) ?_));exact⟨rfl,ZY.err f ((QH _).alloc Qh _) (KI 2 d Qh Qh)⟩
    iterate 2
     .have n:Hid (∀i,byteOf s (↑d+↑j+1)=i->sNL (s.data.toList.drop d) d=if Zr i then .error ⟨2,d⟩else if 2147483647<v*1024 then .error ⟨3,d⟩else .ok (⟨4,d,[],[],v*1024⟩,d+(j+1))):=fun i u=>
       C' d (v*1024) (j+1) i B A q (by rw[B9 k l];first|(rw[Cj (Qt r)];rfl)|(rw[Cj (Qr t)];rfl)) (by rw[B9 k l];first|(rw[Cj (Qt r)];rfl)|(rw[Cj (Qr t)];rfl)) (by rw[Ba s d (j+1) (↑d+↑j+1) I];exact u)
      clear q;go_wp2_with fail;refine Qu (BQ s (by unfold maxLen;omega) I) ?_;have f:=O (n _ rfl);clear n;generalize byteOf s (↑d+↑j+1)=i at f;cases hl:Za (i.toNat:Int)
      .cases hdd:Q7 (i.toNat:Int)
       .rw[CO hl hdd]at f;by_cases hbig:2147483647<v*1024
        .rw[Qg Qb,Qi hbig]at f;have E:(2147483647:Int)<(v:Int)*1024:=I
         go_wp2_with (first|(go_at_call 224;refine Qu (X6) ?_)|(go_at_call 227;refine Qu (XQ) ?_)|(go_at_call 103;refine Qu (Yr) ?_));exact⟨rfl,ZY.err f ((QH _).alloc Qh _) (KI 3 d Qh Qh)⟩
        .rw[Qg Qb,Qg hbig]at f;go_wp2_with (first|(go_at_call 224;refine Qu (X6) ?_)|(go_at_call 227;refine Qu (XQ) ?_)|(go_at_call 103;refine Qu (Yr) ?_));refine Q_ (v:=.tuple #[.agg #[Qa 4,Qa d,.string ⟨#[]⟩,.string ⟨#[]⟩,Qa ((v:Int)*1024)],Qa (↑d+↑j+1)]) (by simp[results,results228,go_sem]) rfl (ZY.ok f (QH _) ?_ ?_)
         .simp[wdV];try omega
         .simp;try omega
       .rw[NK (Qr hdd)]at f;rw[Qi rfl]at f;go_wp2_with (first|(go_at_call 224;refine Qu (X6) ?_)|(go_at_call 227;refine Qu (XQ) ?_)|(go_at_call 103;refine Qu (Yr) ?_));exact⟨rfl,ZY.err f ((QH _).alloc Qh _) (KI 2 d Qh Qh)⟩
      .rw[NK (Qt hl)]at f;rw[Qi rfl]at f;go_wp2_with (first|(go_at_call 224;refine Qu (X6) ?_)|(go_at_call 227;refine Qu (XQ) ?_)|(go_at_call 103;refine Qu (Yr) ?_));exact⟨rfl,ZY.err f ((QH _).alloc Qh _) (KI 2 d Qh Qh)⟩
    .have n:Hid (∀i,byteOf s (↑d+↑j)=i->sNL (s.data.toList.drop d) d=if Zr i then .error ⟨2,d⟩else if 2147483647<v then .error ⟨3,d⟩else .ok (⟨4,d,[],[],v⟩,d+(j))):=fun i u=>
      C' d (v) (j) i B A q (by rw[B9 k l,M3 r t];rfl) (by rw[B9 k l,M3 r t];rfl) (by rw[Ba s d (j) (↑d+↑j) I];exact u)
     clear q;go_wp2_with fail;refine Qu (BQ s (by unfold maxLen;omega) I) ?_;have f:=O (n _ rfl);clear n;generalize byteOf s (↑d+↑j)=i at f;cases hl:Za (i.toNat:Int)
     .cases hdd:Q7 (i.toNat:Int)
      .rw[CO hl hdd]at f;by_cases hbig:2147483647<v
       .rw[Qg Qb,Qi hbig]at f;have E:(2147483647:Int)<(v:Int):=I
        go_wp2_with (first|(go_at_call 224;refine Qu (X6) ?_)|(go_at_call 227;refine Qu (XQ) ?_)|(go_at_call 103;refine Qu (Yr) ?_));exact⟨rfl,ZY.err f ((QH _).alloc Qh _) (KI 3 d Qh Qh)⟩
       .rw[Qg Qb,Qg hbig]at f;go_wp2_with (first|(go_at_call 224;refine Qu (X6) ?_)|(go_at_call 227;refine Qu (XQ) ?_)|(go_at_call 103;refine Qu (Yr) ?_));refine Q_ (v:=.tuple #[.agg #[Qa 4,Qa d,.string ⟨#[]⟩,.string ⟨#[]⟩,Qa ((v:Int))],Qa (↑d+↑j)]) (by simp[results,results228,go_sem]) rfl (ZY.ok f (QH _) ?_ ?_)
        .simp[wdV];try omega
        .simp;try omega
      .rw[NK (Qr hdd)]at f;rw[Qi rfl]at f;go_wp2_with (first|(go_at_call 224;refine Qu (X6) ?_)|(go_at_call 227;refine Qu (XQ) ?_)|(go_at_call 103;refine Qu (Yr) ?_));exact⟨rfl,ZY.err f ((QH _).alloc Qh _) (KI 2 d Qh Qh)⟩
     .rw[NK (Qt hl)]at f;rw[Qi rfl]at f;go_wp2_with (first|(go_at_call 224;refine Qu (X6) ?_)|(go_at_call 227;refine Qu (XQ) ?_)|(go_at_call 103;refine Qu (Yr) ?_));exact⟨rfl,ZY.err f ((QH _).alloc Qh _) (KI 2 d Qh Qh)⟩
def Ui(l:L8):List Value:=l.map fun c=>Value.int .u8 c.toNat
theorem CF:Ui l++[.int .u8 c.toNat]=Ui (l++[c]):=by simp[Ui]
theorem Tryz.infoU8:(prog.info? 5).map (fun i=>(i.zero,i.size,i.bytes))=some (some (.int .u8 0),1,1):=Qm
theorem CZ{wr:World}{v:Value}(h:wr.ownsRow base 5 1 v l.length (Ui l)) :
 (convert 198 9 v).run prog wr=.ok (.string ⟨l.toArray⟩) wr:=by
 obtain⟨d,f | ⟨g,b,c,a,o,k,r⟩⟩:=h
 .obtain⟨rfl,i⟩:=f;have:l=[]:=XV i;subst this;rw[run_convert_bytes_string wr 198 9 5 none 0 0 UA underlying5 Z2];rfl
 .have m:=World.ownsRow.cells (w:=wr) (base:=base) (e:=5) (size:=1) (v:=v) (n:=l.length) (xs:=Ui l) ⟨d,Qr ⟨g,b,c,a,o,k,r⟩⟩ (g:=g) (by rw[a];rfl);rw[a];exact run_convert_bytes_back wr 198 9 5 ⟨g,0,none⟩ b l UA underlying5 Z2 (fun j p=>m j _ (by simp[Ui,Zi p]))
theorem Iq(r:L8)(h:(c.toNat:Int)=34):qL (c::r)=some ([],1):=by
 unfold qL;rw[Xy]
theorem Qtj(d:UInt8){r:L8}(h:(c.toNat:Int)=92):qL (c::d::r)=(qL r).map fun x=>(d::x.1,x.2+2):=by
 rw[qL,Q8,Xy]
theorem WJ(h:(c.toNat:Int)=92):qL [c]=none:=by
 unfold qL;rw[Q8,Xy]
theorem QtL{r:L8}(h:¬(c.toNat:Int)=34)(a:¬(c.toNat:Int)=92):qL (c::r)=(qL r).map fun x=>(c::x.1,x.2+1):=by
 rw[qL.eq_def];dsimp only;rw[Q8,Q8]
def YQ(s:ByteArray)(at_ k:Nat)(acc:L8):Prop:=
 qL (s.data.toList.drop (at_+1))=(qL (s.data.toList.drop k)).map fun x=>(acc++x.1,x.2+(k-(at_+1)))
theorem YQ.fin(h:YQ s a k acc){r:L8}(d:s.data.toList.drop k=c::r)(b:(c.toNat:Int)=34) :
 qL (s.data.toList.drop (a+1))=some (acc,1+(k-(a+1))):=by
 unfold YQ at h;rw[h,d,Iq r b];simp
theorem YQ.one(h:YQ s a k acc)(e:s.data.toList.drop k=c::s.data.toList.drop (k+1))(b:¬(c.toNat:Int)=34)(d:¬(c.toNat:Int)=92)(f:a+1<=k) :
 YQ s a (k+1) (acc++[c]):=by
 unfold YQ at h ⊢;rw[h,e,QtL b d]
 cases qL (s.data.toList.drop (k+1))with
 |none=>rfl
 |some x=>simp;omega
theorem YQ.esc(h:YQ s a k acc){d:UInt8}(e:s.data.toList.drop k=c::s.data.toList.drop (k+1))(f:s.data.toList.drop (k+1)=d::s.data.toList.drop (k+1+1))(b:(c.toNat:Int)=92)(g:a+1<=k) :
 YQ s a (k+1+1) (acc++[d]):=by
 unfold YQ at h ⊢;rw[h,e,f,Qtj d b]
 cases qL (s.data.toList.drop (k+1+1))with
 |none=>rfl
 |some x=>simp;omega
theorem YQ.esc0(h:YQ s a k acc)(e:s.data.toList.drop k=c::s.data.toList.drop (k+1))(f:s.data.toList.drop (k+1)=[])(d:(c.toNat:Int)=92)(b:L8) :
 YQ s a (k+1) b:=by
 unfold YQ at h ⊢;rw[h,e,f,WJ d];rfl
theorem YQ.past(h:YQ s a k acc)(b:s.size<=k):qL (s.data.toList.drop (a+1))=none:=by
 unfold YQ at h;rw[h,ZE (by simpa using b)];rfl
theorem XM:type_of%@Go.wpList_append_own:=@Go.wpList_append_own
theorem QO:type_of%@Go.RowKit.Below.refl:=@Go.RowKit.Below.refl
theorem ZU:type_of%@Go.info_parts:=@Go.info_parts
theorem R'(w:World)(hs:s.size<=4294967280)(W:b<s.size):Calls prog 229 #[.string s,Qa b] w (ZY (quoteR (s.data.toList.drop (b+1)) b) w):=by
 obtain⟨J,E,F,G,H⟩:=ZU Tryz.infoU8;obtain⟨R,y⟩:=Q3 (quoteR (s.data.toList.drop (b+1)) b);rw[<-y];change Qd _ at y;go_enter func229,ntmps229;go_wp2_with fail
 go_loopw [6,7] (fun v i wr=>∃(k:Nat) (l:L8),b+1<=k/\k<=s.size/\i=Qa k/\l.length<=k/\wr.ownsRow (w.heap.size+1) 5 1 v l.length (Ui l)/\Below (w.heap.size+1) (w.alloc (Qe #[Qa 0,Qa 0,.string ⟨#[]⟩,.string ⟨#[]⟩,Qa 0] 206)) wr/\YQ s b k l) (fun _ i _=>s.size-(intOf i).toNat)
 case atStart=>
  refine⟨b+1,[],I,I,by go_num,Qh,World.ownsRow_nil _ _ _ _,QO _ _,?_⟩;unfold YQ;cases qL (s.data.toList.drop (b+1))<;>simp
 case round=>
  obtain⟨k,l,M,Z,rfl,X,g,a,r⟩:=hrel;replace r:=O r;by_cases hlt:k<s.size
  .have z:=O (YU hlt);obtain⟨c,T⟩:=Qw (s[k]);rw[T]at z;by_cases h34:(c.toNat:Int)=34
   .have L:((c.toNat:Int)==34)=true:=by simpa using h34
    have aa:=CZ g;have U:∀o,wr.cell? ⟨w.heap.size,o,none⟩=(w.alloc (Qe #[Qa 0,Qa 0,.string ⟨#[]⟩,.string ⟨#[]⟩,Qa 0] 206)).cell? ⟨w.heap.size,o,none⟩:=fun o=>a.cell (p:=⟨w.heap.size,o,none⟩) (by show w.heap.size<_;omega)
    have Y:∀o,wr.frozen? ⟨w.heap.size,o,none⟩=(w.alloc (Qe #[Qa 0,Qa 0,.string ⟨#[]⟩,.string ⟨#[]⟩,Qa 0] 206)).frozen? ⟨w.heap.size,o,none⟩:=fun o=>a.frozen (p:=⟨w.heap.size,o,none⟩) (by show w.heap.size<_;omega)
    have K:=O (Iq (s.data.toList.drop (k+1)) h34);clear g h34;replace a:=O a;go_wp2;have D:Qo w wr:=(QH _).trans (a.mono I);refine Q_ (v:=.tuple #[.agg #[Qa 5,Qa b,.string ⟨#[]⟩,.string ⟨l.toArray⟩,Qa 0],Qa (↑k+1)]) (by simp[results,results229,go_sem,U]) rfl (ZY.ok (x:=(⟨5,b,[],l,0⟩,b+(1+(1+(k-(b+1)))))) ?_ ?_ rfl ?_)
    .rw[y.o,quoteR,r.o.fin z (by simpa using L)]
    .exact((((D.setCell QF _).setCell QF _).setCell QF _).setCell QF _).setCell QF _
    .simp;omega
   .have L:((c.toNat:Int)==34)=false:=by simpa using h34
    by_cases h92:(c.toNat:Int)=92
    .have S:((c.toNat:Int)==92)=true:=by simpa using h92
     by_cases hl2:k+1<s.size
     .have C:=O (YU hl2);obtain⟨d,V⟩:=Qw (s[k+1]);rw[V]at C;change Qd _ at h34 h92;go_wp2_with (at_builtin;refine XM _ rfl _ _ 198 rfl (w.heap.size+1) 5 J (.int .u8 0) 1 1 UA E F G H rfl Qb _ _ _ rfl (g.alloc _) ⟨wr.heap.size,0,none⟩ 1 1 [.int .u8 d.toNat] rfl rfl ?c1 ?c2 ?c3 ?c4 ?c5 ?_)
      case c1=>
       intro j u f
       match j,f with
       |0,f=>simp at f;subst f;simp[Addr.add]
      case c2=>intro u q;simp at q;subst q;rfl
      case c3=>unfold maxLen;omega
      case c4=>omega
      case c5=>have:=a.size;simp at this ⊢;omega
      .intro P Q n m _;have t:=Below.grown (a.alloc (by have:=a.size;simp at this;omega) (Obj.cells #[.int .u8 d.toNat] 5)) m (by have:=a.size;simp at this ⊢;omega) (fun B A=>(g.lt B A).1);rw[CF]at n;clear a g m;go_wp2;go_roundw
       case rel=>exact⟨k+1+1,l++[d],I,I,by go_num,by simp;omega,by simpa using n,t,r.o.esc z C h92 M⟩
       case measure=>simp[intOf];omega
     .have C:Hid (s.data.toList.drop (k+1)=[]):=ZE (by simp;omega);change Qd _ at h34 h92;go_wp2_with (at_builtin;refine XM _ rfl _ _ 198 rfl (w.heap.size+1) 5 J (.int .u8 0) 1 1 UA E F G H rfl Qb _ _ _ rfl (g.alloc _) ⟨wr.heap.size,0,none⟩ 1 1 [.int .u8 c.toNat] rfl rfl ?c1 ?c2 ?c3 ?c4 ?c5 ?_)
      case c1=>
       intro j u f
       match j,f with
       |0,f=>simp at f;subst f;simp[Addr.add]
      case c2=>intro u q;simp at q;subst q;rfl
      case c3=>unfold maxLen;omega
      case c4=>omega
      case c5=>have:=a.size;simp at this ⊢;omega
      .intro P Q n m _;have t:=Below.grown (a.alloc (by have:=a.size;simp at this;omega) (Obj.cells #[.int .u8 c.toNat] 5)) m (by have:=a.size;simp at this ⊢;omega) (fun B A=>(g.lt B A).1);rw[CF]at n;clear a g m;go_wp2;go_roundw
       case rel=>exact⟨k+1,l++[c],I,I,by go_num,by simp;omega,by simpa using n,t,r.o.esc0 z C h92 _⟩
       case measure=>simp[intOf];omega
    .have S:((c.toNat:Int)==92)=false:=by simpa using h92
     change Qd _ at h34 h92;go_wp2_with (at_builtin;refine XM _ rfl _ _ 198 rfl (w.heap.size+1) 5 J (.int .u8 0) 1 1 UA E F G H rfl Qb _ _ _ rfl (g.alloc _) ⟨wr.heap.size,0,none⟩ 1 1 [.int .u8 c.toNat] rfl rfl ?c1 ?c2 ?c3 ?c4 ?c5 ?_)
     case c1=>
      intro j u f
      match j,f with
      |0,f=>simp at f;subst f;simp[Addr.add]
     case c2=>intro u q;simp at q;subst q;rfl
     case c3=>unfold maxLen;omega
     case c4=>omega
     case c5=>have:=a.size;simp at this ⊢;omega
     .intro P Q n m _;have t:=Below.grown (a.alloc (by have:=a.size;simp at this;omega) (Obj.cells #[.int .u8 c.toNat] 5)) m (by have:=a.size;simp at this ⊢;omega) (fun B A=>(g.lt B A).1);rw[CF]at n;clear a g m;go_wp2;go_roundw
      case rel=>exact⟨k+1,l++[c],I,I,by go_num,by simp;omega,by simpa using n,t,r.o.one z h34 h92 M⟩
      case measure=>simp[intOf];omega
  .have K:Hid (R=.error ⟨2,b⟩):=by show R=_;rw[y.o,quoteR,r.o.past I]
   have N:w.heap.size<=wr.heap.size:=by have:=a.size;simp at this;omega
   have D:Qo w wr:=(QH _).trans (a.mono I);clear g a y;go_wp2_with (go_at_call 103;refine Qu (Yr) ?_);exact⟨rfl,ZY.err K (D.alloc N _) (KI 2 b N rfl)⟩
theorem CK(k:Int)(a n:Nat){x:Int}(d:x=n)(c:s.size<=4294967280)(b:a+n<=s.size):Calls prog 225 #[Qa k,.string s,Qa a,Qa x] w fun e w'=>
  e=.returned (.tuple #[.agg #[Qa k,Qa a,.string ⟨(zL ((s.data.toList.drop a).take n)).toArray⟩,.string ⟨#[]⟩,Qa 0],Qa (a+n:Nat)])/\Qo w w':=by
 subst d;exact Sm k n c b
def Oh:Obj:=Qe #[Qa 0,Qa 0,.string ⟨#[]⟩,.string ⟨#[]⟩,Qa 0] 206
theorem Ao(h:Below (w.alloc Oh).heap.size (w.alloc Oh) w1){a b c e:Value} :
 Qo w (((((w1.setCell ⟨w.heap.size,0,none⟩ a).setCell ⟨w.heap.size,1,none⟩ b).setCell ⟨w.heap.size,2,none⟩ c).setCell ⟨w.heap.size,3,none⟩ d).setCell ⟨w.heap.size,4,none⟩ e):=by
 have f:=(QH _).trans (h.mono Qh);exact((((f.setCell QF _).setCell QF _).setCell QF _).setCell QF _).setCell QF _
theorem GV{r:L8}:Zm (c::r) p =
 if Za c.toNat then .ok (Yl 1 (c::r) p (nameLen (c::r)))
 else if c.toNat=58 then
  if nameLen r=0 then .error ⟨2,p⟩else .ok (Yl 2 (c::r) p (1+nameLen r))
 else if Q7 c.toNat then sNL (c::r) p
 else if c.toNat=34 then quoteR r p
 else if Y' c then .ok (Yl 3 (c::r) p 1)
 else .error ⟨2,p⟩:=rfl
theorem Qx6(c:a=s.size):Calls prog 193 #[.string s,Qa a] w (ZY (Zm (s.data.toList.drop a) a) w):=by
 have b:Hid (Zm (s.data.toList.drop a) a=.ok (⟨0,a,[],[],0⟩,a)):=by
  show _=_
  rw[ZE (by simp;omega)];rfl
 have d:((a:Int)==(s.size:Int))=true:=by simp;omega
 clear c;go_enter func193,ntmps193;go_wp2;refine Q_ (v:=.tuple #[.agg #[Qa 0,Qa a,.string ⟨#[]⟩,.string ⟨#[]⟩,Qa 0],Qa a]) (by simp[results,results193,go_sem]) rfl (ZY.ok b ?_ rfl rfl);exact QH _
theorem Tj{r:L8}(n:s.size<=4294967280)(f:s.data.toList.drop a=c::r)(y:a<s.size)(u:s[a]=c)(l:Za (c.toNat:Int)=true):Calls prog 193 #[.string s,Qa a] w (ZY (Zm (s.data.toList.drop a) a) w):=by
 have i:Hid (Zm (s.data.toList.drop a) a=.ok (Yl 1 (s.data.toList.drop a) a (nameLen (s.data.toList.drop a)))):=by
  show _=_
  rw[f,GV,Qi l]
 obtain⟨b,g⟩:=Qw (s.extract a s.size);have j:Hid (b.data.toList=s.data.toList.drop a):=by rw[<-g];exact Al
 have A:b.size<=s.size-a:=by rw[<-g,Bf];omega
 have m:=GT b.data.toList;rw[<-Lib.size_eq]at m;have z:((a:Int)==(s.size:Int))=false:=by simp;omega
 clear f;go_enter func193,ntmps193;go_wp2_with (first|(go_at_call 224;refine Qu (X6) ?_)|(go_at_call 226;refine Qu (GO (by unfold maxLen;omega)) ?_));refine Qv (CK 1 a (nameLen b.data.toList) rfl n I) ?_;rintro t d;obtain⟨k,x⟩:=N6 d;have p:w.heap.size<t.heap.size:=by have:=d.size;simp at this;omega
 rw[j.o];change Qd _ at d;go_wp2;refine Q_ (v:=.tuple #[.agg #[Qa 1,Qa a,.string ⟨(zL ((s.data.toList.drop a).take (nameLen (s.data.toList.drop a)))).toArray⟩,.string ⟨#[]⟩,Qa 0],Qa (a+nameLen (s.data.toList.drop a):Nat)]) (by simp[results,results193,go_sem,k,p]) rfl (ZY.ok i (Ao d) rfl rfl)
theorem QyG{r:L8}(y:s.size<=4294967280)(d:s.data.toList.drop a=c::r)(u:a<s.size)(C:s[a]=c)(l:Za (c.toNat:Int)=false)(k:(c.toNat:Int)=58):Calls prog 193 #[.string s,Qa a] w (ZY (Zm (s.data.toList.drop a) a) w):=by
 have p:Hid (s.data.toList.drop (a+1)=r):=by
  show _=_
  have:=YU u;rw[d]at this;exact(List.cons.inj this).2.symm
 obtain⟨b,m⟩:=Qw (s.extract (a+1) s.size);have j:Hid (b.data.toList=r):=by show _=_;rw[<-m,Al];exact p
 have F:b.size<=s.size-(a+1):=by rw[<-m,Bf];omega
 have x:=GT b.data.toList;rw[<-Lib.size_eq]at x;have E:((a:Int)==(s.size:Int))=false:=by simp;omega
 have B:((c.toNat:Int)==58)=true:=by simpa using k
 by_cases h0:nameLen b.data.toList=0
 .have g:Hid (Zm (s.data.toList.drop a) a=.error ⟨2,a⟩):=by
   show _=_
   rw[d,GV,Qg (by rw[l];decide),Xy,Qi (by rw[<-j.o];exact h0)]
  have q:((nameLen b.data.toList:Int)==0)=true:=by simpa using h0
  clear d k h0;go_enter func193,ntmps193;go_wp2_with (first|(go_at_call 224;refine Qu (X6) ?_)|(go_at_call 226;refine Qu (GO (by unfold maxLen;omega)) ?_)|(go_at_call 103;refine Qu (Yr) ?_));exact⟨rfl,ZY.err g ((QH _).alloc Qh _) (KI 2 a Qh Qh)⟩
 .have g:Hid (Zm (s.data.toList.drop a) a=.ok (Yl 2 (s.data.toList.drop a) a (1+nameLen b.data.toList))):=by
   show _=_
   rw[d,GV,Qg (by rw[l];decide),Xy,Qg (by rw[<-j.o];exact h0),j.o]
  have q:((nameLen b.data.toList:Int)==0)=false:=by simpa using h0
  clear d k h0;go_enter func193,ntmps193;go_wp2_with (first|(go_at_call 224;refine Qu (X6) ?_)|(go_at_call 226;refine Qu (GO (by unfold maxLen;omega)) ?_)|(go_at_call 103;refine Qu (Yr) ?_));refine Qv (CK 2 a (1+nameLen b.data.toList) I y I) ?_;rintro A i;obtain⟨t,D⟩:=N6 i;have z:w.heap.size<A.heap.size:=by have:=i.size;simp at this;omega
  generalize 1+nameLen b.data.toList=n at g;change Qd _ at i;go_wp2;exact Q_ (v:=.tuple #[.agg #[Qa 2,Qa a,.string ⟨(zL ((s.data.toList.drop a).take n)).toArray⟩,.string ⟨#[]⟩,Qa 0],Qa (a+n:Nat)]) (by simp[results,results193,go_sem,t,z]) rfl (ZY.ok g (Ao i) rfl rfl)
theorem Wm{r:L8}(u:s.size<=4294967280)(l:s.data.toList.drop a=c::r)(E:a<s.size)(C:s[a]=c)(t:Za (c.toNat:Int)=false)(j:¬(c.toNat:Int)=58)(q:Q7 (c.toNat:Int)=true):Calls prog 193 #[.string s,Qa a] w (ZY (Zm (s.data.toList.drop a) a) w):=by
 have g:Hid (Zm (s.data.toList.drop a) a=sNL (s.data.toList.drop a) a):=by
  show _=_
  rw[l,GV,Qg (by rw[t];decide),Q8,Qi q]
 have F:((a:Int)==(s.size:Int))=false:=by simp;omega
 have B:((c.toNat:Int)==58)=false:=by simpa using j
 have k:=O (fun W=>(RI a W u I));rw[g.o];rw[g.o]at g;generalize sNL (s.data.toList.drop a) a=R at k g ⊢;clear l j g;go_enter func193,ntmps193;go_wp2_with (first|(go_at_call 224;refine Qu (X6) ?_)|(go_at_call 227;refine Qu (XQ) ?_));refine(k _).mono ?_;rintro e A ⟨d,h⟩;have y:w.heap.size<A.heap.size:=by have:=d.size;simp at this;omega
 obtain⟨p,D⟩:=N6 d;replace d:=O d
 cases R with
 |error f=>
  have i:=h;obtain⟨b,m,rfl,n⟩:=i;exact⟨rfl,ZY.err rfl ((QH _).trans (d.mono Qh)) ⟨b,by simp at m;omega,rfl,n⟩⟩
 |ok x=>
  have i:=h;subst i;unfold wdV;go_wp2;exact Q_ (v:=.tuple #[.agg #[Qa x.1.kind,Qa x.1.pos,.string ⟨x.1.spelt.toArray⟩,.string ⟨x.1.said.toArray⟩,Qa x.1.num],Qa x.2]) (by simp[results,results193,go_sem,p,y]) rfl (ZY.ok rfl (Ao d) rfl rfl)
theorem QsO{r:L8}(A:s.size<=4294967280)(j:s.data.toList.drop a=c::r)(n:a<s.size)(G:s[a]=c)(z:Za (c.toNat:Int)=false)(l:¬(c.toNat:Int)=58)(y:Q7 (c.toNat:Int)=false)(k:(c.toNat:Int)=34):Calls prog 193 #[.string s,Qa a] w (ZY (Zm (s.data.toList.drop a) a) w):=by
 have p:Hid (s.data.toList.drop (a+1)=r):=by
  show _=_
  have:=YU n;rw[j]at this;exact(List.cons.inj this).2.symm
 have g:Hid (Zm (s.data.toList.drop a) a=quoteR (s.data.toList.drop (a+1)) a):=by
  show _=_
  rw[j,GV,Qg (by rw[z];decide),Q8,Qg (by rw[y];decide),Xy,p.o]
 have J:((a:Int)==(s.size:Int))=false:=by simp;omega
 have F:((c.toNat:Int)==58)=false:=by simpa using l
 have E:((c.toNat:Int)==34)=true:=by simpa using k
 have m:=O (fun W=>(R' W A n));rw[g.o];rw[g.o]at g;generalize quoteR (s.data.toList.drop (a+1)) a=R at m g ⊢;clear j l g k;go_enter func193,ntmps193;go_wp2_with (first|(go_at_call 224;refine Qu (X6) ?_)|(go_at_call 227;refine Qu (XQ) ?_));refine(m _).mono ?_;rintro e D ⟨d,h⟩;have B:w.heap.size<D.heap.size:=by have:=d.size;simp at this;omega
 obtain⟨u,H⟩:=N6 d;replace d:=O d
 cases R with
 |error f=>
  have i:=h;obtain⟨b,q,rfl,t⟩:=i;exact⟨rfl,ZY.err rfl ((QH _).trans (d.mono Qh)) ⟨b,by simp at q;omega,rfl,t⟩⟩
 |ok x=>
  have i:=h;subst i;unfold wdV;go_wp2;exact Q_ (v:=.tuple #[.agg #[Qa x.1.kind,Qa x.1.pos,.string ⟨x.1.spelt.toArray⟩,.string ⟨x.1.said.toArray⟩,Qa x.1.num],Qa x.2]) (by simp[results,results193,go_sem,u,B]) rfl (ZY.ok rfl (Ao d) rfl rfl)
def EZ(c:UInt8):Int:=Lib.indexByte [59,44,40,41,123,125,91,93] c
theorem IR:Calls prog 230 #[.string ⟨#[59,44,40,41,123,125,91,93]⟩,.int .u8 c.toNat] w fun e w'=>e=.returned (Qa (EZ c))/\w'=w:=by
 have h:=Tryz.strings_IndexByte ⟨#[59,44,40,41,123,125,91,93]⟩ c.toNat w;have e:((c.toNat:Int).toNat).toUInt8=c:=Qh
 rw[e]at h;exact h
theorem QwQ{r:L8}(p:s.size<=4294967280)(i:s.data.toList.drop a=c::r)(A:a<s.size)(y:s[a]=c)(n:Za (c.toNat:Int)=false)(g:¬(c.toNat:Int)=58)(m:Q7 (c.toNat:Int)=false)(f:¬(c.toNat:Int)=34)(d:Y' c=true):Calls prog 193 #[.string s,Qa a] w (ZY (Zm (s.data.toList.drop a) a) w):=by
 have k:Hid (Zm (s.data.toList.drop a) a=.ok (Yl 3 (s.data.toList.drop a) a 1)):=by
  show _=_
  rw[i,GV,Qg (by rw[n];decide),Q8,Qg (by rw[m];decide),Q8,Qi d]
 have B:0<=EZ c:=K5 d;have C:((a:Int)==(s.size:Int))=false:=by simp;omega
 have x:((c.toNat:Int)==58)=false:=by simpa using g
 have u:((c.toNat:Int)==34)=false:=by simpa using f
 clear i g f d;go_enter func193,ntmps193;go_wp2_with (first|(go_at_call 224;refine Qu (X6) ?_)|(go_at_call 227;refine Qu (XQ) ?_)|(go_at_call 230;refine Qu (IR) ?_));refine Qv (CK 3 a 1 rfl p I) ?_;rintro t b;obtain⟨l,z⟩:=N6 b;have q:w.heap.size<t.heap.size:=by have:=b.size;simp at this;omega
 change Qd _ at b;go_wp2;exact Q_ (v:=.tuple #[.agg #[Qa 3,Qa a,.string ⟨(zL ((s.data.toList.drop a).take 1)).toArray⟩,.string ⟨#[]⟩,Qa 0],Qa (a+1:Nat)]) (by simp[results,results193,go_sem,l,q]) rfl (ZY.ok k (Ao b) rfl rfl)
theorem QxA{r:L8}(t:s.size<=4294967280)(i:s.data.toList.drop a=c::r)(q:a<s.size)(p:s[a]=c)(l:Za (c.toNat:Int)=false)(g:¬(c.toNat:Int)=58)(k:Q7 (c.toNat:Int)=false)(f:¬(c.toNat:Int)=34)(b:Y' c=false):Calls prog 193 #[.string s,Qa a] w (ZY (Zm (s.data.toList.drop a) a) w):=by
 have j:Hid (Zm (s.data.toList.drop a) a=.error ⟨2,a⟩):=by
  show _=_
  rw[i,GV,Qg (by rw[l];decide),Q8,Qg (by rw[k];decide),Q8,Qg (by rw[b];decide)]
 have u:¬0<=EZ c:=of_decide_eq_false b;have v:((a:Int)==(s.size:Int))=false:=by simp;omega
 have n:((c.toNat:Int)==58)=false:=by simpa using g
 have m:((c.toNat:Int)==34)=false:=by simpa using f
 clear i g f b;go_enter func193,ntmps193;go_wp2_with (first|(go_at_call 224;refine Qu (X6) ?_)|(go_at_call 227;refine Qu (XQ) ?_)|(go_at_call 230;refine Qu (IR) ?_)|(go_at_call 103;refine Qu (Yr) ?_));exact⟨rfl,ZY.err j ((QH _).alloc Qh _) (KI 2 a Qh Qh)⟩
theorem QxW(d:s.size<=4294967280)(e:a<=s.size):Calls prog 193 #[.string s,Qa a] w (ZY (Zm (s.data.toList.drop a) a) w):=by
 by_cases h:a=s.size
 .exact Qx6 h
 have b:a<s.size:=I
 have c:=YU b;cases hl:Za (s[a].toNat:Int)
 .by_cases h58:(s[a].toNat:Int)=58
  .exact QyG d c b rfl hl h58
  cases hg:Q7 (s[a].toNat:Int)
  .by_cases h34:(s[a].toNat:Int)=34
   .exact QsO d c b rfl hl h58 hg h34
   cases hsg:Y' s[a]
   .exact QxA d c b rfl hl h58 hg h34 hsg
   .exact QwQ d c b rfl hl h58 hg h34 hsg
  .exact Wm d c b rfl hl h58 hg
 .exact Tj d c b rfl hl
theorem Zc(x:L8):(sA x).size=x.length:=rfl
theorem Gc(x y:L8):sA x++sA y=sA (x++y):=by
 unfold sA;apply ByteArray.ext;simp
theorem K9(x y:L8):((sA x).toList==y)=decide (x=y):=by
 rw[XL,show(sA x).data.toList=x from rfl,Xb];simp
theorem QG{a k:L8}(c:L8)(f:a=k)(q:decide (k=c)=false):((sA a).toList==c)=false:=by rw[K9,f];exact q
theorem XK{a k:L8}(c:L8)(f:a=k)(q:decide (k=c)=true):((sA a).toList==c)=true:=by rw[K9,f];exact q
theorem Ki:type_of%@Nat.lt_or_ge:=@Nat.lt_or_ge
theorem GH:type_of%@Array.getElem?_eq_none:=@Array.getElem?_eq_none
theorem QX{a:Addr}{v:Value}(h:w.cell? a=some v):a.block<w.heap.size:=by
 rcases Ki a.block w.heap.size with h'|h'
 .exact h'
 .unfold World.cell? at h;rw[GH h']at h;cases h
def ZQ(w:World)(g:Nat)(zs:Qn):Prop:=
 ∀j,j<zs.length->w.cell? ⟨g,j,none⟩=some (Qf (zs.getD j []))
theorem Y9(h:Below w.drew.heap.size w.drew w'):Qo w w':=⟨h.os,h.tape,h.output,h.size,h.block⟩
theorem QM{b o:Nat}{v:Value}{a:Array Value}{c:TypeId}(h:w.heap[b]?=some (Qe a c)):(w.setCell ⟨b,o,none⟩ v).heap[b]?=some (Qe (a.setIfInBounds o v) c):=by
 simp only[World.setCell,Array.getElem?_modify];rw[Qi trivial,h];rfl
theorem Qj{a:Array Value}{b:TypeId}(h:w.heap[g]?=some (Qe a b))(o:Nat):w.cell? ⟨g,o,none⟩=a[o]?:=by
 unfold World.cell?;rw[h];rfl
theorem Zs{x:Value}(q:w.heap[i]?=some (Qe (List.toArray (x::r)) t)):w.cell? (Ql i 0)=some x:=by rw[Qj q 0];rfl
theorem Q9{x y:Value}(q:w.heap[i]?=some (Qe (List.toArray (x::y::r)) t)):w.cell? (Ql i 1)=some y:=by rw[Qj q 1];rfl
theorem Xx{x y z:Value}(q:w.heap[i]?=some (Qe (List.toArray (x::y::z::r)) t)):w.cell? (Ql i 2)=some z:=by rw[Qj q 2];rfl
theorem XU{x y z u:Value}(q:w.heap[i]?=some (Qe (List.toArray (x::y::z::u::r)) t)):w.cell? (Ql i 3)=some u:=by rw[Qj q 3];rfl
theorem YF{x y z u v:Value}(q:w.heap[i]?=some (Qe (List.toArray (x::y::z::u::v::r)) t)):w.cell? (Ql i 4)=some v:=by rw[Qj q 4];rfl
theorem J1{x y z u v a:Value}(q:w.heap[i]?=some (Qe (List.toArray (x::y::z::u::v::a::r)) t)):w.cell? (Ql i 5)=some a:=by rw[Qj q 5];rfl
theorem VZ{x y z u v a b:Value}(q:w.heap[i]?=some (Qe (List.toArray (x::y::z::u::v::a::b::r)) t)):w.cell? (Ql i 6)=some b:=by rw[Qj q 6];rfl
theorem K2{x y z u v a b c:Value}(q:w.heap[i]?=some (Qe (List.toArray (x::y::z::u::v::a::b::c::r)) t)):w.cell? (Ql i 7)=some c:=by rw[Qj q 7];rfl
theorem Cv{x y z u v a b c d:Value}(q:w.heap[i]?=some (Qe (List.toArray (x::y::z::u::v::a::b::c::d::r)) t)):w.cell? (Ql i 8)=some d:=by rw[Qj q 8];rfl
theorem Cw{x y z u v a b c d e:Value}(q:w.heap[i]?=some (Qe (List.toArray (x::y::z::u::v::a::b::c::d::e::r)) t)):w.cell? (Ql i 9)=some e:=by rw[Qj q 9];rfl
theorem E1{x y z u v a b c d e f:Value}(q:w.heap[i]?=some (Qe (List.toArray (x::y::z::u::v::a::b::c::d::e::f::r)) t)):w.cell? (Ql i 10)=some f:=by rw[Qj q 10];rfl
theorem E2{x y z u v a b c d e f g:Value}(q:w.heap[i]?=some (Qe (List.toArray (x::y::z::u::v::a::b::c::d::e::f::g::r)) t)):w.cell? (Ql i 11)=some g:=by rw[Qj q 11];rfl
theorem OG{x y z u v a b c d e f g h:Value}(q:w.heap[i]?=some (Qe (List.toArray (x::y::z::u::v::a::b::c::d::e::f::g::h::r)) t)):w.cell? (Ql i 12)=some h:=by rw[Qj q 12];rfl
theorem QQ{a:Array Value}{b:TypeId}(h:w.heap[g]?=some (Qe a b))(o:Nat):w.frozen? ⟨g,o,none⟩=false:=by
 unfold World.frozen?;rw[h];simp
theorem QI{o:Obj}(h:w.heap[g]?=some o):g<w.heap.size:=by
 rcases Ki g w.heap.size with h'|h'
 .exact h'
 .rw[GH h']at h;cases h
theorem ZL:type_of%@Go.RowKit.Below.heap_alloc:=@Go.RowKit.Below.heap_alloc
theorem QJ{o o':Obj}(h:w.heap[g]?=some o):(w.alloc o').heap[g]?=some o:=by
 rw[ZL _ _ _ (QI h)];exact h
theorem Q0{o:Obj}:(w.alloc o).heap[w.heap.size]?=some o:=by
 show(w.heap.push o)[w.heap.size]?=_
 simp
theorem ZB{o:Obj}(h:g=w.heap.size):(w.alloc o).heap[g]?=some o:=by subst h;exact Q0
theorem Ze{o:Obj}(h:w.heap[g]?=some o)(a:Qo w w'):w'.heap[g]?=some o:=by
 rw[a.block g (QI h)];exact h
theorem T9(h:Below B w W)(hB:B<=w.heap.size){o:Obj}:Below B w (W.alloc o):=h.alloc (QE hB h.size) o
def QW(zs:Qn):List Value:=zs.map fun z=>Value.string (sA z)
theorem Jw(zs:Qn)(z:L8):QW zs++[Qf z]=QW (zs++[z]):=by simp[QW]
theorem SJ:(QW zs).length=zs.length:=by simp[QW]
theorem Tryz.infoStr:(prog.info? 9).map (fun i=>(i.zero,i.size,i.bytes))=some (some (.string ⟨#[]⟩),1,16):=Qm
theorem ZQ.of_owns{n c:Nat}{xs:Qn}(h:w.ownsRow base 9 1 (Qs g n c) n (QW xs)):ZQ w g xs:=fun j hj=>by
 have:=h.cells (g:=g) rfl j (Qf (xs.getD j [])) (by simp[QW,Zi hj,Zv]);rw[J8]at this;exact this
theorem Ju(w:World)(zs:Qn){b:Array Value}{a:TypeId}(h:b=(QW zs).toArray):ZQ (w.alloc (Qe b a)) w.heap.size zs:=fun j hj=>by
 subst h
 have:(w.alloc (.cells (QW zs).toArray a)).heap[w.heap.size]?=some (.cells (QW zs).toArray a):=by
  show(w.heap.push _)[w.heap.size]?=_
  simp
 unfold World.cell?;rw[this];simp[QW,Zv,hj]
theorem Zt:type_of%@Go.wp_at_zero:=@Go.wp_at_zero
theorem Zu:type_of%@Go.wp_at_succ:=@Go.wp_at_succ
theorem K'{a:TypeId}(h:g=w.heap.size):ZQ (w.alloc (.cells (QW zs).toArray a)) g zs:=by subst h;exact Ju w zs rfl
section
attribute [local go_sem ↓] Zt Zu
def Cb(t:ByteArray)(x:Wd)(p:Nat)(rv:Value)(mc mt:Nat):Array Value:=
 #[.string t,Qa x.kind,Qa x.pos,.string ⟨x.spelt.toArray⟩,.string ⟨x.said.toArray⟩,Qa x.num,Qa p,rv,.map (some mc),.map (some mt)]
def RAt(w:World)(b:Nat)(t:ByteArray)(x:Wd)(p:Nat)(rv:Value)(mc mt:Nat):Prop:=
 w.heap[b]?=some (Qe (Cb t x p rv mc mt) 210)
structure Mod (b:Nat) (w w':World):Prop where
 os:w'.os=w.os
 tape:w'.tape=w.tape
 output:w'.output=w.output
 size:w.heap.size<=w'.heap.size
 block:∀k,k < w.heap.size->k≠b->w'.heap[k]?=w.heap[k]?
theorem Mod.refl(b:Nat)(w:World):Mod b w w:=⟨rfl,rfl,rfl,Q4 _,fun _ _ _=>rfl⟩
theorem Mod.trans{b:Nat}{u v w:World}(h:Mod b u v)(k:Mod b v w):Mod b u w:=
 ⟨k.os.trans h.os,k.tape.trans h.tape,k.output.trans h.output,QE h.size k.size,fun i hi hn=>(k.block i (Yq hi h.size) hn).trans (h.block i hi hn)⟩
theorem Mod.of_below(h:Qo w w'):Mod b w w':=
 ⟨h.os,h.tape,h.output,h.size,fun k hk _=>h.block k hk⟩
theorem Mod.below(h:Mod b w w')(hB:B<=b)(hb:b<w.heap.size):Below B w w':=
 ⟨h.os,h.tape,h.output,h.size,fun k hk=>h.block k I I⟩
theorem Mod.drew{b:Nat}{u w:World}(h:Mod b u w):Mod b u w.drew:=⟨h.os,h.tape,h.output,h.size,h.block⟩
theorem Mod.setCell{b:Nat}{u w:World}(h:Mod b u w)(o:Nat)(v:Value):Mod b u (w.setCell ⟨b,o,none⟩ v):=
 h.trans ⟨rfl,rfl,rfl,by simp[World.setCell],fun k hk hn=>Below.heap_setCell _ _ _ _ hn⟩
theorem Mod.alloc{b:Nat}{u w:World}(h:Mod b u w)(o:Obj):Mod b u (w.alloc o):=
 h.trans ⟨rfl,rfl,rfl,Qh,fun k hk _=>ZL _ _ _ hk⟩
theorem Mod.cell{b:Nat}{w w':World}(h:Mod b w w'){p:Addr}(hp:p.block<w.heap.size)(hn:p.block≠b):w'.cell? p=w.cell? p:=
 World.cell?_of_block (w:=w) (h.block p.block hp hn)
theorem RAt.lt{t:ByteArray}{c:Nat}(h:RAt w b t x p d a c):b<w.heap.size:=by
 rcases Ki b w.heap.size with h'|h'
 .exact h'
 .unfold RAt at h;rw[GH h']at h;cases h
theorem RAt.cell{w:World}{b:Nat}{t:ByteArray}{x:Wd}{p:Nat}{d:Value}{a c:Nat}(h:RAt w b t x p d a c)(o:Nat):w.cell? ⟨b,o,none⟩=(Cb t x p d a c)[o]?:=by
 unfold World.cell?;rw[h];rfl
theorem RAt.frozen{w:World}{b:Nat}{t:ByteArray}{x:Wd}{p:Nat}{d:Value}{a c:Nat}(h:RAt w b t x p d a c)(o:Nat):w.frozen? ⟨b,o,none⟩=false:=by
 unfold World.frozen?;rw[h];simp
theorem RAt.mod{t:ByteArray}{c:Nat}(h:RAt w b t x p d a c)(e:Qo w w'):RAt w' b t x p d a c:=by
 unfold RAt;rw[e.block b h.lt];exact h
def UE(r:Qq (Wd×Nat))(b:Nat)(t:ByteArray)(rv:Value)(mc mt:Nat)(w:World)(e:Ending)(w':World):Prop:=
 Mod b w w'/\
 match r with
 | .ok y=>e=.returned (.tuple #[])/\RAt w' b t y.1 y.2 rv mc mt
 | .error f=>X1 f w e w'
theorem UE.err{r:Qq (Wd×Nat)}{t:ByteArray}{i:Value}{d:Nat}(h:r=.error f)(a:Mod b w w')(c:X1 f w e w'):UE r b t i d g w e w':=by
 subst h;exact⟨a,c⟩
theorem UE.ok{r:Qq (Wd×Nat)}{b:Nat}{t:ByteArray}{d:Value}{a c:Nat}{y:Wd×Nat}{w w':World}(h:r=.ok y)(e:Mod b w w')(f:RAt w' b t y.1 y.2 d a c):UE r b t d a c w (.returned (.tuple #[])) w':=by
 subst h;exact⟨e,rfl,f⟩
theorem U4.cases{r:Qq Nat}{w w':World}{e:Ending}(h:U4 r w e w') :
 (∃n,r=.ok n/\e=.returned (Qa n)/\w'=w)\/(∃f,r=.error f/\X1 f w e w'/\Qo w w'):=by
 cases r with
 |ok n=>exact Qt ⟨n,rfl,h⟩
 |error f=>exact Qr ⟨f,rfl,h⟩
theorem ZY.cases{r:Qq (Wd×Nat)}{w w':World}{e:Ending}(h:ZY r w e w') :
 (∃y,r=.ok y/\e=.returned (.tuple #[wdV y.1,Qa y.2])/\Qo w w')\/(∃f,r=.error f/\X1 f w e w'/\Qo w w'):=by
 cases r with
 |ok n=>exact Qt ⟨n,rfl,h.2,h.1⟩
 |error f=>exact Qr ⟨f,rfl,h.2,h.1⟩
theorem Sb(h:Zw (l.length+1) (l.drop p) p=.error f):nL l p=.error f:=by
 unfold nL;rw[h]
theorem Dl{n:Nat}(h:Zw (l.length+1) (l.drop p) p=.ok n):nL l p=Zm (l.drop n) n:=by
 unfold nL;rw[h]
theorem RAt.put{t:ByteArray}{rv:Value}{mc mt:Nat}(h:RAt w b t x p rv mc mt)(y:Wd)(q:Nat) :
 RAt ((((((w.setCell ⟨b,1,none⟩ (Qa y.kind)).setCell ⟨b,2,none⟩ (Qa y.pos)).setCell ⟨b,3,none⟩ (.string ⟨y.spelt.toArray⟩)).setCell ⟨b,4,none⟩ (.string ⟨y.said.toArray⟩)).setCell ⟨b,5,none⟩ (Qa y.num)).setCell ⟨b,6,none⟩ (Qa q)) b t y q rv mc mt:=
 QM (QM (QM (QM (QM (QM h)))))
theorem Mod.six{u:World}(h:Mod b u w)(o1 o2 o3 o4 o5 o6:Nat)(v1 v2 v3 v4 v5 v6:Value) :
 Mod b u ((((((w.setCell ⟨b,o1,none⟩ v1).setCell ⟨b,o2,none⟩ v2).setCell ⟨b,o3,none⟩ v3).setCell ⟨b,o4,none⟩ v4).setCell ⟨b,o5,none⟩ v5).setCell ⟨b,o6,none⟩ v6):=
 (((((h.setCell _ _).setCell _ _).setCell _ _).setCell _ _).setCell _ _).setCell _ _
theorem QyB{t:ByteArray}{A:Value}{z:Nat}(m:Int)(u:t.size<=4294967280)(s:p<=t.size)(g:RAt w b t x p A v z)(K:w.cell? (Ql 1 0)=some (Qa m)):Calls prog 141 #[Qc b] w (UE (nL t.data.toList p) b t A v z w):=by
 have k:=g.cell;have N:w.cell? (Ql b 0)=some (.string t):=k 0;have P:w.cell? (Ql b 6)=some (Qa p):=k 6;clear k;replace g:=O g;go_enter func141,ntmps141;go_wp2_with fail;go_region_with (first|(go_at_call 194;refine(Qxc (t.data.toList.length+1) m u s (by simp;omega) (by simpa using K)).mono ?_;intro e L H;rcases H.cases with⟨n,d,rfl,rfl⟩ | ⟨f,d,⟨j,q,rfl,l⟩,c⟩;rotate_left;exact⟨rfl,UE.err (Sb d) (Mod.of_below (Y9 c)) ⟨j,q,rfl,l⟩⟩;skip)|(go_at_call 193;refine(QxW u (by have:=(Vy _ _ _ _ (by simpa using s) d).2;simpa using this)).mono ?_;intro e L J;rcases J.cases with⟨y,i,rfl,c⟩ | ⟨f,i,⟨j,q,rfl,l⟩,c⟩;rotate_left;exact⟨rfl,UE.err ((Dl d).trans i) (Mod.of_below (Y9 c)) ⟨j,q,rfl,l⟩⟩;have a:=g.o.mod (Y9 c);have B:=a.cell 1;have C:=a.cell 2;have D:=a.cell 3;have E:=a.cell 4;have F:=a.cell 5;have G:=a.cell 6;simp only[Cb]at B C D E F G;have M:=a.frozen;have r:=O a;clear a;unfold wdV;skip))
 all_goals
  go_end0
  first
   |exact UE.ok ((Dl d).trans i) ((Mod.of_below (Y9 c)).six _ _ _ _ _ _ _ _ _ _ _ _) (r.o.put _ _)
   |exact UE.ok ((Dl d).trans i) ((Mod.of_below (Y9 c)).six _ _ _ _ _ _ _ _ _ _ _ _) (r.put' _ _)
end
def Kt(s:ByteArray)(k j:Nat):UInt8:=if j<k then Uu (s.data.toList.getD j 0)else s.data.toList.getD j 0
theorem Mw(h:Ku (c.toNat:Int)=true):((Uu c).toNat:Int)=(c.toNat:Int)-97+65:=by
 have a:=h;unfold Ku at a;simp at a;have e:Uu c=c-97+65:=by unfold Uu;rw[Qi h]
 rw[e,UInt8.toNat_add,UInt8.toNat_sub];simp;omega
theorem En(c:UInt8)(h:Ku (c.toNat:Int)=false):Uu c=c:=by
 unfold Uu;rw[Qg (by rw[h];decide)]
theorem W7(s:ByteArray)(k j:Nat)(h:Ku ((s.data.toList.getD k 0).toNat:Int)=false):Kt s k j=Kt s (k+1) j:=by
 unfold Kt;by_cases e:j=k
 .subst e;rw[Q8,Xy,En _ h]
 .by_cases l:j<k
  .rw[Qi l,Xy]
  .rw[Qg l,Q8]
theorem WU(s:ByteArray)(j:Nat)(e:¬j=k):Kt s k j=Kt s (k+1) j:=by
 unfold Kt;by_cases l:j<k
 .rw[Qi l,Xy]
 .rw[Qg l,Q8]
theorem QsK:Kt s (k+1) k=Uu (s.data.toList.getD k 0):=by
 unfold Kt;rw[Xy]
theorem TQ(s:ByteArray)(w:World)(G:s.size<=140737488355328):Calls prog 253 #[.string s] w fun e w'=>e=.returned (.string ⟨(capL s.data.toList).toArray⟩)/\Qo w w':=by
 have q:=Lib.run_convert_string_bytes (P:=prog) w 9 198 5 s (u:=.string) Z2 UA underlying5;have f:=Lib.bytesWorld_below w 5 s
 have l:∀j,j<s.size->(Lib.bytesWorld w 5 s).cell? ⟨w.heap.size,j,none⟩=some (.int .u8 (Kt s 0 j).toNat):=fun j hj=>by
  rw[Lib.bytesWorld_cell w 5 s j hj];simp[Kt]
 have m:∀j,j<s.size->(Lib.bytesWorld w 5 s).frozen? ⟨w.heap.size,j,none⟩=false:=fun j hj=>by
  unfold World.frozen?;rw[Lib.bytesWorld_at_new];simp[Lib.bytesCells];omega
 have n:=Lib.bytesWorld_size w 5 s;generalize Lib.bytesWorld w 5 s=W1 at q f l m n
 have r:∀(wr:World),(∀j,j<s.size->wr.cell? ⟨w.heap.size,j,none⟩=some (.int .u8 (Kt s s.size j).toNat))->
  ∀C,(convert 198 9 (Qs w.heap.size s.size C)).run prog wr=.ok (.string ⟨(capL s.data.toList).toArray⟩) wr:=fun wr z C=>by
  have x:(capL s.data.toList).length=s.size:=by simp[capL]
  have:=run_convert_bytes_back (P:=prog) wr 198 9 5 ⟨w.heap.size,0,none⟩ C (capL s.data.toList) UA underlying5 Z2 (fun j hj=>by
   rw[J8,z j I];have hj':j<s.data.toList.length:=by simp[capL]at hj;simpa using hj
   simp only[Kt,capL,List.getElem_map]
   rw [Xy,Zv,Zi hj'];rfl)
  rw[x]at this;exact this
 change Qd _ at r;go_enter func253,ntmps253;go_wp2_with fail;generalize grownCap w s.size 0 5=C at *
 go_loopw [4,5,10] (fun _ _ i wr=>∃k:Nat,k<=s.size/\i=Qa k/\Qo w wr/\(∀j,j<s.size->wr.cell? ⟨w.heap.size,j,none⟩=some (.int .u8 (Kt s k j).toNat))/\(∀j,j<s.size->wr.frozen? ⟨w.heap.size,j,none⟩=false)/\wr.heap.size=w.heap.size+1) (fun _ _ i _=>s.size-(intOf i).toNat)
 case atStart=>exact⟨0,I,rfl,f,l,m,n⟩
 case round=>
  obtain⟨k,E,rfl,g,a,d,t⟩:=hrel;clear f l m n q;by_cases hlt:k<s.size
  .have b:=a k hlt;have D:=d k hlt;simp only[Kt]at b;rw[Q8]at b;generalize hcd:s.data.toList.getD k 0=c at b;change Qd _ at hcd;have A:=UInt8.toNat_lt c;change Qd _ at a d;cases hc:Ku (c.toNat:Int)
   .go_wp2_with (go_at_call 257;refine Qu (Da) ?_);refine⟨⟨k+1,I,by go_num,g,fun j hj=>?_,d,t⟩,by simp[intOf];omega⟩;rw[a j hj,W7 s k j (by rw[hcd.o];exact hc)]
   .have y:=O (Mw hc);have p:97<=(c.toNat:Int)/\(c.toNat:Int)<=122:=by unfold Ku at hc;simpa using hc
    obtain⟨p,B⟩:=p;go_wp2_with (go_at_call 257;refine Qu (Da) ?_);refine⟨⟨k+1,I,by go_num,?_,fun j hj=>?_,fun j hj=>?_,?_⟩,by simp[intOf];omega⟩
    .exact g.setCell QF _
    .by_cases e:j=k
     .subst e;rw[GF _ _ _ b,QsK,hcd.o];rw[y.o]
     .rw[GD _ _ _ _ (by simp[e]),a j hj,WU s j e]
    .rw[World.frozen?_setCell];exact d j hj
    .simpa using t
  .have v:k=s.size:=I
   subst v;have F:=r wr a C;go_wp2;go_ret;exact⟨rfl,g⟩
theorem QN{n:Nat}{a:Addr}{v:Option Value}(b:Go.RowKit.Below n w w')(y:w.cell? a=v)(h:a.block<n):w'.cell? a=v:=(b.cell h).trans y
theorem Z5{e:TypeId}{s:Nat}:w.ownsRow b e s (.slice none 0 0) 0 []:=World.ownsRow_nil _ _ _ _
theorem Q'{a:Addr}{u:Value}(h:k≠a.block):(w.setCell a u).heap[k]?=w.heap[k]?:=Go.RowKit.Below.heap_setCell _ _ _ _ h
theorem Xo{a:Addr}(h:w'.heap[a.block]?=w.heap[a.block]?):w'.cell? a=w.cell? a:=World.cell?_of_block h
end Go.Proofs.YtgnkjijocdmniaaGreatDoor
