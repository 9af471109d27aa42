import Derived.Deep.AppendLies
import Derived.Test.YtgnkjijocdmniaaGreatDoorZMPieces
namespace Go.Proofs.YtgnkjijocdmniaaGreatDoor
set_option linter.unusedVariables false
set_option linter.unusedSimpArgs false
set_option maxRecDepth 100000
set_option maxHeartbeats 4000000
open Go.Proofs.Tryz
open Go.RowKit
attribute [local go_sem ↓] Go.wp_at_zero Go.wp_at_succ
variable{α:Type}{B i n:Nat}{a:List (Nat×UInt8)}{acc l x:L8}{b c d:Int}{la:Option Addr}{s:SS}{u w:World}{zs:Qa}
theorem VK(x:L8)(w:World)(h:x.length<=1000000):Calls prog 181 #[.string (sA x)] w fun e w'=>e=.returned (.string (sA (zL x)))/\Below w.heap.size w w':=
 VT (sA x) w (by rw[QN];omega)
theorem Ik(s:ByteArray)(w:World)(j:s.size<=1000000) :
 Calls prog 283 #[.string s] w fun e w'=>e=.returned (.int .i64 (nmLen s.data.toList))/\w'=w:=by
 have f:s.size<=maxLen:=by unfold maxLen;omega
 by_cases h0:s.size=0
 ·have d:=VF h0;have a:nmLen s.data.toList=nameLen s.data.toList:=by rw[<-ByteArray.toList_eq,d];rfl
  have b:=I a;clear a;go_enter func283,ntmps283;go_wp2_with (go_at_call 226;refine(Uq _ _ f).mono ?_;rintro e w' ⟨rfl,rfl⟩);go_ret;exact⟨Yg (by rw[b.o]),rfl⟩
 have d:=VI h0;have i:s.toList.isEmpty=false:=by simpa using d
 have g:0<s.size:=by omega
 have c:s.data.toList=s[0]::s.data.toList.drop 1:=by have:=XJ s 0 g;rwa [List.drop_zero]at this
 cases hd:QI (s[0].toNat:Int)
 ·have a:nmLen s.data.toList=nameLen s.data.toList:=by
   rw[c];exact if_neg (by rw[hd];decide)
  have b:=I a;clear a c;go_enter func283,ntmps283;go_wp2_with (first|(go_at_call 226;refine(Uq _ _ f).mono ?_;rintro e w' ⟨rfl,rfl⟩)|(go_at_call 227;refine(ZO _ _).mono ?_;rintro e w' ⟨rfl,rfl⟩));go_ret;exact⟨Yg (by rw[b.o]),rfl⟩
 ·have a:nmLen s.data.toList=1:=by
   rw[c];exact if_pos hd
  have b:=I a;clear a c;go_enter func283,ntmps283;go_wp2_with (first|(go_at_call 226;refine(Uq _ _ f).mono ?_;rintro e w' ⟨rfl,rfl⟩)|(go_at_call 227;refine(ZO _ _).mono ?_;rintro e w' ⟨rfl,rfl⟩));go_ret;exact⟨Yg (by rw[b.o];rfl),rfl⟩
theorem Tryz.zeroVal:∀ W,(zeroValue 354).run prog W=.ok (.agg #[.string ⟨#[]⟩]) W:=by
 intro W;have h:(prog.info? 354).map (fun i=>i.zero)=some (some (.agg #[.string ⟨#[]⟩])):=by kernel_rfl
 cases hi:prog.info? 354 with
 |none=>rw[hi]at h;cases h
 |some i=>
  rw[hi]at h;simp at h;simp[zeroValue,typeInfo,hi,h]
theorem Tryz.fieldVal(x:ByteArray)(W:World):(Instr.field 354 (.agg #[.string x]) 0).run prog W=.ok (.string x) W:=by
 simp[Instr.field,run_underlying underlying354,asAgg,Result.andThen,go_sem]
theorem Sh(s:SS)(x:L8):(Kh s x).getD (.agg #[.string ⟨#[]⟩])=.agg #[.string (sA ((s.vals x).getD []))]:=by
 unfold Kh;cases s.vals x<;>rfl
theorem PH(B sb:Nat)(M:Msg)(s:SS)(x:L8)(w:World)(h:SAt w B sb M s)(Q:x≠[])(t:x.length<=1000000) :
 Calls prog 284 #[.pointer (some ⟨sb,0,none⟩),.string (sA x)] w fun e w'=>e=.returned (.string (sA (UK s x)))/\Below w.heap.size w w':=by
 obtain⟨hv,k,T,mv,h⟩:=h;obtain⟨c,r,rfl⟩:∃ c r,x=c::r:=by cases x with|nil=>exact absurd rfl Q|cons c r=>exact⟨c,r,rfl⟩
 have R:(sA (c::r)).size=r.length+1:=rfl;have hg:(sA (c::r))[0]'(by rw[R];omega)=c:=rfl;have ad:r.length+1<=1000000:=t;have ag:=UInt8.toNat_lt c;have E:w.cell? ⟨sb,5,none⟩=some (.map (some k)):=h.cell 5;have U:w.cell? ⟨sb,6,none⟩=some T:=h.cell 6;have L:=h.lt;obtain⟨S,tc,P⟩:=h.told.len;subst P;obtain⟨X,mc,i,j⟩:=h.mp;cases hd:QI (c.toNat:Int)
 ·have b:UK s (c::r)=(s.vals (zL (c::r))).getD []:=if_neg (by rw[hd];decide);have a:=I b
  have C:Hid (∀ W,Below w.heap.size w W->(Instr.lookup 270 (.map (some k)) (.string (sA (zL (c::r)))) false).run prog W=.ok (.agg #[.string (sA ((s.vals (zL (c::r))).getD []))]) W):=fun W G=>by
   rw[RR underlying270 underlying9 Tryz.zeroVal (QP i G) j,Sh]
  have ac:=Tryz.fieldVal;clear b h i j;go_enter func284,ntmps284;go_wp2_with (go_at_call 227;refine(ZO _ _).mono ?_;rintro e w' ⟨rfl,rfl⟩);go_region_held3 (fun w'=>w'.cell? ⟨sb,5,none⟩=some (.map (some k))) (first|go_keep|exact F) (first|(go_at_call 181;refine(VK _ _ t).mono ?_;rintro e y ⟨rfl,n⟩;have f:=XQ n;have A:=I f;have F:y.cell? ⟨sb,5,none⟩=some (.map (some k)):=(f.cell (p:=⟨sb,5,none⟩) L).trans E;have ae:=C.o y f;clear n f;skip))
  all_goals go_wp2
  all_goals go_ret
  all_goals exact⟨by rw[a.o];rfl,A.o⟩
 ·have b:UK s (c::r)=s.told.getD (c.toNat - 48) []:=if_pos hd;have a:=I b;have H:48<=(c.toNat:Int)/\(c.toNat:Int)<=57:=by unfold QI at hd;simpa using hd
  obtain⟨Y,Z⟩:=H;obtain⟨d,q⟩:∃ d:Nat,c.toNat=d+48:=⟨c.toNat - 48,by omega⟩;have aa:(c.toNat:Int) - 48=(d:Int):=by omega
  have ab:d<=9:=by omega
  have af:=h.bd.tl;rw[q,Nat.add_sub_cancel]at a;clear q;by_cases hlt2:d<s.told.length
  ·have K:(d:Int)<(s.told.length:Int):=by omega
   obtain⟨g,N,J⟩:∃ g,S=some ⟨g,0,none⟩/\w.cell? ⟨g,d,none⟩=some (.string (sA (s.told.getD d []))):=by
    rcases h.told with⟨m,l⟩ | ⟨g,V,m,l⟩
    ·rw[l]at hlt2;exact absurd hlt2 (Nat.not_lt_zero _)
    ·injection m with h3 h4 h5
     exact⟨g,h3,l.at d hlt2⟩
   subst N;obtain⟨z,v⟩:=Qe (s.told.getD d []);rw[v]at a J;clear b h i j v;go_enter func284,ntmps284;go_wp2_with (go_at_call 227;refine(ZO _ _).mono ?_;rintro e w' ⟨rfl,rfl⟩)
   all_goals go_ret
   all_goals exact⟨by rw[a.o];rfl,Below.refl _ _⟩
  ·have K:¬(d:Int)<(s.told.length:Int):=by omega
   have u:s.told.getD d []=[]:=by rw[List.getD_eq_getElem?_getD,List.getElem?_eq_none (by omega)];rfl
   have D:=I u;clear b h i j u;go_enter func284,ntmps284;go_wp2_with (go_at_call 227;refine(ZO _ _).mono ?_;rintro e w' ⟨rfl,rfl⟩)
   all_goals go_ret
   all_goals exact⟨by rw[a.o,D.o];rfl,Below.refl _ _⟩
theorem AC(l p:L8):Lib.hasPrefix l p=decide (l.take p.length=p):=by
 unfold Lib.hasPrefix;rw[Zo];simp only[List.isPrefixOf_iff_prefix,decide_eq_true_eq];rw[List.prefix_iff_eq_take];exact⟨fun h=>h.symm,fun h=>h.symm⟩
theorem U1(x:L8)(n:Nat):(sA x).extract 0 n=sA (x.take n):=by
 apply ByteArray.ext;apply Array.ext';simp[sA]
theorem Bw(x:L8)(n:Nat):(sA x).extract n x.length=sA (x.drop n):=by
 apply ByteArray.ext;apply Array.ext';simp[sA];exact List.take_of_length_le (by simp)
theorem RT(l:L8):nmLen l<=l.length:=by
 cases l with
 |nil=>exact Nat.le_refl _
 |cons c r=>
  show(if QI c.toNat then 1 else nameLen (c::r))<=_
  split
  ·simp
  ·exact Uu _
theorem G4{a b:L8}(e:a=b)(f:c=d):Ending.returned (.tuple #[.string (sA a),.int .i64 c])=.returned (.tuple #[.string (sA b),.int .i64 d]):=by rw[e,f]
theorem VX(h:Z5 x=0):(standL s x).1=x.take 1/\(standL s x).2=1:=by
 unfold standL;rw[if_pos h];exact⟨rfl,rfl⟩
theorem AB(h:Z5 x≠0):(standL s x).1=UK s ((x.drop 2).take (Z5 x))/\(standL s x).2=3+Z5 x:=by
 unfold standL;rw[if_neg h];exact⟨rfl,rfl⟩
theorem IC(B sb:Nat)(M:Msg)(s:SS)(x:L8)(w:World)(h:SAt w B sb M s)(q:x≠[])(Y:x.length<=1000000) :
 Calls prog 266 #[.pointer (some ⟨sb,0,none⟩),.string (sA x)] w fun e w'=>e=.returned (.tuple #[.string (sA (standL s x).1),.int .i64 ((standL s x).2:Nat)])/\Below w.heap.size w w':=by
 have hz:=QN x;have ad:0<x.length:=List.length_pos_iff.2 q;have ae:(1:Int)<=(x.length:Int):=by omega
 have X:=U1 x 1;have g:=AC x [36,123];have L:=I h;by_cases hp:x.take 2=[36,123];rotate_left
 ·obtain⟨b,d⟩:=VX (s:=s) (x:=x) (by unfold Z5;rw[if_neg (fun h=>hp h.1)]);have i:=I b;have j:=I d;rw[show([36,123]:L8).length=2 from rfl,Qh hp]at g;have l:=I g;clear b d hp g h q;go_enter func266,ntmps266;go_wp2_with (go_at_call 282;refine(Tryz.strings_CutPrefix _ _ _).mono ?_;rintro e w' ⟨rfl,rfl⟩;rw[show Lib.hasPrefix (sA x).data.toList _=false from l.o]);go_ret2;exact⟨G4 i.o.symm (by rw[j.o];rfl),Below.refl _ _⟩
 have G:(x.drop 2).length=x.length - 2:=by simp
 have Z:2<=x.length:=by have:=congrArg List.length hp;simp at this;omega
 have p:Lib.trimPrefix x [36,123]=x.drop 2:=by unfold Lib.trimPrefix;rw[AC,show([36,123]:L8).length=2 from rfl,Qw hp];rfl
 rw[show([36,123]:L8).length=2 from rfl,Qw hp]at g;have H:=RT (x.drop 2)
 have c:Z5 x=if((x.drop 2).drop (nmLen (x.drop 2))).take 1=[125]then nmLen (x.drop 2)else 0:=by
  unfold Z5;by_cases a:((x.drop 2).drop (nmLen (x.drop 2))).take 1=[125]
  ·rw[if_pos ⟨hp,a⟩,if_pos a]
  ·rw[if_neg (fun h=>a h.2),if_neg a]
 obtain⟨y,r⟩:=Qe (x.drop 2);rw[r]at p G H c;have af:y.length<=1000000:=by omega
 clear G;have l:=I g;have C:=I p;have ag:=QN y;obtain⟨n,m⟩:=Qe (nmLen y);rw[m]at H c
 have t:∀ W,Calls prog 283 #[.string (sA y)] W fun e w'=>e=.returned (.int .i64 (n:Int))/\w'=W:=fun W=>by
  have:=Ik (sA y) W (by rw[QN];omega);rw[show(sA y).data.toList=y from rfl,m]at this;exact this
 have z:=I t;have N:=U1 y n;have P:=Bw y n;have a:=AC (y.drop n) [125];rw[show([125]:L8).length=1 from rfl]at a;have aa:(0:Int)<=(n:Int):=by omega
 have ab:(n:Int)<=(y.length:Int):=by omega
 obtain⟨f,k⟩:=Qe (y.take n);have E:f.length=n:=by rw[<-k];simp;omega
 have T:=QN f;rw[E]at T;rw[k]at N;obtain⟨u,v⟩:=Qe (y.drop n);rw[v]at P a c;have D:=I c;by_cases h0:n=0
 ·subst h0;have J:Z5 x=0:=by rw[c];split<;>rfl
  obtain⟨b,d⟩:=VX (s:=s) (x:=x) J;have i:=I b;have j:=I d;have S:f=[]:=Xz E;subst S;clear b d hp g h q p r t c J m k a v D;go_enter func266,ntmps266;go_wp2_with (first|(go_at_call 282;refine(Tryz.strings_CutPrefix _ _ _).mono ?_;rintro e w' ⟨rfl,rfl⟩;rw[show Lib.hasPrefix (sA x).data.toList _=true from l.o,show Lib.trimPrefix (sA x).data.toList _=y from C.o,show(⟨y.toArray⟩:ByteArray)=sA y from rfl])|(go_at_call 283;refine(z.o _).mono ?_;rintro e w' ⟨rfl,rfl⟩));go_ret2;exact⟨G4 i.o.symm (by rw[j.o];rfl),Below.refl _ _⟩
 have Q:f≠[]:=fun e=>h0 (by rw[<-E,e];rfl)
 have V:¬(sA f).size=0:=by omega
 have U:=VI V;have ac:(sA f).toList.isEmpty=false:=by simpa using U
 by_cases hq1:u.take 1=[125]
 ·rw[if_pos hq1]at c;rw[Qw hq1]at a;have A:=I a;obtain⟨b,d⟩:=AB (s:=s) (x:=x) (by rw[c];exact h0);rw[c]at b d;rw[r,k]at b;have i:=I b;have j:=I d;have R:f.length<=1000000:=by omega
  clear b d hp g h q p r t c m k a v D hq1;go_enter func266,ntmps266;go_wp2_with (first|(go_at_call 282;refine(Tryz.strings_CutPrefix _ _ _).mono ?_;rintro e w' ⟨rfl,rfl⟩;rw[show Lib.hasPrefix (sA x).data.toList _=true from l.o,show Lib.trimPrefix (sA x).data.toList _=y from C.o,show(⟨y.toArray⟩:ByteArray)=sA y from rfl])|(go_at_call 283;refine(z.o _).mono ?_;rintro e w' ⟨rfl,rfl⟩)|(go_at_call 233;refine(Tryz.strings_HasPrefix _ _ _).mono ?_;rintro e w' ⟨rfl,rfl⟩;rw[show Lib.hasPrefix (sA u).data.toList _=true from A.o])|(go_at_call 284;refine(PH B sb M s f _ L.o Q R).mono ?_;rintro e w1 ⟨rfl,F⟩;have K:=I F;clear F));go_ret2;exact⟨G4 i.o.symm (by rw[j.o];omega),K.o⟩
 ·rw[if_neg hq1]at c;rw[Qh hq1]at a;have A:=I a;obtain⟨b,d⟩:=VX (s:=s) (x:=x) c;have i:=I b;have j:=I d;clear b d hp g h q p r t c m k a v D hq1;go_enter func266,ntmps266;go_wp2_with (first|(go_at_call 282;refine(Tryz.strings_CutPrefix _ _ _).mono ?_;rintro e w' ⟨rfl,rfl⟩;rw[show Lib.hasPrefix (sA x).data.toList _=true from l.o,show Lib.trimPrefix (sA x).data.toList _=y from C.o,show(⟨y.toArray⟩:ByteArray)=sA y from rfl])|(go_at_call 283;refine(z.o _).mono ?_;rintro e w' ⟨rfl,rfl⟩)|(go_at_call 233;refine(Tryz.strings_HasPrefix _ _ _).mono ?_;rintro e w' ⟨rfl,rfl⟩;rw[show Lib.hasPrefix (sA u).data.toList _=false from A.o]));go_ret2;exact⟨G4 i.o.symm (by rw[j.o];rfl),Below.refl _ _⟩
theorem R0(l:L8)(h:Z5 l≠0):3+Z5 l<=l.length:=by
 unfold Z5 at h ⊢
 split at h
 ·next hc=>
  rw[if_pos hc];have a:=congrArg List.length hc.2;simp at a;omega
 ·exact absurd rfl h
theorem R1(s:SS)(l:L8)(h:l≠[]):1<=(standL s l).2/\(standL s l).2<=l.length:=by
 have a:=List.length_pos_iff.2 h;by_cases hv:Z5 l=0
 ·rw[(VX hv).2];omega
 ·rw[(AB hv).2];have:=R0 l hv;omega
theorem O9{M:Msg}(b:SBd M s)(l:L8):(standL s l).1.length<=100000:=by
 by_cases hv:Z5 l=0
 ·rw[(VX hv).1];simp;omega
 ·rw[(AB hv).1];generalize (l.drop 2).take (Z5 l)=x;unfold UK;split
  ·exact QE
  ·split
   ·next c r _=>
    rw[List.getD_eq_getElem?_getD]
    cases hg:s.told[c.toNat - 48]? with
    |none=>exact QE
    |some t=>exact b.told t (List.mem_of_getElem? hg)
   ·next c r _=>
    cases hg:s.vals (zL (c::r))with
    |none=>exact QE
    |some t=>have:=b.vals _ t hg;show t.length<=_;omega
theorem AP(h:¬(l≠[]/\acc.length<1024)):Yq s n l acc=acc:=by
 cases n with
 |zero=>rfl
 |succ n=>unfold Yq;rw[if_neg h]
theorem Dt(h:l≠[]/\acc.length<1024):Yq s (n+1) l acc=Yq s n (l.drop (standL s l).2) (acc++(standL s l).1.take (1024 - acc.length)):=by
 rw[Yq,if_pos h]
theorem Mj(x y:L8):Jc x++Jc y=Jc (x++y):=by simp[Jc]
theorem NR{w':World}{a:Option Nat}(h:Below B u w)(hg:w.grownBy w' a)(c:B<=w.heap.size)(b:∀ k,a=some k->B<=k):Below B u w':=
 ⟨hg.os.trans h.os,hg.tape.trans h.tape,hg.output.trans h.output,Qs h.size hg.size,fun k hk=>by
  rw[hg.block k (by omega) (fun e=>by have:=b k e.symm;omega)]
  exact h.block k hk⟩
structure TxI (w:World) (s:SS) (x:L8) (k:Nat) (acc:L8) (v:Value) (wr:World):Prop where
 kl:k<=x.length
 al:acc.length<=1024
 own:wr.ownsRow w.heap.size 5 1 v acc.length (Jc acc)
 bl:Below w.heap.size w wr
 ex:∃ F,x.length - k < F∧Yq s (x.length+1) x []=Yq s F (x.drop k) acc
theorem AJ(B sb:Nat)(M:Msg)(s:SS)(x:L8)(w:World)(h:SAt w B sb M s)(hl:x.length<=1000000) :
 Calls prog 249 #[.pointer (some ⟨sb,0,none⟩),.string (sA x)] w fun e w'=>e=.returned (.string (sA (expL s x)))/\Below w.heap.size w w':=by
 have HS:=I h;obtain⟨hv,mb,tv,mv,h⟩:=h;have L:w.cell? ⟨sb,4,none⟩=some (.bool s.vs):=h.cell 4;have N:=h.bd;have Y:=I N;clear h N;cases hvs:s.vs
 ·have he:expL s x=x:=by unfold expL;rw[hvs];rfl
  have i:=I he;rw[hvs]at L;clear he;go_enter func249,ntmps249;go_wp2;go_ret;exact⟨by rw[i.o];rfl,Below.refl _ _⟩
 have he:expL s x=Yq s (x.length+1) x []:=by unfold expL;rw[if_pos hvs]
 have i:=I he;rw[hvs]at L;have hz:=QN x;obtain⟨i0,hi,ag,ah,ai⟩:=info_parts Tryz.infoU8;clear he hvs;go_enter func249,ntmps249;go_wp2
 go_loopw [5,6,7,8] (fun v a _ _ wr=>∃(k:Nat) (b:L8),a=.int .i64 (k:Int)/\TxI w s x k b v wr) (fun _ a _ _ _=>x.length - (intOf a).toNat)
 case atStart=>exact⟨0,[],rfl,QE,QE,Zj,Below.refl _ _,x.length+1,by omega,rfl⟩
 case round=>
  obtain⟨k,b,rfl,d⟩:=hrel;have c:=I d;have ap:=d.kl;have aj:=d.al;have af:=d.bl.size;obtain⟨va,vc,ae⟩:=QQ d.own;subst ae;have A:=I d.own;clear d;by_cases hlt:k<x.length;rotate_left
  ·have H:¬(k:Int)<(x.length:Int):=by omega
   have C:Hid (expL s x=b):=by
    obtain⟨F,hF,g⟩:=c.o.ex;show _=_
    rw[i.o,g,Zb (by omega)];exact AP (fun h=>h.1 rfl)
   have ab:=NF wr _ _ b A.o;go_wp2;go_ret;exact⟨by rw[C.o];rfl,c.o.bl⟩
  have H:(k:Int)<(x.length:Int):=by omega
  by_cases ha:b.length<1024;rotate_left
  ·have aa:¬(b.length:Int)<1024:=by omega
   have C:Hid (expL s x=b):=by
    obtain⟨F,hF,g⟩:=c.o.ex;show _=_
    rw[i.o,g];exact AP (fun h=>ha h.2)
   have ab:=NF wr _ _ b A.o;go_wp2;go_ret;exact⟨by rw[C.o];rfl,c.o.bl⟩
  have aa:(b.length:Int)<1024:=by omega
  have ac:=Bw x k;have j:(x.drop k).length=x.length - k:=by simp
  have l:x.drop k≠[]:=fun e=>by rw[e]at j;simp at j;omega
  have J:=R1 s (x.drop k) l;have ad:=O9 Y.o (x.drop k);have Q:(x.drop k).length<=1000000:=by omega
  rw[j]at J
  have D:Hid (∃ F,x.length - (k+(standL s (x.drop k)).2)<F/\Yq s (x.length+1) x []=Yq s F (x.drop (k+(standL s (x.drop k)).2)) (b++(standL s (x.drop k)).1.take (1024 - b.length))):=by
   obtain⟨F,hF,g⟩:=c.o.ex;obtain⟨r,rfl⟩:∃ r,F=r+1:=⟨F - 1,by omega⟩;refine⟨r,by omega,?_⟩;rw[g,Dt ⟨l,ha⟩,List.drop_drop]
  have u:Hid (∀ W,Below wr.heap.size wr W->Calls prog 266 #[.pointer (some ⟨sb,0,none⟩),.string (sA (x.drop k))] W fun e w'=>e=.returned (.tuple #[.string (sA (standL s (x.drop k)).1),.int .i64 ((standL s (x.drop k)).2:Nat)])/\Below W.heap.size W w'):=fun W hW=>
   IC B sb M s (x.drop k) W (HS.o.below (c.o.bl.trans (hW.mono c.o.bl.size))) l Q
  generalize standL s (x.drop k)=p at *;obtain⟨f,n⟩:=p;dsimp only at J ad D u;obtain⟨av,aw⟩:=J;obtain⟨y,U⟩:=Qe (x.drop k);rw[U]at ac u;have ax:=QN f;have ao:(0:Int)<=(k:Int):=by omega
  have ar:(k:Int)<=(x.length:Int):=by omega
  have aq:IntKind.i64.wrap ((k:Int)+(n:Int))=(k:Int)+(n:Int):=by rw[IntKind.wrap_i64];omega
  obtain⟨z,m⟩:=Qe (f.take (1024 - b.length));have V:z.length<=1024 - b.length:=by rw[<-m];simp;omega
  have E:=I V;obtain⟨q,T⟩:∃ q:Nat,q=min f.length (1024 - b.length):=⟨_,rfl⟩;have hq:min (f.length:Int) (1024 - (b.length:Int))=(q:Int):=by omega
  have au:(q:Int)<=(f.length:Int):=by omega
  have ak:(sA f).extract 0 q=sA z:=by
   rw[U1,<-m,T];congr 1;rcases Nat.le_total f.length (1024 - b.length)with hh|hh
   ·rw[Nat.min_eq_left hh,List.take_of_length_le Ql,List.take_of_length_le hh]
   ·rw[Nat.min_eq_right hh]
  rw[m]at D;clear m j Q l U V T;go_wp2_with (first|(go_at_call 266;refine(u.o _ (Below.refl _ _)).mono ?_;rintro e w1 ⟨rfl,G⟩;have t:=I (c.o.bl.trans (G.mono af));have K:=I (Xe (P:=fun _ _=>False) A.o (Fr.of_below G) (fun _ _ h=>h));clear G)|(at_builtin;refine Lib.wpList_append_own_string w1 rfl _ _ 198 9 rfl w.heap.size 5 i0 underlying198 underlying9 hi ag ah ai _ _ _ rfl K.o (sA z) rfl (by rw[QN];unfold maxLen;have:=E.o;omega) (by rw[QN];have:=E.o;omega) t.o.size ?_;intro v5 w5 S R _;have X:=I (NR t.o R t.o.size (fun k H=>(K.o.lt k H).1));have Z:=I S;clear S R));go_roundw
  case rel=>
   refine⟨k+n,b++z,by go_num,by omega,by rw[Ze];have:=E.o;omega,?_,X.o,D.o⟩;rw[Ze,<-Mj];exact Z.o
  case measure=>simp[intOf];omega
theorem Ad(a b:Nat):((a:Int)==(b:Int))=(a==b):=by
 by_cases h:a=b
 ·subst h;simp
 ·have c:¬(a:Int)=(b:Int):=by omega
  rw[beq_eq_false_iff_ne.2 h,beq_eq_false_iff_ne.2 c]
theorem Tryz.infoInt:(prog.info? 3).map (fun i=>(i.zero,i.size,i.bytes))=some (some (.int .i64 0),1,8):=by kernel_rfl
def XU(pl:List Nat):Array Value:=(pl.map fun(n:Nat)=>Value.int .i64 (n:Int)).toArray
theorem Ar(b:List Nat)(k a:Nat):(XU b).setIfInBounds k (.int .i64 (a:Int))=XU (b.set k a):=by
 unfold XU;rw[List.setIfInBounds_toArray,List.map_set]
theorem OK(n:Nat):madeCells (Value.cells (.int .i64 0)) (n*1)=XU (List.replicate n 0):=by
 apply Array.ext
 ·rw[size_madeCells];simp[XU]
 ·intro i b c;have d:i<n:=by rw[size_madeCells]at b;omega
  have a:(XU (List.replicate n 0))[i]=.int .i64 0:=by simp[XU]
  rw[a];simp only[madeCells,Array.getElem_map,Array.getElem_range];have:i % (Value.cells (.int .i64 0)).size=0:=Nat.mod_one _;rw[this];rfl
def VB(w:World)(g:Nat)(key:List (Nat×UInt8)):Prop:=
 ∀ j (hj:j<key.length),w.cell? ⟨g,j*2,none⟩=some (.int .i64 key[j].1)/\w.cell? ⟨g,j*2+1,none⟩=some (.int .u8 key[j].2.toNat)
theorem Db(a:List (Nat×UInt8))(j:Nat)(b:j<a.length):(Xq a)[j*2]?=some (.int .i64 a[j].1)/\(Xq a)[j*2+1]?=some (.int .u8 a[j].2.toNat):=by
 induction a generalizing j with
 |nil=>exact absurd b (Nat.not_lt_zero _)
 |cons p r ih=>
  cases j with
  |zero=>exact⟨rfl,rfl⟩
  |succ j=>
   have:=ih j (by simpa using b);have e:Xq (p::r)=.int .i64 p.1 :: .int .u8 p.2.toNat::Xq r:=rfl;have c:(j+1)*2=j*2+1+1:=by omega
   have d:(j+1)*2+1=(j*2+1)+1+1:=by omega
   rw[e,c,List.getElem?_cons_succ,List.getElem?_cons_succ,List.getElem?_cons_succ,List.getElem?_cons_succ];exact this
theorem VB.of_owns{base g c:Nat}(h:w.ownsRow base 362 2 (.slice (some ⟨g,0,none⟩) n c) n (Xq a)):VB w g a:=fun j hj=>by
 have b:=h.cells (g:=g) rfl (j*2) _ (Db a j hj).1;have d:=h.cells (g:=g) rfl (j*2+1) _ (Db a j hj).2;rw[Ys]at b d;exact⟨b,d⟩
def E1(p:Nat×UInt8):Value:=.agg #[.int .i64 p.1,.int .u8 p.2.toNat]
theorem Au(p:Nat×UInt8)(c:UInt8)(w:World) :
 Calls prog 265 #[E1 p,.int .u8 c.toNat] w fun e w'=>e=.returned (.bool (J2 p c))/\Below w.heap.size w w':=by
 unfold E1;have b:((p.1:Int)==1)=(p.1==1):=Ad p.1 1;have a:((p.1:Int)==0)=(p.1==0):=Ad p.1 0;have d:((p.2.toNat:Int)==(c.toNat:Int))=(p.2==c):=Nb p.2 c;have HT:Hid (J2 p c=(p.1==1 || (p.1==0&&p.2==c))):=rfl;generalize (p.1==1)=b1 at *;generalize (p.1==0)=b0 at *;generalize (p.2==c)=bc at *
 cases b1<;>cases b0<;>cases bc <;>
 (go_enter func265,ntmps265
  go_wp2;go_ret
  exact ⟨QS (by rw [HT.o];rfl),Qp _⟩)
theorem VN:∀(l:L8),∀ p∈pcL l,p.1=2->p=(2,0)
 | [],p,hp,_=>by cases hp
 | [c],p,hp,h=>by
  simp only[pcL,List.mem_singleton]at hp;subst hp
  split at h
  ·next hc=>rw[if_pos hc]
  ·next hc=>
   split at h
   ·exact absurd h (fun e=>by cases e)
   ·exact absurd h (fun e=>by cases e)
 |c::d::r,p,hp,h=>by
  rw[pcL]at hp
  split at hp
  ·rcases List.mem_cons.1 hp with rfl|hp
   ·rfl
   ·exact VN (d::r) p hp h
  ·split at hp
   ·rcases List.mem_cons.1 hp with rfl|hp
    ·exact absurd h (fun e=>by cases e)
    ·exact VN (d::r) p hp h
   ·split at hp
    ·rcases List.mem_cons.1 hp with rfl|hp
     ·exact absurd h (fun e=>by cases e)
     ·exact VN r p hp h
    ·rcases List.mem_cons.1 hp with rfl|hp
     ·exact absurd h (fun e=>by cases e)
     ·exact VN (d::r) p hp h
theorem KV(h:Below B u w):Below B u (w.drewN n):=⟨h.os,h.tape,h.output,h.size,h.block⟩
theorem J0{a:Int}(h:a=b):Value.int .i64 a=Value.int .i64 b:=by rw[h]
theorem G1{v:L8}{e f g:Int}{j k l m:Nat}(h:Jf v a i j k<Jf v a l m n)(o:b=i)(p:c=j)(q:d=k)(r:e=l)(s:f=m)(t:g=n):Jf v a b.toNat c.toNat d.toNat<Jf v a e.toNat f.toNat g.toNat:=by
 subst o p q r s t;exact h
def Tj(key:List (Nat×UInt8))(v:L8)(B:Nat)(e:Ending)(w':World):Prop:=
 (QH key v=true/\∃ g,B<=g/\e=.returned (.tuple #[.slice (some ⟨g,0,none⟩) (key.length+1) (key.length+1),.bool true])/\w'.heap[g]?=some (.cells (XU (plL key v 0)) 3))\/
 (QH key v=false/\e=.returned (.tuple #[.slice none 0 0,.bool false]))
theorem Tt(s:ByteArray)(b:List (Nat×UInt8))(kv:Value)(base:Nat)(w:World)(hs:s.size<=1000000)(aA:b.length<=1000000)(L:w.ownsRow base 362 2 kv b.length (Xq b))(G:∀ j (hj:j<b.length),b[j].1=2->b[j]=(2,0)) :
 Calls prog 247 #[.string s,kv] w fun e w'=>Tj b s.data.toList w.heap.size e w'/\Below w.heap.size w w':=by
 obtain⟨Z,kc,au⟩:∃ Z kc,kv=.slice Z b.length kc:=by
  rcases L.2 with⟨h,G⟩ | ⟨g,aj,ak,h,_⟩
  ·exact⟨none,0,by rw[h,G]⟩
  ·exact⟨_,_,h⟩
 subst au
 have HK:Hid (∀ j,j<b.length->∃ g,Z=some ⟨g,0,none⟩/\g<w.heap.size/\VB w g b):=by
  intro j hj;rcases L.2 with⟨h,G⟩ | ⟨g,aj,ak,h,hb,hg,_⟩
  ·omega
  ·injection h with h1 G h3
   subst h1 h3;exact⟨g,rfl,Qg hg,VB.of_owns L⟩
 obtain⟨i0,hi,av,aw,ax⟩:=info_parts Tryz.infoInt;have X:=run_make (P:=prog) w 24 3 i0 _ underlying24 hi av .i64 .i64 ((b.length:Int)+1) ((b.length:Int)+1) (by omega) (Int.le_refl _) (by rw[ax];omega) (by omega);rw[aw,show((b.length:Int)+1).toNat=b.length+1 by omega,OK]at X;obtain⟨W,H⟩:=QF (w.alloc (.cells (XU (List.replicate (b.length+1) 0)) 3));have J:W.heap[w.heap.size]?=some (.cells (XU (List.replicate (b.length+1) 0)) 3):=by rw[H];exact QC _ _
 have ac:Below w.heap.size w W:=by rw[H];exact Qp _
 rw[<-H]at X
 have ao:W.cell? ⟨w.heap.size,b.length,none⟩=some (.int .i64 0):=by
  rw[Qi J];simp[XU]
 have ap:∀ j,W.frozen? ⟨w.heap.size,j,none⟩=false:=Qu J;clear H L;go_enter func247,ntmps247;go_wp2_with fail
 go_loopw [4,5,6,7,8,9] (fun v4 v5 aa T Q ki wr=>v4=.slice (some ⟨w.heap.size,0,none⟩) (b.length+1) (b.length+1)/\v5=.bool false/\∃(d e a k:Nat) (y:List Nat),aa=.int .i64 ((d:Int) - 1)/\T=.int .i64 (e:Int)/\Q=.int .i64 (a:Int)/\ki=.int .i64 (k:Int)/\Zr s.data.toList b d e a k y/\wr.heap[w.heap.size]?=some (.cells (XU y) 3)/\Below w.heap.size w wr) (fun _ _ aa T Q ki _=>Jf s.data.toList b (intOf aa+1).toNat (intOf T).toNat (intOf Q).toNat)
 case atStart=>
  refine⟨rfl,rfl,0,0,0,0,(List.replicate (b.length+1) 0).set b.length s.size,rfl,rfl,rfl,rfl,SO _ _ _ (by simp) (by simp),?_,?_⟩
  ·rw[<-Ar];exact Qt _ _ _ _ _ _ J
  ·exact ac.setCell Ql _
 case round=>
  obtain⟨rfl,rfl,d,e,a,k,y,rfl,rfl,rfl,rfl,z,ae,hB⟩:=hrel;have aB:=z.kl;have aq:=z.al;have ay:=z.ea;have aD:=z.sk;have l:s.data.toList.length=s.size:=by simp
  have i:=I z;have m:=I hB;have q:=I ae;rw[l]at aq;clear z hB ae X J ac ao ap;have aE:=i.o.pll
  have r:∀ j,j<b.length+1->∃ x,wr.cell? ⟨w.heap.size,j,none⟩=some x:=fun j hj=>by
   rw[Qi q.o];exact⟨_,Array.getElem?_eq_getElem (by simp[XU];omega)⟩
  have K:∀ j,wr.frozen? ⟨w.heap.size,j,none⟩=false:=Qu q.o;have M:w.heap.size<=wr.heap.size:=m.o.size;by_cases hend:a<s.size\/k<b.length;rotate_left
  ·have U:¬(a:Int)<(s.size:Int):=by omega
   have af:¬(k:Int)<(b.length:Int):=by omega
   obtain⟨hm,ai⟩:=i.o.yes (by rw[l];omega) (by omega);have HM:=I hm;rw[ai]at q;clear hm ai r K hend;go_wp2;go_ret2;exact⟨Qd ⟨HM.o,w.heap.size,Nat.le_refl _,rfl,q.o⟩,m.o⟩
  have az:∀(U:a<s.data.toList.length),s.data.toList[a]=s.data.toList.getD a 0:=fun U=>by rw[List.getD_eq_getElem?_getD,List.getElem?_eq_getElem U];rfl
  by_cases hkk:k<b.length;rotate_left
  ·have af:¬(k:Int)<(b.length:Int):=by omega
   have n:a<s.size:=by omega
   have ad:(a:Int)<(s.size:Int):=by omega
   have ar:k=b.length:=by omega
   by_cases h0:d=0
   ·have Y:¬(0:Int)<=(d:Int) - 1:=by omega
    have D:=I (i.o.never (Qd (by rw[l];exact n)) (fun h=>absurd h hkk) (fun h=>absurd h hkk) (fun h=>h.1 h0));clear r K hend;go_wp2_with fail;go_quiet (fail)
    all_goals go_wp2_with fail
    go_ret2;exact⟨Qc ⟨D.o,rfl⟩,KV m.o⟩
   ·have Y:(0:Int)<=(d:Int) - 1:=by omega
    have N:=I (i.o.longer h0 (by rw[l];exact n) (Qd ar));have v:=I (i.o.muLonger (by rw[l];exact n));clear r K hend;go_wp2_with fail;go_quiet (fail)
    all_goals go_wp2_with fail
    all_goals exact⟨⟨rfl,rfl,d,e+1,e+1,d,y,rfl,J0 (by omega),J0 (by omega),J0 (by omega),N.o,q.o,KV m.o⟩,G1 v.o (by simp only[intOf];omega) (by simp only[intOf];try omega) (by simp only[intOf];try omega) (by simp only[intOf];omega) (by simp only[intOf];try omega) (by simp only[intOf];try omega)⟩
  obtain⟨g,rfl,V,ab⟩:=HK.o k hkk;obtain⟨ag,ah⟩:=ab k hkk;have R:wr.cell? ⟨g,k*2,none⟩=some (.int .i64 b[k].1):=by rw[m.o.cell (p:=⟨g,k*2,none⟩) V];exact ag
  have S:wr.cell? ⟨g,k*2+1,none⟩=some (.int .u8 b[k].2.toNat):=by rw[m.o.cell (p:=⟨g,k*2+1,none⟩) V];exact ah
  have af:(k:Int)<(b.length:Int):=by omega
  have ek:((b[k].1:Int)==2)=(b[k].1==2):=Ad b[k].1 2;obtain⟨x,B⟩:=r k (by omega);clear ab ag ah;by_cases h2k:b[k].1=2
  ·rw[beq_iff_eq.2 h2k]at ek;have HS:=I (i.o.star hkk (G k hkk h2k));have v:=I (i.o.muStar hkk);clear r hend;go_wp2_with fail
   all_goals exact⟨⟨rfl,rfl,k+1,a,a,k+1,y.set k a,J0 (by omega),rfl,rfl,J0 (by omega),HS.o,by rw[<-Ar];exact Qt _ _ _ _ _ _ q.o,m.o.setCell Ql _⟩,G1 v.o (by simp only[intOf];omega) (by simp only[intOf];try omega) (by simp only[intOf];try omega) (by simp only[intOf];omega) (by simp only[intOf];try omega) (by simp only[intOf];try omega)⟩
  rw[beq_eq_false_iff_ne.2 h2k]at ek;by_cases n:a<s.size;rotate_left
  ·have ad:¬(a:Int)<(s.size:Int):=by omega
   have D:=I (i.o.never (Qc hkk) (fun _=>h2k) (fun _ h=>absurd h (by rw[l];exact n)) (fun h=>n (by rw[<-l];exact h.2)));clear r K hend;go_wp2_with fail;go_quiet (fail)
   all_goals go_wp2_with fail
   all_goals go_ret2
   all_goals exact⟨Qc ⟨D.o,rfl⟩,KV m.o⟩
  have ad:(a:Int)<(s.size:Int):=by omega
  have aC:s.data.toList[a]'(by rw[l];exact n)=s[a]:=rfl;have A:g<wr.heap.size:=Zs V M;cases ht:J2 b[k] s[a]
  ·by_cases h0:d=0
   ·have Y:¬(0:Int)<=(d:Int) - 1:=by omega
    have D:=I (i.o.never (Qc hkk) (fun _=>h2k) (fun _ h=>ht) (fun h=>h.1 h0));clear r hend;go_wp2_with fail;go_region_held3 (fun w'=>w'.cell? ⟨g,k*2,none⟩=some (.int .i64 b[k].1)/\w'.cell? ⟨g,k*2+1,none⟩=some (.int .u8 b[k].2.toNat)) (first|go_keep|exact⟨E,F⟩) (first|(go_at_call 265;refine(Au b[k] s[a] _).mono ?_;rintro e f ⟨rfl,t⟩;rw[ht];have c:=XQ t;have C:=I (m.o.trans (c.mono M));have u:=I (QP q.o c);have E:f.cell? ⟨g,k*2,none⟩=some (.int .i64 b[k].1):=(c.cell (p:=⟨g,k*2,none⟩) A).trans R;have F:f.cell? ⟨g,k*2+1,none⟩=some (.int .u8 b[k].2.toNat):=(c.cell (p:=⟨g,k*2+1,none⟩) A).trans S;have dx:f.cell? ⟨w.heap.size,k,none⟩=some x:=(c.cell (p:=⟨w.heap.size,k,none⟩) (Qq B)).trans B;have dz:∀ j,f.frozen? ⟨w.heap.size,j,none⟩=false:=Qu u.o;clear t c;skip))
    all_goals go_wp2_with fail
    all_goals go_ret2
    all_goals exact⟨Qc ⟨D.o,rfl⟩,C.o⟩
   ·have Y:(0:Int)<=(d:Int) - 1:=by omega
    have N:=I (i.o.longer h0 (by rw[l];exact n) (Qc ⟨hkk,h2k,ht⟩));have v:=I (i.o.muLonger (by rw[l];exact n));clear r hend;go_wp2_with fail;go_region_held3 (fun w'=>w'.cell? ⟨g,k*2,none⟩=some (.int .i64 b[k].1)/\w'.cell? ⟨g,k*2+1,none⟩=some (.int .u8 b[k].2.toNat)) (first|go_keep|exact⟨E,F⟩) (first|(go_at_call 265;refine(Au b[k] s[a] _).mono ?_;rintro e f ⟨rfl,t⟩;rw[ht];have c:=XQ t;have C:=I (m.o.trans (c.mono M));have u:=I (QP q.o c);have E:f.cell? ⟨g,k*2,none⟩=some (.int .i64 b[k].1):=(c.cell (p:=⟨g,k*2,none⟩) A).trans R;have F:f.cell? ⟨g,k*2+1,none⟩=some (.int .u8 b[k].2.toNat):=(c.cell (p:=⟨g,k*2+1,none⟩) A).trans S;have dx:f.cell? ⟨w.heap.size,k,none⟩=some x:=(c.cell (p:=⟨w.heap.size,k,none⟩) (Qq B)).trans B;have dz:∀ j,f.frozen? ⟨w.heap.size,j,none⟩=false:=Qu u.o;clear t c;skip))
    all_goals go_wp2_with fail
    all_goals exact⟨⟨rfl,rfl,d,e+1,e+1,d,y,rfl,J0 (by omega),J0 (by omega),J0 (by omega),N.o,u.o,C.o⟩,G1 v.o (by simp only[intOf];omega) (by simp only[intOf];try omega) (by simp only[intOf];try omega) (by simp only[intOf];omega) (by simp only[intOf];try omega) (by simp only[intOf];try omega)⟩
  ·have HT:=I (i.o.take hkk (by rw[l];exact n) h2k ht);have v:=I (i.o.muTake (by rw[l];exact n));clear r hend;go_wp2_with fail;go_region_held3 (fun w'=>w'.cell? ⟨g,k*2,none⟩=some (.int .i64 b[k].1)/\w'.cell? ⟨g,k*2+1,none⟩=some (.int .u8 b[k].2.toNat)) (first|go_keep|exact⟨E,F⟩) (first|(go_at_call 265;refine(Au b[k] s[a] _).mono ?_;rintro e f ⟨rfl,t⟩;rw[ht];have c:=XQ t;have C:=I (m.o.trans (c.mono M));have u:=I (QP q.o c);have E:f.cell? ⟨g,k*2,none⟩=some (.int .i64 b[k].1):=(c.cell (p:=⟨g,k*2,none⟩) A).trans R;have F:f.cell? ⟨g,k*2+1,none⟩=some (.int .u8 b[k].2.toNat):=(c.cell (p:=⟨g,k*2+1,none⟩) A).trans S;have dx:f.cell? ⟨w.heap.size,k,none⟩=some x:=(c.cell (p:=⟨w.heap.size,k,none⟩) (Qq B)).trans B;have dz:∀ j,f.frozen? ⟨w.heap.size,j,none⟩=false:=Qu u.o;clear t c;skip))
   all_goals go_wp2_with fail
   all_goals exact⟨⟨rfl,rfl,d,e,a+1,k+1,y.set k a,rfl,rfl,J0 (by omega),J0 (by omega),HT.o,by rw[<-Ar];exact Qt _ _ _ _ _ _ u.o,C.o.setCell Ql _⟩,G1 v.o (by simp only[intOf];omega) (by simp only[intOf];try omega) (by simp only[intOf];try omega) (by simp only[intOf];omega) (by simp only[intOf];try omega) (by simp only[intOf];try omega)⟩
theorem CL(v:L8)(a:List (Nat×UInt8))(b:List Nat)(k:Nat):(toldTo v a b k).length<=k+1:=by
 induction k with
 |zero=>exact Nat.le_refl _
 |succ k ih=>rw[toldTo,Ze];split<;>simp<;>omega
theorem Lv(v:L8)(b:List (Nat×UInt8))(a:List Nat)(k:Nat)(c:k<b.length)(h:b[k].1≠0):toldTo v b a (k+1)=toldTo v b a k++[(v.drop (a.getD k 0)).take (a.getD (k+1) 0 - a.getD k 0)]:=by
 rw[toldTo,if_neg];rw[List.getD_eq_getElem?_getD,List.getElem?_eq_getElem c];exact h
theorem Lj(v:L8)(a:List (Nat×UInt8))(b:List Nat)(k:Nat)(c:k<a.length)(h:a[k].1=0):toldTo v a b (k+1)=toldTo v a b k:=by
 rw[toldTo,if_pos,List.append_nil];rw[List.getD_eq_getElem?_getD,List.getElem?_eq_getElem c];exact h
theorem I4(s:ByteArray)(x y:Nat):s.extract x y=sA ((s.data.toList.drop x).take (y - x)):=by
 apply ByteArray.ext;apply Array.ext';simp[sA,List.take_drop]
theorem Zq(h:Below B u w):Below B u w.drew:=⟨h.os,h.tape,h.output,h.size,h.block⟩
theorem Ga(x:ByteArray):∀ u∈[Value.string x],u.oneCell'=true:=by
 intro u a;simp at a;subst a;rfl
theorem M9(s:ByteArray)(a:List (Nat×UInt8))(H:Value)(base c:Nat)(b:List Nat)(w:World)(hs:s.size<=1000000)(aE:a.length<=1000000)(m:w.ownsRow base 362 2 H a.length (Xq a))(D:w.heap[c]?=some (.cells (XU b) 3))(aH:b.length=a.length+1)(ao:∀ i,i<a.length->b.getD i 0<=b.getD (i+1) 0/\b.getD (i+1) 0<=s.size) :
 Calls prog 248 #[.string s,H,.slice (some ⟨c,0,none⟩) (a.length+1) (a.length+1)] w fun e w'=>∃ v,e=.returned v/\w'.ownsRow w.heap.size 9 1 v (toldTo s.data.toList a b a.length).length (Qv (toldTo s.data.toList a b a.length))/\Below w.heap.size w w':=by
 obtain⟨G,X,ah⟩:∃ G X,H=.slice G a.length X:=by
  rcases m.2 with⟨h,A⟩ | ⟨g,ac,ad,h,_⟩
  ·exact⟨none,0,by rw[h,A]⟩
  ·exact⟨_,_,h⟩
 subst ah
 have Z:Hid (∀ j,j<a.length->∃ g,G=some ⟨g,0,none⟩/\g<w.heap.size/\VB w g a):=by
  intro j hj;rcases m.2 with⟨h,A⟩ | ⟨g,ac,ad,h,hb,hg,_⟩
  ·omega
  ·injection h with h1 A h3
   subst h1 h3;exact⟨g,rfl,Qg hg,VB.of_owns m⟩
 have HP:=I D;have K:=Qg D;obtain⟨i0,hi,ap,aq,ar⟩:=info_parts Tryz.infoStr;clear m D;go_enter func248,ntmps248;go_wp2_with fail
 go_loopw [7,14] (fun l i wr=>∃(k:Nat),k<=a.length/\i=.int .i64 (k:Int)/\wr.ownsRow w.heap.size 9 1 l (toldTo s.data.toList a b k).length (Qv (toldTo s.data.toList a b k))/\Below w.heap.size w wr) (fun _ i _=>a.length - (intOf i).toNat)
 case atStart=>
  refine⟨0,QE,by go_num,?_,Qp _⟩;exact World.ownsRow_lit (e:=9) (size:=1) w #[.string s] 1 Ql (by unfold maxLen;omega) rfl
 case round=>
  obtain⟨k,aD,rfl,M,B⟩:=hrel;have r:w.heap.size<=wr.heap.size:=B.size;have aF:=CL s.data.toList a b k;have d:=I B;have q:=I M;clear B M;by_cases hlt:k<a.length;rotate_left
  ·have ag:k=a.length:=by omega
   subst ag;have af:¬(a.length:Int)<(a.length:Int):=by omega
   go_wp2;go_ret;exact⟨_,rfl,q.o,d.o⟩
  obtain⟨g,rfl,C,J⟩:=Z.o k hlt;obtain⟨P,Q⟩:=J k hlt;have c1:wr.cell? ⟨g,k*2,none⟩=some (.int .i64 a[k].1):=by rw[d.o.cell (p:=⟨g,k*2,none⟩) C];exact P
  have c2:wr.cell? ⟨g,k*2+1,none⟩=some (.int .u8 a[k].2.toNat):=by rw[d.o.cell (p:=⟨g,k*2+1,none⟩) C];exact Q
  have af:(k:Int)<(a.length:Int):=by omega
  have aC:g<wr.heap.size:=Zs C r;have aI:c<wr.heap.size:=Zs K r;clear J P Q;by_cases h0:a[k].1=0
  ·have ek:((a[k].1:Int) != 0)=false:=by rw[h0];rfl
   have n:=I (Lj s.data.toList a b k hlt h0);go_wp2;go_roundw
   case rel=>exact⟨k+1,by omega,by go_num,by rw[n.o];exact q.o.alloc _,d.o.alloc r _⟩
   case measure=>simp[intOf];omega
  ·have ek:((a[k].1:Int) != 0)=true:=by simp;omega
   have n:=I (Lv s.data.toList a b k hlt h0);obtain⟨aj,ak⟩:=ao k hlt;have R:wr.heap[c]?=some (.cells (XU b) 3):=by rw[d.o.block c K];exact HP.o
   obtain⟨x,F⟩:=Qe (b.getD k 0);obtain⟨y,t⟩:=Qe (b.getD (k+1) 0);have S:b[k]?=some x:=by rw[List.getElem?_eq_getElem (by omega),<-F,List.getD_eq_getElem?_getD,List.getElem?_eq_getElem (show k<b.length by omega)];rfl
   have U:b[k+1]?=some y:=by rw[List.getElem?_eq_getElem (by omega),<-t,List.getD_eq_getElem?_getD,List.getElem?_eq_getElem (show k+1<b.length by omega)];rfl
   rw[F,t]at n aj;rw[t]at ak;obtain⟨W,f⟩:=QF (wr.alloc (.cells #[.int .i64 a[k].1,.int .u8 a[k].2.toNat] 362));have av:W.heap.size=wr.heap.size+1:=by rw[f];simp
   have ab:Hid (Below w.heap.size w W):=by rw[f];exact d.o.alloc r _
   have u:Hid (W.ownsRow w.heap.size 9 1 u7 (toldTo s.data.toList a b k).length (Qv (toldTo s.data.toList a b k))):=by rw[f];exact q.o.alloc _
   have E:W.heap[c]?=some (.cells (XU b) 3):=by rw[f];exact Qn R
   have p1:W.cell? ⟨c,k,none⟩=some (.int .i64 (x:Int)):=by rw[Qi E];simp[XU,S]
   have p2:W.cell? ⟨c,k+1,none⟩=some (.int .i64 (y:Int)):=by rw[Qi E];simp[XU,U]
   have ae:s.extract x y=sA ((s.data.toList.drop x).take (y - x)):=I4 s x y;have aK:x<=s.size:=by omega
   have ax:(k:Int)<(a.length:Int)+1:=by omega
   have aJ:IntKind.i64.wrap ((k:Int)+1)=(k:Int)+1:=by rw[IntKind.wrap_i64];omega
   have ay:(k:Int)+1<(a.length:Int)+1:=by omega
   have az:(0:Int)<=(k:Int)+1:=by omega
   have aA:(x:Int)<=(y:Int):=by omega
   have aB:(y:Int)<=(s.size:Int):=by omega
   obtain⟨z,V⟩:=Qe ((s.data.toList.drop x).take (y - x));rw[V]at n ae;have ai:=u.o;generalize hT:toldTo s.data.toList a b k=T at *;clear R E q d F t S U V ai;go_wp2_with fail;rw[<-f];clear f;go_region_law (refine step_append_lies _ rfl (.tmp 22) (.tmp 34) 61 rfl w.heap.size 9 i0 (.string ⟨#[]⟩) 1 16 underlying61 hi ap aq ar rfl (by decide) u7 T.length (Qv T) (by simp[Act.eval,Act.put]) (u.o.alloc _) ⟨W.heap.size,0,none⟩ 1 1 [.string (sA z)] (by simp[Act.eval,Act.put]) rfl (cell_one_new _ _ _) (Ga _) (by decide) (by unfold maxLen;omega) (by omega) (by simp;omega) _ rfl ?_;intro g' au w5 N L aw aG;have Y:=I (Jm (Zq ab.o) (by show _<=W.heap.size;omega) L (fun k m=>(u.o.lt k m).1));have aa:=I N;clear N L;skip)
   all_goals go_wp2
   all_goals refine⟨⟨k+1,by omega,by go_num,?_,Y.o⟩,by simp[intOf];omega⟩
   all_goals rw[n.o,Ze,<-X0]
   all_goals exact aa.o
theorem SlT.get{v:Value}(h:SlT w v zs)(j:Nat)(a:j<zs.length):∃ g c,v=.slice (some ⟨g,0,none⟩) zs.length c/\g<w.heap.size/\w.cell? ⟨g,j,none⟩=some (.string (sA zs[j])):=by
 rcases h with⟨_,rfl⟩ | ⟨g,c,e,b⟩
 ·exact absurd a (Nat.not_lt_zero _)
 ·refine⟨g,c,e,?_,?_⟩
  ·obtain⟨f,d,_⟩:=b;exact Qg d
  ·have:=b.at j a;rwa [List.getD_eq_getElem?_getD,List.getElem?_eq_getElem a]at this
theorem SlT.get'{f:Nat}(h:SlT w (.slice la n f) zs)(j:Nat)(d:j<zs.length):∃ g,la=some ⟨g,0,none⟩/\g<w.heap.size/\w.cell? ⟨g,j,none⟩=some (.string (sA zs[j])):=by
 obtain⟨g,c,e,b,a⟩:=h.get j d;injection e with h1 h2 h3
 exact⟨g,h1,b,a⟩
theorem XY.get'{a:List (L8×L8)}(h:XY w (.slice la n i) a)(j:Nat)(e:j<a.length):∃ g,la=some ⟨g,0,none⟩/\g<w.heap.size/\w.cell? ⟨g,j*2,none⟩=some (.string (sA a[j].1))/\w.cell? ⟨g,j*2+1,none⟩=some (.string (sA a[j].2)):=by
 obtain⟨g,c,f,d,b⟩:=h.cells j e;injection f with h1 h2 h3
 exact⟨g,h1,d,b⟩
theorem Hs{β:Type}(f:α->β)(zs:List α)(k:Nat)(h:k<zs.length):(zs.take (k+1)).map f=(zs.take k).map f++[f zs[k]]:=by
 rw[List.take_succ_eq_append_getElem h,List.map_append];rfl
theorem VV(B sb:Nat)(M:Msg)(s:SS)(zs:Qa)(u:Value)(w:World)(h:SAt w B sb M s)(f:SlT w u zs)(N:∀ z∈zs,z.length<=1000000)(hn:zs.length<=1000000) :
 Calls prog 205 #[.pointer (some ⟨sb,0,none⟩),u] w fun e w'=>∃ v,e=.returned v/\w'.ownsRow w.heap.size 9 1 v zs.length (Qv (zs.map (expL s)))/\Below w.heap.size w w':=by
 have E:=I h;have C:=I f;obtain⟨la,lc,R⟩:=f.len;subst R;obtain⟨Y,J,U,V,X⟩:=info_parts Tryz.infoStr;clear h f;go_enter func205,ntmps205;go_wp2
 go_loopw [5,7,10] (fun v _ i wr=>∃(k:Nat),k<=zs.length/\i=.int .i64 (k:Int)/\wr.ownsRow w.heap.size 9 1 v k (Qv ((zs.take k).map (expL s)))/\Below w.heap.size w wr) (fun _ _ i _=>zs.length - (intOf i).toNat)
 case atStart=>exact⟨0,QE,rfl,Zj,Below.refl _ _⟩
 case round=>
  obtain⟨k,r,rfl,j,c⟩:=hrel;have T:w.heap.size<=wr.heap.size:=c.size;obtain⟨va,vc,S⟩:=QQ j;subst S;have a:=I c;have m:=I j;clear c j;by_cases hlt:k<zs.length;rotate_left
  ·have L:k=zs.length:=by omega
   subst L;have K:¬(zs.length:Int)<(zs.length:Int):=by omega
   go_wp2;go_ret;refine⟨_,rfl,?_,a.o⟩;have:=m.o;rw[List.take_of_length_le Ql]at this;exact this
  have K:(k:Int)<(zs.length:Int):=by omega
  obtain⟨g,Q,H,n⟩:=C.o.get' k hlt;subst Q;have c1:wr.cell? ⟨g,k,none⟩=some (.string (sA zs[k])):=by rw[a.o.cell (p:=⟨g,k,none⟩) H];exact n
  have A:Hid (∀ W,Below wr.heap.size wr W->Calls prog 249 #[.pointer (some ⟨sb,0,none⟩),.string (sA zs[k])] W fun e w'=>e=.returned (.string (sA (expL s zs[k])))/\Below W.heap.size W w'):=fun W G=>
   AJ B sb M s zs[k] W (E.o.below (a.o.trans (G.mono a.o.size))) (N _ (List.getElem_mem hlt))
  have F:=I (Hs (expL s) zs k hlt);generalize zs[k]=z at *;generalize expL s z=y at *;clear n;go_wp2_with (first|(go_at_call 249;refine(A.o _ (Below.refl _ _)).mono ?_;rintro e Z ⟨rfl,d⟩;have b:=I (a.o.trans (d.mono T));have l:=I (Xe (P:=fun _ _=>False) m.o (Fr.of_below d) (fun _ _ h=>h));clear d)|(at_builtin;refine wpList_append_own _ rfl _ _ 61 rfl w.heap.size 9 Y _ 1 16 underlying61 J U V X rfl (by decide) _ _ _ rfl (l.o.alloc _) ⟨Z.heap.size,0,none⟩ 1 1 [.string (sA y)] rfl rfl (cell_one_new _ _ _) (Ga _) (by unfold maxLen;omega) (by omega) (by have:=b.o.size;simp;omega) ?_;intro v5 w5 t q _;have x:=I (Jm b.o b.o.size q (fun k r=>(l.o.lt k r).1));have D:=I t;clear t q));go_roundw
  case rel=>
   refine⟨k+1,by omega,by go_num,?_,x.o⟩;rw[F.o,<-X0];exact D.o
  case measure=>simp[intOf];omega
theorem Eo(x y:L8):((sA x).toList==(sA y).toList)=decide (x=y):=by
 rw[show(sA y).toList=y by rw[ByteArray.toList_eq];rfl];exact Y6 x y
theorem Dw(h:L8×L8)(n:L8)(w:World)(k:h.1.length<=1000000)(l:n.length<=1000000) :
 Calls prog 206 #[.agg #[.string (sA h.1),.string (sA h.2)],.string (sA n)] w fun e w'=>e=.returned (.bool (Z1 h n))/\Below w.heap.size w w':=by
 have he:=Eo (zL h.1) (zL n);have j:Hid (Z1 h n=decide (zL h.1=zL n)):=rfl;generalize decide (zL h.1=zL n)=b at *;have f:=I (VK h.1);have g:=I (VK n);generalize zL h.1=x at *;generalize zL n=y at *;go_enter func206,ntmps206;go_wp2_with fail;refine(f.o _ k).mono ?_;rintro e m ⟨rfl,c⟩;have a:=I (((Below.refl w.heap.size w).alloc Ql _).trans (c.mono (by simp)));clear c;go_wp2_with fail;refine(g.o _ l).mono ?_;rintro e p ⟨rfl,d⟩;have i:=I (a.o.trans (d.mono a.o.size));clear d;go_wp2;go_ret;exact⟨QS (by rw[j.o]),i.o⟩
theorem Ho(h:L8×L8)(n:L8)(p:Nat)(w:World)(c:h.1.length<=1000000)(d:n.length<=1000000)(f:w.cell? ⟨p,0,none⟩=some (.string (sA n))) :
 Calls prog 251 #[.agg #[.string (sA h.1),.string (sA h.2)],.pointer (some ⟨p,0,none⟩)] w fun e w'=>e=.returned (.bool (Z1 h n))/\Below w.heap.size w w':=by
 have g:=Qq f;go_enter func251,ntmps251;go_wp2_with fail;refine(Dw h n _ c d).mono ?_;rintro e i ⟨rfl,a⟩;have b:=I (((Below.refl w.heap.size w).alloc Ql _).trans (a.mono (by simp)));clear a;go_wp2;go_ret;exact⟨rfl,b.o⟩
theorem Du(w:World)(v:Value)(t:TypeId):(w.alloc (.cells #[v] t)).cell? ⟨w.heap.size,0,none⟩=some v:=by
 rw[Qi (QC w _)];rfl
theorem Sl(p:α->Bool)(l:List α)(k:Nat)(h:k<l.length):(l.drop k).any p=(p l[k] || (l.drop (k+1)).any p):=by
 rw[List.drop_eq_getElem_cons h,List.any_cons]
theorem RE(p:α->Bool)(l:List α)(k:Nat)(h:k<l.length):(l.drop k).all p=(p l[k]&&(l.drop (k+1)).all p):=by
 rw[List.drop_eq_getElem_cons h,List.all_cons]
theorem UC(l:List α)(k:Nat)(h:¬ k<l.length):l.drop k=[]:=Zb (by omega)
theorem Hh(a:List (L8×L8))(x:Value)(n:L8)(p:Nat)(w:World)(s:XY w x a)(M:a.length<=1000000)(B:∀ h∈a,h.1.length<=100000/\h.2.length<=100000)(C:n.length<=1000000)(v:w.cell? ⟨p,0,none⟩=some (.string (sA n))) :
 Calls prog 267 #[x,.func (.func 251) #[] #[.pointer (some ⟨p,0,none⟩)]] w fun e w'=>∃ i:Int,e=.returned (.int .i64 i)/\decide (0<=i)=a.any (Z1 · n)/\Below w.heap.size w w':=by
 obtain⟨la,P,F⟩:=s.len;subst F;have z:=I s;have G:=Qq v;clear s;go_enter func267,ntmps267;go_wp2
 go_loopw [5,8] (fun _ i wr=>∃(k:Nat),k<=a.length/\i=.int .i64 (k:Int)/\Below w.heap.size w wr/\a.any (Z1 · n)=(a.drop k).any (Z1 · n)) (fun _ i _=>a.length - (intOf i).toNat)
 case atStart=>exact⟨0,QE,rfl,Below.refl _ _,rfl⟩
 case round=>
  obtain⟨k,L,rfl,m,t⟩:=hrel;have b:=I m;have j:=I t;have y:=m.size;clear m t;by_cases hlt:k<a.length;rotate_left
  ·have D:¬(k:Int)<(a.length:Int):=by omega
   have c:=I (UC a k hlt);go_wp2;go_ret;exact⟨-1,rfl,by rw[j.o,c.o];rfl,b.o⟩
  have D:(k:Int)<(a.length:Int):=by omega
  obtain⟨g,E,u,q,r⟩:=z.o.get' k hlt;subst E;have J:wr.cell? ⟨g,k*2,none⟩=some (.string (sA a[k].1)):=by rw[b.o.cell (p:=⟨g,k*2,none⟩) u];exact q
  have K:wr.cell? ⟨g,k*2+1,none⟩=some (.string (sA a[k].2)):=by rw[b.o.cell (p:=⟨g,k*2+1,none⟩) u];exact r
  have A:wr.cell? ⟨p,0,none⟩=some (.string (sA n)):=by rw[b.o.cell (p:=⟨p,0,none⟩) G];exact v
  have c:=I (Sl (Z1 · n) a k hlt);have N:=(B _ (List.getElem_mem hlt)).1;have f:Hid (Calls prog 251 #[.agg #[.string (sA a[k].1),.string (sA a[k].2)],.pointer (some ⟨p,0,none⟩)] wr fun e w'=>e=.returned (.bool (Z1 a[k] n))/\Below wr.heap.size wr w'):=Ho a[k] n p wr (by omega) C A;cases hb:Z1 a[k] n
  ·rw[hb]at c f;clear q r;go_wp2_with (go_at_call 251;refine f.o.mono ?_;rintro e H ⟨rfl,d⟩;have l:=I (b.o.trans (d.mono y));clear d);go_roundw
   case rel=>exact⟨k+1,by omega,by go_num,l.o,by rw[j.o,c.o];rfl⟩
   case measure=>simp[intOf];omega
  ·rw[hb]at c f;clear q r;go_wp2_with (go_at_call 251;refine f.o.mono ?_;rintro e H ⟨rfl,d⟩;have l:=I (b.o.trans (d.mono y));clear d);go_ret;exact⟨k,rfl,by rw[j.o,c.o];exact Qw (by omega),l.o⟩
theorem Fw(a:List (L8×L8))(f:Value)(n:L8)(p:Nat)(w:World)(c:XY w f a)(m:a.length<=1000000)(k:∀ h∈a,h.1.length<=100000/\h.2.length<=100000)(l:n.length<=1000000)(r:w.cell? ⟨p,0,none⟩=some (.string (sA n))) :
 Calls prog 250 #[f,.func (.func 251) #[] #[.pointer (some ⟨p,0,none⟩)]] w fun e w'=>e=.returned (.bool (a.any (Z1 · n)))/\Below w.heap.size w w':=by
 obtain⟨la,s,q⟩:=c.len;subst q;go_enter func250,ntmps250;go_wp2_with fail;refine(Hh a _ n p _ c m k l r).mono ?_;rintro e t ⟨i,rfl,d,b⟩;have j:=I d;have g:=I b;clear d b;go_wp2
 all_goals go_ret
 all_goals exact⟨QS (by rw[<-j.o]),g.o⟩
theorem D3(s:SS):∀(n:Nat) (l acc:L8),acc.length<=1024->(Yq s n l acc).length<=1024
 |0,_,_,h=>h
 |n+1,l,acc,h=>by
  by_cases hc:l≠[]/\acc.length<1024
  ·rw[Dt hc];exact D3 s n _ _ (by rw[Ze,List.length_take];omega)
  ·rw[AP hc];exact h
theorem AQ(s:SS)(x:L8)(N:Nat)(h:x.length<=N)(a:1024<=N):(expL s x).length<=N:=by
 unfold expL;split
 ·exact Qs (D3 s _ _ _ QE) a
 ·exact h
theorem V1(s:SS)(zs:Qa)(N:Nat)(h:∀ z∈zs,z.length<=N)(a:1024<=N):∀ y∈zs.map (expL s),y.length<=N:=by
 intro y b;obtain⟨z,c,rfl⟩:=List.mem_map.1 b;exact AQ s z N (h z c) a
theorem I2(B sb:Nat)(M:Msg)(s:SS)(zs:Qa)(Z:Value)(w:World)(h:SAt w B sb M s)(G:SlT w Z zs)(E:∀ z∈zs,z.length<=1000000)(V:zs.length<=1000000) :
 Calls prog 208 #[.pointer (some ⟨sb,0,none⟩),Z] w fun e w'=>e=.returned (.bool (existsL M (zs.map (expL s))))/\Below w.heap.size w w':=by
 obtain⟨la,lc,ai⟩:=G.len;subst ai;have HS:=I h;obtain⟨J,mb,tv,mv,f⟩:=h;have Q:=I f;have F:=f.lt;have U:=f.bd;have A:w.cell? ⟨sb,3,none⟩=some J:=f.cell 3;have L:=I U;clear f U;go_enter func208,ntmps208;go_wp2_with fail;refine(VV B sb M s zs _ w HS.o G E V).mono ?_;rintro e q ⟨v1,rfl,H,D⟩;have x:=I (SlT.of_owns H (by simp));have u:=I D;obtain⟨ta,tc,ak⟩:=QQ H;subst ak;have Y:∀ y∈zs.map (expL s),y.length<=1000000:=V1 s zs _ E (by decide);have j:zs.length=(zs.map (expL s)).length:=by simp
 have N:Hid (existsL M (zs.map (expL s))=(zs.map (expL s)).all fun n=>M.hdrs.any (Z1 · n)):=rfl;have R:=I Y;obtain⟨a,K⟩:=Qe (zs.map (expL s));have S:=I K;rw[K]at x N R j;clear K;rw[j]at V;have ac:q.cell? ⟨sb,3,none⟩=some J:=(D.cell (p:=⟨sb,3,none⟩) F).trans A;rw[j];rw[j]at x;clear H Y j D G E A;go_wp2_with fail
 go_loopw [6,11] (fun _ i wr=>∃(k:Nat),k<=a.length/\i=.int .i64 (k:Int)/\Below w.heap.size w wr/\Below q.heap.size q wr/\existsL M a=(a.drop k).all fun n=>M.hdrs.any (Z1 · n)) (fun _ i _=>a.length - (intOf i).toNat)
 case atStart=>exact⟨0,QE,rfl,u.o,Below.refl _ _,N.o⟩
 case round=>
  obtain⟨k,hk,rfl,m,C,T⟩:=hrel;have t:=I m;have d:=I C;have r:=I T;have X:=m.size;have aj:sb<q.heap.size:=Zs F u.o.size;have A:wr.cell? ⟨sb,3,none⟩=some J:=(C.cell (p:=⟨sb,3,none⟩) aj).trans ac;have ap:sb<wr.heap.size:=Zs F m.size;clear m C T;by_cases hlt:k<a.length;rotate_left
  ·have ag:¬(k:Int)<(a.length:Int):=by omega
   have b:=I (UC a k hlt);go_wp2;go_ret;exact⟨QS (by rw[S.o,r.o,b.o];rfl),t.o⟩
  have ag:(k:Int)<(a.length:Int):=by omega
  obtain⟨g,ah,ae,ab⟩:=x.o.get' k hlt;subst ah;have c1:wr.cell? ⟨g,k,none⟩=some (.string (sA a[k])):=by rw[d.o.cell (p:=⟨g,k,none⟩) ae];exact ab
  have b:=I (RE (fun n=>M.hdrs.any (Z1 · n)) a k hlt);have ao:=R.o _ (List.getElem_mem hlt);obtain⟨ha,hc,af⟩:=Q.o.hd.len;subst af
  have l:Hid (∀ W,Below wr.heap.size wr W->W.cell? ⟨wr.heap.size,0,none⟩=some (.string (sA a[k]))->Calls prog 250 #[.slice ha M.hdrs.length hc,.func (.func 251) #[] #[.pointer (some ⟨wr.heap.size,0,none⟩)]] W fun e w'=>e=.returned (.bool (M.hdrs.any (Z1 · a[k])))/\Below W.heap.size W w'):=fun W hW ad=>
   Fw M.hdrs _ a[k] _ W (Q.o.hd.fr (P:=fun _ _=>False) (Fr.trans (Fr.trans (Fr.of_below u.o) (Fr.of_below d.o)) (Fr.of_below hW)) (fun _ _ h=>h)) (by have:=L.o.hl;omega) L.o.hd ao ad
  generalize a[k]=y at *;cases hb:M.hdrs.any (Z1 · y)
  ·rw[hb]at b l;go_wp2_with (go_at_call 250;refine(l.o _ (Qp _) (Du _ _ _)).mono ?_;rintro e w2 ⟨rfl,c⟩;have v:=I ((t.o.alloc X _).trans (c.mono (by simp;omega)));clear c);go_ret;exact⟨QS (by rw[S.o,r.o,b.o];rfl),v.o⟩
  ·rw[hb]at b l;go_wp2_with (go_at_call 250;refine(l.o _ (Qp _) (Du _ _ _)).mono ?_;rintro e w2 ⟨rfl,c⟩;have v:=I ((t.o.alloc X _).trans (c.mono (by simp;omega)));have aa:=I ((d.o.alloc d.o.size _).trans (c.mono (by have:=d.o.size;simp;omega)));clear c);go_roundw
   case rel=>exact⟨k+1,by omega,by go_num,v.o,aa.o,by rw[r.o,b.o];rfl⟩
   case measure=>simp[intOf];omega
end Go.Proofs.YtgnkjijocdmniaaGreatDoor
