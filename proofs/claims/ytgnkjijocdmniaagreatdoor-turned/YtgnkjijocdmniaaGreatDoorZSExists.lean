import Derived.Laws.MakeOwn
import Derived.Deep.RegionLaw
import Derived.Deep.AppendLies
import Derived.Test.YtgnkjijocdmniaaGreatDoorZScanAll
namespace Go.Proofs.YtgnkjijocdmniaaGreatDoor
set_option linter.unusedVariables false
set_option linter.unusedSimpArgs false
set_option maxRecDepth 100000
set_option maxHeartbeats 4000000
open Go.Proofs.Tryz
section
open Go.RowKit
def QcC (ps:List (Nat×UInt8)):List Value:=ps.flatMap fun p=>[.int .i64 p.1,.int .u8 p.2.toNat]
theorem QdY(ps:List (Nat×UInt8))(p:Nat×UInt8):QcC ps++[.int .i64 p.1,.int .u8 p.2.toNat]=QcC (ps++[p]):=by simp[QcC]
theorem Tryz.infoPiece:(Tryz.prog.info? 362).map (fun i=>(i.zero,i.size,i.bytes))=some (some (.agg #[.int .i64 0,.int .u8 0]),2,16):=by kernel_rfl
theorem Qj9(s:ByteArray)(k:Nat)(h:k<s.size):pcL (s.data.toList.drop k) =
 if s[k]=42 then(2,0)::pcL (s.data.toList.drop (k+1))else if s[k]=63 then(1,0)::pcL (s.data.toList.drop (k+1))
 else if h:s[k]=92/\k+1<s.size then(0,s[k+1])::pcL (s.data.toList.drop (k+2))else(0,s[k])::pcL (s.data.toList.drop (k+1)):=by
 rw[Qbv s k h];by_cases h2:k+1<s.size
 ·rw[Qbv s (k+1) h2,pcL];by_cases a1:s[k]=42
  ·simp[a1]
  by_cases a2:s[k]=63
  ·simp[a1,a2]
  by_cases a3:s[k]=92
  ·simp[a1,a2,a3,h2]
  ·simp[a1,a2,a3,h2]
 ·rw[List.drop_of_length_le (by simpa using h2)];simp only[pcL];rw[dif_neg (by omega)];split
  ·rfl
  ·split<;>rfl
theorem Qjr(w:World)(x y:Value)(t:TypeId):∀ j u,[x,y][j]?=some u->(w.alloc (.cells #[x,y] t)).cell? ((⟨w.heap.size,0,none⟩:Addr).add j)=some u:=by
 intro j u hj
 match j,hj with
 |0,hj=>simp at hj;subst hj;simp[Addr.add]
 |1,hj=>simp at hj;subst hj;simp[Addr.add]
theorem QjU(a b:Int):∀ u∈[Value.int .i64 a,Value.int .u8 b],u.oneCell'=true:=by
 intro u hu;simp at hu;rcases hu with rfl|rfl<;>rfl
theorem QbP{B:Nat}{u w w':World}{o:Obj}{aa:Option Nat}(h:Below B u w)(hB:B<=w.heap.size)(hg:(w.alloc o).grownBy w' aa)(hr:∀ k,aa=some k->B<=k):Below B u w':=by
 have ha:=h.alloc hB o
 exact ⟨hg.os.trans ha.os,hg.tape.trans ha.tape,hg.output.trans ha.output,Nat.le_trans ha.size hg.size,fun k hk=>by
  rw[hg.block k (by simp;omega) (fun e=>by have:=hr k e.symm;omega)]
  exact ha.block k hk⟩
theorem Qi0(c d:UInt8):((c.toNat:Int)==(d.toNat:Int))=decide (c=d):=by
 by_cases h:c=d
 ·subst h;simp
 ·rw[decide_eq_false h];simp;intro e;exact h (UInt8.toNat_inj.1 (by omega))
theorem QjM(s:ByteArray)(w:World)(hs:s.size<=4294967280) :
 Calls Tryz.prog 246 #[.string s] w fun e w'=>∃ v,e=.returned v/\w'.ownsRow w.heap.size 362 2 v (pcL s.data.toList).length (QcC (pcL s.data.toList))/\Below w.heap.size w w':=by
 obtain⟨i0,hi,ao,ap,aq⟩:=info_parts Tryz.infoPiece;go_enter func246,ntmps246;go_wp2_with fail
 go_loopw [3,4] (fun l i wr=>∃(k:Nat) (ac:List (Nat×UInt8)),k<=s.size/\i=.int .i64 k/\wr.ownsRow w.heap.size 362 2 l ac.length (QcC ac)/\Below w.heap.size w wr/\ac.length<=k/\pcL s.data.toList=ac++pcL (s.data.toList.drop k)) (fun _ i _=>s.size - (intOf i).toNat)
 case atStart=>exact⟨0,[],by omega,rfl,World.ownsRow_nil _ _ _ _,Below.refl _ _,Nat.le_refl _,rfl⟩
 case round=>
  obtain⟨k,ac,hk,rfl,aj,hB,hal,av⟩:=hrel;have ah:=Qab av;have HB:=Qab hB;have ak:w.heap.size<=wr.heap.size:=hB.size;clear av hB;by_cases hlt:k<s.size;rotate_left
  ·have ax:k=s.size:=by omega
   subst ax;have HD:Hid (pcL (s.data.toList.drop s.size)=[]):=by show _=_;rw[List.drop_of_length_le (by simp)];rfl
   go_wp2;go_ret;refine⟨_,rfl,?_,HB.o⟩;rw[ah.o,HD.o,List.append_nil];exact aj
  have ag:=Qab (Qj9 s k hlt);have ad:=Qab aj;have hub:=UInt8.toNat_lt s[k];have au:((s[k].toNat:Int)==42)=decide (s[k]=42):=Qi0 s[k] 42;have ar:((s[k].toNat:Int)==63)=decide (s[k]=63):=Qi0 s[k] 63;have ai:((s[k].toNat:Int)==92)=decide (s[k]=92):=Qi0 s[k] 92;by_cases a1:s[k]=42
  ·rw[decide_eq_true a1]at au;have HP:Hid (pcL (s.data.toList.drop k)=(2,0)::pcL (s.data.toList.drop (k+1))):=by show _=_;rw[ag.o,if_pos a1]
   clear ag a1 ar ai;go_wp2_with (at_builtin;refine wpList_append_own _ rfl _ _ 344 rfl w.heap.size 362 i0 _ 2 16 underlying344 hi ao ap aq rfl (by decide) _ _ _ rfl (ad.o.alloc _) ⟨wr.heap.size,0,none⟩ 1 1 [.int .i64 2,.int .u8 0] rfl rfl (Qjr _ _ _ _) (QjU _ _) ?c3 ?c4 ?c5 ?_)
   case c3=>unfold maxLen;omega
   case c4=>omega
   case c5=>first|(simp;omega)|omega
   intro v' w5 aa ab _;have ae:=Qab (QbP HB.o ak ab (fun k hk=>(ad.o.lt k hk).1));rw[show QcC ac++[.int .i64 2,.int .u8 0]=QcC (ac++[(2,0)])from QdY ac (2,0)]at aa;have af:=Qab aa;clear aa ab;go_wp2;go_roundw
   case rel=>exact⟨k+1,ac++[(2,0)],by omega,by go_num,by simpa using af.o,ae.o,by simp;omega,by rw[ah.o,HP.o];simp⟩
   case measure=>simp[intOf];omega
  rw[decide_eq_false a1]at au;by_cases a2:s[k]=63
  ·rw[decide_eq_true a2]at ar;have HP:Hid (pcL (s.data.toList.drop k)=(1,0)::pcL (s.data.toList.drop (k+1))):=by show _=_;rw[ag.o,if_neg a1,if_pos a2]
   clear ag a1 a2 ai;go_wp2_with (at_builtin;refine wpList_append_own _ rfl _ _ 344 rfl w.heap.size 362 i0 _ 2 16 underlying344 hi ao ap aq rfl (by decide) _ _ _ rfl (ad.o.alloc _) ⟨wr.heap.size,0,none⟩ 1 1 [.int .i64 1,.int .u8 0] rfl rfl (Qjr _ _ _ _) (QjU _ _) ?c3 ?c4 ?c5 ?_)
   case c3=>unfold maxLen;omega
   case c4=>omega
   case c5=>first|(simp;omega)|omega
   intro v' w5 aa ab _;have ae:=Qab (QbP HB.o ak ab (fun k hk=>(ad.o.lt k hk).1));rw[show QcC ac++[.int .i64 1,.int .u8 0]=QcC (ac++[(1,0)])from QdY ac (1,0)]at aa;have af:=Qab aa;clear aa ab;go_wp2;go_roundw
   case rel=>exact⟨k+1,ac++[(1,0)],by omega,by go_num,by simpa using af.o,ae.o,by simp;omega,by rw[ah.o,HP.o];simp⟩
   case measure=>simp[intOf];omega
  rw[decide_eq_false a2]at ar;by_cases a3:s[k]=92/\k+1<s.size
  ·rw[decide_eq_true a3.1]at ai;have h2:=a3.2;have aw:((k:Int)+1<(s.size:Int)):=by omega
   have HP:Hid (pcL (s.data.toList.drop k)=(0,s[k+1])::pcL (s.data.toList.drop (k+2))):=by show _=_;rw[ag.o,if_neg a1,if_neg a2,dif_pos a3]
   clear ag a1 a2 a3;go_wp2_with (at_builtin;refine wpList_append_own _ rfl _ _ 344 rfl w.heap.size 362 i0 _ 2 16 underlying344 hi ao ap aq rfl (by decide) _ _ _ rfl (ad.o.alloc _) ⟨wr.heap.size,0,none⟩ 1 1 [.int .i64 0,.int .u8 s[k+1].toNat] rfl rfl (Qjr _ _ _ _) (QjU _ _) ?c3 ?c4 ?c5 ?_)
   case c3=>unfold maxLen;omega
   case c4=>omega
   case c5=>first|(simp;omega)|omega
   intro v' w5 aa ab _;have ae:=Qab (QbP HB.o ak ab (fun k hk=>(ad.o.lt k hk).1));rw[show QcC ac++[.int .i64 0,.int .u8 s[k+1].toNat]=QcC (ac++[(0,s[k+1])])from QdY ac (0,s[k+1])]at aa;have af:=Qab aa;clear aa ab;go_wp2;go_roundw
   case rel=>exact⟨k+2,ac++[(0,s[k+1])],by omega,by go_num,by simpa using af.o,ae.o,by simp;omega,by rw[ah.o,HP.o];simp⟩
   case measure=>simp[intOf];omega
  have HP:Hid (pcL (s.data.toList.drop k)=(0,s[k])::pcL (s.data.toList.drop (k+1))):=by show _=_;rw[ag.o,if_neg a1,if_neg a2,dif_neg a3]
  clear ag;by_cases a4:s[k]=92
  ·have h2:¬ k+1<s.size:=fun h=>a3 ⟨a4,h⟩
   have aw:¬((k:Int)+1<(s.size:Int)):=by omega
   rw[decide_eq_true a4]at ai;clear a1 a2 a3 a4;go_wp2_with (at_builtin;refine wpList_append_own _ rfl _ _ 344 rfl w.heap.size 362 i0 _ 2 16 underlying344 hi ao ap aq rfl (by decide) _ _ _ rfl (ad.o.alloc _) ⟨wr.heap.size,0,none⟩ 1 1 [.int .i64 0,.int .u8 s[k].toNat] rfl rfl (Qjr _ _ _ _) (QjU _ _) ?c3 ?c4 ?c5 ?_)
   case c3=>unfold maxLen;omega
   case c4=>omega
   case c5=>first|(simp;omega)|omega
   intro v' w5 aa ab _;have ae:=Qab (QbP HB.o ak ab (fun k hk=>(ad.o.lt k hk).1));rw[show QcC ac++[.int .i64 0,.int .u8 s[k].toNat]=QcC (ac++[(0,s[k])])from QdY ac (0,s[k])]at aa;have af:=Qab aa;clear aa ab;go_wp2;go_roundw
   case rel=>exact⟨k+1,ac++[(0,s[k])],by omega,by go_num,by simpa using af.o,ae.o,by simp;omega,by rw[ah.o,HP.o];simp⟩
   case measure=>simp[intOf];omega
  ·rw[decide_eq_false a4]at ai;clear a1 a2 a3 a4;go_wp2_with (at_builtin;refine wpList_append_own _ rfl _ _ 344 rfl w.heap.size 362 i0 _ 2 16 underlying344 hi ao ap aq rfl (by decide) _ _ _ rfl (ad.o.alloc _) ⟨wr.heap.size,0,none⟩ 1 1 [.int .i64 0,.int .u8 s[k].toNat] rfl rfl (Qjr _ _ _ _) (QjU _ _) ?c3 ?c4 ?c5 ?_)
   case c3=>unfold maxLen;omega
   case c4=>omega
   case c5=>first|(simp;omega)|omega
   intro v' w5 aa ab _;have ae:=Qab (QbP HB.o ak ab (fun k hk=>(ad.o.lt k hk).1));rw[show QcC ac++[.int .i64 0,.int .u8 s[k].toNat]=QcC (ac++[(0,s[k])])from QdY ac (0,s[k])]at aa;have af:=Qab aa;clear aa ab;go_wp2;go_roundw
   case rel=>exact⟨k+1,ac++[(0,s[k])],by omega,by go_num,by simpa using af.o,ae.o,by simp;omega,by rw[ah.o,HP.o];simp⟩
   case measure=>simp[intOf];omega
end
section
open Go.RowKit
attribute [local go_sem ↓] Go.wp_at_zero Go.wp_at_succ
theorem QhO(a b:Nat):((a:Int)==(b:Int))=(a==b):=by
 by_cases h:a=b
 ·subst h;simp
 ·have h':¬(a:Int)=(b:Int):=by omega
  rw[beq_eq_false_iff_ne.2 h,beq_eq_false_iff_ne.2 h']
theorem Tryz.infoInt:(Tryz.prog.info? 3).map (fun i=>(i.zero,i.size,i.bytes))=some (some (.int .i64 0),1,8):=by kernel_rfl
def Qfg (pl:List Nat):Array Value:=(pl.map fun (n:Nat)=>Value.int .i64 (n:Int)).toArray
theorem QkA(pl:List Nat)(k a:Nat):(Qfg pl).setIfInBounds k (.int .i64 (a:Int))=Qfg (pl.set k a):=by
 unfold Qfg;rw[List.setIfInBounds_toArray,List.map_set]
theorem Qsq(n:Nat):madeCells (Value.cells (.int .i64 0)) (n*1)=Qfg (List.replicate n 0):=by
 apply Array.ext
 ·rw[size_madeCells];simp[Qfg]
 ·intro i h1 h2;have hi:i<n:=by rw[size_madeCells]at h1;omega
  have e1:(Qfg (List.replicate n 0))[i]=.int .i64 0:=by simp[Qfg]
  rw[e1];simp only[madeCells,Array.getElem_map,Array.getElem_range];have:i % (Value.cells (.int .i64 0)).size=0:=Nat.mod_one _;rw[this];rfl
def QxL (w:World) (g:Nat) (key:List (Nat×UInt8)):Prop:=
 ∀ j (hj:j < key.length),w.cell? ⟨g,j*2,none⟩=some (.int .i64 key[j].1)∧w.cell? ⟨g,j*2+1,none⟩=some (.int .u8 key[j].2.toNat)
theorem Qnw(aa:List (Nat×UInt8))(j:Nat)(hj:j<aa.length):(QcC aa)[j*2]?=some (.int .i64 aa[j].1)/\(QcC aa)[j*2+1]?=some (.int .u8 aa[j].2.toNat):=by
 induction aa generalizing j with
 |nil=>exact absurd hj (Nat.not_lt_zero _)
 |cons p r ih=>
  cases j with
  |zero=>exact⟨rfl,rfl⟩
  |succ j=>
   have:=ih j (by simpa using hj);have e:QcC (p::r)=.int .i64 p.1 :: .int .u8 p.2.toNat::QcC r:=rfl;have e1:(j+1)*2=j*2+1+1:=by omega
   have e2:(j+1)*2+1=(j*2+1)+1+1:=by omega
   rw[e,e1,List.getElem?_cons_succ,List.getElem?_cons_succ,List.getElem?_cons_succ,List.getElem?_cons_succ];exact this
theorem QxL.of_owns{w:World}{base g n c:Nat}{aa:List (Nat×UInt8)}(h:w.ownsRow base 362 2 (.slice (some ⟨g,0,none⟩) n c) n (QcC aa)):QxL w g aa:=fun j hj=>by
 have h1:=h.cells (g:=g) rfl (j*2) _ (Qnw aa j hj).1;have h2:=h.cells (g:=g) rfl (j*2+1) _ (Qnw aa j hj).2;rw[Qcs]at h1 h2;exact⟨h1,h2⟩
def Qws (p:Nat×UInt8):Value:=.agg #[.int .i64 p.1,.int .u8 p.2.toNat]
theorem Qj7(p:Nat×UInt8)(c:UInt8)(w:World) :
 Calls Tryz.prog 265 #[Qws p,.int .u8 c.toNat] w fun e w'=>e=.returned (.bool (Qgj p c))/\Below w.heap.size w w':=by
 unfold Qws;have e1:((p.1:Int)==1)=(p.1==1):=QhO p.1 1;have e0:((p.1:Int)==0)=(p.1==0):=QhO p.1 0;have ec:((p.2.toNat:Int)==(c.toNat:Int))=(p.2==c):=Qi0 p.2 c;have HT:Hid (Qgj p c=(p.1==1 || (p.1==0&&p.2==c))):=rfl;generalize (p.1==1)=b1 at *;generalize (p.1==0)=b0 at *;generalize (p.2==c)=bc at *
 cases b1<;>cases b0<;>cases bc <;>
 (go_enter func265,ntmps265
  go_wp2;go_ret
  exact ⟨QaZ (by rw [HT.o];rfl),(Below.refl _ _).alloc (Nat.le_refl _) _⟩)
theorem QdM:∀(l:L8),∀ p∈pcL l,p.1=2->p=(2,0)
 | [],p,hp,_=>by cases hp
 | [c],p,hp,h=>by
  simp only[pcL,List.mem_singleton]at hp;subst hp
  split at h
  ·next hc=>rw[if_pos hc]
  ·next hc=>
   split at h
   ·exact absurd h (fun e=>by cases e)
   ·exact absurd h (fun e=>by cases e)
 |c::d::r,p,hp,h=>by
  rw[pcL]at hp
  split at hp
  ·rcases List.mem_cons.1 hp with rfl|hp
   ·rfl
   ·exact QdM (d::r) p hp h
  ·split at hp
   ·rcases List.mem_cons.1 hp with rfl|hp
    ·exact absurd h (fun e=>by cases e)
    ·exact QdM (d::r) p hp h
   ·split at hp
    ·rcases List.mem_cons.1 hp with rfl|hp
     ·exact absurd h (fun e=>by cases e)
     ·exact QdM r p hp h
    ·rcases List.mem_cons.1 hp with rfl|hp
     ·exact absurd h (fun e=>by cases e)
     ·exact QdM (d::r) p hp h
theorem QbG{B:Nat}{u w:World}{n:Nat}(h:Below B u w):Below B u (w.drewN n):=⟨h.os,h.tape,h.output,h.size,h.block⟩
theorem Qgn{a b:Int}(h:a=b):Value.int .i64 a=Value.int .i64 b:=by rw[h]
theorem Qhf{v:L8}{aa:List (Nat×UInt8)}{i1 i2 i3 j1 j2 j3:Int}{x1 x2 x3 y1 y2 y3:Nat}(h:QiI v aa x1 x2 x3<QiI v aa y1 y2 y3)(a1:i1=x1)(a2:i2=x2)(a3:i3=x3)(b1:j1=y1)(b2:j2=y2)(b3:j3=y3):QiI v aa i1.toNat i2.toNat i3.toNat<QiI v aa j1.toNat j2.toNat j3.toNat:=by
 subst a1 a2 a3 b1 b2 b3;exact h
def Qw2 (key:List (Nat×UInt8)) (v:L8) (B:Nat) (e:Ending) (w':World):Prop:=
 (QaW key v=true∧∃ g,B≤g∧e=.returned (.tuple #[.slice (some ⟨g,0,none⟩) (key.length+1) (key.length+1),.bool true])∧w'.heap[g]?=some (.cells (Qfg (plL key v 0)) 3))∨
 (QaW key v=false∧e=.returned (.tuple #[.slice none 0 0,.bool false]))
theorem QuZ(s:ByteArray)(aa:List (Nat×UInt8))(kv:Value)(base:Nat)(w:World)(hs:s.size<=1000000)(hkl:aa.length<=1000000)(hk:w.ownsRow base 362 2 kv aa.length (QcC aa))(h2:∀ j (hj:j<aa.length),aa[j].1=2->aa[j]=(2,0)) :
 Calls Tryz.prog 247 #[.string s,kv] w fun e w'=>Qw2 aa s.data.toList w.heap.size e w'/\Below w.heap.size w w':=by
 obtain⟨ka,kc,aK⟩:∃ ka kc,kv=.slice ka aa.length kc:=by
  rcases hk.2 with⟨h,h2⟩ | ⟨g,aE,aF,h,_⟩
  ·exact⟨none,0,by rw[h,h2]⟩
  ·exact⟨_,_,h⟩
 subst aK
 have HK:Hid (∀ j,j<aa.length->∃ g,ka=some ⟨g,0,none⟩/\g<w.heap.size/\QxL w g aa):=by
  intro j hj;rcases hk.2 with⟨h,h2⟩ | ⟨g,aE,aF,h,hb,hg,_⟩
  ·omega
  ·injection h with h1 h2 h3
   subst h1 h3;exact⟨g,rfl,QaI hg,QxL.of_owns hk⟩
 obtain⟨i0,hi,aL,aM,aN⟩:=info_parts Tryz.infoInt;have av:=run_make (P:=Tryz.prog) w 24 3 i0 _ underlying24 hi aL .i64 .i64 ((aa.length:Int)+1) ((aa.length:Int)+1) (by omega) (Int.le_refl _) (by rw[aN];omega) (by omega);rw[aM,show((aa.length:Int)+1).toNat=aa.length+1 by omega,Qsq]at av;obtain⟨W,hW⟩:∃ W,W=w.alloc (.cells (Qfg (List.replicate (aa.length+1) 0)) 3):=⟨_,rfl⟩;have ap:W.heap[w.heap.size]?=some (.cells (Qfg (List.replicate (aa.length+1) 0)) 3):=by rw[hW];exact Qat _ _
 have ay:Below w.heap.size w W:=by rw[hW];exact(Below.refl _ _).alloc (Nat.le_refl _) _
 rw[<-hW]at av
 have aG:W.cell? ⟨w.heap.size,aa.length,none⟩=some (.int .i64 0):=by
  rw[Qaa ap];simp[Qfg]
 have aH:∀ j,W.frozen? ⟨w.heap.size,j,none⟩=false:=Qao ap;clear hW hk;go_enter func247,ntmps247;go_wp2_with fail
 go_loopw [4,5,6,7,8,9] (fun v4 v5 star ends at_ ki wr=>v4=.slice (some ⟨w.heap.size,0,none⟩) (aa.length+1) (aa.length+1)/\v5=.bool false/\∃(st e a k:Nat) (pl:List Nat),star=.int .i64 ((st:Int) - 1)/\ends=.int .i64 (e:Int)/\at_=.int .i64 (a:Int)/\ki=.int .i64 (k:Int)/\Qfy s.data.toList aa st e a k pl/\wr.heap[w.heap.size]?=some (.cells (Qfg pl) 3)/\Below w.heap.size w wr) (fun _ _ star ends at_ ki _=>QiI s.data.toList aa (intOf star+1).toNat (intOf ends).toNat (intOf at_).toNat)
 case atStart=>
  refine⟨rfl,rfl,0,0,0,0,(List.replicate (aa.length+1) 0).set aa.length s.size,rfl,rfl,rfl,rfl,Qvd _ _ _ (by simp) (by simp),?_,?_⟩
  ·rw[<-QkA];exact Qah _ _ _ _ _ _ ap
  ·exact ay.setCell (Nat.le_refl _) _
 case round=>
  obtain⟨rfl,rfl,st,e,a,k,pl,rfl,rfl,rfl,rfl,hI,ao,hB⟩:=hrel;have hkl':=hI.kl;have aI:=hI.al;have hea:=hI.ea;have hsk:=hI.sk;have ac:s.data.toList.length=s.size:=by simp
  have HI:=Qab hI;have HB:=Qab hB;have ag:=Qab ao;rw[ac]at aI;clear hI hB ao av ap ay aG aH;have pllen:=HI.o.pll
  have ab:∀ j,j<aa.length+1->∃ x,wr.cell? ⟨w.heap.size,j,none⟩=some x:=fun j hj=>by
   rw[Qaa ag.o];exact⟨_,Array.getElem?_eq_getElem (by simp[Qfg];omega)⟩
  have aq:∀ j,wr.frozen? ⟨w.heap.size,j,none⟩=false:=Qao ag.o;have ar:w.heap.size<=wr.heap.size:=HB.o.size;by_cases hend:a<s.size\/k<aa.length;rotate_left
  ·have ha:¬(a:Int)<(s.size:Int):=by omega
   have aA:¬(k:Int)<(aa.length:Int):=by omega
   obtain⟨hm,aD⟩:=HI.o.yes (by rw[ac];omega) (by omega);have HM:=Qab hm;rw[aD]at ag;clear hm aD ab aq hend;go_wp2;go_ret2;exact⟨Or.inl ⟨HM.o,w.heap.size,Nat.le_refl _,rfl,ag.o⟩,HB.o⟩
  have hget:∀(ha:a<s.data.toList.length),s.data.toList[a]=s.data.toList.getD a 0:=fun ha=>by rw[List.getD_eq_getElem?_getD,List.getElem?_eq_getElem ha];rfl
  by_cases hkk:k<aa.length;rotate_left
  ·have aA:¬(k:Int)<(aa.length:Int):=by omega
   have af:a<s.size:=by omega
   have az:(a:Int)<(s.size:Int):=by omega
   have aJ:k=aa.length:=by omega
   by_cases h0:st=0
   ·have aw:¬(0:Int)<=(st:Int) - 1:=by omega
    have HN:=Qab (HI.o.never (Or.inl (by rw[ac];exact af)) (fun h=>absurd h hkk) (fun h=>absurd h hkk) (fun h=>h.1 h0));clear ab aq hend;go_wp2_with fail;go_quiet (fail)
    all_goals go_wp2_with fail
    go_ret2;exact⟨Or.inr ⟨HN.o,rfl⟩,QbG HB.o⟩
   ·have aw:(0:Int)<=(st:Int) - 1:=by omega
    have HL:=Qab (HI.o.longer h0 (by rw[ac];exact af) (Or.inl aJ));have ai:=Qab (HI.o.muLonger (by rw[ac];exact af));clear ab aq hend;go_wp2_with fail;go_quiet (fail)
    all_goals go_wp2_with fail
    all_goals exact⟨⟨rfl,rfl,st,e+1,e+1,st,pl,rfl,Qgn (by omega),Qgn (by omega),Qgn (by omega),HL.o,ag.o,QbG HB.o⟩,Qhf ai.o (by simp only[intOf];omega) (by simp only[intOf];try omega) (by simp only[intOf];try omega) (by simp only[intOf];omega) (by simp only[intOf];try omega) (by simp only[intOf];try omega)⟩
  obtain⟨g,rfl,au,ax⟩:=HK.o k hkk;obtain⟨aB,aC⟩:=ax k hkk;have c1:wr.cell? ⟨g,k*2,none⟩=some (.int .i64 aa[k].1):=by rw[HB.o.cell (p:=⟨g,k*2,none⟩) au];exact aB
  have c2:wr.cell? ⟨g,k*2+1,none⟩=some (.int .u8 aa[k].2.toNat):=by rw[HB.o.cell (p:=⟨g,k*2+1,none⟩) au];exact aC
  have aA:(k:Int)<(aa.length:Int):=by omega
  have ek:((aa[k].1:Int)==2)=(aa[k].1==2):=QhO aa[k].1 2;obtain⟨x,hx⟩:=ab k (by omega);clear ax aB aC;by_cases h2k:aa[k].1=2
  ·rw[beq_iff_eq.2 h2k]at ek;have HS:=Qab (HI.o.star hkk (h2 k hkk h2k));have ai:=Qab (HI.o.muStar hkk);clear ab hend;go_wp2_with fail
   all_goals exact⟨⟨rfl,rfl,k+1,a,a,k+1,pl.set k a,Qgn (by omega),rfl,rfl,Qgn (by omega),HS.o,by rw[<-QkA];exact Qah _ _ _ _ _ _ ag.o,HB.o.setCell (Nat.le_refl _) _⟩,Qhf ai.o (by simp only[intOf];omega) (by simp only[intOf];try omega) (by simp only[intOf];try omega) (by simp only[intOf];omega) (by simp only[intOf];try omega) (by simp only[intOf];try omega)⟩
  rw[beq_eq_false_iff_ne.2 h2k]at ek;by_cases af:a<s.size;rotate_left
  ·have az:¬(a:Int)<(s.size:Int):=by omega
   have HN:=Qab (HI.o.never (Or.inr hkk) (fun _=>h2k) (fun _ h=>absurd h (by rw[ac];exact af)) (fun h=>af (by rw[<-ac];exact h.2)));clear ab aq hend;go_wp2_with fail;go_quiet (fail)
   all_goals go_wp2_with fail
   all_goals go_ret2
   all_goals exact⟨Or.inr ⟨HN.o,rfl⟩,QbG HB.o⟩
  have az:(a:Int)<(s.size:Int):=by omega
  have hsa:s.data.toList[a]'(by rw[ac];exact af)=s[a]:=rfl;have aj:g<wr.heap.size:=Nat.lt_of_lt_of_le au ar;cases ht:Qgj aa[k] s[a]
  ·by_cases h0:st=0
   ·have aw:¬(0:Int)<=(st:Int) - 1:=by omega
    have HN:=Qab (HI.o.never (Or.inr hkk) (fun _=>h2k) (fun _ h=>ht) (fun h=>h.1 h0));clear ab hend;go_wp2_with fail;go_region_held3 (fun w'=>w'.cell? ⟨g,k*2,none⟩=some (.int .i64 aa[k].1)/\w'.cell? ⟨g,k*2+1,none⟩=some (.int .u8 aa[k].2.toNat)) (first|go_keep|exact⟨d1,d2⟩) (first|(go_at_call 265;refine(Qj7 aa[k] s[a] _).mono ?_;rintro e w1 ⟨rfl,ah⟩;rw[ht];have ad:=Qbk ah;have ak:=Qab (HB.o.trans (ad.mono ar));have ae:=Qab (Qal ag.o ad);have d1:w1.cell? ⟨g,k*2,none⟩=some (.int .i64 aa[k].1):=(ad.cell (p:=⟨g,k*2,none⟩) aj).trans c1;have d2:w1.cell? ⟨g,k*2+1,none⟩=some (.int .u8 aa[k].2.toNat):=(ad.cell (p:=⟨g,k*2+1,none⟩) aj).trans c2;have dx:w1.cell? ⟨w.heap.size,k,none⟩=some x:=(ad.cell (p:=⟨w.heap.size,k,none⟩) (Qau hx)).trans hx;have dz:∀ j,w1.frozen? ⟨w.heap.size,j,none⟩=false:=Qao ae.o;clear ah ad;skip))
    all_goals go_wp2_with fail
    all_goals go_ret2
    all_goals exact⟨Or.inr ⟨HN.o,rfl⟩,ak.o⟩
   ·have aw:(0:Int)<=(st:Int) - 1:=by omega
    have HL:=Qab (HI.o.longer h0 (by rw[ac];exact af) (Or.inr ⟨hkk,h2k,ht⟩));have ai:=Qab (HI.o.muLonger (by rw[ac];exact af));clear ab hend;go_wp2_with fail;go_region_held3 (fun w'=>w'.cell? ⟨g,k*2,none⟩=some (.int .i64 aa[k].1)/\w'.cell? ⟨g,k*2+1,none⟩=some (.int .u8 aa[k].2.toNat)) (first|go_keep|exact⟨d1,d2⟩) (first|(go_at_call 265;refine(Qj7 aa[k] s[a] _).mono ?_;rintro e w1 ⟨rfl,ah⟩;rw[ht];have ad:=Qbk ah;have ak:=Qab (HB.o.trans (ad.mono ar));have ae:=Qab (Qal ag.o ad);have d1:w1.cell? ⟨g,k*2,none⟩=some (.int .i64 aa[k].1):=(ad.cell (p:=⟨g,k*2,none⟩) aj).trans c1;have d2:w1.cell? ⟨g,k*2+1,none⟩=some (.int .u8 aa[k].2.toNat):=(ad.cell (p:=⟨g,k*2+1,none⟩) aj).trans c2;have dx:w1.cell? ⟨w.heap.size,k,none⟩=some x:=(ad.cell (p:=⟨w.heap.size,k,none⟩) (Qau hx)).trans hx;have dz:∀ j,w1.frozen? ⟨w.heap.size,j,none⟩=false:=Qao ae.o;clear ah ad;skip))
    all_goals go_wp2_with fail
    all_goals exact⟨⟨rfl,rfl,st,e+1,e+1,st,pl,rfl,Qgn (by omega),Qgn (by omega),Qgn (by omega),HL.o,ae.o,ak.o⟩,Qhf ai.o (by simp only[intOf];omega) (by simp only[intOf];try omega) (by simp only[intOf];try omega) (by simp only[intOf];omega) (by simp only[intOf];try omega) (by simp only[intOf];try omega)⟩
  ·have HT:=Qab (HI.o.take hkk (by rw[ac];exact af) h2k ht);have ai:=Qab (HI.o.muTake (by rw[ac];exact af));clear ab hend;go_wp2_with fail;go_region_held3 (fun w'=>w'.cell? ⟨g,k*2,none⟩=some (.int .i64 aa[k].1)/\w'.cell? ⟨g,k*2+1,none⟩=some (.int .u8 aa[k].2.toNat)) (first|go_keep|exact⟨d1,d2⟩) (first|(go_at_call 265;refine(Qj7 aa[k] s[a] _).mono ?_;rintro e w1 ⟨rfl,ah⟩;rw[ht];have ad:=Qbk ah;have ak:=Qab (HB.o.trans (ad.mono ar));have ae:=Qab (Qal ag.o ad);have d1:w1.cell? ⟨g,k*2,none⟩=some (.int .i64 aa[k].1):=(ad.cell (p:=⟨g,k*2,none⟩) aj).trans c1;have d2:w1.cell? ⟨g,k*2+1,none⟩=some (.int .u8 aa[k].2.toNat):=(ad.cell (p:=⟨g,k*2+1,none⟩) aj).trans c2;have dx:w1.cell? ⟨w.heap.size,k,none⟩=some x:=(ad.cell (p:=⟨w.heap.size,k,none⟩) (Qau hx)).trans hx;have dz:∀ j,w1.frozen? ⟨w.heap.size,j,none⟩=false:=Qao ae.o;clear ah ad;skip))
   all_goals go_wp2_with fail
   all_goals exact⟨⟨rfl,rfl,st,e,a+1,k+1,pl.set k a,rfl,rfl,Qgn (by omega),Qgn (by omega),HT.o,by rw[<-QkA];exact Qah _ _ _ _ _ _ ae.o,ak.o.setCell (Nat.le_refl _) _⟩,Qhf ai.o (by simp only[intOf];omega) (by simp only[intOf];try omega) (by simp only[intOf];try omega) (by simp only[intOf];omega) (by simp only[intOf];try omega) (by simp only[intOf];try omega)⟩
theorem Qlt(v:L8)(aa:List (Nat×UInt8))(pl:List Nat)(k:Nat):(toldTo v aa pl k).length<=k+1:=by
 induction k with
 |zero=>exact Nat.le_refl _
 |succ k ih=>rw[toldTo,List.length_append];split<;>simp<;>omega
theorem QpD(v:L8)(aa:List (Nat×UInt8))(pl:List Nat)(k:Nat)(hk:k<aa.length)(h:aa[k].1≠0):toldTo v aa pl (k+1)=toldTo v aa pl k++[(v.drop (pl.getD k 0)).take (pl.getD (k+1) 0 - pl.getD k 0)]:=by
 rw[toldTo,if_neg];rw[List.getD_eq_getElem?_getD,List.getElem?_eq_getElem hk];exact h
theorem QpK(v:L8)(aa:List (Nat×UInt8))(pl:List Nat)(k:Nat)(hk:k<aa.length)(h:aa[k].1=0):toldTo v aa pl (k+1)=toldTo v aa pl k:=by
 rw[toldTo,if_pos,List.append_nil];rw[List.getD_eq_getElem?_getD,List.getElem?_eq_getElem hk];exact h
theorem Qpn(s:ByteArray)(x y:Nat):s.extract x y=Qaf ((s.data.toList.drop x).take (y - x)):=by
 apply ByteArray.ext;apply Array.ext';simp[Qaf,List.take_drop]
theorem Qar{B:Nat}{u w:World}(h:Below B u w):Below B u w.drew:=⟨h.os,h.tape,h.output,h.size,h.block⟩
theorem QnW(x:ByteArray):∀ u∈[Value.string x],u.oneCell'=true:=by
 intro u hu;simp at hu;subst hu;rfl
theorem QnL(s:ByteArray)(aa:List (Nat×UInt8))(kv:Value)(base gp:Nat)(pl:List Nat)(w:World)(hs:s.size<=1000000)(hkl:aa.length<=1000000)(hk:w.ownsRow base 362 2 kv aa.length (QcC aa))(hp:w.heap[gp]?=some (.cells (Qfg pl) 3))(hpl:pl.length=aa.length+1)(aH:∀ i,i<aa.length->pl.getD i 0<=pl.getD (i+1) 0/\pl.getD (i+1) 0<=s.size) :
 Calls Tryz.prog 248 #[.string s,kv,.slice (some ⟨gp,0,none⟩) (aa.length+1) (aa.length+1)] w fun e w'=>∃ v,e=.returned v/\w'.ownsRow w.heap.size 9 1 v (toldTo s.data.toList aa pl aa.length).length (QaN (toldTo s.data.toList aa pl aa.length))/\Below w.heap.size w w':=by
 obtain⟨ka,kc,aE⟩:∃ ka kc,kv=.slice ka aa.length kc:=by
  rcases hk.2 with⟨h,h2⟩ | ⟨g,az,aA,h,_⟩
  ·exact⟨none,0,by rw[h,h2]⟩
  ·exact⟨_,_,h⟩
 subst aE
 have HK:Hid (∀ j,j<aa.length->∃ g,ka=some ⟨g,0,none⟩/\g<w.heap.size/\QxL w g aa):=by
  intro j hj;rcases hk.2 with⟨h,h2⟩ | ⟨g,az,aA,h,hb,hg,_⟩
  ·omega
  ·injection h with h1 h2 h3
   subst h1 h3;exact⟨g,rfl,QaI hg,QxL.of_owns hk⟩
 have HP:=Qab hp;have ao:=QaI hp;obtain⟨i0,hi,aI,aJ,aK⟩:=info_parts Tryz.infoStr;clear hk hp;go_enter func248,ntmps248;go_wp2_with fail
 go_loopw [7,14] (fun l i wr=>∃(k:Nat),k<=aa.length/\i=.int .i64 (k:Int)/\wr.ownsRow w.heap.size 9 1 l (toldTo s.data.toList aa pl k).length (QaN (toldTo s.data.toList aa pl k))/\Below w.heap.size w wr) (fun _ i _=>aa.length - (intOf i).toNat)
 case atStart=>
  refine⟨0,Nat.zero_le _,by go_num,?_,(Below.refl _ _).alloc (Nat.le_refl _) _⟩;exact World.ownsRow_lit (e:=9) (size:=1) w #[.string s] 1 (Nat.le_refl _) (by unfold maxLen;omega) rfl
 case round=>
  obtain⟨k,hkk,rfl,ad,hB⟩:=hrel;have af:w.heap.size<=wr.heap.size:=hB.size;have hlen:=Qlt s.data.toList aa pl k;have HB:=Qab hB;have ae:=Qab ad;clear hB ad;by_cases hlt:k<aa.length;rotate_left
  ·have aD:k=aa.length:=by omega
   subst aD;have aC:¬(aa.length:Int)<(aa.length:Int):=by omega
   go_wp2;go_ret;exact⟨_,rfl,ae.o,HB.o⟩
  obtain⟨g,rfl,ah,ak⟩:=HK.o k hlt;obtain⟨ap,aq⟩:=ak k hlt;have c1:wr.cell? ⟨g,k*2,none⟩=some (.int .i64 aa[k].1):=by rw[HB.o.cell (p:=⟨g,k*2,none⟩) ah];exact ap
  have c2:wr.cell? ⟨g,k*2+1,none⟩=some (.int .u8 aa[k].2.toNat):=by rw[HB.o.cell (p:=⟨g,k*2+1,none⟩) ah];exact aq
  have aC:(k:Int)<(aa.length:Int):=by omega
  have hgr:g<wr.heap.size:=Nat.lt_of_lt_of_le ah af;have hpr:gp<wr.heap.size:=Nat.lt_of_lt_of_le ao af;clear ak ap aq;by_cases h0:aa[k].1=0
  ·have ek:((aa[k].1:Int) != 0)=false:=by rw[h0];rfl
   have HS:=Qab (QpK s.data.toList aa pl k hlt h0);go_wp2;go_roundw
   case rel=>exact⟨k+1,by omega,by go_num,by rw[HS.o];exact ae.o.alloc _,HB.o.alloc af _⟩
   case measure=>simp[intOf];omega
  ·have ek:((aa[k].1:Int) != 0)=true:=by simp;omega
   have HS:=Qab (QpD s.data.toList aa pl k hlt h0);obtain⟨aF,aG⟩:=aH k hlt;have ar:wr.heap[gp]?=some (.cells (Qfg pl) 3):=by rw[HB.o.block gp ao];exact HP.o
   obtain⟨x,hx⟩:∃ x,pl.getD k 0=x:=⟨_,rfl⟩;obtain⟨y,hy⟩:∃ y,pl.getD (k+1) 0=y:=⟨_,rfl⟩;have au:pl[k]?=some x:=by rw[List.getElem?_eq_getElem (by omega),<-hx,List.getD_eq_getElem?_getD,List.getElem?_eq_getElem (show k<pl.length by omega)];rfl
   have av:pl[k+1]?=some y:=by rw[List.getElem?_eq_getElem (by omega),<-hy,List.getD_eq_getElem?_getD,List.getElem?_eq_getElem (show k+1<pl.length by omega)];rfl
   rw[hx,hy]at HS aF;rw[hy]at aG;obtain⟨W,hW⟩:∃ W,W=wr.alloc (.cells #[.int .i64 aa[k].1,.int .u8 aa[k].2.toNat] 362):=⟨_,rfl⟩;have hWs:W.heap.size=wr.heap.size+1:=by rw[hW];simp
   have ay:Hid (Below w.heap.size w W):=by rw[hW];exact HB.o.alloc af _
   have ag:Hid (W.ownsRow w.heap.size 9 1 u7 (toldTo s.data.toList aa pl k).length (QaN (toldTo s.data.toList aa pl k))):=by rw[hW];exact ae.o.alloc _
   have aj:W.heap[gp]?=some (.cells (Qfg pl) 3):=by rw[hW];exact Qae ar
   have p1:W.cell? ⟨gp,k,none⟩=some (.int .i64 (x:Int)):=by rw[Qaa aj];simp[Qfg,au]
   have p2:W.cell? ⟨gp,k+1,none⟩=some (.int .i64 (y:Int)):=by rw[Qaa aj];simp[Qfg,av]
   have aB:s.extract x y=Qaf ((s.data.toList.drop x).take (y - x)):=Qpn s x y;have hxs:x<=s.size:=by omega
   have hb1:(k:Int)<(aa.length:Int)+1:=by omega
   have hwp:IntKind.i64.wrap ((k:Int)+1)=(k:Int)+1:=by rw[IntKind.wrap_i64];omega
   have hb2:(k:Int)+1<(aa.length:Int)+1:=by omega
   have hb3:(0:Int)<=(k:Int)+1:=by omega
   have hb4:(x:Int)<=(y:Int):=by omega
   have hb5:(y:Int)<=(s.size:Int):=by omega
   obtain⟨z,hz⟩:∃ z,(s.data.toList.drop x).take (y - x)=z:=⟨_,rfl⟩;rw[hz]at HS aB;have ai:=ag.o;generalize hT:toldTo s.data.toList aa pl k=T at *;clear ar aj ae HB hx hy au av hz ai;go_wp2_with fail;rw[<-hW];clear hW;go_region_law (refine step_append_lies _ rfl (.tmp 22) (.tmp 34) 61 rfl w.heap.size 9 i0 (.string ⟨#[]⟩) 1 16 underlying61 hi aI aJ aK rfl (by decide) u7 T.length (QaN T) (by simp[Act.eval,Act.put]) (ag.o.alloc _) ⟨W.heap.size,0,none⟩ 1 1 [.string (Qaf z)] (by simp[Act.eval,Act.put]) rfl (cell_one_new _ _ _) (QnW _) (by decide) (by unfold maxLen;omega) (by omega) (by simp;omega) _ rfl ?_;intro g' cap' w5 ac ab hat hlt5;have aw:=Qab (QbP (Qar ay.o) (by show _<=W.heap.size;omega) ab (fun k hk=>(ag.o.lt k hk).1));have ax:=Qab ac;clear ac ab;skip)
   all_goals go_wp2
   all_goals refine⟨⟨k+1,by omega,by go_num,?_,aw.o⟩,by simp[intOf];omega⟩
   all_goals rw[HS.o,List.length_append,<-Qci]
   all_goals exact ax.o
theorem SlT.get{w:World}{v:Value}{zs:List (L8)}(h:SlT w v zs)(j:Nat)(hj:j<zs.length):∃ g c,v=.slice (some ⟨g,0,none⟩) zs.length c/\g<w.heap.size/\w.cell? ⟨g,j,none⟩=some (.string (Qaf zs[j])):=by
 rcases h with⟨_,rfl⟩ | ⟨g,c,hv,ht⟩
 ·exact absurd hj (Nat.not_lt_zero _)
 ·refine⟨g,c,hv,?_,?_⟩
  ·obtain⟨cs,hb,_⟩:=ht;exact QaI hb
  ·have:=ht.at j hj;rwa [List.getD_eq_getElem?_getD,List.getElem?_eq_getElem hj]at this
theorem SlT.get'{w:World}{la:Option Addr}{n lc:Nat}{zs:List (L8)}(h:SlT w (.slice la n lc) zs)(j:Nat)(hj:j<zs.length):∃ g,la=some ⟨g,0,none⟩/\g<w.heap.size/\w.cell? ⟨g,j,none⟩=some (.string (Qaf zs[j])):=by
 obtain⟨g,c,hv,hg,hc⟩:=h.get j hj;injection hv with h1 h2 h3
 exact⟨g,h1,hg,hc⟩
theorem QkG.get'{w:World}{la:Option Addr}{n lc:Nat}{hs:List (L8×L8)}(h:QkG w (.slice la n lc) hs)(j:Nat)(hj:j<hs.length):∃ g,la=some ⟨g,0,none⟩/\g<w.heap.size/\w.cell? ⟨g,j*2,none⟩=some (.string (Qaf hs[j].1))/\w.cell? ⟨g,j*2+1,none⟩=some (.string (Qaf hs[j].2)):=by
 obtain⟨g,c,hv,hg,hc⟩:=h.cells j hj;injection hv with h1 h2 h3
 exact⟨g,h1,hg,hc⟩
theorem QmG{α β:Type}(f:α->β)(zs:List α)(k:Nat)(h:k<zs.length):(zs.take (k+1)).map f=(zs.take k).map f++[f zs[k]]:=by
 rw[List.take_succ_eq_append_getElem h,List.map_append];rfl
theorem QfN(B sb:Nat)(M:Msg)(s:SS)(zs:List (L8))(lv:Value)(w:World)(h:SAt w B sb M s)(ad:SlT w lv zs)(hl:∀ z∈zs,z.length<=1000000)(hn:zs.length<=1000000) :
 Calls Tryz.prog 205 #[.pointer (some ⟨sb,0,none⟩),lv] w fun e w'=>∃ v,e=.returned v/\w'.ownsRow w.heap.size 9 1 v zs.length (QaN (zs.map (expL s)))/\Below w.heap.size w w':=by
 have HS:=Qab h;have aj:=Qab ad;obtain⟨la,lc,au⟩:=ad.len;subst au;obtain⟨i0,hi,ax,ay,az⟩:=info_parts Tryz.infoStr;clear h ad;go_enter func205,ntmps205;go_wp2
 go_loopw [5,7,10] (fun v _ i wr=>∃(k:Nat),k<=zs.length/\i=.int .i64 (k:Int)/\wr.ownsRow w.heap.size 9 1 v k (QaN ((zs.take k).map (expL s)))/\Below w.heap.size w wr) (fun _ _ i _=>zs.length - (intOf i).toNat)
 case atStart=>exact⟨0,Nat.zero_le _,rfl,World.ownsRow_nil _ _ _ _,Below.refl _ _⟩
 case round=>
  obtain⟨k,hk,rfl,aa,hB⟩:=hrel;have aw:w.heap.size<=wr.heap.size:=hB.size;obtain⟨va,vc,av⟩:=QaD aa;subst av;have HB:=Qab hB;have af:=Qab aa;clear hB aa;by_cases hlt:k<zs.length;rotate_left
  ·have aq:k=zs.length:=by omega
   subst aq;have ap:¬(zs.length:Int)<(zs.length:Int):=by omega
   go_wp2;go_ret;refine⟨_,rfl,?_,HB.o⟩;have:=af.o;rw[List.take_of_length_le (Nat.le_refl _)]at this;exact this
  have ap:(k:Int)<(zs.length:Int):=by omega
  obtain⟨g,ar,ao,hc⟩:=aj.o.get' k hlt;subst ar;have c1:wr.cell? ⟨g,k,none⟩=some (.string (Qaf zs[k])):=by rw[HB.o.cell (p:=⟨g,k,none⟩) ao];exact hc
  have HC:Hid (∀ W,Below wr.heap.size wr W->Calls Tryz.prog 249 #[.pointer (some ⟨sb,0,none⟩),.string (Qaf zs[k])] W fun e w'=>e=.returned (.string (Qaf (expL s zs[k])))/\Below W.heap.size W w'):=fun W hW=>
   QmW B sb M s zs[k] W (HS.o.below (HB.o.trans (hW.mono HB.o.size))) (hl _ (List.getElem_mem hlt))
  have HT:=Qab (QmG (expL s) zs k hlt);generalize zs[k]=z at *;generalize expL s z=y at *;clear hc;go_wp2_with (first|(go_at_call 249;refine(HC.o _ (Below.refl _ _)).mono ?_;rintro e w1 ⟨rfl,ac⟩;have ab:=Qab (HB.o.trans (ac.mono aw));have ae:=Qab (QbL (P:=fun _ _=>False) af.o (Fr.of_below ac) (fun _ _ h=>h));clear ac)|(at_builtin;refine wpList_append_own _ rfl _ _ 61 rfl w.heap.size 9 i0 _ 1 16 underlying61 hi ax ay az rfl (by decide) _ _ _ rfl (ae.o.alloc _) ⟨w1.heap.size,0,none⟩ 1 1 [.string (Qaf y)] rfl rfl (cell_one_new _ _ _) (QnW _) (by unfold maxLen;omega) (by omega) (by have:=ab.o.size;simp;omega) ?_;intro v5 w5 ah ag _;have ai:=Qab (QbP ab.o ab.o.size ag (fun k hk=>(ae.o.lt k hk).1));have ak:=Qab ah;clear ah ag));go_roundw
  case rel=>
   refine⟨k+1,by omega,by go_num,?_,ai.o⟩;rw[HT.o,<-Qci];exact ak.o
  case measure=>simp[intOf];omega
theorem QqM(x y:L8):((Qaf x).toList==(Qaf y).toList)=decide (x=y):=by
 rw[show(Qaf y).toList=y by rw[ByteArray.toList_eq];rfl];exact Qdl x y
theorem QoI(h:L8×L8)(n:L8)(w:World)(h1:h.1.length<=1000000)(h2:n.length<=1000000) :
 Calls Tryz.prog 206 #[.agg #[.string (Qaf h.1),.string (Qaf h.2)],.string (Qaf n)] w fun e w'=>e=.returned (.bool (Qcj h n))/\Below w.heap.size w w':=by
 have he:=QqM (zL h.1) (zL n);have HN:Hid (Qcj h n=decide (zL h.1=zL n)):=rfl;generalize decide (zL h.1=zL n)=b at *;have HA:=Qab (Qeu h.1);have HB:=Qab (Qeu n);generalize zL h.1=x at *;generalize zL n=y at *;go_enter func206,ntmps206;go_wp2_with fail;refine(HA.o _ h1).mono ?_;rintro e w1 ⟨rfl,ab⟩;have aa:=Qab (((Below.refl w.heap.size w).alloc (Nat.le_refl _) _).trans (ab.mono (by simp)));clear ab;go_wp2_with fail;refine(HB.o _ h2).mono ?_;rintro e w2 ⟨rfl,ac⟩;have ad:=Qab (aa.o.trans (ac.mono aa.o.size));clear ac;go_wp2;go_ret;exact⟨QaZ (by rw[HN.o]),ad.o⟩
theorem QnS(h:L8×L8)(n:L8)(p:Nat)(w:World)(h1:h.1.length<=1000000)(h2:n.length<=1000000)(hp:w.cell? ⟨p,0,none⟩=some (.string (Qaf n))) :
 Calls Tryz.prog 251 #[.agg #[.string (Qaf h.1),.string (Qaf h.2)],.pointer (some ⟨p,0,none⟩)] w fun e w'=>e=.returned (.bool (Qcj h n))/\Below w.heap.size w w':=by
 have hpl:=Qau hp;go_enter func251,ntmps251;go_wp2_with fail;refine(QoI h n _ h1 h2).mono ?_;rintro e w1 ⟨rfl,aa⟩;have ab:=Qab (((Below.refl w.heap.size w).alloc (Nat.le_refl _) _).trans (aa.mono (by simp)));clear aa;go_wp2;go_ret;exact⟨rfl,ab.o⟩
theorem Qm2(w:World)(v:Value)(t:TypeId):(w.alloc (.cells #[v] t)).cell? ⟨w.heap.size,0,none⟩=some v:=by
 rw[Qaa (Qat w _)];rfl
theorem Qvl{α:Type}(p:α->Bool)(l:List α)(k:Nat)(h:k<l.length):(l.drop k).any p=(p l[k] || (l.drop (k+1)).any p):=by
 rw[List.drop_eq_getElem_cons h,List.any_cons]
theorem Qvm{α:Type}(p:α->Bool)(l:List α)(k:Nat)(h:k<l.length):(l.drop k).all p=(p l[k]&&(l.drop (k+1)).all p):=by
 rw[List.drop_eq_getElem_cons h,List.all_cons]
theorem QeX{α:Type}(l:List α)(k:Nat)(h:¬ k<l.length):l.drop k=[]:=List.drop_of_length_le (by omega)
theorem QmS(hs:List (L8×L8))(hv:Value)(n:L8)(p:Nat)(w:World)(hh:QkG w hv hs)(hl:hs.length<=1000000)(h1:∀ h∈hs,h.1.length<=100000/\h.2.length<=100000)(h2:n.length<=1000000)(hp:w.cell? ⟨p,0,none⟩=some (.string (Qaf n))) :
 Calls Tryz.prog 267 #[hv,.func (.func 251) #[] #[.pointer (some ⟨p,0,none⟩)]] w fun e w'=>∃ i:Int,e=.returned (.int .i64 i)/\decide (0<=i)=hs.any (Qcj · n)/\Below w.heap.size w w':=by
 obtain⟨la,lc,aj⟩:=hh.len;subst aj;have HH:=Qab hh;have ak:=Qau hp;clear hh;go_enter func267,ntmps267;go_wp2
 go_loopw [5,8] (fun _ i wr=>∃(k:Nat),k<=hs.length/\i=.int .i64 (k:Int)/\Below w.heap.size w wr/\hs.any (Qcj · n)=(hs.drop k).any (Qcj · n)) (fun _ i _=>hs.length - (intOf i).toNat)
 case atStart=>exact⟨0,Nat.zero_le _,rfl,Below.refl _ _,rfl⟩
 case round=>
  obtain⟨k,hk,rfl,hB,aa⟩:=hrel;have HB:=Qab hB;have HA:=Qab aa;have ag:=hB.size;clear hB aa;by_cases hlt:k<hs.length;rotate_left
  ·have ah:¬(k:Int)<(hs.length:Int):=by omega
   have HD:=Qab (QeX hs k hlt);go_wp2;go_ret;exact⟨-1,rfl,by rw[HA.o,HD.o];rfl,HB.o⟩
  have ah:(k:Int)<(hs.length:Int):=by omega
  obtain⟨g,ai,af,ad,ae⟩:=HH.o.get' k hlt;subst ai;have c1:wr.cell? ⟨g,k*2,none⟩=some (.string (Qaf hs[k].1)):=by rw[HB.o.cell (p:=⟨g,k*2,none⟩) af];exact ad
  have c2:wr.cell? ⟨g,k*2+1,none⟩=some (.string (Qaf hs[k].2)):=by rw[HB.o.cell (p:=⟨g,k*2+1,none⟩) af];exact ae
  have cp:wr.cell? ⟨p,0,none⟩=some (.string (Qaf n)):=by rw[HB.o.cell (p:=⟨p,0,none⟩) ak];exact hp
  have HD:=Qab (Qvl (Qcj · n) hs k hlt);have hl1:=(h1 _ (List.getElem_mem hlt)).1;have HC:Hid (Calls Tryz.prog 251 #[.agg #[.string (Qaf hs[k].1),.string (Qaf hs[k].2)],.pointer (some ⟨p,0,none⟩)] wr fun e w'=>e=.returned (.bool (Qcj hs[k] n))/\Below wr.heap.size wr w'):=QnS hs[k] n p wr (by omega) h2 cp;cases hb:Qcj hs[k] n
  ·rw[hb]at HD HC;clear ad ae;go_wp2_with (go_at_call 251;refine HC.o.mono ?_;rintro e w1 ⟨rfl,ab⟩;have ac:=Qab (HB.o.trans (ab.mono ag));clear ab);go_roundw
   case rel=>exact⟨k+1,by omega,by go_num,ac.o,by rw[HA.o,HD.o];rfl⟩
   case measure=>simp[intOf];omega
  ·rw[hb]at HD HC;clear ad ae;go_wp2_with (go_at_call 251;refine HC.o.mono ?_;rintro e w1 ⟨rfl,ab⟩;have ac:=Qab (HB.o.trans (ab.mono ag));clear ab);go_ret;exact⟨k,rfl,by rw[HA.o,HD.o];exact decide_eq_true (by omega),ac.o⟩
theorem QiK(hs:List (L8×L8))(hv:Value)(n:L8)(p:Nat)(w:World)(hh:QkG w hv hs)(hl:hs.length<=1000000)(h1:∀ h∈hs,h.1.length<=100000/\h.2.length<=100000)(h2:n.length<=1000000)(hp:w.cell? ⟨p,0,none⟩=some (.string (Qaf n))) :
 Calls Tryz.prog 250 #[hv,.func (.func 251) #[] #[.pointer (some ⟨p,0,none⟩)]] w fun e w'=>e=.returned (.bool (hs.any (Qcj · n)))/\Below w.heap.size w w':=by
 obtain⟨la,lc,ac⟩:=hh.len;subst ac;go_enter func250,ntmps250;go_wp2_with fail;refine(QmS hs _ n p _ hh hl h1 h2 hp).mono ?_;rintro e w1 ⟨i,rfl,hi,aa⟩;have HI:=Qab hi;have ab:=Qab aa;clear hi aa;go_wp2
 all_goals go_ret
 all_goals exact⟨QaZ (by rw[<-HI.o]),ab.o⟩
theorem Qq1(s:SS):∀(n:Nat) (l aa:L8),aa.length<=1024->(QoW s n l aa).length<=1024
 |0,_,_,h=>h
 |n+1,l,aa,h=>by
  by_cases hc:l≠[]/\aa.length<1024
  ·rw[Qoe hc];exact Qq1 s n _ _ (by rw[List.length_append,List.length_take];omega)
  ·rw[QmH hc];exact h
theorem QmB(s:SS)(x:L8)(N:Nat)(h:x.length<=N)(hN:1024<=N):(expL s x).length<=N:=by
 unfold expL;split
 ·exact Nat.le_trans (Qq1 s _ _ _ (Nat.zero_le _)) hN
 ·exact h
theorem Qhd(s:SS)(zs:List (L8))(N:Nat)(h:∀ z∈zs,z.length<=N)(hN:1024<=N):∀ y∈zs.map (expL s),y.length<=N:=by
 intro y hy;obtain⟨z,hz,rfl⟩:=List.mem_map.1 hy;exact QmB s z N (h z hz) hN
theorem Qqe(B sb:Nat)(M:Msg)(s:SS)(zs:List (L8))(lv:Value)(w:World)(h:SAt w B sb M s)(aq:SlT w lv zs)(hl:∀ z∈zs,z.length<=1000000)(hn:zs.length<=1000000) :
 Calls Tryz.prog 208 #[.pointer (some ⟨sb,0,none⟩),lv] w fun e w'=>e=.returned (.bool (existsL M (zs.map (expL s))))/\Below w.heap.size w w':=by
 obtain⟨la,lc,aH⟩:=aq.len;subst aH;have HS:=Qab h;obtain⟨hv,mb,tv,mv,ad⟩:=h;have aw:=Qab ad;have aa:=ad.lt;have az:=ad.bd;have c3:w.cell? ⟨sb,3,none⟩=some hv:=ad.cell 3;have av:=Qab az;clear ad az;go_enter func208,ntmps208;go_wp2_with fail;refine(QfN B sb M s zs _ w HS.o aq hl hn).mono ?_;rintro e w1 ⟨v1,rfl,ar,ak⟩;have HT:=Qab (SlT.of_owns ar (by simp));have ag:=Qab ak;obtain⟨ta,tc,aI⟩:=QaD ar;subst aI;have aB:∀ y∈zs.map (expL s),y.length<=1000000:=Qhd s zs _ hl (by decide);have af:zs.length=(zs.map (expL s)).length:=by simp
 have HE:Hid (existsL M (zs.map (expL s))=(zs.map (expL s)).all fun n=>M.hdrs.any (Qcj · n)):=rfl;have ax:=Qab aB;obtain⟨ys,au⟩:∃ ys,zs.map (expL s)=ys:=⟨_,rfl⟩;have ay:=Qab au;rw[au]at HT HE ax af;clear au;rw[af]at hn;have ao:w1.cell? ⟨sb,3,none⟩=some hv:=(ak.cell (p:=⟨sb,3,none⟩) aa).trans c3;rw[af];rw[af]at HT;clear ar aB af ak aq hl c3;go_wp2_with fail
 go_loopw [6,11] (fun _ i wr=>∃(k:Nat),k<=ys.length/\i=.int .i64 (k:Int)/\Below w.heap.size w wr/\Below w1.heap.size w1 wr/\existsL M ys=(ys.drop k).all fun n=>M.hdrs.any (Qcj · n)) (fun _ i _=>ys.length - (intOf i).toNat)
 case atStart=>exact⟨0,Nat.zero_le _,rfl,ag.o,Below.refl _ _,HE.o⟩
 case round=>
  obtain⟨k,hk,rfl,hB,aj,ae⟩:=hrel;have HB:=Qab hB;have ac:=Qab aj;have HA:=Qab ae;have aA:=hB.size;have ap:sb<w1.heap.size:=Nat.lt_of_lt_of_le aa ag.o.size;have c3:wr.cell? ⟨sb,3,none⟩=some hv:=(aj.cell (p:=⟨sb,3,none⟩) ap).trans ao;have hltr:sb<wr.heap.size:=Nat.lt_of_lt_of_le aa hB.size;clear hB aj ae;by_cases hlt:k<ys.length;rotate_left
  ·have aF:¬(k:Int)<(ys.length:Int):=by omega
   have HD:=Qab (QeX ys k hlt);go_wp2;go_ret;exact⟨QaZ (by rw[ay.o,HA.o,HD.o];rfl),HB.o⟩
  have aF:(k:Int)<(ys.length:Int):=by omega
  obtain⟨g,aG,aD,aC⟩:=HT.o.get' k hlt;subst aG;have c1:wr.cell? ⟨g,k,none⟩=some (.string (Qaf ys[k])):=by rw[ac.o.cell (p:=⟨g,k,none⟩) aD];exact aC
  have HD:=Qab (Qvm (fun n=>M.hdrs.any (Qcj · n)) ys k hlt);have aJ:=ax.o _ (List.getElem_mem hlt);obtain⟨ha,hc,aE⟩:=aw.o.hd.len;subst aE
  have HC:Hid (∀ W,Below wr.heap.size wr W->W.cell? ⟨wr.heap.size,0,none⟩=some (.string (Qaf ys[k]))->Calls Tryz.prog 250 #[.slice ha M.hdrs.length hc,.func (.func 251) #[] #[.pointer (some ⟨wr.heap.size,0,none⟩)]] W fun e w'=>e=.returned (.bool (M.hdrs.any (Qcj · ys[k])))/\Below W.heap.size W w'):=fun W hW hcW=>
   QiK M.hdrs _ ys[k] _ W (aw.o.hd.fr (P:=fun _ _=>False) (Fr.trans (Fr.trans (Fr.of_below ag.o) (Fr.of_below ac.o)) (Fr.of_below hW)) (fun _ _ h=>h)) (by have:=av.o.hl;omega) av.o.hd aJ hcW
  generalize ys[k]=y at *;cases hb:M.hdrs.any (Qcj · y)
  ·rw[hb]at HD HC;go_wp2_with (go_at_call 250;refine(HC.o _ ((Below.refl _ _).alloc (Nat.le_refl _) _) (Qm2 _ _ _)).mono ?_;rintro e w2 ⟨rfl,ab⟩;have ah:=Qab ((HB.o.alloc aA _).trans (ab.mono (by simp;omega)));clear ab);go_ret;exact⟨QaZ (by rw[ay.o,HA.o,HD.o];rfl),ah.o⟩
  ·rw[hb]at HD HC;go_wp2_with (go_at_call 250;refine(HC.o _ ((Below.refl _ _).alloc (Nat.le_refl _) _) (Qm2 _ _ _)).mono ?_;rintro e w2 ⟨rfl,ab⟩;have ah:=Qab ((HB.o.alloc aA _).trans (ab.mono (by simp;omega)));have ai:=Qab ((ac.o.alloc ac.o.size _).trans (ab.mono (by have:=ac.o.size;simp;omega)));clear ab);go_roundw
   case rel=>exact⟨k+1,by omega,by go_num,ah.o,ai.o,by rw[HA.o,HD.o];rfl⟩
   case measure=>simp[intOf];omega
end
end Go.Proofs.YtgnkjijocdmniaaGreatDoor
