import Derived.Test.YtenahlandohgaaaGreatDoorEFiles
import Derived.Test.YtenahlandohgaaaGreatDoorZEJoin
import Derived.Test.YtenahlandohgaaaGreatDoorELeave
import Derived.Test.YtenahlandohgaaaGreatDoorZEOut
import Derived.Test.YtenahlandohgaaaGreatDoorZGFmt
import Derived.Test.YtenahlandohgaaaGreatDoorZStepOpen
namespace Go.Proofs.YtenahlandohgaaaGreatDoor
set_option linter.unusedVariables false
set_option linter.unusedSimpArgs false
set_option maxRecDepth 100000
set_option maxHeartbeats 4000000
section
open Go.RowKit
attribute [local go_sem ↓] Go.wp_at_zero Go.wp_at_succ
theorem wpOper_append {P:Program} {o:Oper} {a:Act} {w:World} {K:Act→World→Prop} {Q:Exit→Act→World→Prop} (s x:Operand) (t:TypeId)
 (ho:o.op=.call { callee:=.builtin .append,args:=#[s,x],argTypes:=#[t,t] })
 (base:Nat) (e:TypeId) (i:TypeInfo) (z:Value) (size bytes:Nat) (ht:P.underlying t=some (.slice e)) (hi:P.info? e=some i) (hz:i.zero=some z)
 (hsize:i.size=size) (hby:i.bytes=bytes) (hzs:z.cells.size=size) (hsz:0 < size)
 (v:Value) (n:Nat) (xs:List Value) (hs:a.eval s=v) (hown:w.ownsRow base e size v n xs)
 (ad:Addr) (m c:Nat) (news:List Value) (hx:a.eval x=.slice (some ad) m c) (hl:news.length=m*size) (hnews:∀ j u,news[j]?=some u→w.cell? (ad.add j)=some u) (h1:∀ u∈news,u.oneCell'=true)
 (h63:n+m≤maxLen) (hbytes:(n+m)*bytes≤140737488355328) (hbase:base≤w.heap.size) (d:Nat) (hd:o.dst=some d)
 (h:∀ v' w',w'.ownsRow base e size v' (n+m) (xs++news)→w.grownBy w' v.ownBlock→K (a.put (some d) v') w'):o.wp P a w K Q:=by
 rw [← hd] at h
 obtain ⟨v',w',hr,h2,h3,h4,h5⟩:=run_append_own_at (P:=P) w base t o.type e i z size bytes ht hi hz hsize hby hzs hsz v n xs hown ad m c news hl hnews h1 h63 hbytes hbase
 unfold Oper.wp execOp
 simp only [ho,resolve,invoke,builtin,Sem.run_bind,Sem.run_pure,Result.andThen_ok,List.map_toArray,List.map_cons,List.map_nil,hs,hx,hr]
 exact h v' w' h2 h3
theorem two_s (w:World) (x y:ByteArray) (t:TypeId):∀ j u,([Value.string x,Value.string y]:List Value)[j]?=some u→(w.alloc (.cells #[.string x,.string y] t)).cell? ((⟨w.heap.size,0,none⟩:Addr).add j)=some u:=by
 intro j u h
 have e:(⟨w.heap.size,0,none⟩:Addr).add j=⟨w.heap.size,j,none⟩:=by cases j <;> simp [Addr.add]
 rw [e,blk_cell (blk_new _ _)]
 rw [← h];simp
theorem twoS (x y:ByteArray):∀ u∈[Value.string x,Value.string y],u.oneCell'=true:=by
 intro u hu
 simp at hu
 rcases hu with rfl | rfl <;> rfl
def jparts (id text:List UInt8) (acts:List (Int×List UInt8)):List (List UInt8):=id :: text :: acts.flatMap fun a=>[itoaL a.1.toNat,a.2]
theorem jparts_len (id text:List UInt8) (acts:List (Int×List UInt8)):(jparts id text acts).length=2+2*acts.length:=by
 have:(acts.flatMap fun a=>[itoaL a.1.toNat,a.2]).length=2*acts.length:=by
  induction acts with
  | nil=>rfl
  | cons a r ih=>rw [List.flatMap_cons,List.length_append,ih];simp;omega
 simp [jparts,this];omega
theorem jparts_sum (id text:List UInt8) (acts:List (Int×List UInt8)) (h1:id.length≤2000000) (h2:text.length≤2000000) (h3:∀ a∈acts,a.2.length≤2000000∧0≤a.1∧a.1≤2147483647) :
 sumP (jparts id text acts)≤4000060+acts.length*2000100:=by
 have:sumP (acts.flatMap fun a=>[itoaL a.1.toNat,a.2])≤acts.length*2000100:=by
  induction acts with
  | nil=>simp [sumP]
  | cons a r ih=>
   have ih':=ih (fun b hb=>h3 b (by simp [hb]))
   obtain ⟨ha,hb,hc⟩:=h3 a (by simp)
   have hi:=itoaL_len a.1.toNat (by omega)
   rw [List.flatMap_cons]
   unfold sumP at ih' ⊢
   simp only [List.map_append,List.map_cons,List.map_nil,List.sum_append,List.sum_cons,List.sum_nil,List.length_cons]
   omega
 unfold sumP at this ⊢
 simp only [jparts,List.map_cons,List.sum_cons]
 omega
theorem jparts_snoc (id text:List UInt8) (acts:List (Int×List UInt8)) (k:Nat) (h:k < acts.length):jparts id text (acts.take (k+1))=jparts id text (acts.take k)++[itoaL acts[k].1.toNat,acts[k].2]:=by
 unfold jparts
 rw [List.take_succ_eq_append_getElem h,List.flatMap_append]
 rfl
end
section
open Go.RowKit
attribute [local go_sem ↓] Go.wp_at_zero Go.wp_at_succ
theorem FilE.of_owns {w:World} {base:Nat} {v:Value} {l:List Fl} (h:w.ownsRow base 86 2 v l.length (fcells l)):FilE w v l:=by
 have hc:=h
 rcases h.2 with ⟨rfl,h0⟩ | ⟨g,cap,cur,rfl,_,hb,_⟩
 ·exact ⟨none,0,by rw [h0],fun hne=>absurd (List.eq_nil_of_length_eq_zero h0) hne⟩
 ·refine ⟨_,_,rfl,fun _=>⟨g,cur,rfl,hb,fun j hj=>?_⟩⟩
  have e:∀ j,(⟨g,0,none⟩:Addr).add j=⟨g,j,none⟩:=fun j=>by cases j <;> simp [Addr.add]
  have h1:=hc.cells (g:=g) rfl (j*2) _ (fcells_at l j hj).1
  have h2:=hc.cells (g:=g) rfl (j*2+1) _ (fcells_at l j hj).2
  rw [e] at h1 h2
  exact ⟨h1,h2⟩
theorem filesTo_kinds {id text:List UInt8}:∀ (r:List (Int×List UInt8)) (n:Nat) (l:List (List UInt8×List UInt8)),filesTo id text n r=.ok l→∀ a∈r,0≤a.1∧a.1≤2147483647
 | [],n,l,h=>by intro a ha;cases ha
 | x :: r,n,l,h=>by
  rw [filesTo] at h
  cases hf:fileL id text n x with
  | error e=>rw [hf] at h;cases h
  | ok f=>
   rw [hf] at h
   dsimp only at h
   cases hr:filesTo id text (n+1) r with
   | error e=>rw [hr] at h;cases h
   | ok l'=>
    intro a ha
    rcases List.mem_cons.1 ha with ha | ha
    ·subst ha
     unfold fileL at hf
     by_cases h1:a.1=1
     ·omega
     ·rw [if_neg h1] at hf
      by_cases h2:a.1=2
      ·omega
      ·rw [if_neg h2] at hf
       by_cases h3:a.1=3
       ·omega
       ·rw [if_neg h3] at hf
        by_cases h4:a.1=4
        ·omega
        ·rw [if_neg h4] at hf;cases hf
    ·exact filesTo_kinds r (n+1) l' hr a ha
theorem filesL_all {id:List UInt8} {acts:List (Int×List UInt8)} {text:List UInt8} {l:List Fl} (M:Nat) (h:filesL id acts text=.ok l) (hM:∀ a∈acts,a.2.length≤M) :
 l.length=acts.length∧acts.length≤6∧(∀ f∈l,NameOk f.1∧f.2.length≤M+text.length+8)∧∀ a∈acts,0≤a.1∧a.1≤2147483647:=by
 unfold filesL at h
 by_cases hi:isIDL id=true
 ·rw [if_pos hi] at h
  by_cases h6:6 < acts.length
  ·rw [if_pos h6] at h;cases h
  ·rw [if_neg h6] at h
   exact ⟨filesTo_len _ _ _ h,by omega,filesTo_ok_all (id_len hi) M (fun n hn=>itoaL_len n (by omega)) _ _ _ (by omega) hM h,filesTo_kinds _ _ _ h⟩
 ·rw [if_neg hi] at h;cases h
def PEr (k:Nat) (o:Obj):Prop:=∃ cs,o=.cells cs 67
theorem PDk.notEr {B k:Nat} {cs:Array Value}:¬ PDk B k (.cells cs 67):=by
 rintro ⟨_,⟨cs',e⟩ | ⟨es,c,e⟩ | ⟨cs',e⟩⟩
 ·injection e with e1 e2;exact absurd e2 (by decide)
 ·cases e
 ·injection e with e1 e2;exact absurd e2 (by decide)
theorem Fr.setNew {P:Nat→Obj→Prop} {u w:World} (h:Fr P u w) (b:Nat) (hb:u.heap.size≤b) (j:Nat) (v:Value):Fr P u (w.setCell ⟨b,j,none⟩ v):=
 ⟨h.os,h.tape,h.output,Nat.le_trans h.size (by simp),fun k o hk hp=>by rw [Below.heap_setCell _ _ _ _ (by have:=blk_lt hk;show k≠b;omega)];exact h.block k o hk hp⟩
end
end Go.Proofs.YtenahlandohgaaaGreatDoor
