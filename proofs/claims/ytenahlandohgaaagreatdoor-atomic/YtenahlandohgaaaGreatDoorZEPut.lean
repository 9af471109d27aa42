import Derived.Laws.AppendOwnNone
import Derived.Laws.StructEq
import Derived.Deep.AppendLies
import Derived.Deep.RegionLaw
import Derived.BigRegion
import Derived.Sort.Walk0
import Derived.Test.YtenahlandohgaaaGreatDoorZDDisk
import Derived.Test.YtenahlandohgaaaGreatDoorZFBase
import Derived.Test.YtenahlandohgaaaGreatDoorPlainPut
namespace Go.Proofs.YtenahlandohgaaaGreatDoor
set_option linter.unusedVariables false
set_option linter.unusedSimpArgs false
set_option maxRecDepth 100000
set_option maxHeartbeats 4000000
section
open Go.RowKit Go.Maps
attribute [local go_sem ↓] Go.wp_at_zero Go.wp_at_succ
def FilS (w:World) (v:Value) (l:List Fl):Prop:=
 (v=.slice none 0 0∧l=[])∨∃ b off c cs,v=.slice (some ⟨b,off,none⟩) l.length c∧w.heap[b]?=some (.cells cs 86)∧∀ j (hj:j < l.length),w.cell? ⟨b,off+j*2,none⟩=some (.string (strA l[j].1))∧w.cell? ⟨b,off+j*2+1,none⟩=some (.string (strA l[j].2))
theorem FilS.fr {P:Nat→Obj→Prop} {w w':World} {v:Value} {l:List Fl} (h:FilS w v l) (hf:Fr P w w') (hp:∀ k cs,¬ P k (.cells cs 86)):FilS w' v l:=by
 rcases h with h | ⟨b,off,c,cs,hv,hb,hc⟩
 ·exact Or.inl h
 ·have hb':=hf.block _ _ hb (hp _ _)
  refine Or.inr ⟨b,off,c,cs,hv,hb',fun j hj=>?_⟩
  rw [World.cell?_of_block (a:=⟨b,off+j*2,none⟩) (hb'.trans hb.symm),World.cell?_of_block (a:=⟨b,off+j*2+1,none⟩) (hb'.trans hb.symm)]
  exact hc j hj
theorem FilS.below {w w':World} {v:Value} {l:List Fl} (h:FilS w v l) (hb:Below w.heap.size w w'):FilS w' v l:=h.fr (P:=fun _ _=>False) (Fr.of_below hb) (fun _ _ h=>h)
theorem FilN.toS {w:World} {v:Value} {l:List Fl} (h:FilN w v l):FilS w v l:=by
 rcases h with ⟨h1,h2⟩ | ⟨g,c,cs,hv,hb,hc⟩
 ·exact Or.inl ⟨h2,h1⟩
 ·refine Or.inr ⟨g,0,c,cs,hv,hb,fun j hj=>?_⟩
  rw [Nat.zero_add]
  exact hc j hj
theorem FilS.of_owns {w:World} {base:Nat} {v:Value} {l:List Fl} (h:w.ownsRow base 86 2 v l.length (fcells l)):FilS w v l:=by
 have hc:=h
 rcases h.2 with ⟨h1,h0⟩ | ⟨g,cap,cur,hv,_,hb,_⟩
 ·exact Or.inl ⟨h1,List.eq_nil_of_length_eq_zero h0⟩
 ·subst hv
  have e:∀ j,(⟨g,0,none⟩:Addr).add j=⟨g,0+j,none⟩:=fun j=>by cases j <;> simp [Addr.add]
  refine Or.inr ⟨g,0,cap,cur,rfl,hb,fun j hj=>?_⟩
  have h1:=hc.cells (g:=g) rfl (j*2) _ (fcells_at l j hj).1
  have h2:=hc.cells (g:=g) rfl (j*2+1) _ (fcells_at l j hj).2
  rw [e] at h1 h2
  exact ⟨h1,h2⟩
theorem FilS.len {w:World} {v:Value} {l:List Fl} (h:FilS w v l):∃ a c,v=.slice a l.length c:=by
 rcases h with ⟨h1,h2⟩ | ⟨b,off,c,cs,hv,_⟩
 ·exact ⟨none,0,by rw [h1,h2];rfl⟩
 ·exact ⟨_,_,hv⟩
theorem FilS.get {w:World} {a:Option Addr} {n c:Nat} {l:List Fl} (h:FilS w (.slice a n c) l) (hl:0 < l.length):∃ b off,a=some ⟨b,off,none⟩∧b < w.heap.size∧∀ j (hj:j < l.length),w.cell? ⟨b,off+j*2,none⟩=some (.string (strA l[j].1))∧w.cell? ⟨b,off+j*2+1,none⟩=some (.string (strA l[j].2)):=by
 rcases h with ⟨_,h2⟩ | ⟨b,off,c',cs,hv,hb,hc⟩
 ·rw [h2] at hl;exact absurd hl (Nat.not_lt_zero _)
 ·injection hv with h1 _ _
  exact ⟨b,off,h1,blk_lt hb,hc⟩
theorem fcells_one (l:List Fl):∀ u∈fcells l,u.oneCell'=true:=by
 intro u hu
 unfold fcells at hu
 obtain ⟨a,_,ha⟩:=List.mem_flatMap.1 hu
 exact one_fl a u ha
theorem fcells_get {l:List Fl} {j:Nat} {u:Value} (h:(fcells l)[j]?=some u):∃ k,∃ hk:k < l.length,(j=k*2∧u=.string (strA l[k].1))∨(j=k*2+1∧u=.string (strA l[k].2)):=by
 have hj:j < l.length*2:=by rw [← fcells_len];exact (List.getElem?_eq_some_iff.1 h).1
 have hk:j / 2 < l.length:=by omega
 obtain ⟨h1,h2⟩:=fcells_at l (j / 2) hk
 refine ⟨j / 2,hk,?_⟩
 rcases Nat.mod_two_eq_zero_or_one j with e | e
 ·have e1:j / 2*2=j:=by omega
  rw [e1] at h1
  rw [h] at h1
  injection h1 with h1
  exact Or.inl ⟨e1.symm,h1⟩
 ·have e1:j / 2*2+1=j:=by omega
  rw [e1] at h2
  rw [h] at h2
  injection h2 with h2
  exact Or.inr ⟨e1.symm,h2⟩
theorem fcells_app (l m:List Fl):fcells (l++m)=fcells l++fcells m:=by simp [fcells]
theorem fcells_set (l:List Fl) (k:Nat) (f:Fl) (hk:k < l.length):((fcells l).set (k*2) (.string (strA f.1))).set (k*2+1) (.string (strA f.2))=fcells (l.set k f):=by
 induction l generalizing k with
 | nil=>exact absurd hk (Nat.not_lt_zero _)
 | cons a r ih=>
  have e:∀ b:Fl,∀ s:List Fl,fcells (b :: s)=.string (strA b.1) :: .string (strA b.2) :: fcells s:=fun _ _=>rfl
  cases k with
  | zero=>rw [e];show _=fcells (f :: r);rw [e];rfl
  | succ k=>
   have h:=ih k (by simpa using hk)
   have e1:(k+1)*2=k*2+2:=by omega
   rw [e,e1]
   show _ :: _ :: (((fcells r).set (k*2) _).set (k*2+1) _)=fcells (a :: r.set k f)
   rw [h,e]
theorem append_fls {w:World} {ops:Array Oper} {rest:List Oper} {o:Oper} {a:Act} {Q:Exit→Act→World→Prop} (hgd:o.guard=none) (s x:Operand)
 (ho:o.op=.call { callee:=.builtin .append,args:=#[s,x],argTypes:=#[26,26] }) (base:Nat) (v:Value) (l1:List Fl) (hs:a.eval s=v) (hown:w.ownsRow base 86 2 v l1.length (fcells l1)) (l2:List Fl) (xv:Value) (hx:a.eval x=xv) (h:FilS w xv l2) (hl:l1.length+l2.length≤1000000) (hbase:base≤w.heap.size)
 (K:∀ a' k' w',w'.ownsRow base 86 2 (.slice a' (l1.length+l2.length) k') (l1.length+l2.length) (fcells (l1++l2))→w.grownBy w' v.ownBlock→wpList Tryz.prog ops Q rest (a.put o.dst (.slice a' (l1.length+l2.length) k')) w'):wpList Tryz.prog ops Q (o :: rest) a w:=by
 obtain ⟨i0,hi,hz0,hz1,hz2⟩:=info_parts Tryz.infoFile
 rcases h with ⟨rfl,rfl⟩ | ⟨b,off,c,cs,rfl,hb,hc⟩
 ·obtain ⟨a1,k1,hv⟩:=owns_len hown
  have K':=K a1 k1 w (by rw [List.append_nil];exact hv ▸ hown) ⟨rfl,rfl,rfl,Nat.le_refl _,fun _ _ _=>rfl⟩
  refine wpList_append_own_none hgd s x _ ho base 86 i0 2 Tryz.underlying26 hi v l1.length (fcells l1) hs hown hx ?_
  rw [hv]
  exact K'
 ·refine wpList_append_own _ hgd s x _ ho base 86 i0 _ 2 32 Tryz.underlying26 hi hz0 hz1 hz2 rfl (by decide) v l1.length (fcells l1) hs hown ⟨b,off,none⟩ l2.length c (fcells l2) hx (fcells_len l2) (fun j u hj=>?_) (fcells_one l2) (by unfold maxLen;omega) (by omega) hbase (fun v' w' ho' hg' _=>?_)
  ·have e2:(⟨b,off,none⟩:Addr).add j=⟨b,off+j,none⟩:=by cases j <;> simp [Addr.add]
   rw [e2]
   obtain ⟨k,hk,⟨rfl,rfl⟩ | ⟨rfl,rfl⟩⟩:=fcells_get hj
   ·exact (hc k hk).1
   ·exact (hc k hk).2
  ·rw [← fcells_app] at ho'
   obtain ⟨a',k',hv⟩:=owns_len ho'
   subst hv
   exact K a' k' w' ho' hg'
end
section
open Go.RowKit
attribute [local go_sem ↓] Go.wp_at_zero Go.wp_at_succ
theorem strA_eqF (x y:List UInt8):((strA x).toList == (strA y).toList)=decide (x=y):=by
 rw [show (strA y).toList=y from (by have h:=strA_beq y y;rw [decide_eq_true rfl] at h;exact beq_iff_eq.1 h)]
 exact strA_beq x y
theorem eqFile (a b:Fl) (W:World):(binOp .eql 86 (.agg #[.string (strA a.1),.string (strA a.2)]) (.agg #[.string (strA b.1),.string (strA b.2)])).run Tryz.prog W=.ok (.bool (decide (a=b))) W:=by
 have e1:((strA a.1).toList == (strA b.1).toList)=decide (a.1=b.1):=strA_eqF a.1 b.1
 have e2:((strA a.2).toList == (strA b.2).toList)=decide (a.2=b.2):=strA_eqF a.2 b.2
 have hf:Tryz.prog.underlying 86=some (.struct (Tryz.prog.fieldsOf 86)):=by kernel_rfl
 have hs:Tryz.prog.stoodInHeld 86=false:=by kernel_rfl
 have hl:(Tryz.prog.fieldsOf 86).toList=[⟨ "Name",9,0,false, "", "",0⟩,⟨ "Data",9,1,false, "", "",16⟩]:=by kernel_rfl
 rw [run_eql_struct,run_equalIn_struct W _ _ _ _ hf hs,hl]
 simp [Op.eqFields,go_sem,Result.andThen,e1,e2]
 obtain ⟨x,y⟩:=a
 obtain ⟨z,u⟩:=b
 by_cases h1:x=z <;> by_cases h2:y=u <;> simp [h1,h2]
theorem neqFile (a b:Fl) (W:World):(binOp .neq 86 (.agg #[.string (strA a.1),.string (strA a.2)]) (.agg #[.string (strA b.1),.string (strA b.2)])).run Tryz.prog W=.ok (.bool (!decide (a=b))) W:=by
 have h:=eqFile a b W
 rw [run_eql_struct] at h
 rw [run_neq_struct]
 generalize (Op.equalIn 10000 86 (.agg #[.string (strA a.1),.string (strA a.2)]) (.agg #[.string (strA b.1),.string (strA b.2)])).run Tryz.prog W=r at h
 cases r with
 | ok x w'=>
  simp [Result.andThen] at h ⊢
  obtain ⟨rfl,rfl⟩:=h
  exact ⟨rfl,rfl⟩
 | _=>simp [Result.andThen] at h
theorem sameF_any (u v:Value) (l m:List Fl) (w:World) (hu:FilS w u l) (hv:FilS w v m) (hl:l.length≤1000000) (hm:m.length≤1000000) :
 Calls Tryz.prog 21 #[u,v] w fun e w'=>e=.returned (.bool (decide (l=m)))∧Below w.heap.size w w':=by
 obtain ⟨a,c,rfl⟩:=hu.len
 obtain ⟨b,c',rfl⟩:=hv.len
 have HU:=hide hu
 have HV:=hide hv
 clear hu hv
 go_enter Tryz.func21,Tryz.ntmps21
 by_cases hlm:l.length=m.length
 ·have hlm':((l.length:Nat):Int)=((m.length:Nat):Int):=by omega
  go_wp2_with fail
  go_loopw [5] (fun i wr=>∃ (k:Nat),k≤l.length∧i=.int .i64 (k:Int)∧l.take k=m.take k∧Below w.heap.size w wr) (fun i _=>l.length - (intOf i).toNat)
  case atStart=>exact ⟨0,Nat.zero_le _,by go_num,rfl,Below.refl _ _⟩
  case round=>
   obtain ⟨k,hk,rfl,hT,hB⟩:=hrel
   have HB:=hide hB
   have HT:=hide hT
   clear hB hT
   by_cases hlt:k < l.length
   ·have hlt':(k:Int) < (l.length:Int):=by omega
    have hltm:k < m.length:=by omega
    obtain ⟨g,o,rfl,hgl,hcells⟩:=HU.out.get (by omega)
    obtain ⟨g',o',rfl,hgl',hcells'⟩:=HV.out.get (by omega)
    have d1:wr.cell? ⟨g,o+k*2,none⟩=some (.string (strA l[k].1)):=by rw [HB.out.cell (p:=⟨g,o+k*2,none⟩) hgl];exact (hcells k hlt).1
    have d2:wr.cell? ⟨g,o+k*2+1,none⟩=some (.string (strA l[k].2)):=by rw [HB.out.cell (p:=⟨g,o+k*2+1,none⟩) hgl];exact (hcells k hlt).2
    have d3:wr.cell? ⟨g',o'+k*2,none⟩=some (.string (strA m[k].1)):=by rw [HB.out.cell (p:=⟨g',o'+k*2,none⟩) hgl'];exact (hcells' k hltm).1
    have d4:wr.cell? ⟨g',o'+k*2+1,none⟩=some (.string (strA m[k].2)):=by rw [HB.out.cell (p:=⟨g',o'+k*2+1,none⟩) hgl'];exact (hcells' k hltm).2
    have HNX:Hid (l[k]=m[k]→l.take (k+1)=m.take (k+1)):=fun e=>by
     rw [List.take_succ_eq_append_getElem hlt,List.take_succ_eq_append_getElem hltm,HT.out,e]
    have HNE:Hid (l[k]≠m[k]→decide (l=m)=false):=fun e=>decide_eq_false (fun e'=>e (by subst e';rfl))
    generalize l[k]=x at *
    generalize m[k]=y at *
    have heq:∀ W,(binOp .neq 86 (.agg #[.string (strA x.1),.string (strA x.2)]) (.agg #[.string (strA y.1),.string (strA y.2)])).run Tryz.prog W=.ok (.bool (!decide (x=y))) W:=fun W=>neqFile x y W
    clear hcells hcells'
    cases hxy:decide (x=y)
    ·rw [hxy] at heq
     have HE:=hide (HNE.out (of_decide_eq_false hxy))
     clear hxy
     go_wp2_with fail
     go_quiet (fail)
     all_goals go_wp2
     all_goals go_ret
     all_goals exact ⟨by rw [HE.out];rfl,below_drewN HB.out _⟩
    ·rw [hxy] at heq
     have HE:=hide (HNX.out (of_decide_eq_true hxy))
     clear hxy
     go_wp2_with fail
     go_quiet (fail)
     all_goals go_wp2
     go_roundw
     case rel=>exact ⟨k+1,by omega,by go_num,HE.out,below_drewN HB.out _⟩
     case measure=>simp [intOf];omega
   ·have hlt':¬ (k:Int) < (l.length:Int):=by omega
    have HE:Hid (decide (l=m)=true):=decide_eq_true (by
     have h:=HT.out
     rw [List.take_of_length_le (by omega),List.take_of_length_le (by omega)] at h
     exact h)
    go_wp2
    go_ret
    exact ⟨by rw [HE.out];rfl,HB.out⟩
 ·have hlm':¬ ((l.length:Nat):Int)=((m.length:Nat):Int):=by omega
  go_wp2
  go_ret
  exact ⟨by rw [decide_eq_false (fun e=>hlm (by rw [e]))];rfl,Below.refl _ _⟩
end
section
open Go.RowKit Go.Maps Go.Sort
attribute [local go_sem ↓] Go.wp_at_zero Go.wp_at_succ
theorem below_grownP {B:Nat} {u w w':World} {o:Obj} {row:Option Nat} (h:Below B u w) (hB:B≤w.heap.size) (hg:(w.alloc o).grownBy w' row) (hr:∀ k,row=some k→B≤k):Below B u w':=
 (h.alloc hB o).grown hg (by simp;omega) hr
theorem owns_low {w:World} {b b':Nat} {e:TypeId} {size n:Nat} {v:Value} {xs:List Value} (h:w.ownsRow b e size v n xs) (hb:b'≤b):w.ownsRow b' e size v n xs:=by
 refine ⟨h.1,?_⟩
 rcases h.2 with h2 | ⟨g,cap,cur,hv,hg,rest⟩
 ·exact Or.inl h2
 ·exact Or.inr ⟨g,cap,cur,hv,Nat.le_trans hb hg,rest⟩
theorem owns_cap {w:World} {b:Nat} {e:TypeId} {size n c m:Nat} {a:Option Addr} {xs:List Value} (h:w.ownsRow b e size (.slice a m c) n xs):m≤c∧c≤maxLen:=by
 rcases h.2 with ⟨h1,h2⟩ | ⟨g,cap,cur,hv,hg,hb,hc,hm,_⟩
 ·injection h1 with _ h3 h4;subst h3 h4;exact ⟨Nat.le_refl _,Nat.zero_le _⟩
 ·injection hv with _ h3 h4;subst h3 h4;exact ⟨hc,hm⟩
theorem FilS.take {w:World} {base ob c c':Nat} {cur:List Fl} (h:w.ownsRow base 86 2 (.slice (some ⟨ob,0,none⟩) cur.length c) cur.length (fcells cur)) (k:Nat) (hk:k≤cur.length):FilS w (.slice (some ⟨ob,0,none⟩) k c') (cur.take k):=by
 rcases FilS.of_owns h with ⟨e,_⟩ | ⟨b,off,c2,cs,e,hb,hc⟩
 ·cases e
 ·injection e with e _ _
  injection e with e
  injection e with e1 e2 _
  subst e1 e2
  have hl:(cur.take k).length=k:=by rw [List.length_take];omega
  refine Or.inr ⟨ob,0,c',cs,by rw [hl],hb,fun j hj=>?_⟩
  rw [List.getElem_take]
  exact hc j (by omega)
theorem FilS.drop {w:World} {base ob c c':Nat} {cur:List Fl} (h:w.ownsRow base 86 2 (.slice (some ⟨ob,0,none⟩) cur.length c) cur.length (fcells cur)) (k:Nat) (hk:k≤cur.length):FilS w (.slice (some ⟨ob,k*2,none⟩) (cur.length - k) c') (cur.drop k):=by
 rcases FilS.of_owns h with ⟨e,_⟩ | ⟨b,off,c2,cs,e,hb,hc⟩
 ·cases e
 ·injection e with e _ _
  injection e with e
  injection e with e1 e2 _
  subst e1 e2
  have hl:(cur.drop k).length=cur.length - k:=by rw [List.length_drop]
  refine Or.inr ⟨ob,k*2,c',cs,by rw [hl],hb,fun j hj=>?_⟩
  rw [List.getElem_drop]
  have:=hc (k+j) (by omega)
  rw [Nat.zero_add,show (k+j)*2=k*2+j*2 by omega] at this
  exact this
def PutPost (l more:List Fl) (w:World) (e:Ending) (w':World):Prop:=
 Below w.heap.size w w'∧∃ v,e=.returned v∧w'.ownsRow w.heap.size 86 2 v (plPut l more).length (fcells (plPut l more))
theorem plPut_take (l more:List Fl) (k:Nat) (hk:k < more.length):plPut l (more.take (k+1))=insL more[k] (plPut l (more.take k)):=by
 unfold plPut
 rw [List.take_succ_eq_append_getElem hk,List.foldl_append]
 rfl
theorem put_any (l more:List Fl) (u v:Value) (w:World) (hu:FilS w u l) (hv:FilS w v more) (hl:l.length+more.length≤900000) :
 Calls Tryz.prog 22 #[u,v] w (PutPost l more w):=by
 have HU:=hide hu
 have HV:=hide hv
 obtain ⟨ua,uc,hue⟩:=hu.len
 obtain ⟨va,vc,hve⟩:=hv.len
 subst hue hve
 clear hu hv
 obtain ⟨i0,hi,hz0,hz1,hz2⟩:=info_parts Tryz.infoFile
 go_enter Tryz.func22,Tryz.ntmps22
 go_wp2_with (at_builtin;refine append_fls rfl _ _ rfl w.heap.size (.slice none 0 0) [] rfl (World.ownsRow_nil _ _ _ _) l (.slice ua l.length uc) rfl HU.out (by simp;omega) (Nat.le_refl _) ?_;intro a5 k5 w5 ho5 hg5;have HO5:=hide ho5;have HB5:Hid (Below w.heap.size w w5):=(Below.refl _ _).grown hg5 (Nat.le_refl _) (fun k hk=>by cases hk);clear ho5 hg5)
 go_loopw [5,6] (fun o i wr=>∃ (j:Nat) (cur:List Fl),j≤more.length∧i=.int .i64 (j:Int)∧cur=plPut l (more.take j)∧wr.ownsRow w.heap.size 86 2 o cur.length (fcells cur)∧Below w.heap.size w wr) (fun _ i _=>more.length - (intOf i).toNat)
 case atStart=>exact ⟨0,l,Nat.zero_le _,by go_num,rfl,by have h:=HO5.out;simp only [List.length_nil,Nat.zero_add,List.nil_append] at h;simpa using h,HB5.out⟩
 case round=>
  rename World=>w0
  obtain ⟨j,cur,hj,rfl,hcur,hrow,hB⟩:=hrel
  have HCUR:=hide hcur
  have HB:=hide hB
  have HRW:=hide hrow
  have hcl:cur.length≤l.length+j:=by
   have:=plPut_len (more.take j) l
   rw [← hcur,List.length_take] at this
   omega
  obtain ⟨oa,oc,hoe⟩:=owns_len hrow
  subst hoe
  have HFS:=hide (FilS.of_owns hrow)
  clear hcur hrow hB HFS
  by_cases hlt:j < more.length
  rotate_left
  ·have hlt':¬ (j:Int) < (more.length:Int):=by omega
   have hje:j=more.length:=by omega
   subst hje
   go_wp2
   go_ret
   refine ⟨HB.out,_,rfl,?_⟩
   have hc:=HCUR.out
   rw [List.take_length] at hc
   rw [← hc]
   exact HRW.out
  have hlt':(j:Int) < (more.length:Int):=by omega
  obtain ⟨vb,vo,rfl,hvl,hvc⟩:=HV.out.get (by omega)
  have hf1:w0.cell? ⟨vb,vo+j*2,none⟩=some (.string (strA more[j].1)):=(HB.out.cell (p:=⟨vb,vo+j*2,none⟩) hvl).trans (hvc j hlt).1
  have hf2:w0.cell? ⟨vb,vo+j*2+1,none⟩=some (.string (strA more[j].2)):=(HB.out.cell (p:=⟨vb,vo+j*2+1,none⟩) hvl).trans (hvc j hlt).2
  have HTK:=hide (plPut_take l more j hlt)
  rw [← HCUR.out] at HTK
  clear hvc
  have hvl':vb < w0.heap.size:=by have:=HB.out.size;omega
  have HW:Hid (w.heap.size≤w0.heap.size):=HB.out.size
  generalize more[j]=f at *
  go_wp2_with fail
  go_loopw [7] (fun kk wr=>∃ k:Nat,k≤cur.length∧kk=.int .i64 (k:Int)∧(∀ i (hi:i < cur.length),i < k→cur[i].1 < f.1)∧Below w0.heap.size w0 wr) (fun kk _=>cur.length - (intOf kk).toNat)
  case atStart=>exact ⟨0,Nat.zero_le _,by go_num,fun i hi h=>absurd h (Nat.not_lt_zero _),Below.refl _ _⟩
  case round=>
   obtain ⟨k,hk,rfl,hless,hwq⟩:=hrel
   have HLS:=hide hless
   have HWQ:=hide hwq
   have q1:wr.cell? ⟨vb,vo+j*2,none⟩=some (.string (strA f.1)):=(hwq.cell (p:=⟨vb,vo+j*2,none⟩) hvl').trans hf1
   have q2:wr.cell? ⟨vb,vo+j*2+1,none⟩=some (.string (strA f.2)):=(hwq.cell (p:=⟨vb,vo+j*2+1,none⟩) hvl').trans hf2
   have HRQ:Hid (wr.ownsRow w.heap.size 86 2 (.slice oa cur.length oc) cur.length (fcells cur)):=owns_fr (P:=fun _ _=>False) HRW.out (Fr.of_below hwq) (fun _ _ h=>h)
   have HFQ:=hide (FilS.of_owns HRQ.out)
   have HBQ:=hide (HB.out.trans (hwq.mono HB.out.size))
   clear hless hwq
   by_cases hkl:k < cur.length
   ·have hkl':(k:Int) < (cur.length:Int):=by omega
    obtain ⟨ob,oc',hoe,hobg,hol,hoc⟩:=owns_get HRQ.out (by omega)
    injection hoe with hoe _ hoe3
    subst hoe hoe3
    have ho1:=hoc _ _ (fcells_at cur k hkl).1
    have ho2:=hoc _ _ (fcells_at cur k hkl).2
    have hfz:∀ o,wr.frozen? ⟨ob,o,none⟩=false:=HRQ.out.frozenAt
    by_cases hle:cur[k].1 < f.1
    ·have hbl:Op.bytesLess (strA cur[k].1).toList (strA f.1).toList=true:=by
      rw [bytesLess_eq,ByteArray.toList_eq,ByteArray.toList_eq];exact decide_eq_true hle
     have HNX:Hid (∀ i (hi:i < cur.length),i < k+1→cur[i].1 < f.1):=fun i hi h=>by
      by_cases e:i=k
      ·subst e;exact hle
      ·exact HLS.out i hi (by omega)
     generalize cur[k]=g at *
     clear hoc hle
     go_wp2_with fail
     go_quiet (fail)
     all_goals go_wp2
     exact ⟨⟨k+1,by omega,by go_num,HNX.out,below_drewN HWQ.out _⟩,by simp [intOf];omega⟩
    ·have hbl:Op.bytesLess (strA cur[k].1).toList (strA f.1).toList=false:=by
      rw [bytesLess_eq,ByteArray.toList_eq,ByteArray.toList_eq];exact decide_eq_false hle
     by_cases heq:cur[k].1=f.1
     ·have hbe:((strA cur[k].1).toList == (strA f.1).toList)=true:=by rw [strA_eqF];exact decide_eq_true heq
      have HI:=hide (insL_set f cur k hkl HLS.out heq)
      have HST:Hid (∀ n,(((wr.drewN n).setCell ⟨ob,k*2,none⟩ (.string (strA f.1))).setCell ⟨ob,k*2+1,none⟩ (.string (strA f.2))).ownsRow w.heap.size 86 2 (.slice (some ⟨ob,0,none⟩) cur.length oc) cur.length (fcells (cur.set k f))∧Below w.heap.size w (((wr.drewN n).setCell ⟨ob,k*2,none⟩ (.string (strA f.1))).setCell ⟨ob,k*2+1,none⟩ (.string (strA f.2)))):=fun n=>by
       have hr:(wr.drewN n).ownsRow w.heap.size 86 2 (.slice (some ⟨ob,0,none⟩) cur.length oc) cur.length (fcells cur):=HRQ.out
       obtain ⟨s1,g1⟩:=World.ownsRow.stored hr (k*2) (.string (strA f.1))
       obtain ⟨s2,g2⟩:=World.ownsRow.stored s1 (k*2+1) (.string (strA f.2))
       rw [fcells_set cur k f hkl] at s2
       exact ⟨s2,((below_drewN HBQ.out n).setCell hobg _).setCell hobg _⟩
      generalize cur[k]=g at *
      clear hoc hle heq
      go_wp2_with fail
      go_quiet (fail)
      all_goals go_wp2_with fail
      go_quiet (fail)
      all_goals go_wp2
      exact ⟨⟨j+1,cur.set k f,by omega,by go_num,(HTK.out.trans HI.out).symm,by rw [List.length_set];exact (HST.out _).1,(HST.out _).2⟩,by simp [intOf];omega⟩
     ·have hbe:((strA cur[k].1).toList == (strA f.1).toList)=false:=by rw [strA_eqF];exact decide_eq_false heq
      obtain ⟨hcp,hcm⟩:=owns_cap HRQ.out
      unfold maxLen at hcm
      have HI:=hide (insL_ins f cur k (by omega) HLS.out (fun _=>⟨hle,heq⟩))
      obtain ⟨L1,hL1⟩:∃ L,L=cur.take k:=⟨_,rfl⟩
      obtain ⟨L2,hL2⟩:∃ L,L=cur.drop k:=⟨_,rfl⟩
      have HLL:Hid (L1.length=k∧L2.length=cur.length - k):=by rw [hL1,hL2,List.length_take,List.length_drop];exact ⟨by omega,rfl⟩
      rw [← hL1,← hL2] at HI
      have HF1:Hid (FilS wr (.slice (some ⟨ob,0,none⟩) k oc) L1):=by rw [hL1];exact FilS.take HRQ.out k (by omega)
      have HF3:Hid (FilS wr (.slice (some ⟨ob,k*2,none⟩) (cur.length - k) (oc - k)) L2):=by rw [hL2];exact FilS.drop HRQ.out k (by omega)
      have HL1:Hid (([]:List Fl).length+L1.length≤1000000):=by have:=HLL.out;simp only [List.length_nil];show _≤_;omega
      have HL2:Hid (L1.length+1≤maxLen∧(L1.length+1)*32≤140737488355328):=by have:=HLL.out;show _∧_;unfold maxLen;omega
      have HL3:Hid ((L1++[f]).length+L2.length≤1000000):=by have:=HLL.out;show _≤_;rw [List.length_append];simp only [List.length_singleton];omega
      have hvr:vb < wr.heap.size:=by have:=HWQ.out.size;omega
      clear hL1 hL2
      generalize cur[k]=g at *
      clear hoc hle heq
      go_wp2_with fail
      go_quiet (fail)
      all_goals go_wp2_with fail
      go_quiet (fail)
      go_wp2_with (first
       | (have gg:=HO7;at_builtin;refine append_fls rfl _ _ rfl wr.heap.size _ (L1++[f]) rfl HO7.out L2 (.slice (some ⟨ob,k*2,none⟩) (cur.length - k) (oc - k)) rfl (HF3.out.below HB7.out) HL3.out (by have:=HB7.out.size;omega) ?_;intro a8 k8 w8 ho8 hg8;have HO8:=hide ho8;have HG8:=hide hg8;clear ho8 hg8)
       | (have gg:=HO6;at_builtin;refine wpList_append_own_at _ rfl _ _ 26 rfl wr.heap.size 86 i0 _ 2 32 Tryz.underlying26 hi hz0 hz1 hz2 rfl (by decide) _ _ _ rfl (World.ownsRow.alloc HO6.out _) ⟨w6.heap.size,0,none⟩ 1 1 (encF f) rfl rfl (two_fl _ f _) (one_fl f) HL2.out.1 HL2.out.2 (by have:=HB6.out.size;simp;omega) ?_;intro v7 w7 ho7 hg7 _ _;obtain ⟨a7,k7,hv7⟩:=owns_len ho7;subst hv7;have HG7:Hid ((w6.alloc (.cells #[.string (strA f.1),.string (strA f.2)] 86)).grownBy w7 (Value.slice a6 L1.length k6).ownBlock):=hg7;have HO7:Hid (w7.ownsRow wr.heap.size 86 2 (.slice a7 (L1.length+1) k7) (L1++[f]).length (fcells (L1++[f]))):=by { rw [← fcells_snoc,List.length_append];exact ho7 };have HB7:Hid (Below wr.heap.size wr w7):=below_grownP HB6.out HB6.out.size HG7.out (fun k hk=>(World.ownsRow.lt HO6.out k hk).1);clear ho7 hg7)
       | (at_builtin;refine append_fls rfl _ _ rfl wr.heap.size (.slice none 0 0) [] rfl (World.ownsRow_nil _ _ _ _) L1 (.slice (some ⟨ob,0,none⟩) k oc) rfl (HF1.out.below (below_drewN (Below.refl _ _) _)) HL1.out (Nat.le_refl _) ?_;intro a6 k6 w6 ho6 hg6;have HB6:Hid (Below wr.heap.size wr w6):=(below_drewN (Below.refl wr.heap.size wr) _).grown hg6 (Nat.le_refl _) (fun k hk=>by cases hk);have ho6':=ho6;simp only [List.length_nil,Nat.zero_add,List.nil_append] at ho6';have HO6:=hide ho6';have p1:w6.cell? ⟨vb,vo+j*2,none⟩=some (.string (strA f.1)):=(HB6.out.cell (p:=⟨vb,vo+j*2,none⟩) hvr).trans q1;have p2:w6.cell? ⟨vb,vo+j*2+1,none⟩=some (.string (strA f.2)):=(HB6.out.cell (p:=⟨vb,vo+j*2+1,none⟩) hvr).trans q2;clear ho6 ho6' hg6))
      have hb8:Below wr.heap.size wr w8:=HB7.out.grown HG8.out HB7.out.size (fun k hk=>(World.ownsRow.lt HO7.out k hk).1)
      exact ⟨⟨j+1,L1++[f]++L2,by omega,by go_num,(by rw [HTK.out,HI.out];simp),(by have h8:=owns_low HO8.out HBQ.out.size;simp only [List.length_append,List.length_singleton] at h8 ⊢;exact h8),HBQ.out.trans (hb8.mono HBQ.out.size)⟩,by simp [intOf];omega⟩
   ·have hkl':¬ (k:Int) < (cur.length:Int):=by omega
    rcases HRQ.out.2 with ⟨hn1,hn2⟩ | ⟨ob,cap,cu,hv,hobg,hbk,_⟩
    ·injection hn1 with hn1 _ hn3
     subst hn1 hn3
     have hce:cur=[]:=List.eq_nil_of_length_eq_zero hn2
     have hk0:k=0:=by omega
     obtain ⟨hcp,hcm⟩:=owns_cap HRQ.out
     unfold maxLen at hcm
     have HI:=hide (insL_ins f cur k (by omega) HLS.out (fun h=>absurd h hkl))
     obtain ⟨L1,hL1⟩:∃ L,L=cur.take k:=⟨_,rfl⟩
     obtain ⟨L2,hL2⟩:∃ L,L=cur.drop k:=⟨_,rfl⟩
     have HLL:Hid (L1.length=k∧L2.length=cur.length - k):=by rw [hL1,hL2,List.length_take,List.length_drop];exact ⟨by omega,rfl⟩
     rw [← hL1,← hL2] at HI
     have HF1:Hid (FilS wr (.slice none 0 0) L1):=by rw [hL1];exact Or.inl ⟨rfl,by rw [hce];exact List.take_nil⟩
     have HF3:Hid (FilS wr (.slice none 0 0) L2):=by rw [hL2];exact Or.inl ⟨rfl,by rw [hce];exact List.drop_nil⟩
     have HL1:Hid (([]:List Fl).length+L1.length≤1000000):=by have:=HLL.out;simp only [List.length_nil];show _≤_;omega
     have HL2:Hid (L1.length+1≤maxLen∧(L1.length+1)*32≤140737488355328):=by have:=HLL.out;show _∧_;unfold maxLen;omega
     have HL3:Hid ((L1++[f]).length+L2.length≤1000000):=by have:=HLL.out;show _≤_;rw [List.length_append];simp only [List.length_singleton];omega
     have hvr:vb < wr.heap.size:=by have:=HWQ.out.size;omega
     clear hL1 hL2
     go_wp2_with fail
     go_quiet (fail)
     all_goals go_wp2_with fail
     go_quiet (fail)
     go_wp2_with (first
      | (have gg:=HO7;at_builtin;refine append_fls rfl _ _ rfl wr.heap.size _ (L1++[f]) rfl HO7.out L2 (.slice none 0 0) rfl (HF3.out.below HB7.out) HL3.out (by have:=HB7.out.size;omega) ?_;intro a8 k8 w8 ho8 hg8;have HO8:=hide ho8;have HG8:=hide hg8;clear ho8 hg8)
      | (have gg:=HO6;at_builtin;refine wpList_append_own_at _ rfl _ _ 26 rfl wr.heap.size 86 i0 _ 2 32 Tryz.underlying26 hi hz0 hz1 hz2 rfl (by decide) _ _ _ rfl (World.ownsRow.alloc HO6.out _) ⟨w6.heap.size,0,none⟩ 1 1 (encF f) rfl rfl (two_fl _ f _) (one_fl f) HL2.out.1 HL2.out.2 (by have:=HB6.out.size;simp;omega) ?_;intro v7 w7 ho7 hg7 _ _;obtain ⟨a7,k7,hv7⟩:=owns_len ho7;subst hv7;have HG7:Hid ((w6.alloc (.cells #[.string (strA f.1),.string (strA f.2)] 86)).grownBy w7 (Value.slice a6 L1.length k6).ownBlock):=hg7;have HO7:Hid (w7.ownsRow wr.heap.size 86 2 (.slice a7 (L1.length+1) k7) (L1++[f]).length (fcells (L1++[f]))):=by { rw [← fcells_snoc,List.length_append];exact ho7 };have HB7:Hid (Below wr.heap.size wr w7):=below_grownP HB6.out HB6.out.size HG7.out (fun k hk=>(World.ownsRow.lt HO6.out k hk).1);clear ho7 hg7)
      | (at_builtin;refine append_fls rfl _ _ rfl wr.heap.size (.slice none 0 0) [] rfl (World.ownsRow_nil _ _ _ _) L1 (.slice none 0 0) rfl (HF1.out.below (below_drewN (Below.refl _ _) _)) HL1.out (Nat.le_refl _) ?_;intro a6 k6 w6 ho6 hg6;have HB6:Hid (Below wr.heap.size wr w6):=(below_drewN (Below.refl wr.heap.size wr) _).grown hg6 (Nat.le_refl _) (fun k hk=>by cases hk);have ho6':=ho6;simp only [List.length_nil,Nat.zero_add,List.nil_append] at ho6';have HO6:=hide ho6';have p1:w6.cell? ⟨vb,vo+j*2,none⟩=some (.string (strA f.1)):=(HB6.out.cell (p:=⟨vb,vo+j*2,none⟩) hvr).trans q1;have p2:w6.cell? ⟨vb,vo+j*2+1,none⟩=some (.string (strA f.2)):=(HB6.out.cell (p:=⟨vb,vo+j*2+1,none⟩) hvr).trans q2;clear ho6 ho6' hg6))
     have hb8:Below wr.heap.size wr w8:=HB7.out.grown HG8.out HB7.out.size (fun k hk=>(World.ownsRow.lt HO7.out k hk).1)
     exact ⟨⟨j+1,L1++[f]++L2,by omega,by go_num,(by rw [HTK.out,HI.out];simp),(by have h8:=owns_low HO8.out HBQ.out.size;simp only [List.length_append,List.length_singleton] at h8 ⊢;exact h8),HBQ.out.trans (hb8.mono HBQ.out.size)⟩,by simp [intOf];omega⟩
    ·injection hv with hv1 _ hv3
     subst hv1 hv3
     by_cases hko:k=oc
     ·subst hko
      obtain ⟨hcp,hcm⟩:=owns_cap HRQ.out
      unfold maxLen at hcm
      have HI:=hide (insL_ins f cur k (by omega) HLS.out (fun h=>absurd h hkl))
      obtain ⟨L1,hL1⟩:∃ L,L=cur.take k:=⟨_,rfl⟩
      obtain ⟨L2,hL2⟩:∃ L,L=cur.drop k:=⟨_,rfl⟩
      have HLL:Hid (L1.length=k∧L2.length=cur.length - k):=by rw [hL1,hL2,List.length_take,List.length_drop];exact ⟨by omega,rfl⟩
      rw [← hL1,← hL2] at HI
      have HF1:Hid (FilS wr (.slice (some ⟨ob,0,none⟩) k k) L1):=by rw [hL1];exact FilS.take HRQ.out k (by omega)
      have HF3:Hid (∀ o c,FilS wr (.slice (some ⟨ob,o,none⟩) 0 c) L2):=fun o c=>by rw [hL2,List.drop_of_length_le (by omega)];exact Or.inr ⟨ob,o,c,cu,rfl,hbk,fun j hj=>absurd hj (Nat.not_lt_zero _)⟩
      have HL1:Hid (([]:List Fl).length+L1.length≤1000000):=by have:=HLL.out;simp only [List.length_nil];show _≤_;omega
      have HL2:Hid (L1.length+1≤maxLen∧(L1.length+1)*32≤140737488355328):=by have:=HLL.out;show _∧_;unfold maxLen;omega
      have HL3:Hid ((L1++[f]).length+L2.length≤1000000):=by have:=HLL.out;show _≤_;rw [List.length_append];simp only [List.length_singleton];omega
      have hvr:vb < wr.heap.size:=by have:=HWQ.out.size;omega
      clear hL1 hL2
      go_wp2_with fail
      go_quiet (fail)
      all_goals go_wp2_with fail
      go_quiet (fail)
      go_wp2_with (first
       | (have gg:=HO7;at_builtin;refine append_fls rfl _ _ rfl wr.heap.size _ (L1++[f]) rfl HO7.out L2 _ rfl (FilS.below (HF3.out _ _) HB7.out) HL3.out (by have:=HB7.out.size;omega) ?_;intro a8 k8 w8 ho8 hg8;have HO8:=hide ho8;have HG8:=hide hg8;clear ho8 hg8)
       | (have gg:=HO6;at_builtin;refine wpList_append_own_at _ rfl _ _ 26 rfl wr.heap.size 86 i0 _ 2 32 Tryz.underlying26 hi hz0 hz1 hz2 rfl (by decide) _ _ _ rfl (World.ownsRow.alloc HO6.out _) ⟨w6.heap.size,0,none⟩ 1 1 (encF f) rfl rfl (two_fl _ f _) (one_fl f) HL2.out.1 HL2.out.2 (by have:=HB6.out.size;simp;omega) ?_;intro v7 w7 ho7 hg7 _ _;obtain ⟨a7,k7,hv7⟩:=owns_len ho7;subst hv7;have HG7:Hid ((w6.alloc (.cells #[.string (strA f.1),.string (strA f.2)] 86)).grownBy w7 (Value.slice a6 L1.length k6).ownBlock):=hg7;have HO7:Hid (w7.ownsRow wr.heap.size 86 2 (.slice a7 (L1.length+1) k7) (L1++[f]).length (fcells (L1++[f]))):=by { rw [← fcells_snoc,List.length_append];exact ho7 };have HB7:Hid (Below wr.heap.size wr w7):=below_grownP HB6.out HB6.out.size HG7.out (fun k hk=>(World.ownsRow.lt HO6.out k hk).1);clear ho7 hg7)
       | (at_builtin;refine append_fls rfl _ _ rfl wr.heap.size (.slice none 0 0) [] rfl (World.ownsRow_nil _ _ _ _) L1 (.slice (some ⟨ob,0,none⟩) k k) rfl (HF1.out.below (below_drewN (Below.refl _ _) _)) HL1.out (Nat.le_refl _) ?_;intro a6 k6 w6 ho6 hg6;have HB6:Hid (Below wr.heap.size wr w6):=(below_drewN (Below.refl wr.heap.size wr) _).grown hg6 (Nat.le_refl _) (fun k hk=>by cases hk);have ho6':=ho6;simp only [List.length_nil,Nat.zero_add,List.nil_append] at ho6';have HO6:=hide ho6';have p1:w6.cell? ⟨vb,vo+j*2,none⟩=some (.string (strA f.1)):=(HB6.out.cell (p:=⟨vb,vo+j*2,none⟩) hvr).trans q1;have p2:w6.cell? ⟨vb,vo+j*2+1,none⟩=some (.string (strA f.2)):=(HB6.out.cell (p:=⟨vb,vo+j*2+1,none⟩) hvr).trans q2;clear ho6 ho6' hg6))
      have hb8:Below wr.heap.size wr w8:=HB7.out.grown HG8.out HB7.out.size (fun k hk=>(World.ownsRow.lt HO7.out k hk).1)
      exact ⟨⟨j+1,L1++[f]++L2,by omega,by go_num,(by rw [HTK.out,HI.out];simp),(by have h8:=owns_low HO8.out HBQ.out.size;simp only [List.length_append,List.length_singleton] at h8 ⊢;exact h8),HBQ.out.trans (hb8.mono HBQ.out.size)⟩,by simp [intOf];omega⟩
     ·have HKO:=hide hko
      obtain ⟨hcp,hcm⟩:=owns_cap HRQ.out
      unfold maxLen at hcm
      have HI:=hide (insL_ins f cur k (by omega) HLS.out (fun h=>absurd h hkl))
      obtain ⟨L1,hL1⟩:∃ L,L=cur.take k:=⟨_,rfl⟩
      obtain ⟨L2,hL2⟩:∃ L,L=cur.drop k:=⟨_,rfl⟩
      have HLL:Hid (L1.length=k∧L2.length=cur.length - k):=by rw [hL1,hL2,List.length_take,List.length_drop];exact ⟨by omega,rfl⟩
      rw [← hL1,← hL2] at HI
      have HF1:Hid (FilS wr (.slice (some ⟨ob,0,none⟩) k oc) L1):=by rw [hL1];exact FilS.take HRQ.out k (by omega)
      have HF3:Hid (∀ o c,FilS wr (.slice (some ⟨ob,o,none⟩) (cur.length - k) c) L2):=fun o c=>by rw [hL2,List.drop_of_length_le (by omega)];exact Or.inr ⟨ob,o,c,cu,by rw [show cur.length - k=0 by omega];rfl,hbk,fun j hj=>absurd hj (Nat.not_lt_zero _)⟩
      have HL1:Hid (([]:List Fl).length+L1.length≤1000000):=by have:=HLL.out;simp only [List.length_nil];show _≤_;omega
      have HL2:Hid (L1.length+1≤maxLen∧(L1.length+1)*32≤140737488355328):=by have:=HLL.out;show _∧_;unfold maxLen;omega
      have HL3:Hid ((L1++[f]).length+L2.length≤1000000):=by have:=HLL.out;show _≤_;rw [List.length_append];simp only [List.length_singleton];omega
      have hvr:vb < wr.heap.size:=by have:=HWQ.out.size;omega
      clear hL1 hL2
      go_wp2_with fail
      go_quiet (fail)
      all_goals go_wp2_with fail
      go_quiet (fail)
      go_wp2_with (first
       | (have gg:=HO7;at_builtin;refine append_fls rfl _ _ rfl wr.heap.size _ (L1++[f]) rfl HO7.out L2 _ rfl (FilS.below (HF3.out _ _) HB7.out) HL3.out (by have:=HB7.out.size;omega) ?_;intro a8 k8 w8 ho8 hg8;have HO8:=hide ho8;have HG8:=hide hg8;clear ho8 hg8)
       | (have gg:=HO6;at_builtin;refine wpList_append_own_at _ rfl _ _ 26 rfl wr.heap.size 86 i0 _ 2 32 Tryz.underlying26 hi hz0 hz1 hz2 rfl (by decide) _ _ _ rfl (World.ownsRow.alloc HO6.out _) ⟨w6.heap.size,0,none⟩ 1 1 (encF f) rfl rfl (two_fl _ f _) (one_fl f) HL2.out.1 HL2.out.2 (by have:=HB6.out.size;simp;omega) ?_;intro v7 w7 ho7 hg7 _ _;obtain ⟨a7,k7,hv7⟩:=owns_len ho7;subst hv7;have HG7:Hid ((w6.alloc (.cells #[.string (strA f.1),.string (strA f.2)] 86)).grownBy w7 (Value.slice a6 L1.length k6).ownBlock):=hg7;have HO7:Hid (w7.ownsRow wr.heap.size 86 2 (.slice a7 (L1.length+1) k7) (L1++[f]).length (fcells (L1++[f]))):=by { rw [← fcells_snoc,List.length_append];exact ho7 };have HB7:Hid (Below wr.heap.size wr w7):=below_grownP HB6.out HB6.out.size HG7.out (fun k hk=>(World.ownsRow.lt HO6.out k hk).1);clear ho7 hg7)
       | (at_builtin;refine append_fls rfl _ _ rfl wr.heap.size (.slice none 0 0) [] rfl (World.ownsRow_nil _ _ _ _) L1 (.slice (some ⟨ob,0,none⟩) k oc) rfl (HF1.out.below (below_drewN (Below.refl _ _) _)) HL1.out (Nat.le_refl _) ?_;intro a6 k6 w6 ho6 hg6;have HB6:Hid (Below wr.heap.size wr w6):=(below_drewN (Below.refl wr.heap.size wr) _).grown hg6 (Nat.le_refl _) (fun k hk=>by cases hk);have ho6':=ho6;simp only [List.length_nil,Nat.zero_add,List.nil_append] at ho6';have HO6:=hide ho6';have p1:w6.cell? ⟨vb,vo+j*2,none⟩=some (.string (strA f.1)):=(HB6.out.cell (p:=⟨vb,vo+j*2,none⟩) hvr).trans q1;have p2:w6.cell? ⟨vb,vo+j*2+1,none⟩=some (.string (strA f.2)):=(HB6.out.cell (p:=⟨vb,vo+j*2+1,none⟩) hvr).trans q2;clear ho6 ho6' hg6))
      have hb8:Below wr.heap.size wr w8:=HB7.out.grown HG8.out HB7.out.size (fun k hk=>(World.ownsRow.lt HO7.out k hk).1)
      exact ⟨⟨j+1,L1++[f]++L2,by omega,by go_num,(by rw [HTK.out,HI.out];simp),(by have h8:=owns_low HO8.out HBQ.out.size;simp only [List.length_append,List.length_singleton] at h8 ⊢;exact h8),HBQ.out.trans (hb8.mono HBQ.out.size)⟩,by simp [intOf];omega⟩
end
end Go.Proofs.YtenahlandohgaaaGreatDoor
