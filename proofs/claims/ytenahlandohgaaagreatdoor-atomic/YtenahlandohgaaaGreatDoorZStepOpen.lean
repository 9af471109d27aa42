import Derived.Defers
import Derived.Recover
import Derived.Lib.SmallJoins
import Derived.Deep.Slices
import Derived.Carry
import Derived.SizedLaws
import Derived.Test.YtenahlandohgaaaGreatDoorZDDisk
import Derived.Test.YtenahlandohgaaaGreatDoorZFBase
namespace Go.Proofs.YtenahlandohgaaaGreatDoor
set_option linter.unusedVariables false
set_option linter.unusedSimpArgs false
set_option maxRecDepth 100000
set_option maxHeartbeats 4000000
section
open Go.RowKit
attribute [local go_sem ↓] Go.wp_at_zero Go.wp_at_succ
theorem gcatch_idle (p:Addr) (w:World) :
 CallsD Tryz.prog 140 #[.pointer (some p)] .returning w fun e u' w'=>e=.returned (.tuple #[])∧u'=.returning∧w'=w:=by
 refine callsD_of_wpS Tryz.func140 rfl fun c₀ cs hu=>?_
 apply wpS_seq
 apply wpS_region
 simp [wpOpsS,go_sem,recoverD,hu,Tryz.ntmps140,Exit.thenS]
 refine wpS_cond (t:=false) (by simp [Act.eval,Array.replicate]) ?_
 simp only [Bool.false_eq_true,if_false]
 refine wpS_of_wp (wp_skip ?_)
 cases c₀
 simp_all [bodyPostS,results,Tryz.results140]
theorem guarded_any (f:Nat) (caps:Array Value) (R:World→Prop) (w:World) (hcf:∀ args W,(callFunc f args).run Tryz.prog W=.ok (.enter f args) W)
 (hw:Calls Tryz.prog f caps (w.alloc (.cells #[.nilIface] 67)) fun e w'=>e=.returned .nilIface∧w'.heap[w.heap.size]?=some (.cells #[.nilIface] 67)∧R w') :
 Calls Tryz.prog 79 #[.func (.func f) #[] caps] w fun e w'=>e=.returned .nilIface∧∃ w1,R w1∧w1.heap[w.heap.size]?=some (.cells #[.nilIface] 67)∧w'=w1.setCell ⟨w.heap.size,0,none⟩ .nilIface:=by
 have hmf:∀ (fn:Fn) (first cap:Array Value) (w:World),(Instr.makeFunc fn first cap).run Tryz.prog w=.ok (.func fn first cap) w:=fun _ _ _ _=>rfl
 have HW:=hide hw
 clear hw
 go_enter_defers Tryz.func79,Tryz.ntmps79
 go_wp2_with fail
 refine HW.out.mono ?_
 rintro e w1 ⟨rfl,hE,hR⟩
 have c0:w1.cell? ⟨w.heap.size,0,none⟩=some .nilIface:=blk_cell hE 0
 have z0:∀ j,w1.frozen? ⟨w.heap.size,j,none⟩=false:=blk_frozen hE
 have HE:=hide hE
 have HR:=hide hR
 clear hE hR
 go_wp2
 refine leaves_cons (f:=140) (args:=#[.pointer (some ⟨w.heap.size,0,none⟩)]) (by simp) (by simp [go_sem]) ?_
 refine (gcatch_idle ⟨w.heap.size,0,none⟩ _).mono ?_
 rintro e u' w'' ⟨rfl,rfl,rfl⟩
 simp [Leaves,settle,results,Tryz.results79,go_sem,c0]
 exact ⟨w1,HR.out,HE.out,rfl⟩
end
section
open Go.RowKit
attribute [local go_sem ↓] Go.wp_at_zero Go.wp_at_succ
structure StepD where
 id:List UInt8
 acts:List (Int×List UInt8)
 av:Value
 text:List UInt8
 left:Int
 full:Int
 kept:Int
 part:Int
 downs:List Int
 dv:Value
 again:Bool
def IntsG (w:World) (v:Value) (l:List Int):Prop:=
 ∃ a c,v=.slice a l.length c∧(l≠[]→∃ b off,a=some ⟨b,off,none⟩∧∀ j (hj:j < l.length),w.cell? ⟨b,off+j,none⟩=some (.int .i64 l[j]))
theorem IntsG.below {w w':World} {v:Value} {l:List Int} (h:IntsG w v l) (hb:Below w.heap.size w w'):IntsG w' v l:=by
 obtain ⟨a,c,h,hc⟩:=h
 refine ⟨a,c,h,fun hne=>?_⟩
 obtain ⟨b,off,rfl,hcc⟩:=hc hne
 exact ⟨b,off,rfl,fun j hj=>(hb.cell (p:=⟨b,off+j,none⟩) (cell_lt (hcc j hj))).trans (hcc j hj)⟩
structure StepAt (w:World) (b o:Nat) (x:StepD):Prop where
 c0:w.cell? ⟨b,o,none⟩=some (.string (strA x.id))
 c1:w.cell? ⟨b,o+1,none⟩=some x.av
 c2:w.cell? ⟨b,o+2,none⟩=some (.string (strA x.text))
 c3:w.cell? ⟨b,o+3,none⟩=some (.int .i64 x.left)
 c4:w.cell? ⟨b,o+4,none⟩=some (.int .i64 x.full)
 c5:w.cell? ⟨b,o+5,none⟩=some (.int .i64 x.kept)
 c6:w.cell? ⟨b,o+6,none⟩=some (.int .i64 x.part)
 c7:w.cell? ⟨b,o+7,none⟩=some x.dv
 c8:w.cell? ⟨b,o+8,none⟩=some (.bool x.again)
 acts:ActG w x.av x.acts
 downs:IntsG w x.dv x.downs
theorem StepAt.below {w w':World} {b o:Nat} {x:StepD} (h:StepAt w b o x) (hb:Below w.heap.size w w'):StepAt w' b o x:=by
 have k:∀ j v,w.cell? ⟨b,j,none⟩=some v→w'.cell? ⟨b,j,none⟩=some v:=fun j v hc=>(hb.cell (p:=⟨b,j,none⟩) (cell_lt hc)).trans hc
 exact ⟨k _ _ h.c0,k _ _ h.c1,k _ _ h.c2,k _ _ h.c3,k _ _ h.c4,k _ _ h.c5,k _ _ h.c6,k _ _ h.c7,k _ _ h.c8,h.acts.below hb,h.downs.below hb⟩
def StpG (w:World) (v:Value) (l:List StepD):Prop:=
 ∃ a c,v=.slice a l.length c∧(l≠[]→∃ b off,a=some ⟨b,off,none⟩∧∀ j (hj:j < l.length),StepAt w b (off+j*9) l[j])
def StepSm (x:StepD):Prop:=x.id.length≤140737488355328∧x.text.length≤140737488355328∧x.acts.length≤140737488355328∧x.downs.length≤140737488355328∧(∀ a∈x.acts,a.2.length≤140737488355328)∧-9223372036854775808≤x.part∧x.part≤9223372036854775807
def argN (l:List (Int×List UInt8)):Nat:=(l.map (fun a=>a.2.length)).sum
def costN (x:StepD):Nat:=x.id.length+x.text.length+x.downs.length+x.acts.length+argN x.acts
def fitN (l:List StepD):Nat:=l.length+(l.map costN).sum
theorem sum_snoc {α:Type} (f:α→Nat) (l:List α) (k:Nat) (hk:k < l.length):((l.take (k+1)).map f).sum=((l.take k).map f).sum+f l[k]:=by
 rw [List.take_succ_eq_append_getElem hk,List.map_append,List.sum_append]
 simp
def FitPost (l:List StepD) (w:World) (e:Ending) (w':World):Prop:=∃ r:Bool,e=.returned (.bool r)∧(r=true→fitN l≤65536)∧Below w.heap.size w w'
theorem fit_any (l:List StepD) (v:Value) (w:World) (h:StpG w v l) (hs:∀ x∈l,StepSm x) (hl:l.length≤140737488355328) :
 Calls Tryz.prog 6 #[v] w (FitPost l w):=by
 obtain ⟨a,c,rfl,hc⟩:=h
 have HC:=hide hc
 have HS:=hide hs
 clear hc hs
 go_enter Tryz.func6,Tryz.ntmps6
 go_wp2_with fail
 go_loopw [3,4] (fun n i wr=>∃ (k:Nat) (m:Nat),k≤l.length∧i=.int .i64 (k:Int)∧n=.int .i64 (m:Int)∧m≤1125899906842624∧(m≤65536→m=l.length+((l.take k).map costN).sum)∧Below w.heap.size w wr) (fun _ i _=>l.length - (intOf i).toNat)
 case atStart=>exact ⟨0,l.length,Nat.zero_le _,by go_num,by go_num,by omega,fun _=>by simp,Below.refl _ _⟩
 case round=>
  obtain ⟨k,m,hk,rfl,rfl,hm,hsum,hB⟩:=hrel
  have HB:=hide hB
  have HSUM:=hide hsum
  clear hB hsum
  by_cases hm65:m≤65536
  rotate_left
  ·have h65:¬ (m:Int)≤65536:=by omega
   by_cases hlt:k < l.length
   ·have hlt':(k:Int) < (l.length:Int):=by omega
    go_wp2
    go_ret
    exact ⟨false,rfl,fun h=>(by cases h),HB.out⟩
   ·have hlt':¬ (k:Int) < (l.length:Int):=by omega
    go_wp2
    go_ret
    exact ⟨false,rfl,fun h=>(by cases h),HB.out⟩
  have h65:(m:Int)≤65536:=by omega
  by_cases hlt:k < l.length
  rotate_left
  ·have hlt':¬ (k:Int) < (l.length:Int):=by omega
   have HE:Hid (fitN l≤65536):=by
    have h:=HSUM.out hm65
    rw [List.take_of_length_le (by omega)] at h
    show fitN l≤65536
    unfold fitN
    omega
   go_wp2
   go_ret
   exact ⟨true,rfl,fun _=>HE.out,HB.out⟩
  have hlt':(k:Int) < (l.length:Int):=by omega
  obtain ⟨b,off,rfl,hcc⟩:=HC.out (fun e=>by rw [e] at hlt;exact absurd hlt (Nat.not_lt_zero _))
  have hat:=(hcc k hlt).below (w':=wr) (HB.out)
  have HAT:=hide hat
  have hsm:=HS.out l[k] (List.getElem_mem hlt)
  have HST:=hide (sum_snoc costN l k hlt)
  clear hcc
  generalize l[k]=x at *
  obtain ⟨aa,ac,hav,hacc⟩:=hat.acts
  obtain ⟨da,dc,hdv,hdcc⟩:=hat.downs
  have c0:=hat.c0
  have c1:=hat.c1
  have c2:=hat.c2
  have c7:=hat.c7
  rw [hav] at c1
  rw [hdv] at c7
  obtain ⟨s1,s2,s3,s4,s5,_⟩:=hsm
  have hz1:=strA_size x.id
  have hz2:=strA_size x.text
  have HACC:=hide hacc
  have H5:=hide s5
  clear hat hacc hdcc hav hdv s5
  go_wp2_with fail
  go_quiet (fail)
  go_wp2_with fail
  have HBQ:Hid (Below w.heap.size w (wr.drewN nq)):=below_drewN HB.out _
  have HAQ:Hid (StepAt (wr.drewN nq) b (off+k*9) x):=HAT.out.below (below_drewN (Below.refl _ _) _)
  generalize wr.drewN nq=w1 at *
  clear c0 c1 c2 c7 HAT HB
  go_loopw [3,5] (fun n kk wr=>∃ (j m2:Nat),j≤x.acts.length∧kk=.int .i64 (j:Int)∧n=.int .i64 (m2:Int)∧m2≤1125899906842624∧(m2≤65536→m2=m+x.id.length+x.text.length+x.downs.length+x.acts.length+argN (x.acts.take j))∧Below w.heap.size w wr∧StepAt wr b (off+k*9) x) (fun _ kk _=>x.acts.length - (intOf kk).toNat)
  case atStart=>exact ⟨0,m+x.id.length+x.text.length+x.downs.length+x.acts.length,Nat.zero_le _,by go_num,by go_num,by omega,fun _=>by simp [argN],HBQ.out,HAQ.out⟩
  case round=>
   obtain ⟨j,m2,hj,rfl,rfl,hm2,hsum2,hB2,hat2⟩:=hrel
   have HB2:=hide hB2
   have HAT2:=hide hat2
   have HSUM2:=hide hsum2
   obtain ⟨aa',ac',hav',hacc'⟩:=hat2.acts
   have c1:=hat2.c1
   rw [hav'] at c1
   have HACC2:=hide hacc'
   clear hB2 hat2 hsum2 hacc' hav'
   by_cases hj2:j < x.acts.length
   rotate_left
   ·have hj2':¬ (j:Int) < (x.acts.length:Int):=by omega
    have HE:Hid (m2≤65536→m2=l.length+((l.take (k+1)).map costN).sum):=fun h=>by
     have h1:=HSUM2.out h
     rw [List.take_of_length_le (by omega)] at h1
     have h2:=HSUM.out hm65
     have h3:costN x=x.id.length+x.text.length+x.downs.length+x.acts.length+argN x.acts:=rfl
     rw [HST.out]
     omega
    go_wp2
    exact ⟨⟨k+1,m2,by omega,by go_num,rfl,hm2,HE.out,HB2.out⟩,by simp [intOf];omega⟩
   have hj2':(j:Int) < (x.acts.length:Int):=by omega
   by_cases h65b:m2≤65536
   rotate_left
   ·have h65b':¬ (m2:Int)≤65536:=by omega
    have HE:Hid (m2≤65536→m2=l.length+((l.take (k+1)).map costN).sum):=fun h=>absurd h h65b
    go_wp2
    exact ⟨⟨k+1,m2,by omega,by go_num,rfl,hm2,HE.out,HB2.out⟩,by simp [intOf];omega⟩
   have h65b':(m2:Int)≤65536:=by omega
   obtain ⟨ab,ao,rfl,hcc⟩:=HACC2.out (fun e=>by rw [e] at hj2;exact absurd hj2 (Nat.not_lt_zero _))
   have c9:=(hcc j hj2).2
   have hsmj:=H5.out x.acts[j] (List.getElem_mem hj2)
   have HSJ:=hide (sum_snoc (fun a:Int×List UInt8=>a.2.length) x.acts j hj2)
   generalize x.acts[j]=y at *
   have hz3:=strA_size y.2
   have HE:Hid (m2+y.2.length≤65536→m2+y.2.length=m+x.id.length+x.text.length+x.downs.length+x.acts.length+argN (x.acts.take (j+1))):=fun h=>by
    have h1:=HSUM2.out (by omega)
    have h2:argN (x.acts.take (j+1))=argN (x.acts.take j)+y.2.length:=HSJ.out
    omega
   clear hcc
   go_wp2
   exact ⟨⟨j+1,m2+y.2.length,by omega,by go_num,by go_num,by omega,HE.out,HB2.out,HAT2.out⟩,by simp [intOf];omega⟩
end
section
open Go.ChangeShapes Go.WideShapes Go.ChangeAt Go.WideMaps Go.WideElems Go.RowKit Go.Joins Go.Deep
theorem Tryz.cellsActD:Tryz.prog.cellsOf 51=2:=by kernel_rfl
theorem Tryz.bytesActD:Tryz.prog.bytesOf 51=24:=by kernel_rfl
theorem Tryz.cellsStrD:Tryz.prog.cellsOf 9=1:=by kernel_rfl
theorem Tryz.cellsIntD:Tryz.prog.cellsOf 3=1:=by kernel_rfl
theorem Tryz.bytesIntD:Tryz.prog.bytesOf 3=8:=by kernel_rfl
theorem Tryz.cellsBoolD:Tryz.prog.cellsOf 4=1:=by kernel_rfl
theorem Tryz.cellsActsD:Tryz.prog.cellsOf 29=1:=by kernel_rfl
theorem Tryz.cellsIntsD:Tryz.prog.cellsOf 30=1:=by kernel_rfl
theorem Tryz.cellsStepD:Tryz.prog.cellsOf 32=9:=by kernel_rfl
theorem Tryz.bytesStepD:Tryz.prog.bytesOf 32=120:=by kernel_rfl
theorem reach_eqD:reachBytes=140737488351232:=rfl
theorem weightsAll_memD {H:Type} {P:Program} {e:TypeId}:∀ {l:List (DataW H)} {d:DataW H},d∈l→∀ n∈d.weights P e,n∈DataW.weightsAll P e l
 | d' :: r,d,hd,n,hn=>by
  simp only [DataW.weightsAll,List.mem_append]
  rcases List.mem_cons.1 hd with rfl | h
  ·exact Or.inl hn
  ·exact Or.inr (weightsAll_memD h n hn)
theorem strA_backD (s:ByteArray):strA s.data.toList=s:=by
 cases s
 rfl
theorem open_actD {H:Type} {enc:TypeId×Value→H} {W:World} {spare:Nat→Bool} {held:Bool} {n:Nat} {cs:List Value} {y:DataW H×List MemPlace} (h:DataW.trod enc Tryz.prog W 0 spare held n 51 cs=some y) :
 ∃ (k:Int) (b:ByteArray),cs=[.int .i64 k,.string b]∧y.1=.agg [.lit (.int .i64 k),.lit (.string b.data.toList)]:=by
 obtain ⟨y0,y1,m,hx,hl,h0,h1⟩:=trod_struct2 Tryz.underlying51 h
 rw [Tryz.cellsActD] at hl
 obtain ⟨c0,c1,rfl⟩:∃ c0 c1,cs=[c0,c1]:=by
  match cs,hl with
  | [c0,c1],_=>exact ⟨c0,c1,rfl⟩
 obtain ⟨a,e0,f0,_⟩:=DataW.trod_int Tryz.underlying3 h0
 obtain ⟨b,e1,f1,_⟩:=DataW.trod_string Tryz.underlying9 h1
 rw [Tryz.cellsStrD] at e1
 rw [Tryz.cellsIntD] at e0
 have e0':[c0]=[Value.int .i64 a]:=e0
 have e1':[c1]=[Value.string b]:=e1
 injection e0' with e0'
 injection e1' with e1'
 subst e0' e1' f0 f1
 exact ⟨a,b,rfl,by rw [hx]⟩
theorem open_actsD {H:Type} {enc:TypeId×Value→H} {W:World} {held:Bool} {n:Nat} {v:Value} {y:DataW H×List MemPlace} (h:DataW.trod enc Tryz.prog W 0 (fun _=>true) held n 29 [v]=some y) (hw:∀ k∈y.1.weights Tryz.prog 29,k≤reachBytes) :
 ∃ l:List (Int×List UInt8),ActG W v l∧l.length≤reachBytes∧∀ a∈l,a.2.length≤reachBytes:=by
 rcases open_slice Tryz.underlying29 h with ⟨hcs,hx⟩ | ⟨a,len0,cap0,m,nn,D,Pl,hcs,_,hl,hm,hmm,hx,hel⟩
 ·injection hcs with hcs
  subst hcs
  exact ⟨[],⟨none,0,rfl,fun h=>absurd rfl h⟩,Nat.zero_le _,fun a ha=>nomatch ha⟩
 ·injection hcs with hcs
  subst hcs
  have hm':m=cap0:=by rw [hmm];rfl
  subst hm'
  rw [Tryz.cellsActD] at hel
  have hex:∀ i,i < len0→∃ x:Int×ByteArray,W.cell? (a.add (i*2))=some (.int .i64 x.1)∧W.cell? ((a.add (i*2)).add 1)=some (.string x.2)∧D i=.agg [.lit (.int .i64 x.1),.lit (.string x.2.data.toList)]:=fun i hi=>by
   obtain ⟨cs',hc,ht⟩:=hel i (by omega)
   obtain ⟨x,y,rfl,hd⟩:=open_actD ht
   obtain ⟨_,_,hcell⟩:=World.cells?_some hc
   refine ⟨(x,y),?_,?_,hd⟩
   ·have:=hcell 0 (by omega)
    simpa [Addr.add] using this
   ·have:=hcell 1 (by omega)
    simpa using this
  obtain ⟨f,hf⟩:=choose_lt (α:=Int×ByteArray) hex
  obtain ⟨hs,hhs⟩:∃ hs:List (Int×List UInt8),hs=(List.range len0).map fun i=>((f i).1,(f i).2.data.toList):=⟨_,rfl⟩
  have hsl:hs.length=len0:=by rw [hhs];simp
  have hget:∀ j (hj:j < hs.length),hs[j]=((f j).1,(f j).2.data.toList):=fun j hj=>by simp [hhs]
  have hwy:∀ k∈DataW.weights Tryz.prog 29 (.slice ((List.range len0).map D) ((List.range (m - len0)).map fun j=>D (len0+j))),k≤reachBytes:=fun k hk=>hw k (by rw [hx];exact hk)
  have hlen:(len0+(m - len0))*24≤reachBytes:=hwy _ (by simp [DataW.weights,Tryz.underlying29,Tryz.bytesActD])
  refine ⟨hs,⟨some a,m,by rw [hsl],fun hne=>?_⟩,by omega,fun x hx'=>?_⟩
  ·have hpos:0 < len0:=by rw [← hsl];exact List.length_pos_iff.2 hne
   obtain ⟨b,off,spot⟩:=a
   have hspot:spot=none:=by
    have:=World.cell?_spot (hf 0 hpos).1
    simpa [Addr.add] using this
   subst hspot
   refine ⟨b,off,rfl,fun j hj=>?_⟩
   have hjl:j < len0:=by rw [← hsl];exact hj
   obtain ⟨g1,g2,_⟩:=hf j hjl
   rw [Addr.add_lit] at g1
   rw [Addr.add_lit,Addr.add_lit] at g2
   have hg:=hget j hj
   rw [hg]
   dsimp only
   rw [strA_backD]
   exact ⟨g1,g2⟩
  ·rw [hhs] at hx'
   obtain ⟨i,hi,rfl⟩:=List.mem_map.1 hx'
   have hil:i < len0:=List.mem_range.1 hi
   obtain ⟨_,_,hd⟩:=hf i hil
   have hmem:D i∈(List.range len0).map D:=List.mem_map.2 ⟨i,hi,rfl⟩
   have hall:∀ k∈(D i).weights Tryz.prog 51,k≤reachBytes:=fun k hk=>hwy k (by
    simp only [DataW.weights,Tryz.underlying29,List.mem_cons,List.mem_append]
    exact Or.inr (Or.inl (weightsAll_memD hmem k hk)))
   rw [hd] at hall
   have hwd:(DataW.agg [DataW.lit (Lit.int .i64 (f i).1),DataW.lit (Lit.string (f i).2.data.toList)]:DataW H).weights Tryz.prog 51=[(f i).2.data.toList.length]:=by
    simp [DataW.weights,DataW.weightsEach,Tryz.underlying51]
   rw [hwd] at hall
   exact hall _ (by simp)
theorem open_intsD {H:Type} {enc:TypeId×Value→H} {W:World} {held:Bool} {n:Nat} {v:Value} {y:DataW H×List MemPlace} (h:DataW.trod enc Tryz.prog W 0 (fun _=>true) held n 30 [v]=some y) (hw:∀ k∈y.1.weights Tryz.prog 30,k≤reachBytes) :
 ∃ l:List Int,IntsG W v l∧l.length≤reachBytes:=by
 rcases open_slice Tryz.underlying30 h with ⟨hcs,hx⟩ | ⟨a,len0,cap0,m,nn,D,Pl,hcs,_,hl,hm,hmm,hx,hel⟩
 ·injection hcs with hcs
  subst hcs
  exact ⟨[],⟨none,0,rfl,fun h=>absurd rfl h⟩,Nat.zero_le _⟩
 ·injection hcs with hcs
  subst hcs
  have hm':m=cap0:=by rw [hmm];rfl
  subst hm'
  rw [Tryz.cellsIntD] at hel
  have hex:∀ i,i < len0→∃ x:Int,W.cell? (a.add (i*1))=some (.int .i64 x):=fun i hi=>by
   obtain ⟨cs',hc,ht⟩:=hel i (by omega)
   obtain ⟨x,rfl,hd,_⟩:=DataW.trod_int Tryz.underlying3 ht
   obtain ⟨_,_,hcell⟩:=World.cells?_some hc
   refine ⟨x,?_⟩
   have:=hcell 0 (by omega)
   simpa [Addr.add] using this
  obtain ⟨f,hf⟩:=choose_lt (α:=Int) hex
  obtain ⟨hs,hhs⟩:∃ hs:List Int,hs=(List.range len0).map f:=⟨_,rfl⟩
  have hsl:hs.length=len0:=by rw [hhs];simp
  have hget:∀ j (hj:j < hs.length),hs[j]=f j:=fun j hj=>by simp [hhs]
  have hlen:(len0+(m - len0))*8≤reachBytes:=hw _ (by rw [hx];simp [DataW.weights,Tryz.underlying30,Tryz.bytesIntD])
  refine ⟨hs,⟨some a,m,by rw [hsl],fun hne=>?_⟩,by omega⟩
  have hpos:0 < len0:=by rw [← hsl];exact List.length_pos_iff.2 hne
  obtain ⟨b,off,spot⟩:=a
  have hspot:spot=none:=by
   have:=World.cell?_spot (hf 0 hpos)
   simpa [Addr.add] using this
  subst hspot
  refine ⟨b,off,rfl,fun j hj=>?_⟩
  have g1:=hf j (by rw [← hsl];exact hj)
  rw [Addr.add_lit,Nat.mul_one] at g1
  rw [hget j hj]
  exact g1
theorem open_stepD {H:Type} {enc:TypeId×Value→H} {W:World} {held:Bool} {n:Nat} {cs:List Value} {y:DataW H×List MemPlace} (h:DataW.trod enc Tryz.prog W 0 (fun _=>true) held n 32 cs=some y) (hw:∀ k∈y.1.weights Tryz.prog 32,k≤reachBytes) :
 ∃ x:StepD,cs=[.string (strA x.id),x.av,.string (strA x.text),.int .i64 x.left,.int .i64 x.full,.int .i64 x.kept,.int .i64 x.part,x.dv,.bool x.again]∧ActG W x.av x.acts∧IntsG W x.dv x.downs∧StepSm x:=by
 obtain ⟨xs,m,_,hx,hl,hlen,hf⟩:=DataW.trod_struct Tryz.underlying32 h
 rw [Tryz.cellsStepD] at hl
 obtain ⟨c0,c1,c2,c3,c4,c5,c6,c7,c8,rfl⟩:∃ c0 c1 c2 c3 c4 c5 c6 c7 c8,cs=[c0,c1,c2,c3,c4,c5,c6,c7,c8]:=by
  match cs,hl with
  | [c0,c1,c2,c3,c4,c5,c6,c7,c8],_=>exact ⟨c0,c1,c2,c3,c4,c5,c6,c7,c8,rfl⟩
 obtain ⟨y0,y1,y2,y3,y4,y5,y6,y7,y8,rfl⟩:∃ y0 y1 y2 y3 y4 y5 y6 y7 y8,xs=[y0,y1,y2,y3,y4,y5,y6,y7,y8]:=by
  match xs,hlen with
  | [y0,y1,y2,y3,y4,y5,y6,y7,y8],_=>exact ⟨y0,y1,y2,y3,y4,y5,y6,y7,y8,rfl⟩
 have h0:=hf 0 _ rfl
 have h1:=hf 1 _ rfl
 have h2:=hf 2 _ rfl
 have h3:=hf 3 _ rfl
 have h4:=hf 4 _ rfl
 have h5:=hf 5 _ rfl
 have h6:=hf 6 _ rfl
 have h7:=hf 7 _ rfl
 have h8:=hf 8 _ rfl
 simp only [Tryz.cellsStrD,Tryz.cellsIntD,Tryz.cellsBoolD,Tryz.cellsActsD,Tryz.cellsIntsD,List.drop,List.take,List.getElem?_cons_zero,List.getElem?_cons_succ] at h0 h1 h2 h3 h4 h5 h6 h7 h8
 obtain ⟨b0,e0,f0,_⟩:=DataW.trod_string Tryz.underlying9 h0
 obtain ⟨b2,e2,f2,_⟩:=DataW.trod_string Tryz.underlying9 h2
 obtain ⟨i3,e3,f3,_⟩:=DataW.trod_int Tryz.underlying3 h3
 obtain ⟨i4,e4,f4,_⟩:=DataW.trod_int Tryz.underlying3 h4
 obtain ⟨i5,e5,f5,_⟩:=DataW.trod_int Tryz.underlying3 h5
 obtain ⟨i6,e6,f6,w6⟩:=DataW.trod_int Tryz.underlying3 h6
 obtain ⟨b8,e8,f8⟩:=DataW.trod_bool Tryz.underlying4 h8
 injection e0 with e0
 injection e2 with e2
 injection e3 with e3
 injection e4 with e4
 injection e5 with e5
 injection e6 with e6
 injection e8 with e8
 subst e0 e2 e3 e4 e5 e6 e8 f0 f2 f3 f4 f5 f6 f8
 have hwt:y.1.weights Tryz.prog 32=[b0.data.toList.length]++(y1.1.weights Tryz.prog 29++([b2.data.toList.length]++y7.1.weights Tryz.prog 30)):=by
  rw [hx]
  simp [DataW.weights,DataW.weightsEach,Tryz.underlying32]
 rw [hwt] at hw
 have k0:=hw b0.data.toList.length (by simp)
 have k2:=hw b2.data.toList.length (by simp)
 obtain ⟨la,ha,ha1,ha2⟩:=open_actsD h1 (fun k hk=>hw k (by simp only [List.mem_append];exact Or.inr (Or.inl hk)))
 obtain ⟨li,hi,hi1⟩:=open_intsD h7 (fun k hk=>hw k (by simp only [List.mem_append];exact Or.inr (Or.inr (Or.inr hk))))
 simp only [Lit.wf,Bool.and_eq_true,decide_eq_true_eq] at w6
 have hr:=reach_eqD
 refine ⟨⟨b0.data.toList,la,c1,b2.data.toList,i3,i4,i5,i6,li,c7,b8⟩,?_,ha,hi,?_⟩
 ·dsimp only
  rw [strA_backD,strA_backD]
 ·refine ⟨by show b0.data.toList.length≤_;omega,by show b2.data.toList.length≤_;omega,by show la.length≤_;omega,by show li.length≤_;omega,fun a h=>by have:=ha2 a h;show _≤_;omega,?_⟩
  show -9223372036854775808≤i6∧i6≤9223372036854775807
  have h1:IntKind.i64.min = -9223372036854775808:=rfl
  have h2:IntKind.i64.max=9223372036854775807:=rfl
  omega
theorem open_stepsD {H:Type} {enc:TypeId×Value→H} {W:World} {r:Reach} {b0:Nat} {v:Value} {d:DataW H} {p:List MemPlace} (hv:Value.okWide Tryz.prog W r b0 22 v) (h:DataW.Trod enc Tryz.prog W 0 (fun _=>true) true 22 v d p) (hw:∀ k∈d.weights Tryz.prog 22,k≤reachBytes) :
 ∃ l:List StepD,StpG W v l∧(∀ x∈l,StepSm x)∧l.length≤140737488355328:=by
 obtain ⟨fuel,hf⟩:=h
 obtain ⟨a0,len0,cap0,hv0⟩:∃ a n c,v=.slice a n c:=okWide_slice Tryz.underlying22 hv
 subst hv0
 have hf':DataW.trod enc Tryz.prog W 0 (fun _=>true) true fuel 22 [.slice a0 len0 cap0]=some (d,p):=hf
 rcases open_slice Tryz.underlying22 hf' with ⟨hcs,hx⟩ | ⟨a,len,cap,m,nn,D,Pl,hcs,_,hl,hm,hmm,hx,hel⟩
 ·injection hcs with hcs
  injection hcs with e1 e2 e3
  subst e1 e2 e3
  exact ⟨[],⟨none,0,rfl,fun h=>absurd rfl h⟩,fun x hx=>(nomatch hx),Nat.zero_le _⟩
 ·injection hcs with hcs
  injection hcs with e1 e2 e3
  subst e1 e2 e3
  have hm':m=cap0:=by rw [hmm];rfl
  subst hm'
  injection hx with hx _
  have hwy:∀ k∈DataW.weights Tryz.prog 22 (.slice ((List.range len0).map D) ((List.range (m - len0)).map fun j=>D (len0+j))),k≤reachBytes:=fun k hk=>hw k (by rw [hx];exact hk)
  have hlen:(len0+(m - len0))*120≤reachBytes:=hwy _ (by simp [DataW.weights,Tryz.underlying22,Tryz.bytesStepD])
  have hr:=reach_eqD
  rw [Tryz.cellsStepD] at hel
  have hex:∀ i,i < len0→∃ x:StepD,(∀ b off,a=⟨b,off,none⟩→StepAt W b (off+i*9) x)∧StepSm x∧∃ u,W.cell? (a.add (i*9))=some u:=fun i hi=>by
   obtain ⟨cs',hc,ht⟩:=hel i (by omega)
   have hmem:D i∈(List.range len0).map D:=List.mem_map.2 ⟨i,List.mem_range.2 hi,rfl⟩
   obtain ⟨x,rfl,hA,hI,hS⟩:=open_stepD ht (fun k hk=>hwy k (by
    simp only [DataW.weights,Tryz.underlying22,List.mem_cons,List.mem_append]
    exact Or.inr (Or.inl (weightsAll_memD hmem k hk))))
   obtain ⟨_,_,hcell⟩:=World.cells?_some hc
   have g:∀ j (hj:j < 9),W.cell? ((a.add (i*9)).add j)=([.string (strA x.id),x.av,.string (strA x.text),.int .i64 x.left,.int .i64 x.full,.int .i64 x.kept,.int .i64 x.part,x.dv,.bool x.again]:List Value)[j]?:=fun j hj=>hcell j (by omega)
   refine ⟨x,fun b off ha=>?_,hS,_,(by have:=g 0 (by omega);simpa [Addr.add] using this)⟩
   subst ha
   have g':∀ j (hj:j < 9),W.cell? ⟨b,off+i*9+j,none⟩=([.string (strA x.id),x.av,.string (strA x.text),.int .i64 x.left,.int .i64 x.full,.int .i64 x.kept,.int .i64 x.part,x.dv,.bool x.again]:List Value)[j]?:=fun j hj=>by
    have:=g j hj
    rw [Addr.add_lit,Addr.add_lit] at this
    exact this
   exact ⟨g' 0 (by omega),g' 1 (by omega),g' 2 (by omega),g' 3 (by omega),g' 4 (by omega),g' 5 (by omega),g' 6 (by omega),g' 7 (by omega),g' 8 (by omega),hA,hI⟩
  by_cases h0:len0=0
  ·subst h0
   exact ⟨[],⟨some a,m,rfl,fun h=>absurd rfl h⟩,fun x hx=>(nomatch hx),Nat.zero_le _⟩
  have hpos:0 < len0:=Nat.pos_of_ne_zero h0
  have ⟨x0,_⟩:=hex 0 hpos
  obtain ⟨f,hf⟩:∃ f:Nat→StepD,∀ i,i < len0→(∀ b off,a=⟨b,off,none⟩→StepAt W b (off+i*9) (f i))∧StepSm (f i)∧∃ u,W.cell? (a.add (i*9))=some u:=
   ⟨fun i=>if hi:i < len0 then (hex i hi).choose else x0,fun i hi=>by
    show (∀ b off,a=⟨b,off,none⟩→StepAt W b (off+i*9) (dite _ _ _))∧StepSm (dite _ _ _)∧_
    rw [dif_pos hi]
    exact (hex i hi).choose_spec⟩
  obtain ⟨b,off,spot⟩:=a
  have hspot:spot=none:=by
   obtain ⟨_,_,u,hu⟩:=hf 0 hpos
   have:=World.cell?_spot hu
   simpa [Addr.add] using this
  subst hspot
  refine ⟨(List.range len0).map f,⟨some ⟨b,off,none⟩,m,by simp,fun _=>⟨b,off,rfl,fun j hj=>?_⟩⟩,fun x hx'=>?_,by simp;omega⟩
  ·have hj':j < len0:=by simpa using hj
   have:=(hf j hj').1 b off rfl
   simpa using this
  ·obtain ⟨i,hi,rfl⟩:=List.mem_map.1 hx'
   exact (hf i (List.mem_range.1 hi)).2.1
end
end Go.Proofs.YtenahlandohgaaaGreatDoor
