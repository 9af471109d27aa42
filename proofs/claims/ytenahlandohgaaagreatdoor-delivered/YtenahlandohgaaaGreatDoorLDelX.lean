import Derived.Test.YtenahlandohgaaaGreatDoorZLDel
namespace Go.Proofs.YtenahlandohgaaaGreatDoor
set_option linter.unusedVariables false
set_option linter.unusedSimpArgs false
set_option maxRecDepth 100000
set_option maxHeartbeats 4000000
open Go.RowKit
attribute [local go_sem ↓] Go.wp_at_zero Go.wp_at_succ
def growN (l:List StepD) (k:Nat):Nat:=((l.take k).map costN).sum+k
theorem cost_grow (x:StepD) {n n':Nat} (h1:n'≤n+20*min 1 x.acts.length) (h2:x.id=[]→n'≤n):3*n'≤3*n+20*(costN x+1):=by
 unfold costN
 by_cases e:x.id=[]
 ·have:=h2 e;omega
 ·have:1≤x.id.length:=Nat.pos_of_ne_zero (fun h=>e (List.eq_nil_of_length_eq_zero h))
  by_cases ea:x.acts.length=0
  ·omega
  ·omega
theorem sum_take_le (f:StepD→Nat) (l:List StepD) (k:Nat):((l.take k).map f).sum≤(l.map f).sum:=by
 conv=>rhs;rw [← List.take_append_drop k l]
 rw [List.map_append,List.sum_append]
 omega
theorem cost_mem (x:StepD):∀ l:List StepD,x∈l→costN x≤(l.map costN).sum
 | [],h=>by cases h
 | b :: r,h=>by
  simp only [List.map_cons,List.sum_cons]
  rcases List.mem_cons.1 h with rfl | h
  ·omega
  ·have:=cost_mem x r h;omega
theorem delivered_all (l:List StepD) (v:Value) (w:World) (he:EnvD w) (h:StpG w v l) (hs:∀ x∈l,StepSm x) (hl:l.length≤140737488355328) :
 Calls Tryz.prog 3 #[v] w fun e w'=>e=.returned (.bool true)∧Below w.heap.size w w':=by
 have HG:=hide h
 have HE:=hide he
 have HS:=hide hs
 have HFIT:=hide (fit_any l v w h hs hl)
 obtain ⟨a,c,rfl,_⟩:=h
 clear he hs
 go_enter Tryz.func3,Tryz.ntmps3
 go_wp2_with fail
 refine HFIT.out.mono ?_
 rintro e w1 ⟨r,rfl,hfit,hb1⟩
 have HB1:=hide hb1
 cases r with
 | false=>
  clear hfit hb1
  go_wp2
  go_ret
  exact ⟨rfl,HB1.out⟩
 | true=>
  have hf:=hfit rfl
  have HF:=hide hf
  have hll:l.length≤65536:=by unfold fitN at hf;omega
  clear hfit hb1 hf
  go_wp2_with fail
  refine (newBox_any [] (.slice none 0 0) w1 ⟨none,0,rfl,fun h=>absurd rfl h⟩ (by simp) (by intro f hf;cases hf)).mono ?_
  rintro e w2 ⟨hb2,bb,bn,rfl,hx2,hD2⟩
  have HB2:=hide (HB1.out.trans (hb2.mono HB1.out.size))
  have hBw:w.heap.size≤w1.heap.size:=HB1.out.size
  have hBw2:w1.heap.size≤w2.heap.size:=hb2.size
  have HST:Hid (StoreI w2 w1.heap.size bb (w1.heap.size+1) w1.heap.size 0 noF (.slice none 0 0) []):=
   ⟨hx2,⟨bn,_,hD2⟩,Or.inl ⟨rfl,rfl⟩,lists_none,(fun x hx=>by cases hx),hBw2,Nat.zero_le _⟩
  generalize w1.heap.size=B at *
  clear hb2 hx2 hD2 HFIT HB1
  go_wp2_with fail
  go_loopw [3,5,6] (fun _ fv i wr=>∃ (k n:Nat) (F:Fs) (fl:List Fl),k≤l.length∧i=.int .i64 (k:Int)∧StoreI wr B bb (B+1) B n F fv fl∧3*n≤20*growN l k∧Below w.heap.size w wr) (fun _ _ i _=>l.length - (intOf i).toNat)
  case atStart=>exact ⟨0,0,noF,[],Nat.zero_le _,by go_num,HST.out,by simp,HB2.out⟩
  case round=>
   obtain ⟨k,n,F,fl,hk,rfl,hSt,hn,hB⟩:=hrel
   have HSt:=hide hSt
   have HB:=hide hB
   obtain ⟨va,vc,hve⟩:=hSt.fil.len
   subst hve
   clear hSt hB
   by_cases hlt:k < l.length
   rotate_left
   ·have hlt':¬ (k:Int) < (l.length:Int):=by omega
    go_wp2
    go_ret
    exact ⟨rfl,HB.out⟩
   have hlt':(k:Int) < (l.length:Int):=by omega
   obtain ⟨a',c',hae,hcc⟩:=HG.out
   injection hae with hae1 _ hae2
   subst hae1 hae2
   obtain ⟨b,off,rfl,hat⟩:=hcc (fun e=>by rw [e] at hlt;exact absurd hlt (Nat.not_lt_zero _))
   have hat0:=hat k hlt
   have hat:=hat0.below HB.out
   have hsm:=HS.out l[k] (List.getElem_mem hlt)
   have hgr:growN l (k+1)=growN l k+(costN l[k]+1):=by
    unfold growN
    rw [sum_snoc costN l k hlt]
    omega
   have hcm:=cost_mem l[k] l (List.getElem_mem hlt)
   have hfit:l.length+(l.map costN).sum≤65536:=HF.out
   have hgk:growN l k≤65536:=by
    have:=sum_take_le costN l k
    unfold growN
    omega
   have hcx:costN l[k]≤65536:=by omega
   generalize l[k]=x at *
   have HDL:=hide (delivered_any w B bb (B+1) B n F (.slice va fl.length vc) fl x wr HE.out HB.out hBw HSt.out hat0.acts hcx hsm.2.2.2.2.2 (by omega))
   have HGR:=hide hgr
   have HN:=hide hn
   have c0:=hat.c0
   have c1:=hat.c1
   have c2:=hat.c2
   have c3:=hat.c3
   have c4:=hat.c4
   have c5:=hat.c5
   have c6:=hat.c6
   have c7:=hat.c7
   have c8:=hat.c8
   clear hat hat0 hsm hgr hcm hcx hfit hgk hn hcc
   unfold stepV at HDL
   go_wp2_with fail
   refine HDL.out.mono ?_
   rintro e w3 ⟨hb3,n',F',v',l',rfl,hn1,hn2,hS3⟩
   have HB3:=hide hb3
   have HS3:=hide hS3
   have HN3:=hide (cost_grow x hn1 hn2)
   obtain ⟨va',vc',hve'⟩:=hS3.fil.len
   subst hve'
   clear hb3 hS3 hn1 hn2 c0 c1 c2 c3 c4 c5 c6 c7 c8
   go_wp2
   exact ⟨⟨k+1,n',F',l',by omega,by go_num,HS3.out,(by have h1:=HN.out;have h2:=HN3.out;have h3:=HGR.out;omega),HB3.out⟩,by simp [intOf];omega⟩
end Go.Proofs.YtenahlandohgaaaGreatDoor
