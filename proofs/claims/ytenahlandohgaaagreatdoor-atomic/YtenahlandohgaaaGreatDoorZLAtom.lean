import Derived.Test.YtenahlandohgaaaGreatDoorLDel
import Derived.Test.YtenahlandohgaaaGreatDoorZLDelB
namespace Go.Proofs.YtenahlandohgaaaGreatDoor
set_option linter.unusedVariables false
set_option linter.unusedSimpArgs false
set_option maxRecDepth 100000
set_option maxHeartbeats 4000000
section
open Go.RowKit
attribute [local go_sem ↓] Go.wp_at_zero Go.wp_at_succ
def growN (l:List StepD) (k:Nat):Nat:=((l.take k).map costN).sum+k
theorem cost_grow (x:StepD) {n n':Nat} (h1:n'≤n+20*min 1 x.acts.length) (h2:x.id=[]→n'≤n):3*n'≤3*n+20*(costN x+1):=by
 unfold costN
 by_cases e:x.id=[]
 ·have:=h2 e;omega
 ·have:1≤x.id.length:=Nat.pos_of_ne_zero (fun h=>e (List.eq_nil_of_length_eq_zero h))
  by_cases ea:x.acts.length=0
  ·omega
  ·omega
theorem sum_take_le (f:StepD→Nat) (l:List StepD) (k:Nat):((l.take k).map f).sum≤(l.map f).sum:=by
 conv=>rhs;rw [← List.take_append_drop k l]
 rw [List.map_append,List.sum_append]
 omega
theorem cost_mem (x:StepD):∀ l:List StepD,x∈l→costN x≤(l.map costN).sum
 | [],h=>by cases h
 | b :: r,h=>by
  simp only [List.map_cons,List.sum_cons]
  rcases List.mem_cons.1 h with rfl | h
  ·omega
  ·have:=cost_mem x r h;omega
end
section
open Go.RowKit
attribute [local go_sem ↓] Go.wp_at_zero Go.wp_at_succ
theorem StoreA.again {u:World} {B bb db bd:Nat} {L:List (List UInt8)} {F:Fs} {v:Value} {l:List Fl} {x:StepD} {w:World} (h:StoreA w B bb db bd L F v l) (he:EnvD u) (hu:Below u.heap.size u w) (hB:u.heap.size≤B) (hds:IntsG u x.dv x.downs) (hp:-9223372036854775808≤x.part∧x.part≤9223372036854775807) (hdl:x.downs.length≤65536) (hn:L.length≤437000) :
 Calls Tryz.prog 9 #[.pointer (some ⟨bb,0,none⟩),v,v,stepV x] w fun e w'=>Below u.heap.size u w'∧∃ v' l',e=.returned (.tuple #[v',.bool true])∧StoreA w' B bb db bd L F v' l':=by
 have hv:DvIs F [97] [] [] []:=dv_of rfl (by decide) (by decide) (fun a h=>by cases h) h.own
 have hG:BoxG w B db bd L.length F (jouL [97] [] []) []:=by
  obtain ⟨bn,M,rfl,hA⟩:=h.disk
  exact ⟨bn,_,_,[],hA,Or.inl ⟨fun _=>rfl,Or.inl rfl⟩,rfl⟩
 have hl:=h.len
 refine (recovered_any u B bb db bd L v v l l x w he hu hB hv ⟨h.nam,h.jou,fun f hf=>by cases hf⟩ h.box hG hds hp (by omega) hdl h.fil h.fil h.lst h.lst ⟨by omega,by omega⟩).mono ?_
 rintro e w' ⟨hb,v',M,l',rfl,hM,hR,hX,hf,hl',hln,hsz⟩
 have hMF:M=F:=by rcases hM with h | h <;> exact h
 subst hMF
 exact ⟨hb,v',l',rfl,hX,hR,hf,hl',h.own,Nat.le_trans h.siz hsz,h.nam,h.jou,hln⟩
theorem atomic_all (l:List StepD) (v:Value) (w:World) (he:EnvD w) (h:StpG w v l) (hs:∀ x∈l,StepSm x) (hl:l.length≤140737488355328) :
 Calls Tryz.prog 4 #[v] w fun e w'=>e=.returned (.bool true)∧Below w.heap.size w w':=by
 have HG:=hide h
 have HE:=hide he
 have HS:=hide hs
 have HFIT:=hide (fit_any l v w h hs hl)
 obtain ⟨a,c,rfl,_⟩:=h
 clear he hs
 go_enter Tryz.func4,Tryz.ntmps4
 go_wp2_with fail
 refine HFIT.out.mono ?_
 rintro e w1 ⟨r,rfl,hfit,hb1⟩
 have HB1:=hide hb1
 cases r with
 | false=>
  clear hfit hb1
  go_wp2
  go_ret
  exact ⟨rfl,HB1.out⟩
 | true=>
  have hf:=hfit rfl
  have HF:=hide hf
  have hll:l.length≤65536:=by unfold fitN at hf;omega
  clear hfit hb1 hf
  go_wp2_with fail
  refine (newBox_any [] (.slice none 0 0) w1 ⟨none,0,rfl,fun h=>absurd rfl h⟩ (by simp) (by intro f hf;cases hf)).mono ?_
  rintro e w2 ⟨hb2,bb,bn,rfl,hx2,hD2⟩
  have HB2:=hide (HB1.out.trans (hb2.mono HB1.out.size))
  have hBw:w.heap.size≤w1.heap.size:=HB1.out.size
  have hBw2:w1.heap.size≤w2.heap.size:=hb2.size
  have HST:Hid (StoreA w2 w1.heap.size bb (w1.heap.size+1) w1.heap.size [kJournal] noF (.slice none 0 0) []):=
   ⟨hx2,⟨bn,noF,rfl,AbsD.mono ⟨_,⟨hD2.bb,hD2.ne,hD2.blk,hD2.md,hD2.mn,hD2.row⟩⟩ (Nat.zero_le _)⟩,Or.inl ⟨rfl,rfl⟩,lists_none,(fun x hx=>by cases hx),hBw2,(fun x hx=>by cases hx),List.mem_singleton.2 rfl,Nat.zero_le _⟩
  generalize w1.heap.size=B at *
  clear hb2 hx2 hD2 HFIT HB1
  go_wp2_with fail
  go_loopw [3,5,6] (fun _ fv i wr=>∃ (k:Nat) (L:List (List UInt8)) (F:Fs) (fl:List Fl),k≤l.length∧i=.int .i64 (k:Int)∧StoreA wr B bb (B+1) B L F fv fl∧3*L.length≤3+20*growN l k∧Below w.heap.size w wr) (fun _ _ i _=>l.length - (intOf i).toNat)
  case atStart=>exact ⟨0,[kJournal],noF,[],Nat.zero_le _,by go_num,HST.out,by simp [growN],HB2.out⟩
  case round=>
   obtain ⟨k,L,F,fl,hk,rfl,hSt,hn,hB⟩:=hrel
   have HSt:=hide hSt
   have HB:=hide hB
   obtain ⟨va,vc,hve⟩:=hSt.fil.len
   subst hve
   clear hSt hB
   by_cases hlt:k < l.length
   rotate_left
   ·have hlt':¬ (k:Int) < (l.length:Int):=by omega
    go_wp2
    go_ret
    exact ⟨rfl,HB.out⟩
   have hlt':(k:Int) < (l.length:Int):=by omega
   obtain ⟨a',c',hae,hcc⟩:=HG.out
   injection hae with hae1 _ hae2
   subst hae1 hae2
   obtain ⟨b,off,rfl,hat⟩:=hcc (fun e=>by rw [e] at hlt;exact absurd hlt (Nat.not_lt_zero _))
   have hat0:=hat k hlt
   have hat:=hat0.below HB.out
   have hsm:=HS.out l[k] (List.getElem_mem hlt)
   have hgr:growN l (k+1)=growN l k+(costN l[k]+1):=by
    unfold growN
    rw [sum_snoc costN l k hlt]
    omega
   have hcm:=cost_mem l[k] l (List.getElem_mem hlt)
   have hfit:l.length+(l.map costN).sum≤65536:=HF.out
   have hgk:growN l k≤65536:=by
    have:=sum_take_le costN l k
    unfold growN
    omega
   have hgk1:growN l (k+1)≤65536:=by
    have:=sum_take_le costN l (k+1)
    unfold growN
    omega
   have hcx:costN l[k]≤65536:=by omega
   generalize l[k]=x at *
   have HDL:=hide (delivered_down w B bb (B+1) B L F (.slice va fl.length vc) fl x wr HE.out HB.out hBw HSt.out hat0.acts hat0.downs hcx hsm.2.2.2.2.2 (by omega))
   have HAG:=hide (fun (L:List (List UInt8)) (F:Fs) (v:Value) (fl:List Fl) (wr:World) (h:StoreA wr B bb (B+1) B L F v fl) (hb:Below w.heap.size w wr)=>h.again (x:=x) HE.out hb hBw hat0.downs hsm.2.2.2.2.2 (by unfold costN at hcx;omega))
   have HAT:=hide hat0
   have HGR:=hide hgr
   have HGK:=hide hgk1
   have HN:=hide hn
   have c0:=hat.c0
   have c1:=hat.c1
   have c2:=hat.c2
   have c3:=hat.c3
   have c4:=hat.c4
   have c5:=hat.c5
   have c6:=hat.c6
   have c7:=hat.c7
   have c8:=hat.c8
   clear hat hat0 hsm hgr hcm hcx hfit hgk hgk1 hn hcc
   unfold stepV at HDL HAG
   go_wp2_with fail
   refine HDL.out.mono ?_
   rintro e w3 ⟨hb3,L3,F3,v3,l3,rfl,hn1,hn2,hS3⟩
   have HB3:=hide hb3
   have HS3:=hide hS3
   have HN3:Hid (3*L3.length≤3+20*growN l (k+1)):=by
    have h1:=HN.out
    have h2:=cost_grow x hn1 hn2
    have h3:=HGR.out
    show 3*L3.length≤_
    omega
   obtain ⟨va',vc',hve'⟩:=hS3.fil.len
   subst hve'
   have hat:=HAT.out.below hb3
   clear hb3 hS3 hn1 hn2 c0 c1 c2 c3 c4 c5 c6 c7 c8
   have c0:=hat.c0
   have c1:=hat.c1
   have c2:=hat.c2
   have c3:=hat.c3
   have c4:=hat.c4
   have c5:=hat.c5
   have c6:=hat.c6
   have c7:=hat.c7
   have c8:=hat.c8
   clear hat
   have hL3:L3.length≤437000:=by have h1:=HN3.out;have h2:=HGK.out;omega
   have HA3:=hide (HAG.out L3 F3 _ l3 w3 HS3.out HB3.out hL3)
   cases hag:x.again with
   | false=>
    rw [hag] at c8 HA3
    go_wp2
    exact ⟨⟨k+1,L3,F3,l3,by omega,by go_num,HS3.out,HN3.out,HB3.out⟩,by simp [intOf];omega⟩
   | true=>
    rw [hag] at c8 HA3
    go_wp2_with fail
    refine HA3.out.mono ?_
    rintro e w4 ⟨hb4,v4,l4,rfl,hS4⟩
    have HB4:=hide hb4
    have HS4:=hide hS4
    obtain ⟨va4,vc4,hve4⟩:=hS4.fil.len
    subst hve4
    clear hb4 hS4 c0 c1 c2 c3 c4 c5 c6 c7 c8
    go_wp2
    exact ⟨⟨k+1,L3,F3,l4,by omega,by go_num,HS4.out,HN3.out,HB4.out⟩,by simp [intOf];omega⟩
end
end Go.Proofs.YtenahlandohgaaaGreatDoor
