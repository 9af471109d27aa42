import Derived.Test.YtgnkjijocdmniaaGreatDoorZLStepP
namespace Go.Proofs.YtgnkjijocdmniaaGreatDoor
set_option linter.unusedVariables false
set_option linter.unusedSimpArgs false
set_option maxRecDepth 100000
set_option maxHeartbeats 4000000
open Go.RowKit
attribute [local go_sem ↓] Go.wp_at_zero Go.wp_at_succ
theorem wld_new (u w':World) (hw:w'=u.alloc (.cells #[.slice none 0 0,.slice none 0 0,.slice none 0 0,.slice none 0 0] 44)):WldG u.heap.size u 0 w':=by
 subst hw
 exact ⟨_,_,[],[],[],⟨blk_new _ _,World.ownsRow_nil _ _ _ _,World.ownsRow_nil _ _ _ _,(fun g h=>by cases h),trivial,trivial,(Below.refl _ _).alloc (Nat.le_refl _) _⟩,(fun y h=>by cases h),Nat.le_refl _⟩
theorem wld_blow {wb:Nat} {u w:World} {N:Nat} (h:WldG wb u N w):Below wb u w∧wb < w.heap.size:=by
 obtain ⟨xv,mv,ys,vs1,vs2,h1,h2,h3⟩:=h
 exact ⟨h1.b,blk_lt h1.nd⟩
theorem lplaysP_any (l:List OpD) (v:Value) (kb:Nat) (w:World) (h:OpsP w v l) (hs:∀ x∈l,OpSm x) (hl:l.length≤1100000000000) (he:Env w) (hk:w.cell? ⟨kb,0,none⟩=some (.int .i64 2)) :
 Calls Tryz.prog 9 #[v,.slice (some ⟨kb,0,none⟩) 1 1] w fun e w'=>e=.returned (.bool true)∧Below w.heap.size w w':=by
 have H:=hide h
 have HS:=hide hs
 have HE:=hide he
 have HSM:=hide (lsmall_any l v w h hs (by omega))
 have hkl:kb < w.heap.size:=cell_lt hk
 obtain ⟨a,c,hv,_⟩:=h
 subst hv
 clear hs he
 go_enter Tryz.func9,Tryz.ntmps9
 go_wp2_with fail
 refine HSM.out.mono ?_
 rintro e u ⟨⟨b,rfl⟩,hB⟩
 have HBU:=hide hB
 have hzu:=hB.size
 have HEU:=hide (HE.out.below hB)
 clear hB
 cases b with
 | false=>
  go_wp2
  go_ret
  exact ⟨rfl,HBU.out⟩
 | true=>
  obtain ⟨W0,hW0⟩:∃ W0,W0=u.alloc (.cells #[.slice none 0 0,.slice none 0 0,.slice none 0 0,.slice none 0 0] 44):=⟨_,rfl⟩
  have HW0:=hide hW0
  have HG0:=hide (wld_new u W0 hW0)
  clear hW0
  obtain ⟨wb,hwb⟩:∃ wb,u.heap.size=wb:=⟨_,rfl⟩
  rw [hwb] at HG0
  have HWB:=hide hwb
  go_upto_block 0 with fail
  rw [← HW0.out]
  clear hwb
  go_cut [] (fun wx=>Below wb u wx)
  case first=>
   go_wp2_with fail
   go_loopg [5,7,8,9,10] l.length (fun m _ iv _ _ _ wr=>∃ k:Nat,m=l.length - k∧k≤l.length∧iv=.int .i64 k∧WldG wb u k wr)
   case atStart=>exact ⟨0,by omega,by omega,rfl,HG0.out⟩
   case round=>
    obtain ⟨k,rfl,hkl',rfl,hG⟩:=hrel
    have HG:=hide hG
    obtain ⟨hbl,hwl⟩:=wld_blow hG
    have HBW:Hid (Below w.heap.size w wr):=by show Below _ _ _;exact HBU.out.trans (hbl.mono (by rw [← HWB.out];exact hzu))
    have kc:wr.cell? ⟨kb,0,none⟩=some (.int .i64 2):=by rw [HBW.out.cell (p:=⟨kb,0,none⟩) hkl];exact hk
    have hkr:kb < wr.heap.size:=Nat.lt_of_lt_of_le hkl HBW.out.size
    clear hG hbl HG0
    by_cases hlt:k < l.length
    ·obtain ⟨a',c',hv,h2⟩:=H.out
     obtain ⟨g,off,ha,hc⟩:=h2 (List.ne_nil_of_length_pos (by omega))
     have ea:a=a':=by injection hv
     subst ea
     subst ha
     have hck:=hc k hlt
     have hsm:=HS.out l[k] (List.getElem_mem hlt)
     obtain ⟨x,hx⟩:∃ x,l[k]=x:=⟨_,rfl⟩
     rw [hx] at hck hsm
     have HSX:=hide hsm
     obtain ⟨p0,p1,p2,p3,p4,p5,p6,p7,p8,hh,hcd⟩:=hck
     have hgl:g < w.heap.size:=cell_lt p0
     have hcc:∀ j,wr.cell? ⟨g,j,none⟩=w.cell? ⟨g,j,none⟩:=fun j=>HBW.out.cell (p:=⟨g,j,none⟩) hgl
     have q0:=(hcc _).trans p0
     have q1:=(hcc _).trans p1
     have q2:=(hcc _).trans p2
     have q3:=(hcc _).trans p3
     have q4:=(hcc _).trans p4
     have q5:=(hcc _).trans p5
     have q6:=(hcc _).trans p6
     have q7:=(hcc _).trans p7
     have q8:=(hcc _).trans p8
     have hl1:(k:Int) < (l.length:Int):=by omega
     have hgr:g < wr.heap.size:=Nat.lt_of_lt_of_le hgl HBW.out.size
     obtain ⟨ca,cc,hcv,_⟩:=hcd
     obtain ⟨va,vc,hhv,_⟩:=hh
     have HOV:Hid (opV x=.agg #[.int .i64 x.kind,.int .i64 x.a,.int .i64 x.b,.string (strA x.s),.string (strA x.fr),.string (strA x.tt),.int .i64 x.sz,.slice va x.hs.length vc,.slice ca x.code.length cc]):=by show _=_;unfold opV;rw [hhv,hcv]
     have HF1:Hid (∃ a n c,x.hv=.slice a n c):=⟨_,_,_,hhv⟩
     have HF2:Hid (∃ a n c,x.cv=.slice a n c):=⟨_,_,_,hcv⟩
     rw [hcv] at q8
     rw [hhv] at q7
     obtain ⟨W1,hW1⟩:∃ W1,W1=wr.alloc (.cells #[.int .i64 x.kind,.int .i64 x.a,.int .i64 x.b,.string (strA x.s),.string (strA x.fr),.string (strA x.tt),.int .i64 x.sz,.slice va x.hs.length vc,.slice ca x.code.length cc] 47):=⟨_,rfl⟩
     have HW1:=hide hW1
     have HB1:Hid (Below wr.heap.size wr W1):=by show Below _ _ _;rw [hW1];exact (Below.refl _ _).alloc (Nat.le_refl _) _
     have HN1:Hid (W1.heap[wr.heap.size]?=some (.cells #[.int .i64 x.kind,.int .i64 x.a,.int .i64 x.b,.string (strA x.s),.string (strA x.fr),.string (strA x.tt),.int .i64 x.sz,.slice va x.hs.length vc,.slice ca x.code.length cc] 47)):=by show _=_;rw [hW1];exact blk_new _ _
     have HSTP:Hid (∀ W,Below wr.heap.size wr W→(x.kind=1∨x.kind=2∨x.kind=6∨x.kind=7)→Calls Tryz.prog 16 #[.pointer (some ⟨wb,0,none⟩),.agg #[.int .i64 x.kind,.int .i64 x.a,.int .i64 x.b,.string (strA x.s),.string (strA x.fr),.string (strA x.tt),.int .i64 x.sz,.slice va x.hs.length vc,.slice ca x.code.length cc]] W fun e w'=>e=.returned (.bool true)∧WldG wb u (k+1) w'):=by
      intro W hW hkk
      rw [← HOV.out]
      exact lstepP_any wb u W k x (HG.out.below hW) HEU.out HWB.out (by omega) HSX.out HF1.out HF2.out hkk
     obtain ⟨K,hK⟩:∃ K,x.kind=K:=⟨_,rfl⟩
     rw [hK] at q0 HN1 HW1 HSTP
     obtain ⟨ob,hob⟩:∃ ob,wr.heap.size=ob:=⟨_,rfl⟩
     rw [hob] at HN1
     have HOB:=hide hob
     clear p0 p1 p2 p3 p4 p5 p6 p7 p8 hcc hc h2 hv hx hsm hW1 hcv hhv HOV hK hob
     have d0:W1.cell? ⟨ob,0,none⟩=some (.int .i64 K):=blk_cell HN1.out 0
     have d1:W1.cell? ⟨ob,1,none⟩=some (.int .i64 x.a):=blk_cell HN1.out 1
     have d2:W1.cell? ⟨ob,2,none⟩=some (.int .i64 x.b):=blk_cell HN1.out 2
     have d3:W1.cell? ⟨ob,3,none⟩=some (.string (strA x.s)):=blk_cell HN1.out 3
     have d4:W1.cell? ⟨ob,4,none⟩=some (.string (strA x.fr)):=blk_cell HN1.out 4
     have d5:W1.cell? ⟨ob,5,none⟩=some (.string (strA x.tt)):=blk_cell HN1.out 5
     have d6:W1.cell? ⟨ob,6,none⟩=some (.int .i64 x.sz):=blk_cell HN1.out 6
     have d7:W1.cell? ⟨ob,7,none⟩=some (.slice va x.hs.length vc):=blk_cell HN1.out 7
     have d8:W1.cell? ⟨ob,8,none⟩=some (.slice ca x.code.length cc):=blk_cell HN1.out 8
     have dk:W1.cell? ⟨kb,0,none⟩=some (.int .i64 2):=by rw [HB1.out.cell (p:=⟨kb,0,none⟩) hkr];exact kc
     obtain ⟨inn,hin⟩:∃ inn,decide (K=1∨K=2∨K=6∨K=7)=inn:=⟨_,rfl⟩
     have HIN:=hide hin
     have hcs:K=1∨K=6∨K=7∨((K == 1)=false∧(K == 6)=false∧(K == 7)=false∧(K == 2)=inn):=by
      by_cases h1:K=1
      ·exact Or.inl h1
      ·by_cases h6:K=6
       ·exact Or.inr (Or.inl h6)
       ·by_cases h7:K=7
        ·exact Or.inr (Or.inr (Or.inl h7))
        ·refine Or.inr (Or.inr (Or.inr ⟨by simpa using h1,by simpa using h6,by simpa using h7,?_⟩))
         rw [← hin]
         by_cases h2:K=2
         ·rw [h2];decide
         ·have:¬ (K=1∨K=2∨K=6∨K=7):=fun h=>by rcases h with h | h | h | h;exact h1 h;exact h2 h;exact h6 h;exact h7 h
          rw [decide_eq_false this]
          simpa using h2
     clear hin
     go_upto_region 9 with fail
     rw [← HW1.out,HOB.out]
     clear q0 q1 q2 q3 q4 q5 q6 q7 q8 kc
     have hob1:ob < W1.heap.size:=blk_lt HN1.out
     have HKI:Hid ((K=1∨K=6∨K=7)→inn=true):=by
      intro h
      rw [← HIN.out]
      exact decide_eq_true (by rcases h with h | h | h <;> simp [h])
     rcases hcs with rfl | rfl | rfl | ⟨k1,k6,k7,k2⟩
     all_goals
      go_upto_block 2 with fail
      go_cut [9] (fun bv wx=>bv=.bool inn∧Below wr.heap.size wr wx∧wx.heap[ob]?=W1.heap[ob]?)
      case first=>
       go_wp2_with fail
       refine wp_loop_rounds 2 ?_
       rw [rounds_succ]
       go_wp2_with fail
       go_quiet (fail)
       go_wp2_with fail
       rw [rounds_succ]
       go_wp2
       go_meet
       first
        | exact ⟨congrArg Value.bool (HKI.out (by simp)).symm,⟨HB1.out.os,HB1.out.tape,HB1.out.output,HB1.out.size,HB1.out.block⟩,rfl⟩
        | exact ⟨rfl,⟨HB1.out.os,HB1.out.tape,HB1.out.output,HB1.out.size,HB1.out.block⟩,rfl⟩
      case rest=>
       obtain ⟨rfl,hb2,hn2⟩:=hcut
       have hnd2:=hn2.trans HN1.out
       have HB2:=hide hb2
       clear d0 d1 d2 d3 d4 d5 d6 d7 d8 dk hb2 hn2
       have d0:=blk_cell hnd2 0
       have d1:=blk_cell hnd2 1
       have d2:=blk_cell hnd2 2
       have d3:=blk_cell hnd2 3
       have d4:=blk_cell hnd2 4
       have d5:=blk_cell hnd2 5
       have d6:=blk_cell hnd2 6
       have d7:=blk_cell hnd2 7
       have d8:=blk_cell hnd2 8
       have HIQ:Hid (inn=true→_):=fun h=>of_decide_eq_true (HIN.out.trans h)
       cases inn with
       | false=>
        go_wp2
        go_roundg (l.length - (k+1))
        case measure=>omega
        case rel=>exact ⟨k+1,rfl,by omega,by go_num,(HG.out.below HB2.out).more (Nat.le_succ k)⟩
       | true=>
        go_wp2_with fail
        refine (HSTP.out _ HB2.out (by first | exact HIQ.out rfl | exact HIQ.out trivial)).mono ?_
        rintro e w3 ⟨rfl,hg3⟩
        have HG3:=hide hg3
        have HLK:Hid (Calls Tryz.prog 17 #[.pointer (some ⟨wb,0,none⟩)] w3 fun e w'=>e=.returned (.bool true)∧w'=w3):=by obtain ⟨xv,mv,ys,vs1,vs2,h1,_⟩:=hg3;exact llooks_any wb xv mv w3 h1.nd
        clear hg3
        go_wp2_with fail
        refine HLK.out.mono ?_
        rintro e w4 ⟨rfl,rfl⟩
        go_wp2
        go_roundg (l.length - (k+1))
        case measure=>omega
        case rel=>exact ⟨k+1,rfl,by omega,by go_num,HG3.out⟩
    ·have hl1:¬ (k:Int) < (l.length:Int):=by omega
     go_wp2
     go_meet
     exact (wld_blow HG.out).1
  case rest=>
   have hb:=hcut
   have HBC:=hide hb
   clear hb hcut
   go_wp2
   go_ret
   exact ⟨rfl,HBU.out.trans (HBC.out.mono (by rw [← HWB.out];exact hzu))⟩
theorem OpsP.below {w w':World} {v:Value} {l:List OpD} (h:OpsP w v l) (hb:Below w.heap.size w w'):OpsP w' v l:=by
 obtain ⟨a,c,hv,h⟩:=h
 refine ⟨a,c,hv,fun hne=>?_⟩
 obtain ⟨g,off,ha,h⟩:=h hne
 exact ⟨g,off,ha,fun j hj=>(h j hj).below hb⟩
theorem lparsed_all (l:List OpD) (v:Value) (w:World) (he:Env w) (h:OpsP w v l) (hs:∀ x∈l,OpSm x) (hl:l.length≤1100000000000) :
 Calls Tryz.prog 3 #[v] w fun e w'=>e=.returned (.bool true)∧Below w.heap.size w w':=by
 obtain ⟨W0,hW0⟩:∃ W0,W0=w.alloc (.cells #[.int .i64 2] 3):=⟨_,rfl⟩
 have HW0:=hide hW0
 have HB0:Hid (Below w.heap.size w W0):=by show Below _ _ _;rw [hW0];exact (Below.refl _ _).alloc (Nat.le_refl _) _
 have HC0:Hid (W0.cell? ⟨w.heap.size,0,none⟩=some (.int .i64 2)):=by show _=_;rw [hW0];exact blk_cell (blk_new _ _) 0
 have HP:=hide (lplaysP_any l v w.heap.size W0 (h.below HB0.out) hs hl (he.below HB0.out) HC0.out)
 have hz:=HB0.out.size
 obtain ⟨a,c,hv,_⟩:=h
 subst hv
 clear hW0 he hs
 go_enter Tryz.func3,Tryz.ntmps3
 go_wp2_with fail
 rw [← HW0.out]
 refine HP.out.mono ?_
 rintro e w1 ⟨rfl,hB⟩
 have HB:=hide (HB0.out.trans (hB.mono hz))
 clear hB
 go_wp2
 go_ret
 exact ⟨rfl,HB.out⟩
end Go.Proofs.YtgnkjijocdmniaaGreatDoor
