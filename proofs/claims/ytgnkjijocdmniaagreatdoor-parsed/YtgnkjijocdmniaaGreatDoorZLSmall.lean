import Derived.Lib.SmallJoins
import Derived.Deep.Slices
import Derived.Carry
import Derived.SizedLaws
import Derived.Test.YtgnkjijocdmniaaGreatDoorQParse
namespace Go.Proofs.YtgnkjijocdmniaaGreatDoor
set_option linter.unusedVariables false
set_option linter.unusedSimpArgs false
set_option maxRecDepth 100000
set_option maxHeartbeats 4000000
section
open Go.RowKit
attribute [local go_sem ↓] Go.wp_at_zero Go.wp_at_succ
def TxsP (w:World) (v:Value) (xs:List (List UInt8)):Prop:=∃ a c,v=.slice a xs.length c∧(xs≠[]→∃ g off,a=some ⟨g,off,none⟩∧∀ j (hj:j < xs.length),w.cell? ⟨g,off+j,none⟩=some (.string (strA xs[j])))
def HdrP (w:World) (v:Value) (hs:List (List UInt8×List UInt8)):Prop:=∃ a c,v=.slice a hs.length c∧(hs≠[]→∃ g off,a=some ⟨g,off,none⟩∧∀ j (hj:j < hs.length),w.cell? ⟨g,off+j*2,none⟩=some (.string (strA hs[j].1))∧w.cell? ⟨g,off+j*2+1,none⟩=some (.string (strA hs[j].2)))
structure InsD where
 op:Int
 n:Int
 tag:Int
 oct:Bool
 av:Value
 bv:Value
 as':List (List UInt8)
 bs:List (List UInt8)
 pos:Int
def InsAt (w:World) (g o:Nat) (x:InsD):Prop:=
 w.cell? ⟨g,o,none⟩=some (.int .i64 x.op)∧w.cell? ⟨g,o+1,none⟩=some (.int .i64 x.n)∧w.cell? ⟨g,o+2,none⟩=some (.int .i64 x.tag)∧w.cell? ⟨g,o+3,none⟩=some (.bool x.oct)∧w.cell? ⟨g,o+4,none⟩=some x.av∧w.cell? ⟨g,o+5,none⟩=some x.bv∧w.cell? ⟨g,o+6,none⟩=some (.int .i64 x.pos)∧TxsP w x.av x.as'∧TxsP w x.bv x.bs
def CodP (w:World) (v:Value) (l:List InsD):Prop:=∃ a c,v=.slice a l.length c∧(l≠[]→∃ g off,a=some ⟨g,off,none⟩∧∀ j (hj:j < l.length),InsAt w g (off+j*7) l[j])
structure OpD where
 kind:Int
 a:Int
 b:Int
 s:List UInt8
 fr:List UInt8
 tt:List UInt8
 sz:Int
 hv:Value
 hs:List (List UInt8×List UInt8)
 cv:Value
 code:List InsD
def OpAt (w:World) (g o:Nat) (x:OpD):Prop:=
 w.cell? ⟨g,o,none⟩=some (.int .i64 x.kind)∧w.cell? ⟨g,o+1,none⟩=some (.int .i64 x.a)∧w.cell? ⟨g,o+2,none⟩=some (.int .i64 x.b)∧w.cell? ⟨g,o+3,none⟩=some (.string (strA x.s))∧w.cell? ⟨g,o+4,none⟩=some (.string (strA x.fr))∧w.cell? ⟨g,o+5,none⟩=some (.string (strA x.tt))∧w.cell? ⟨g,o+6,none⟩=some (.int .i64 x.sz)∧w.cell? ⟨g,o+7,none⟩=some x.hv∧w.cell? ⟨g,o+8,none⟩=some x.cv∧HdrP w x.hv x.hs∧CodP w x.cv x.code
def OpsP (w:World) (v:Value) (l:List OpD):Prop:=∃ a c,v=.slice a l.length c∧(l≠[]→∃ g off,a=some ⟨g,off,none⟩∧∀ j (hj:j < l.length),OpAt w g (off+j*9) l[j])
structure OpSm (x:OpD):Prop where
 a:-9223372036854775808≤x.a∧x.a≤9223372036854775807
 s:x.s.length≤140737488355328
 fr:x.fr.length≤140737488355328
 tt:x.tt.length≤140737488355328
 hl:x.hs.length≤140737488355328
 hd:∀ h∈x.hs,h.1.length≤140737488355328∧h.2.length≤140737488355328
 cl:x.code.length≤140737488355328
 cd:∀ i∈x.code,(i.as'.length≤140737488355328∧∀ t∈i.as',t.length≤140737488355328)∧(i.bs.length≤140737488355328∧∀ t∈i.bs,t.length≤140737488355328)
theorem TxsP.below {w w':World} {v:Value} {xs:List (List UInt8)} (h:TxsP w v xs) (hb:Below w.heap.size w w'):TxsP w' v xs:=by
 obtain ⟨a,c,hv,h⟩:=h
 refine ⟨a,c,hv,fun hne=>?_⟩
 obtain ⟨g,off,ha,h⟩:=h hne
 exact ⟨g,off,ha,fun j hj=>by rw [hb.cell (p:=⟨g,off+j,none⟩) (cell_lt (h j hj))];exact h j hj⟩
theorem TxsP.len {w:World} {v:Value} {xs:List (List UInt8)} (h:TxsP w v xs):∃ a c,v=.slice a xs.length c:=by
 obtain ⟨a,c,hv,_⟩:=h;exact ⟨a,c,hv⟩
theorem ltexts_any (v:Value) (xs:List (List UInt8)) (w:World) (h:TxsP w v xs) (hl:xs.length≤140737488355328) (hx:∀ t∈xs,t.length≤140737488355328) :
 Calls Tryz.prog 23 #[v] w fun e w'=>(∃ n:Nat,e=.returned (.int .i64 n)∧n≤300000000000000)∧Below w.heap.size w w':=by
 have H:=hide h
 have HX:=hide hx
 obtain ⟨a,c,rfl⟩:=h.len
 clear h hx
 go_enter Tryz.func23,Tryz.ntmps23
 go_wp2
 go_loopw [3,4] (fun nv i wr=>∃ (k n:Nat),k≤xs.length∧i=.int .i64 k∧nv=.int .i64 n∧n≤300000000000000∧Below w.heap.size w wr) (fun _ i _=>xs.length - (intOf i).toNat)
 case atStart=>exact ⟨0,xs.length,by omega,rfl,rfl,by omega,Below.refl _ _⟩
 case round=>
  obtain ⟨k,n,hk,rfl,rfl,hn,hB⟩:=hrel
  have HB:=hide hB
  clear hB
  by_cases hlt:k < xs.length
  ·by_cases hnl:n≤65536
   ·obtain ⟨a',c',hv,h2⟩:=H.out
    obtain ⟨g,off,ha,hc⟩:=h2 (List.ne_nil_of_length_pos (by omega))
    have ea:a=a':=by injection hv
    subst ea
    subst ha
    have hck:=hc k hlt
    have ck:wr.cell? ⟨g,off+k,none⟩=some (.string (strA xs[k])):=by rw [HB.out.cell (p:=⟨g,off+k,none⟩) (cell_lt hck)];exact hck
    have hxl:=HX.out xs[k] (List.getElem_mem hlt)
    obtain ⟨x,hx⟩:∃ x,xs[k]=x:=⟨_,rfl⟩
    rw [hx] at ck hxl
    have hz:=strA_size x
    have hl1:(k:Int) < (xs.length:Int):=by omega
    have hl2:(n:Int)≤65536:=by omega
    clear hck hc h2 hv hx
    go_wp2
    exact ⟨⟨k+1,n+x.length,by omega,by go_num,by go_num,by omega,HB.out⟩,by simp [intOf];omega⟩
   ·have hl1:(k:Int) < (xs.length:Int):=by omega
    have hl2:¬ (n:Int)≤65536:=by omega
    go_wp2
    go_ret
    exact ⟨⟨n,rfl,hn⟩,HB.out⟩
  ·have hl1:¬ (k:Int) < (xs.length:Int):=by omega
   go_wp2
   go_ret
   exact ⟨⟨n,rfl,hn⟩,HB.out⟩
def mesV (fr tt:List UInt8) (sz:Int) (hv:Value):Value:=.agg #[.string (strA fr),.string (strA tt),.int .i64 sz,hv]
theorem lsize_any (fr tt:List UInt8) (sz:Int) (hv:Value) (hs:List (List UInt8×List UInt8)) (w:World) (h:HdrP w hv hs) (h1:fr.length≤140737488355328) (h2:tt.length≤140737488355328) (h3:hs.length≤140737488355328) (h4:∀ h∈hs,h.1.length≤140737488355328∧h.2.length≤140737488355328) :
 Calls Tryz.prog 22 #[mesV fr tt sz hv] w fun e w'=>(∃ n:Nat,e=.returned (.int .i64 n)∧n≤300000000000000)∧Below w.heap.size w w':=by
 have H:=hide h
 have H4:=hide h4
 obtain ⟨a,c,hv',_⟩:=h
 subst hv'
 have z1:=strA_size fr
 have z2:=strA_size tt
 clear h4
 unfold mesV
 obtain ⟨W0,hW0⟩:∃ W0,W0=w.alloc (.cells #[.string (strA fr),.string (strA tt),.int .i64 sz,.slice a hs.length c] 28):=⟨_,rfl⟩
 have HB0:Hid (Below w.heap.size w W0):=by show Below _ _ _;rw [hW0];exact (Below.refl _ _).alloc (Nat.le_refl _) _
 have HM0:Hid (W0.heap[w.heap.size]?=some (.cells #[.string (strA fr),.string (strA tt),.int .i64 sz,.slice a hs.length c] 28)):=by show _=_;rw [hW0];exact blk_new _ _
 have HWW:=hide hW0
 clear hW0
 go_enter Tryz.func22,Tryz.ntmps22
 go_wp2_with fail
 rw [← HWW.out]
 go_loopw [3,4] (fun nv i wr=>∃ (k n:Nat),k≤hs.length∧i=.int .i64 (k:Int)∧nv=.int .i64 (n:Int)∧n≤300000000000000∧Below w.heap.size w wr∧wr.heap[w.heap.size]?=some (.cells #[.string (strA fr),.string (strA tt),.int .i64 sz,.slice a hs.length c] 28)) (fun _ i _=>hs.length - (intOf i).toNat)
 case atStart=>exact ⟨0,fr.length+tt.length,Nat.zero_le _,by go_num,(by first | rfl | congr 1),by omega,HB0.out,HM0.out⟩
 case round=>
  obtain ⟨k,n,hk,rfl,rfl,hn,hB,hM⟩:=hrel
  have HBB:=hide hB
  have HMM:=hide hM
  have hwl:=blk_lt hM
  have c3:wr.cell? ⟨w.heap.size,3,none⟩=some (.slice a hs.length c):=blk_cell hM 3
  clear hB hM
  by_cases hlt:k < hs.length
  ·have hlt':(k:Int) < (hs.length:Int):=by omega
   by_cases hle:n≤65536
   ·have hle':(n:Int)≤65536:=by omega
    obtain ⟨a',c',hv,hcs⟩:=H.out
    injection hv with hv1 hv2 hv3
    subst hv1
    obtain ⟨g,off,hga,hcc⟩:=hcs (List.ne_nil_of_length_pos (by omega))
    subst hga
    obtain ⟨hc1,hc2⟩:=hcc k hlt
    have hgl:g < w.heap.size:=cell_lt hc1
    have d1:wr.cell? ⟨g,off+k*2,none⟩=some (.string (strA hs[k].1)):=by rw [HBB.out.cell (p:=⟨g,off+k*2,none⟩) hgl];exact hc1
    have d2:wr.cell? ⟨g,off+k*2+1,none⟩=some (.string (strA hs[k].2)):=by rw [HBB.out.cell (p:=⟨g,off+k*2+1,none⟩) hgl];exact hc2
    have hbk:=H4.out _ (List.getElem_mem hlt)
    obtain ⟨x,hx⟩:∃ x,hs[k]=x:=⟨_,rfl⟩
    rw [hx] at d1 d2 hbk
    have hs3:=strA_size x.1
    have hs4:=strA_size x.2
    obtain ⟨hk1,hk2⟩:=hbk
    clear hc1 hc2 hx hv3 hcs hcc
    go_wp2_with fail
    go_quiet (fail)
    all_goals go_wp2
    go_roundw
    case rel=>exact ⟨k+1,n+1+x.1.length+x.2.length,by omega,by go_num,by go_num,by omega,⟨HBB.out.os,HBB.out.tape,HBB.out.output,HBB.out.size,HBB.out.block⟩,HMM.out⟩
    case measure=>simp [intOf];omega
   ·have hle':¬ (n:Int)≤65536:=by omega
    go_wp2
    go_ret
    exact ⟨⟨n,rfl,hn⟩,HBB.out⟩
  ·have hlt':¬ (k:Int) < (hs.length:Int):=by omega
   go_wp2
   go_ret
   exact ⟨⟨n,rfl,hn⟩,HBB.out⟩
end
section
open Go.RowKit
attribute [local go_sem ↓] Go.wp_at_zero Go.wp_at_succ
theorem HdrP.below {w w':World} {v:Value} {hs:List (List UInt8×List UInt8)} (h:HdrP w v hs) (hb:Below w.heap.size w w'):HdrP w' v hs:=by
 obtain ⟨a,c,hv,h⟩:=h
 refine ⟨a,c,hv,fun hne=>?_⟩
 obtain ⟨g,off,ha,h⟩:=h hne
 exact ⟨g,off,ha,fun j hj=>⟨by rw [hb.cell (p:=⟨g,off+j*2,none⟩) (cell_lt (h j hj).1)];exact (h j hj).1,by rw [hb.cell (p:=⟨g,off+j*2+1,none⟩) (cell_lt (h j hj).2)];exact (h j hj).2⟩⟩
theorem InsAt.below {w w':World} {g o:Nat} {x:InsD} (h:InsAt w g o x) (hb:Below w.heap.size w w'):InsAt w' g o x:=by
 obtain ⟨h0,h1,h2,h3,h4,h5,h6,h7,h8⟩:=h
 have hg:g < w.heap.size:=cell_lt h0
 have hc:∀ j,w'.cell? ⟨g,j,none⟩=w.cell? ⟨g,j,none⟩:=fun j=>hb.cell (p:=⟨g,j,none⟩) hg
 exact ⟨by rw [hc];exact h0,by rw [hc];exact h1,by rw [hc];exact h2,by rw [hc];exact h3,by rw [hc];exact h4,by rw [hc];exact h5,by rw [hc];exact h6,h7.below hb,h8.below hb⟩
theorem CodP.below {w w':World} {v:Value} {l:List InsD} (h:CodP w v l) (hb:Below w.heap.size w w'):CodP w' v l:=by
 obtain ⟨a,c,hv,h⟩:=h
 refine ⟨a,c,hv,fun hne=>?_⟩
 obtain ⟨g,off,ha,h⟩:=h hne
 exact ⟨g,off,ha,fun j hj=>(h j hj).below hb⟩
theorem OpAt.below {w w':World} {g o:Nat} {x:OpD} (h:OpAt w g o x) (hb:Below w.heap.size w w'):OpAt w' g o x:=by
 obtain ⟨h0,h1,h2,h3,h4,h5,h6,h7,h8,h9,h10⟩:=h
 have hg:g < w.heap.size:=cell_lt h0
 have hc:∀ j,w'.cell? ⟨g,j,none⟩=w.cell? ⟨g,j,none⟩:=fun j=>hb.cell (p:=⟨g,j,none⟩) hg
 exact ⟨by rw [hc];exact h0,by rw [hc];exact h1,by rw [hc];exact h2,by rw [hc];exact h3,by rw [hc];exact h4,by rw [hc];exact h5,by rw [hc];exact h6,by rw [hc];exact h7,by rw [hc];exact h8,h9.below hb,h10.below hb⟩
theorem lsmall_any (l:List OpD) (v:Value) (w:World) (h:OpsP w v l) (hs:∀ x∈l,OpSm x) (hl:l.length≤140737488355328) :
 Calls Tryz.prog 15 #[v] w fun e w'=>(∃ b:Bool,e=.returned (.bool b))∧Below w.heap.size w w':=by
 have H:=hide h
 have HS:=hide hs
 obtain ⟨a,c,hv,_⟩:=h
 subst hv
 clear hs
 go_enter Tryz.func15,Tryz.ntmps15
 go_upto_block 0 with fail
 go_cut [3] (fun nv wx=>∃ n:Nat,nv=.int .i64 n∧n≤1000000000000000∧Below w.heap.size w wx)
 case first=>
  go_wp2_with fail
  go_loopg [3,4,5,6,7,8,9] l.length (fun m nv iv _ _ _ _ _ wr=>∃ k n:Nat,m=l.length - k∧k≤l.length∧iv=.int .i64 k∧nv=.int .i64 n∧n≤1000000000000000∧Below w.heap.size w wr)
  case atStart=>exact ⟨0,l.length,by omega,by omega,rfl,rfl,by omega,Below.refl _ _⟩
  case round=>
   obtain ⟨k,n,rfl,hk,rfl,rfl,hn,hB⟩:=hrel
   have HB:=hide hB
   clear hB
   by_cases hlt:k < l.length
   ·by_cases hnl:n≤65536
    ·obtain ⟨a',c',hv,h2⟩:=H.out
     obtain ⟨g,off,ha,hc⟩:=h2 (List.ne_nil_of_length_pos (by omega))
     have ea:a=a':=by injection hv
     subst ea
     subst ha
     have hck:=hc k hlt
     have hsm:=HS.out l[k] (List.getElem_mem hlt)
     obtain ⟨x,hx⟩:∃ x,l[k]=x:=⟨_,rfl⟩
     rw [hx] at hck hsm
     have HAT:=hide hck
     obtain ⟨p0,p1,p2,p3,p4,p5,p6,p7,p8,hh,hcd⟩:=hck
     have hgl:g < w.heap.size:=cell_lt p0
     have hcc:∀ j,wr.cell? ⟨g,j,none⟩=w.cell? ⟨g,j,none⟩:=fun j=>HB.out.cell (p:=⟨g,j,none⟩) hgl
     have q0:=(hcc _).trans p0
     have q1:=(hcc _).trans p1
     have q2:=(hcc _).trans p2
     have q3:=(hcc _).trans p3
     have q4:=(hcc _).trans p4
     have q5:=(hcc _).trans p5
     have q6:=(hcc _).trans p6
     have q7:=(hcc _).trans p7
     have q8:=(hcc _).trans p8
     have hl1:(k:Int) < (l.length:Int):=by omega
     have hl2:(n:Int)≤65536:=by omega
     have hz:=strA_size x.s
     have HSM:=hide hsm
     have hsl:=hsm.s
     have hcl:=hsm.cl
     have hgr:g < wr.heap.size:=Nat.lt_of_lt_of_le hgl HB.out.size
     obtain ⟨ca,cc,hcv,_⟩:=hcd
     obtain ⟨hva,hvc,hhv,_⟩:=hh
     rw [hcv] at q8
     rw [hhv] at q7
     clear p0 p1 p2 p3 p4 p5 p6 p7 p8 hcc hc h2 hv hx hsm
     obtain ⟨W1,hW1⟩:∃ W1,W1=wr.alloc (.cells #[.int .i64 x.kind,.int .i64 x.a,.int .i64 x.b,.string (strA x.s),.string (strA x.fr),.string (strA x.tt),.int .i64 x.sz,.slice hva x.hs.length hvc,.slice ca x.code.length cc] 47):=⟨_,rfl⟩
     have HW1:=hide hW1
     have HB1:Hid (Below w.heap.size w W1):=by show Below _ _ _;rw [hW1];exact HB.out.alloc HB.out.size _
     have HN1:Hid (W1.heap[wr.heap.size]?=some (.cells #[.int .i64 x.kind,.int .i64 x.a,.int .i64 x.b,.string (strA x.s),.string (strA x.fr),.string (strA x.tt),.int .i64 x.sz,.slice hva x.hs.length hvc,.slice ca x.code.length cc] 47)):=by show _=_;rw [hW1];exact blk_new _ _
     have HHD:Hid (HdrP w (.slice hva x.hs.length hvc) x.hs):=by rw [← hhv];exact HAT.out.2.2.2.2.2.2.2.2.2.1
     have HCD:Hid (CodP w (.slice ca x.code.length cc) x.code):=by rw [← hcv];exact HAT.out.2.2.2.2.2.2.2.2.2.2
     clear hW1 hhv hcv
     go_wp2_with fail
     rw [← HW1.out]
     refine (lsize_any x.fr x.tt x.sz _ x.hs W1 (HHD.out.below HB1.out) HSM.out.fr HSM.out.tt HSM.out.hl HSM.out.hd).mono ?_
     rintro e w2 ⟨⟨sn,rfl,hsn⟩,hB2⟩
     have HB2:=hide (HB1.out.trans (hB2.mono HB1.out.size))
     have HN2:=hide (blk_below HN1.out hB2)
     have r3:w2.cell? ⟨wr.heap.size,3,none⟩=some (.string (strA x.s)):=blk_cell HN2.out 3
     have r8:w2.cell? ⟨wr.heap.size,8,none⟩=some (.slice ca x.code.length cc):=blk_cell HN2.out 8
     clear hB2 q0 q1 q2 q3 q4 q5 q6 q7 q8
     obtain ⟨ob,hob⟩:∃ ob,wr.heap.size=ob:=⟨_,rfl⟩
     rw [hob] at HN2 r3 r8
     go_upto_block 2 with fail
     have HOB:=hide hob
     clear hob
     go_wp2_with fail
     go_loopg [3,7,8,9] x.code.length (fun m nv jv _ _ wy=>∃ j n:Nat,m=x.code.length - j∧j≤x.code.length∧jv=.int .i64 j∧nv=.int .i64 n∧n≤1000000000000000∧Below w.heap.size w wy∧wy.heap[ob]?=some (.cells #[.int .i64 x.kind,.int .i64 x.a,.int .i64 x.b,.string (strA x.s),.string (strA x.fr),.string (strA x.tt),.int .i64 x.sz,.slice hva x.hs.length hvc,.slice ca x.code.length cc] 47))
     case atStart=>exact ⟨0,n+x.s.length+x.code.length+sn,by omega,by omega,rfl,by go_num,by omega,HB2.out,HN2.out⟩
     case round=>
      obtain ⟨j,n',rfl,hj,rfl,rfl,hn',hB,hN⟩:=hrel
      have HBJ:=hide hB
      have HNJ:=hide hN
      have s8:wr.cell? ⟨ob,8,none⟩=some (.slice ca x.code.length cc):=blk_cell hN 8
      clear hB hN
      by_cases hjl:j < x.code.length
      ·by_cases hnl':n'≤65536
       ·obtain ⟨a',c',hv,h2⟩:=HCD.out
        obtain ⟨g3,off3,ha,hc⟩:=h2 (List.ne_nil_of_length_pos (by omega))
        have ea:ca=a':=by injection hv
        subst ea
        subst ha
        have hck:=hc j hjl
        have hsm:=HSM.out.cd x.code[j] (List.getElem_mem hjl)
        obtain ⟨y,hy⟩:∃ y,x.code[j]=y:=⟨_,rfl⟩
        rw [hy] at hck hsm
        have HCK:=hide hck
        obtain ⟨t0,t1,t2,t3,t4,t5,t6,t7,t8⟩:=hck
        have hg3:g3 < w.heap.size:=cell_lt t0
        have hg3r:g3 < wr.heap.size:=Nat.lt_of_lt_of_le hg3 HBJ.out.size
        obtain ⟨va,vc,hva'⟩:=t7.len
        obtain ⟨vb,vd,hvb'⟩:=t8.len
        have m4:wr.cell? ⟨g3,off3+j*7+4,none⟩=some (.slice va y.as'.length vc):=by rw [HBJ.out.cell (p:=⟨g3,off3+j*7+4,none⟩) hg3,← hva'];exact t4
        have HTA:Hid (TxsP w (.slice va y.as'.length vc) y.as'):=by rw [← hva'];exact t7
        have HTB:Hid (TxsP w (.slice vb y.bs.length vd) y.bs):=by rw [← hvb'];exact t8
        have w5:w.cell? ⟨g3,off3+j*7+5,none⟩=some (.slice vb y.bs.length vd):=by rw [← hvb'];exact t5
        have HLM:=hide hsm
        have hl1:(j:Int) < (x.code.length:Int):=by omega
        have hl2:(n':Int)≤65536:=by omega
        clear t0 t1 t2 t3 t4 t5 t6 t7 t8 hva' hvb' hc h2 hv hy hsm
        go_wp2_with fail
        refine (ltexts_any _ y.as' wr (HTA.out.below HBJ.out) HLM.out.1.1 HLM.out.1.2).mono ?_
        rintro e w4 ⟨⟨an,rfl,han⟩,hB4⟩
        have HB4:=hide (HBJ.out.trans (hB4.mono HBJ.out.size))
        have HN4:=hide (blk_below HNJ.out hB4)
        have u8':w4.cell? ⟨ob,8,none⟩=some (.slice (some ⟨g3,off3,none⟩) x.code.length cc):=blk_cell HN4.out 8
        have m5:w4.cell? ⟨g3,off3+j*7+5,none⟩=some (.slice vb y.bs.length vd):=by rw [HB4.out.cell (p:=⟨g3,off3+j*7+5,none⟩) hg3];exact w5
        clear hB4
        go_wp2_with fail
        refine (ltexts_any _ y.bs w4 (HTB.out.below HB4.out) HLM.out.2.1 HLM.out.2.2).mono ?_
        rintro e w6 ⟨⟨bn,rfl,hbn⟩,hB6⟩
        have HB6:=hide (HB4.out.trans (hB6.mono HB4.out.size))
        have HN6:=hide (blk_below HN4.out hB6)
        clear hB6
        go_wp2
        go_roundg (x.code.length - (j+1))
        case measure=>omega
        case rel=>exact ⟨j+1,n'+an+bn,rfl,by omega,by go_num,by go_num,by omega,HB6.out,HN6.out⟩
       ·have hl1:(j:Int) < (x.code.length:Int):=by omega
        have hl2:¬ (n':Int)≤65536:=by omega
        go_wp2
        go_roundg (l.length - (k+1))
        case measure=>omega
        case rel=>exact ⟨k+1,n',rfl,by omega,by go_num,rfl,hn',HBJ.out⟩
      ·have hl1:¬ (j:Int) < (x.code.length:Int):=by omega
       go_wp2
       go_roundg (l.length - (k+1))
       case measure=>omega
       case rel=>exact ⟨k+1,n',rfl,by omega,by go_num,rfl,hn',HBJ.out⟩
    ·have hl1:(k:Int) < (l.length:Int):=by omega
     have hl2:¬ (n:Int)≤65536:=by omega
     go_wp2
     go_meet
     exact ⟨n,rfl,hn,HB.out⟩
   ·have hl1:¬ (k:Int) < (l.length:Int):=by omega
    go_wp2
    go_meet
    exact ⟨n,rfl,hn,HB.out⟩
 case rest=>
  obtain ⟨n,rfl,hn,hb⟩:=hcut
  go_wp2
  go_ret
  exact ⟨⟨_,rfl⟩,hb⟩
end
section
open Go.ChangeShapes Go.WideShapes Go.ChangeAt Go.WideMaps Go.WideElems Go.RowKit Go.Joins Go.Deep
theorem Tryz.cellsStrL:Tryz.prog.cellsOf 9=1:=by kernel_rfl
theorem Tryz.bytesStrL:Tryz.prog.bytesOf 9=16:=by kernel_rfl
theorem Tryz.cellsIntL:Tryz.prog.cellsOf 3=1:=by kernel_rfl
theorem Tryz.cellsBoolL:Tryz.prog.cellsOf 4=1:=by kernel_rfl
theorem Tryz.cellsStrsL:Tryz.prog.cellsOf 61=1:=by kernel_rfl
theorem Tryz.cellsHdrL:Tryz.prog.cellsOf 50=2:=by kernel_rfl
theorem Tryz.bytesHdrL:Tryz.prog.bytesOf 50=32:=by kernel_rfl
theorem Tryz.cellsHdrsL:Tryz.prog.cellsOf 26=1:=by kernel_rfl
theorem Tryz.cellsMsgL:Tryz.prog.cellsOf 28=4:=by kernel_rfl
theorem Tryz.cellsInsL:Tryz.prog.cellsOf 63=7:=by kernel_rfl
theorem Tryz.bytesInsL:Tryz.prog.bytesOf 63=88:=by kernel_rfl
theorem Tryz.cellsInssL:Tryz.prog.cellsOf 45=1:=by kernel_rfl
theorem Tryz.cellsOpL:Tryz.prog.cellsOf 47=9:=by kernel_rfl
theorem Tryz.bytesOpL:Tryz.prog.bytesOf 47=128:=by kernel_rfl
theorem reach_eqL:reachBytes=140737488351232:=rfl
theorem weightsAll_memL {H:Type} {P:Program} {e:TypeId}:∀ {l:List (DataW H)} {d:DataW H},d∈l→∀ n∈d.weights P e,n∈DataW.weightsAll P e l
 | d' :: r,d,hd,n,hn=>by
  simp only [DataW.weightsAll,List.mem_append]
  rcases List.mem_cons.1 hd with rfl | h
  ·exact Or.inl hn
  ·exact Or.inr (weightsAll_memL h n hn)
theorem strA_backL (s:ByteArray):strA s.data.toList=s:=by
 cases s
 rfl
theorem open_gen {H:Type} {enc:TypeId×Value→H} {W:World} {held:Bool} {n:Nat} {v:Value} {y:DataW H×List MemPlace} {α:Type} (sl e:TypeId) (sz bt:Nat) (hU:Tryz.prog.underlying sl=some (.slice e)) (hsz:Tryz.prog.cellsOf e=sz) (hby:Tryz.prog.bytesOf e=bt) (hs0:0 < sz) (Q:α→List Value→Prop) (Sm:α→Prop)
 (hel0:∀ n' cs y',DataW.trod enc Tryz.prog W 0 (fun _=>true) held n' e cs=some y'→(∀ k∈y'.1.weights Tryz.prog e,k≤reachBytes)→∃ x:α,Q x cs∧Sm x)
 (h:DataW.trod enc Tryz.prog W 0 (fun _=>true) held n sl [v]=some y) (hw:∀ k∈y.1.weights Tryz.prog sl,k≤reachBytes) :
 ∃ l:List α,(∃ a c,v=.slice a l.length c∧(l≠[]→∃ g off,a=some ⟨g,off,none⟩∧∀ j (hj:j < l.length),∃ cs,Q l[j] cs∧∀ i,i < sz→W.cell? ⟨g,off+j*sz+i,none⟩=cs[i]?))∧(∀ x∈l,Sm x)∧l.length*bt≤reachBytes:=by
 rcases open_slice hU h with ⟨hcs,hx⟩ | ⟨a,len0,cap0,m,nn,D,Pl,hcs,_,hl,hm,hmm,hx,hel⟩
 ·injection hcs with hcs
  subst hcs
  exact ⟨[],⟨none,0,rfl,fun h=>absurd rfl h⟩,fun x hx=>(nomatch hx),by simp⟩
 ·injection hcs with hcs
  subst hcs
  have hm':m=cap0:=by rw [hmm];rfl
  subst hm'
  rw [hsz] at hel
  have hwy:∀ k∈DataW.weights Tryz.prog sl (.slice ((List.range len0).map D) ((List.range (m - len0)).map fun j=>D (len0+j))),k≤reachBytes:=fun k hk=>hw k (by rw [hx];exact hk)
  have hlen:(len0+(m - len0))*bt≤reachBytes:=hwy _ (by simp [DataW.weights,hU,hby])
  have hlen':len0*bt≤reachBytes:=Nat.le_trans (Nat.mul_le_mul_right _ (by omega)) hlen
  have hex:∀ i,i < len0→∃ x:α,Sm x∧∃ cs,Q x cs∧∀ j,j < sz→W.cell? ((a.add (i*sz)).add j)=cs[j]?∧∃ u,cs[j]?=some u:=fun i hi=>by
   obtain ⟨cs',hc,ht⟩:=hel i (by omega)
   have hmem:D i∈(List.range len0).map D:=List.mem_map.2 ⟨i,List.mem_range.2 hi,rfl⟩
   obtain ⟨x,hq,hsm⟩:=hel0 _ _ _ ht (fun k hk=>hwy k (by
    simp only [DataW.weights,hU,List.mem_cons,List.mem_append]
    exact Or.inr (Or.inl (weightsAll_memL hmem k hk))))
   obtain ⟨hlen1,_,hcell⟩:=World.cells?_some hc
   refine ⟨x,hsm,cs',hq,fun j hj=>⟨hcell j (by omega),?_⟩⟩
   exact ⟨_,List.getElem?_eq_getElem (by omega)⟩
  by_cases h0:len0=0
  ·subst h0
   exact ⟨[],⟨some a,m,rfl,fun h=>absurd rfl h⟩,fun x hx=>(nomatch hx),by simp⟩
  have hpos:0 < len0:=Nat.pos_of_ne_zero h0
  have ⟨x0,_⟩:=hex 0 hpos
  obtain ⟨f,hf⟩:∃ f:Nat→α,∀ i,i < len0→Sm (f i)∧∃ cs,Q (f i) cs∧∀ j,j < sz→W.cell? ((a.add (i*sz)).add j)=cs[j]?∧∃ u,cs[j]?=some u:=
   ⟨fun i=>if hi:i < len0 then (hex i hi).choose else x0,fun i hi=>by
    show Sm (dite _ _ _)∧∃ cs,Q (dite _ _ _) cs∧_
    rw [dif_pos hi]
    exact (hex i hi).choose_spec⟩
  obtain ⟨b,off,spot⟩:=a
  have hspot:spot=none:=by
   obtain ⟨_,cs,_,hc⟩:=hf 0 hpos
   obtain ⟨h1,u,h2⟩:=hc 0 hs0
   rw [h2] at h1
   have:=World.cell?_spot h1
   simpa [Addr.add] using this
  subst hspot
  refine ⟨(List.range len0).map f,⟨some ⟨b,off,none⟩,m,by simp,fun _=>⟨b,off,rfl,fun j hj=>?_⟩⟩,fun x hx'=>?_,by simpa using hlen'⟩
  ·have hj':j < len0:=by simpa using hj
   obtain ⟨_,cs,hq,hc⟩:=hf j hj'
   refine ⟨cs,by simpa using hq,fun i hi=>?_⟩
   have:=(hc i hi).1
   rw [Addr.add_lit,Addr.add_lit] at this
   exact this
  ·obtain ⟨i,hi,rfl⟩:=List.mem_map.1 hx'
   exact (hf i (List.mem_range.1 hi)).1
theorem open_txsL {H:Type} {enc:TypeId×Value→H} {W:World} {held:Bool} {n:Nat} {v:Value} {y:DataW H×List MemPlace} (h:DataW.trod enc Tryz.prog W 0 (fun _=>true) held n 61 [v]=some y) (hw:∀ k∈y.1.weights Tryz.prog 61,k≤reachBytes) :
 ∃ xs:List (List UInt8),TxsP W v xs∧xs.length≤140737488355328∧∀ t∈xs,t.length≤140737488355328:=by
 have hr:=reach_eqL
 obtain ⟨l,⟨a,c,hv,hc⟩,hs,hl⟩:=open_gen (α:=List UInt8) 61 9 1 16 Tryz.underlying61 Tryz.cellsStrL Tryz.bytesStrL (by decide) (fun x cs=>cs=[.string (strA x)]) (fun x=>x.length≤140737488355328) (fun n' cs y' ht hwt=>by
  obtain ⟨b,e,f,_⟩:=DataW.trod_string Tryz.underlying9 ht
  have hwd:y'.1.weights Tryz.prog 9=[b.data.toList.length]:=by rw [f];simp [DataW.weights]
  rw [hwd] at hwt
  have:=hwt _ (List.mem_singleton.2 rfl)
  exact ⟨b.data.toList,by rw [strA_backL];exact e,by omega⟩) h hw
 refine ⟨l,⟨a,c,hv,fun hne=>?_⟩,by omega,hs⟩
 obtain ⟨g,off,ha,hcell⟩:=hc hne
 refine ⟨g,off,ha,fun j hj=>?_⟩
 obtain ⟨cs,rfl,h1⟩:=hcell j hj
 have:=h1 0 (by decide)
 rw [Nat.mul_one,Nat.add_zero] at this
 exact this
theorem open_hdrsL {H:Type} {enc:TypeId×Value→H} {W:World} {held:Bool} {n:Nat} {v:Value} {y:DataW H×List MemPlace} (h:DataW.trod enc Tryz.prog W 0 (fun _=>true) held n 26 [v]=some y) (hw:∀ k∈y.1.weights Tryz.prog 26,k≤reachBytes) :
 ∃ hs:List (List UInt8×List UInt8),HdrP W v hs∧hs.length≤140737488355328∧∀ t∈hs,t.1.length≤140737488355328∧t.2.length≤140737488355328:=by
 have hr:=reach_eqL
 obtain ⟨l,⟨a,c,hv,hc⟩,hs,hl⟩:=open_gen (α:=List UInt8×List UInt8) 26 50 2 32 Tryz.underlying26 Tryz.cellsHdrL Tryz.bytesHdrL (by decide) (fun x cs=>cs=[.string (strA x.1),.string (strA x.2)]) (fun x=>x.1.length≤140737488355328∧x.2.length≤140737488355328) (fun n' cs y' ht hwt=>by
  obtain ⟨y0,y1,m,hx,hl,h0,h1⟩:=trod_struct2 Tryz.underlying50 ht
  rw [Tryz.cellsHdrL] at hl
  obtain ⟨c0,c1,rfl⟩:∃ c0 c1,cs=[c0,c1]:=by
   match cs,hl with
   | [c0,c1],_=>exact ⟨c0,c1,rfl⟩
  obtain ⟨b0,e0,f0,_⟩:=DataW.trod_string Tryz.underlying9 h0
  obtain ⟨b1,e1,f1,_⟩:=DataW.trod_string Tryz.underlying9 h1
  rw [Tryz.cellsStrL] at e0 e1
  have e0':[c0]=[Value.string b0]:=e0
  have e1':[c1]=[Value.string b1]:=e1
  injection e0' with e0'
  injection e1' with e1'
  subst e0' e1' f0 f1
  have hwd:y'.1.weights Tryz.prog 50=[b0.data.toList.length,b1.data.toList.length]:=by rw [hx];simp [DataW.weights,DataW.weightsEach,Tryz.underlying50]
  rw [hwd] at hwt
  have k0:=hwt b0.data.toList.length (by simp)
  have k1:=hwt b1.data.toList.length (by simp)
  exact ⟨(b0.data.toList,b1.data.toList),by dsimp only;rw [strA_backL,strA_backL],by dsimp only;omega,by dsimp only;omega⟩) h hw
 refine ⟨l,⟨a,c,hv,fun hne=>?_⟩,by omega,hs⟩
 obtain ⟨g,off,ha,hcell⟩:=hc hne
 refine ⟨g,off,ha,fun j hj=>?_⟩
 obtain ⟨cs,rfl,h1⟩:=hcell j hj
 exact ⟨h1 0 (by decide),h1 1 (by decide)⟩
def InsSm (i:InsD):Prop:=(i.as'.length≤140737488355328∧∀ t∈i.as',t.length≤140737488355328)∧(i.bs.length≤140737488355328∧∀ t∈i.bs,t.length≤140737488355328)
theorem open_codeL {H:Type} {enc:TypeId×Value→H} {W:World} {held:Bool} {n:Nat} {v:Value} {y:DataW H×List MemPlace} (h:DataW.trod enc Tryz.prog W 0 (fun _=>true) held n 45 [v]=some y) (hw:∀ k∈y.1.weights Tryz.prog 45,k≤reachBytes) :
 ∃ l:List InsD,CodP W v l∧l.length≤140737488355328∧∀ i∈l,InsSm i:=by
 have hr:=reach_eqL
 obtain ⟨l,⟨a,c,hv,hc⟩,hs,hl⟩:=open_gen (α:=InsD) 45 63 7 88 Tryz.underlying45 Tryz.cellsInsL Tryz.bytesInsL (by decide) (fun x cs=>cs=[.int .i64 x.op,.int .i64 x.n,.int .i64 x.tag,.bool x.oct,x.av,x.bv,.int .i64 x.pos]∧TxsP W x.av x.as'∧TxsP W x.bv x.bs) InsSm (fun n' cs y' ht hwt=>by
  obtain ⟨xs,m,_,hx,hl,hlen,hf⟩:=DataW.trod_struct Tryz.underlying63 ht
  rw [Tryz.cellsInsL] at hl
  obtain ⟨c0,c1,c2,c3,c4,c5,c6,rfl⟩:∃ c0 c1 c2 c3 c4 c5 c6,cs=[c0,c1,c2,c3,c4,c5,c6]:=by
   match cs,hl with
   | [c0,c1,c2,c3,c4,c5,c6],_=>exact ⟨c0,c1,c2,c3,c4,c5,c6,rfl⟩
  obtain ⟨y0,y1,y2,y3,y4,y5,y6,rfl⟩:∃ y0 y1 y2 y3 y4 y5 y6,xs=[y0,y1,y2,y3,y4,y5,y6]:=by
   match xs,hlen with
   | [y0,y1,y2,y3,y4,y5,y6],_=>exact ⟨y0,y1,y2,y3,y4,y5,y6,rfl⟩
  have h0:=hf 0 _ rfl
  have h1:=hf 1 _ rfl
  have h2:=hf 2 _ rfl
  have h3:=hf 3 _ rfl
  have h4:=hf 4 _ rfl
  have h5:=hf 5 _ rfl
  have h6:=hf 6 _ rfl
  simp only [Tryz.cellsStrsL,Tryz.cellsIntL,Tryz.cellsBoolL,List.drop,List.take,List.getElem?_cons_zero,List.getElem?_cons_succ] at h0 h1 h2 h3 h4 h5 h6
  obtain ⟨i0,e0,f0,_⟩:=DataW.trod_int Tryz.underlying3 h0
  obtain ⟨i1,e1,f1,_⟩:=DataW.trod_int Tryz.underlying3 h1
  obtain ⟨i2,e2,f2,_⟩:=DataW.trod_int Tryz.underlying3 h2
  obtain ⟨b3,e3,f3⟩:=DataW.trod_bool Tryz.underlying4 h3
  obtain ⟨i6,e6,f6,_⟩:=DataW.trod_int Tryz.underlying3 h6
  injection e0 with e0
  injection e1 with e1
  injection e2 with e2
  injection e3 with e3
  injection e6 with e6
  subst e0 e1 e2 e3 e6 f0 f1 f2 f3 f6
  have hwd:y'.1.weights Tryz.prog 63=y4.1.weights Tryz.prog 61++y5.1.weights Tryz.prog 61:=by
   rw [hx]
   simp [DataW.weights,DataW.weightsEach,Tryz.underlying63]
  rw [hwd] at hwt
  obtain ⟨as',ha,ha1,ha2⟩:=open_txsL h4 (fun k hk=>hwt k (List.mem_append_left _ hk))
  obtain ⟨bs,hb,hb1,hb2⟩:=open_txsL h5 (fun k hk=>hwt k (List.mem_append_right _ hk))
  exact ⟨⟨i0,i1,i2,b3,c4,c5,as',bs,i6⟩,⟨rfl,ha,hb⟩,⟨ha1,ha2⟩,⟨hb1,hb2⟩⟩) h hw
 refine ⟨l,⟨a,c,hv,fun hne=>?_⟩,by omega,hs⟩
 obtain ⟨g,off,ha,hcell⟩:=hc hne
 refine ⟨g,off,ha,fun j hj=>?_⟩
 obtain ⟨cs,⟨rfl,h1,h2⟩,h3⟩:=hcell j hj
 exact ⟨h3 0 (by decide),h3 1 (by decide),h3 2 (by decide),h3 3 (by decide),h3 4 (by decide),h3 5 (by decide),h3 6 (by decide),h1,h2⟩
theorem open_opsL {H:Type} {enc:TypeId×Value→H} {W:World} {r:Reach} {b0:Nat} {v:Value} {d:DataW H} {p:List MemPlace} (hv:Value.okWide Tryz.prog W r b0 22 v) (h:DataW.Trod enc Tryz.prog W 0 (fun _=>true) true 22 v d p) (hw:∀ k∈d.weights Tryz.prog 22,k≤reachBytes) :
 ∃ l:List OpD,OpsP W v l∧(∀ x∈l,OpSm x)∧l.length*128≤140737488351232:=by
 have hr:=reach_eqL
 obtain ⟨fuel,hf0⟩:=h
 obtain ⟨a0,len0,cap0,hv0⟩:∃ a n c,v=.slice a n c:=okWide_slice Tryz.underlying22 hv
 subst hv0
 have hf':DataW.trod enc Tryz.prog W 0 (fun _=>true) true fuel 22 [.slice a0 len0 cap0]=some (d,p):=hf0
 obtain ⟨l,⟨a,c,hv1,hc⟩,hs,hl⟩:=open_gen (α:=OpD) 22 47 9 128 Tryz.underlying22 Tryz.cellsOpL Tryz.bytesOpL (by decide) (fun x cs=>cs=[.int .i64 x.kind,.int .i64 x.a,.int .i64 x.b,.string (strA x.s),.string (strA x.fr),.string (strA x.tt),.int .i64 x.sz,x.hv,x.cv]∧HdrP W x.hv x.hs∧CodP W x.cv x.code) OpSm (fun n' cs y' ht hwt=>by
  obtain ⟨xs,m,_,hx,hl,hlen,hf⟩:=DataW.trod_struct Tryz.underlying47 ht
  rw [Tryz.cellsOpL] at hl
  obtain ⟨c0,c1,c2,c3,c4,c5,c6,c7,c8,rfl⟩:∃ c0 c1 c2 c3 c4 c5 c6 c7 c8,cs=[c0,c1,c2,c3,c4,c5,c6,c7,c8]:=by
   match cs,hl with
   | [c0,c1,c2,c3,c4,c5,c6,c7,c8],_=>exact ⟨c0,c1,c2,c3,c4,c5,c6,c7,c8,rfl⟩
  obtain ⟨y0,y1,y2,y3,y4,y5,rfl⟩:∃ y0 y1 y2 y3 y4 y5,xs=[y0,y1,y2,y3,y4,y5]:=by
   match xs,hlen with
   | [y0,y1,y2,y3,y4,y5],_=>exact ⟨y0,y1,y2,y3,y4,y5,rfl⟩
  have h0:=hf 0 _ rfl
  have h1:=hf 1 _ rfl
  have h2:=hf 2 _ rfl
  have h3:=hf 3 _ rfl
  have h4:=hf 4 _ rfl
  have h5:=hf 5 _ rfl
  simp only [Tryz.cellsStrL,Tryz.cellsIntL,Tryz.cellsMsgL,Tryz.cellsInssL,List.drop,List.take,List.getElem?_cons_zero,List.getElem?_cons_succ] at h0 h1 h2 h3 h4 h5
  obtain ⟨i0,e0,f0,_⟩:=DataW.trod_int Tryz.underlying3 h0
  obtain ⟨i1,e1,f1,w1⟩:=DataW.trod_int Tryz.underlying3 h1
  obtain ⟨i2,e2,f2,_⟩:=DataW.trod_int Tryz.underlying3 h2
  obtain ⟨b3,e3,f3,_⟩:=DataW.trod_string Tryz.underlying9 h3
  obtain ⟨zs,m4,_,hx4,hl4,hlen4,hf4⟩:=DataW.trod_struct Tryz.underlying28 h4
  obtain ⟨z0,z1,z2,z3,rfl⟩:∃ z0 z1 z2 z3,zs=[z0,z1,z2,z3]:=by
   match zs,hlen4 with
   | [z0,z1,z2,z3],_=>exact ⟨z0,z1,z2,z3,rfl⟩
  have g0:=hf4 0 _ rfl
  have g1:=hf4 1 _ rfl
  have g2:=hf4 2 _ rfl
  have g3:=hf4 3 _ rfl
  simp only [Tryz.cellsStrL,Tryz.cellsIntL,Tryz.cellsHdrsL,List.drop,List.take,List.getElem?_cons_zero,List.getElem?_cons_succ] at g0 g1 g2 g3
  obtain ⟨b4,e4,f4,_⟩:=DataW.trod_string Tryz.underlying9 g0
  obtain ⟨b5,e5,f5,_⟩:=DataW.trod_string Tryz.underlying9 g1
  obtain ⟨i6,e6,f6,_⟩:=DataW.trod_int Tryz.underlying3 g2
  injection e0 with e0
  injection e1 with e1
  injection e2 with e2
  injection e3 with e3
  injection e4 with e4
  injection e5 with e5
  injection e6 with e6
  subst e0 e1 e2 e3 e4 e5 e6 f0 f1 f2 f3 f4 f5 f6
  have hwm:y4.1.weights Tryz.prog 28=[b4.data.toList.length,b5.data.toList.length]++z3.1.weights Tryz.prog 26:=by
   rw [hx4]
   simp [DataW.weights,DataW.weightsEach,Tryz.underlying28]
  have hwd:y'.1.weights Tryz.prog 47=[b3.data.toList.length]++(([b4.data.toList.length,b5.data.toList.length]++z3.1.weights Tryz.prog 26)++y5.1.weights Tryz.prog 45):=by
   rw [hx,← hwm]
   simp [DataW.weights,DataW.weightsEach,Tryz.underlying47]
  rw [hwd] at hwt
  have k3:=hwt b3.data.toList.length (by simp)
  have k4:=hwt b4.data.toList.length (by simp)
  have k5:=hwt b5.data.toList.length (by simp)
  obtain ⟨hs,hh,hh1,hh2⟩:=open_hdrsL g3 (fun k hk=>hwt k (by simp only [List.mem_append];exact Or.inr (Or.inl (Or.inr hk))))
  obtain ⟨cd,hcd,hcd1,hcd2⟩:=open_codeL h5 (fun k hk=>hwt k (by simp only [List.mem_append];exact Or.inr (Or.inr hk)))
  simp only [Lit.wf,Bool.and_eq_true,decide_eq_true_eq] at w1
  have m1:IntKind.i64.min = -9223372036854775808:=rfl
  have m2:IntKind.i64.max=9223372036854775807:=rfl
  refine ⟨⟨i0,i1,i2,b3.data.toList,b4.data.toList,b5.data.toList,i6,c7,hs,c8,cd⟩,⟨?_,hh,hcd⟩,?_⟩
  ·dsimp only
   rw [strA_backL,strA_backL,strA_backL]
  ·exact ⟨by show _≤i1∧i1≤_;omega,by show b3.data.toList.length≤_;omega,by show b4.data.toList.length≤_;omega,by show b5.data.toList.length≤_;omega,hh1,hh2,hcd1,hcd2⟩) hf' hw
 refine ⟨l,⟨a,c,hv1,fun hne=>?_⟩,hs,by omega⟩
 obtain ⟨g,off,ha,hcell⟩:=hc hne
 refine ⟨g,off,ha,fun j hj=>?_⟩
 obtain ⟨cs,⟨rfl,h1,h2⟩,h3⟩:=hcell j hj
 exact ⟨h3 0 (by decide),h3 1 (by decide),h3 2 (by decide),h3 3 (by decide),h3 4 (by decide),h3 5 (by decide),h3 6 (by decide),h3 7 (by decide),h3 8 (by decide),h1,h2⟩
end
end Go.Proofs.YtgnkjijocdmniaaGreatDoor
