import Derived.Deep.RegionHeld3
import Derived.Deep.AppendLies
import Derived.Deep.RegionWith
import Derived.Deep.RegionLaw
import Derived.Test.YtgnkjijocdmniaaGreatDoorZQParseP
namespace Go.Proofs.YtgnkjijocdmniaaGreatDoor
set_option linter.unusedVariables false
set_option linter.unusedSimpArgs false
set_option maxRecDepth 100000
set_option maxHeartbeats 4000000
open Go.RowKit
attribute [local go_sem ↓] Go.wp_at_zero Go.wp_at_succ
def RScript (X:Nat→Prop) (y:List (List UInt8)×List (CmdT 7)) (w:World) (v:Value):Prop:=
 ∃ g nv bv,v=.pointer (some ⟨g,0,none⟩)∧X g∧w.heap[g]?=some (.cells #[nv,bv] 115)∧slY X y.1 w nv∧trY (RCmd 7) X y.2 w bv
def QPars (l:List UInt8) (w:World) (e:Ending) (w':World):Prop:=
 Below w.heap.size w w'∧
 if 600 < l.length then e=.returned (.tuple #[.pointer none,.int .i64 1,.int .i64 0]) else
 match parseL l with
 | .ok y=>∃ v,e=.returned (.tuple #[v,.int .i64 0,.int .i64 0])∧RScript (fromB w.heap.size) y w' v
 | .error f=>e=.returned (.tuple #[.pointer none,.int .i64 f.err,.int .i64 f.pos])
theorem one_strQ (V:World) (x:List UInt8) (ty:TypeId):∀ j u,[Value.string (strA x)][j]?=some u→(V.alloc (.cells #[.string (strA x)] ty)).cell? ((⟨V.heap.size,0,none⟩:Addr).add j)=some u:=by
 intro j u hj
 match j,hj with
 | 0,hj=>simp at hj;subst hj;simp [Addr.add]
theorem oneQ (x:List UInt8):∀ u∈[Value.string (strA x)],u.oneCell'=true:=by intro u hu;simp at hu;subst hu;rfl
theorem own_lenQ {w:World} {base:Nat} {e:TypeId} {size:Nat} {v:Value} {n:Nat} {xs:List Value} (h:w.ownsRow base e size v n xs):∃ a c,v=.slice a n c:=by
 rcases h.2 with ⟨h,h2⟩ | ⟨g,cap,cur,h,_⟩
 ·exact ⟨none,0,by rw [h,h2]⟩
 ·exact ⟨_,_,h⟩
theorem need_app {w V w5:World} {tb g3 g' cap':Nat} {rq xs:List (List UInt8)} {x l:List UInt8} {st:Except Flt PS} {nv:Value} {o:Obj} (hrd:RdQ V (tb+1) tb nv) (hown:V.ownsRow (tb+2) 9 1 nv rq.length (tcells rq)) (ht:TSt V tb l st) (hb:Below tb w V) (htx:TxtAt V g3 xs) (hgo:∀ k,nv.ownBlock=some k→k≠g3) (hg3:xs≠[]) (hgb:tb+1 < g3) (hg:((V.alloc o).drew).grownBy w5 nv.ownBlock) (h5:w5.ownsRow (tb+2) 9 1 (.slice (some ⟨g',0,none⟩) (rq.length+1) cap') (rq.length+1) (tcells rq++[.string (strA x)])) (hat:nv.ownBlock=some g'∨g'=(V.alloc o).drew.heap.size) :
 RdQ (w5.setCell ⟨tb+1,1,none⟩ (.slice (some ⟨g',0,none⟩) (rq.length+1) cap')) (tb+1) tb (.slice (some ⟨g',0,none⟩) (rq.length+1) cap')∧(w5.setCell ⟨tb+1,1,none⟩ (.slice (some ⟨g',0,none⟩) (rq.length+1) cap')).ownsRow (tb+2) 9 1 (.slice (some ⟨g',0,none⟩) (rq.length+1) cap') (rq++[x]).length (tcells (rq++[x]))∧TSt (w5.setCell ⟨tb+1,1,none⟩ (.slice (some ⟨g',0,none⟩) (rq.length+1) cap')) tb l st∧Below tb w (w5.setCell ⟨tb+1,1,none⟩ (.slice (some ⟨g',0,none⟩) (rq.length+1) cap'))∧TxtAt (w5.setCell ⟨tb+1,1,none⟩ (.slice (some ⟨g',0,none⟩) (rq.length+1) cap')) g3 xs∧(∀ k,(Value.slice (some ⟨g',0,none⟩) (rq.length+1) cap').ownBlock=some k→k≠g3):=by
 have hlow:=fun k (hk:nv.ownBlock=some k)=>hown.lt k hk
 have hz:tb+1 < V.heap.size:=blk_lt hrd
 have hsz:(V.alloc o).drew.heap.size=V.heap.size+1:=by show (V.alloc o).heap.size=_;simp
 have hbk:∀ k,k < V.heap.size→nv.ownBlock≠some k→w5.heap[k]?=V.heap[k]?:=fun k hk hne=>by
  rw [hg.block k (by rw [hsz];omega) (fun e=>hne e.symm)]
  exact Below.heap_alloc _ _ _ hk
 have hg3l:g3 < V.heap.size:=cell_lt (htx 0 (List.length_pos_iff.2 hg3))
 have h3:w5.heap[g3]?=V.heap[g3]?:=hbk g3 hg3l (fun e=>hgo g3 e rfl)
 refine ⟨heap_setCell_at _ _ _ _ _ _ ((hbk (tb+1) hz (fun e=>by have:=(hlow _ e).1;omega)).trans hrd),ownsRow_setQ (by rw [List.length_append,← tcells_snoc];exact h5) (by omega),(ht.block (hbk tb (by omega) (fun e=>by have:=(hlow _ e).1;omega))).block (Below.heap_setCell _ _ _ _ (by show tb≠tb+1;omega)),((((hb.alloc (by omega) o).drew).grown hg (by rw [hsz];omega) (fun k hk=>by have:=(hlow k hk).1;omega)).setCell (by show tb≤tb+1;omega) _),fun j hj=>?_,fun k hk e=>?_⟩
 ·have:=htx j hj
  rw [World.cell?_of_block (w:=w5) (a:=⟨g3,j,none⟩) (Below.heap_setCell _ _ _ _ (by show g3≠tb+1;omega)),World.cell?_of_block (w:=V) (a:=⟨g3,j,none⟩) h3]
  exact this
 ·have hk':g'=k:=by simpa [Value.ownBlock] using hk
  rcases hat with h | h
  ·exact hgo g' h (hk'.trans e)
  ·rw [hsz] at h;omega
theorem qparse_any (l:List UInt8) (w:World) (hll:l.length≤140737488355328) :
 Calls Tryz.prog 44 #[.string (strA l)] w (QPars l w):=by
 have hz:=strA_size l
 by_cases hlen:600 < l.length
 ·have hlb:decide ((600:Int) < (l.length:Int))=true:=decide_eq_true (by omega)
  have HX:Hid (∀ e w',Below w.heap.size w w'→e=.returned (.tuple #[.pointer none,.int .i64 1,.int .i64 0])→QPars l w e w'):=by
   intro e w' h1 h2
   exact ⟨h1,by rw [if_pos hlen];exact h2⟩
  go_enter Tryz.func44,Tryz.ntmps44
  go_wp2
  refine bodyPost_ret (v:=.tuple #[.pointer none,.int .i64 1,.int .i64 0]) (by simp [results,Tryz.results44,go_sem]) rfl ?_
  exact HX.out _ _ (Below.refl _ _) rfl
 ·have hl:l.length≤600:=by omega
  have hlb:decide ((600:Int) < (l.length:Int))=false:=decide_eq_false (by omega)
  have HXE:Hid (∀ e w' f,parseL l=.error f→Below w.heap.size w w'→e=.returned (.tuple #[.pointer none,.int .i64 f.err,.int .i64 f.pos])→QPars l w e w'):=by
   intro e w' f hp h1 h2
   exact ⟨h1,by rw [if_neg hlen,hp];exact h2⟩
  have HXO:Hid (∀ e w' y v,parseL l=.ok y→Below w.heap.size w w'→e=.returned (.tuple #[v,.int .i64 0,.int .i64 0])→RScript (fromB w.heap.size) y w' v→QPars l w e w'):=by
   intro e w' y v hp h1 h2 h3
   exact ⟨h1,by rw [if_neg hlen,hp];exact ⟨v,h2,h3⟩⟩
  clear hlen
  obtain ⟨W0,hW0⟩:∃ W0,W0=(w.alloc (.cells (qtCells l 0 0 0 0 [] 0 0) 138)).alloc (.cells #[.pointer (some ⟨w.heap.size,0,none⟩),.slice none 0 0] 140):=⟨_,rfl⟩
  have HW0:=hide hW0
  have HB0:Hid (Below w.heap.size w W0):=by show Below _ _ _;rw [hW0];exact ((Below.refl _ _).alloc (Nat.le_refl _) _).alloc (by simp) _
  have HQ0:Hid (QT W0 w.heap.size l 0 0 0 0 [] 0 0):=by show W0.heap[w.heap.size]?=_;rw [hW0,Below.heap_alloc _ _ _ (by simp)];exact blk_new _ _
  have HR0:Hid (RdQ W0 (w.heap.size+1) w.heap.size (.slice none 0 0)):=by show W0.heap[w.heap.size+1]?=_;rw [hW0];have:=blk_new (w.alloc (.cells (qtCells l 0 0 0 0 [] 0 0) 138)) (.cells #[.pointer (some ⟨w.heap.size,0,none⟩),.slice none 0 0] 140);simpa using this
  have hs0:W0.heap.size=w.heap.size+2:=by rw [hW0];simp
  clear hW0
  obtain ⟨i0,hi,hz0,hz1,hz2⟩:=info_parts Tryz.infoStr
  go_enter Tryz.func44,Tryz.ntmps44
  go_wp2_with fail
  have hW:(w.alloc (.cells #[.string (strA l),.int .i64 0,.int .i64 0,.int .i64 0,.int .u8 0,.string ⟨#[]⟩,.int .i64 0,.int .i64 0] 138)).alloc (.cells #[.pointer (some ⟨w.heap.size,0,none⟩),.slice none 0 0] 140)=W0:=HW0.out.symm
  rw [hW]
  clear hW
  refine (qnext_any w.heap.size l 0 0 [] 0 0 W0 HQ0.out hl (Nat.zero_le _)).mono ?_
  rintro e w1 ⟨rfl,hm1,ht1⟩
  have HB1:=hide (HB0.out.trans (hm1.below (Nat.le_refl _) (by omega)))
  have HR1:=hide (HR0.out.mod hm1 (by omega))
  have HT1:=hide ht1
  have hms:=muS_le ht1 hl
  obtain ⟨st0,hst0⟩:∃ st0,nextL l 0=st0:=⟨_,rfl⟩
  rw [hst0] at HT1 hms
  obtain ⟨F,hF⟩:∃ F,F=2*l.length+10:=⟨_,rfl⟩
  obtain ⟨R,hR⟩:∃ R,bindS st0 (reqMore l F F [])=R:=⟨_,rfl⟩
  have HPI:Hid (∀ rq st,R=(bindS st fun s=>.ok (rq,s))→parseL l=match bindS st (cmdsMore (cmdL l rq F 7) F []) with | .ok cs=>.ok (rq,cs) | .error f=>.error f):=by
   intro rq st h
   subst hF
   exact parse_is (by rw [hst0,hR];exact h)
  have HRI:Hid (ReqI R l F st0 []):=⟨F,fun s hs=>by have:=HT1.out;rw [hs] at this;have:=mu_bound this hl;omega,hR.symm⟩
  have hF2:2*l.length+2≤F:=by omega
  clear hm1 ht1 hR hst0 hF HB0 HR0 HQ0
  obtain ⟨tb,htb⟩:∃ tb,tb=w.heap.size:=⟨_,rfl⟩
  go_upto_block 0 with fail
  rw [← htb]
  rw [← htb] at HR1 HT1
  have HTB:=hide htb
  clear htb hs0
  go_cut [] (fun wx=>∃ (st1:Except Flt PS) (rq:List (List UInt8)) (nv:Value),RdQ wx (tb+1) tb nv∧wx.ownsRow (tb+2) 9 1 nv rq.length (tcells rq)∧(rq=[]→nv=.slice none 0 0)∧TSt wx tb l st1∧Below tb w wx∧rq.length≤2000000∧R=bindS st1 fun s=>.ok (rq,s))
  case first=>
   go_wp2_with fail
   go_loopg [6,7,8] (muS l st0) (fun k _ _ _ wr=>∃ (st1:Except Flt PS) (rq:List (List UInt8)) (nv:Value),k=muS l st1∧RdQ wr (tb+1) tb nv∧wr.ownsRow (tb+2) 9 1 nv rq.length (tcells rq)∧(rq=[]→nv=.slice none 0 0)∧TSt wr tb l st1∧Below tb w wr∧ReqI R l F st1 rq∧rq.length+1400*muS l st1≤1684200)
   case atStart=>exact ⟨st0,[],_,rfl,HR1.out,World.ownsRow_nil _ _ _ _,fun _=>rfl,HT1.out,by rw [HTB.out];exact HB1.out,HRI.out,by simp;omega⟩
   case round=>
    obtain ⟨st1,rq,nv,rfl,hrd,hown,hnil,ht,hb,hri,hlen⟩:=hrel
    have HNI:=hide hnil
    clear hnil
    have HRD:=hide hrd
    have HOW:=hide hown
    have HTR:=hide ht
    have HBR:=hide hb
    have HRR:=hide hri
    have hwr:tb+1 < wr.heap.size:=blk_lt hrd
    have r0:wr.cell? ⟨tb+1,0,none⟩=some (.pointer (some ⟨tb,0,none⟩)):=blk_cell hrd 0
    obtain ⟨c2,c4,c5,_,_⟩:=ht.cells
    have e5:((strA (wordS l st1).2.1).toList == [114,101,113,117,105,114,101])=decide ((wordS l st1).2.1=kRequire):=str_eq _ _
    clear hrd hown ht hb hri HR1 HT1 HRI HPI HXE HXO
    by_cases hk:(wordS l st1).1=119∧(wordS l st1).2.1=kRequire
    ·have hkb:(((wordS l st1).1:Int) == 119)=true:=by simp;omega
     have heb:((errS st1:Int) == 0)=true:=by obtain ⟨s,hs,_,_⟩:=ok_word HTR.out hk.1;rw [hs];rfl
     rw [decide_eq_true hk.2] at e5
     have HK:=hide hk
     clear hk
     go_wp2_with fail
     refine (qnext_st tb l st1 _ HTR.out hl).mono ?_
     rintro e w2 ⟨rfl,hm2,ht2⟩
     have HRD2:=hide (HRD.out.mod hm2 (by omega))
     have HOW2:=hide (ownsRow_mod (b:=tb) HOW.out hm2 (by omega))
     have HT2:=hide ht2
     have HB2:=hide (HBR.out.trans (hm2.below (Nat.le_refl _) (by omega)))
     have hw2:tb+1 < w2.heap.size:=blk_lt HRD2.out
     clear hm2 ht2
     go_wp2_with fail
     refine (qstrings_any (tb+1) tb nv l 1 F _ _ HRD2.out (by omega) HT2.out hl (by decide) hF2).mono ?_
     rintro e w3 h3
     obtain ⟨hm3,ht3,v,rfl,⟨xs,hv⟩,hv3⟩:=h3.st
     obtain ⟨⟨g3,k3,rfl,hg3,htx3,hne3⟩,hxl⟩:=hv
     have HZ:Hid (∀ z,bindS (nextS l st1) (stringsL l (fitsL 1) F)=.ok z→z.1=xs):=by
      intro z hz
      obtain ⟨g,c,h1,_,h2,_⟩:=hv3 z hz
      have e1:=Value.slice.inj h1
      have e2:g3=g:=by have:=e1.1;simp at this;exact this
      subst e2
      refine (List.ext_getElem (by have:=e1.2.1;omega) (fun j hj1 hj2=>?_)).symm
      have q1:=htx3 j hj1
      have q2:=h2 j hj2
      rw [q1] at q2
      rw [List.getD_eq_getElem?_getD,List.getElem?_eq_getElem hj1,List.getD_eq_getElem?_getD,List.getElem?_eq_getElem hj2] at q2
      exact strA_inj (Value.string.inj (Option.some.inj q2))
     have HRD3:=hide (HRD2.out.mod hm3 (by omega))
     have HOW3:=hide (ownsRow_mod (b:=tb) HOW2.out hm3 (by omega))
     have HT3:=hide ht3
     have HB3:=hide (HB2.out.trans (hm3.below (Nat.le_refl _) (by omega)))
     have HTX:=hide htx3
     have hgo:∀ k,nv.ownBlock=some k→k≠g3:=fun k hk e=>by have:=(HOW2.out.lt k hk).2;omega
     have HGO:=hide hgo
     have hw3:tb+1 < w3.heap.size:=blk_lt HRD3.out
     have hgl3:g3 < w3.heap.size:=cell_lt (htx3 0 (List.length_pos_iff.2 hne3))
     obtain ⟨stZ,hstZ⟩:∃ stZ,stOf (bindS (nextS l st1) (stringsL l (fitsL 1) F))=stZ:=⟨_,rfl⟩
     have HSTEP:=hide (fun rq' hq=>req_step (rq':=rq') HRR.out HTR.out HK.out ht3 hq)
     rw [hstZ] at HSTEP HT3
     have hgt3:tb+1 < g3:=by omega
     clear h3 hm3 ht3 hv3 htx3 hgo hstZ HRD2 HOW2 HT2 HB2 HRD HOW HTR HBR HRR HK r0 c2 c4 c5 e5
     go_upto_block 2 with fail
     go_cut [] (fun wx=>∃ (rq':List (List UInt8)) (nv':Value),rq'=xs.foldl addReq rq∧RdQ wx (tb+1) tb nv'∧wx.ownsRow (tb+2) 9 1 nv' rq'.length (tcells rq')∧(rq'=[]→nv'=.slice none 0 0)∧TSt wx tb l stZ∧Below tb w wx∧rq'.length≤rq.length+xs.length)
     case first=>
      go_wp2_with fail
      go_loopg [7,8] xs.length (fun k i _ wy=>∃ (j:Nat) (rq':List (List UInt8)) (nv':Value),k=xs.length - j∧j≤xs.length∧i=.int .i64 j∧rq'=(xs.take j).foldl addReq rq∧RdQ wy (tb+1) tb nv'∧wy.ownsRow (tb+2) 9 1 nv' rq'.length (tcells rq')∧(rq'=[]→nv'=.slice none 0 0)∧TSt wy tb l stZ∧Below tb w wy∧TxtAt wy g3 xs∧(∀ k,nv'.ownBlock=some k→k≠g3)∧rq'.length≤rq.length+j)
      case atStart=>exact ⟨0,rq,nv,by omega,Nat.zero_le _,rfl,rfl,HRD3.out,HOW3.out,HNI.out,HT3.out,HB3.out,HTX.out,HGO.out,by omega⟩
      case round=>
       obtain ⟨j,rq',nv',rfl,hj,rfl,hrq,hrd,hown,hnil,ht,hb,htx,hgo,hlen'⟩:=hrel
       have HNJ:=hide hnil
       clear hnil
       have HRQ:=hide hrq
       have HRD:=hide hrd
       have HOW:=hide hown
       have HTR:=hide ht
       have HBR:=hide hb
       have HTXR:=hide htx
       have HGOR:=hide hgo
       have hwr:tb+1 < wr.heap.size:=blk_lt hrd
       have r1:wr.cell? ⟨tb+1,1,none⟩=some nv':=blk_cell hrd 1
       clear hrq hrd hown ht hb hgo HRD3 HOW3 HT3 HB3 HTX HGO HSTEP HZ
       by_cases hlt:j < xs.length
       ·have hlb:decide ((j:Int) < (xs.length:Int))=true:=decide_eq_true (by omega)
        have ck:wr.cell? ⟨g3,j,none⟩=some (.string (strA (xs.getD j []))):=htx j hlt
        have HFT:=hide (foldl_take rq xs j hlt)
        rw [← HRQ.out] at HFT
        obtain ⟨x,hx⟩:∃ x,xs.getD j []=x:=⟨_,rfl⟩
        rw [hx] at ck HFT
        have HAM:Hid (∀ W:World,W.heap=wr.heap→Calls Tryz.prog 55 #[nv',.string (strA x)] W fun e w'=>e=.returned (.bool (decide (0 < whichL rq' x)))∧w'=W):=by
         intro W hW
         refine qamong_any nv' rq' x W ?_ (by omega)
         rcases (RdI.of_owns (w:=W) (by unfold RdQ;rw [hW];exact HRD.out) (by omega) (base:=tb+2) (by
          have:=HOW.out
          obtain ⟨h1,h2⟩:=this
          refine ⟨h1,?_⟩
          rw [hW]
          exact h2) (by omega) (by omega)).q with h | ⟨g,c,h1,h2,_⟩
         ·exact Or.inl h
         ·exact Or.inr ⟨g,c,h1,h2⟩
        clear hx htx
        by_cases hin:0 < whichL rq' x
        ·have HAD:Hid (addReq rq' x=rq'):=if_pos hin
         rw [decide_eq_true hin] at HAM
         clear hin
         go_wp2_with fail
         go_quiet (first | (go_at_call 55;refine Calls.quiet_of_same (HAM.out _ rfl)))
         go_wp2
         go_roundg (xs.length - (j+1))
         case measure=>omega
         case rel=>exact ⟨j+1,rq',nv',rfl,by omega,by go_num,by rw [HFT.out,HAD.out],HRD.out,HOW.out,HNJ.out,HTR.out.block rfl,⟨HBR.out.os,HBR.out.tape,HBR.out.output,HBR.out.size,HBR.out.block⟩,HTXR.out,HGOR.out,by omega⟩
        ·have HAD:Hid (addReq rq' x=rq'++[x]):=if_neg hin
         rw [decide_eq_false hin] at HAM
         clear hin
         go_wp2_with fail
         go_quiet (first | (go_at_call 55;refine Calls.quiet_of_same (HAM.out _ rfl)))
         obtain ⟨la,lc,rfl⟩:=own_lenQ HOW.out
         generalize hW:wr.drewN _=V
         have HVR:Hid (RdQ V (tb+1) tb (.slice la rq'.length lc)):=by rw [← hW];exact HRD.out
         have HVO:Hid (V.ownsRow (tb+2) 9 1 (.slice la rq'.length lc) rq'.length (tcells rq')):=by rw [← hW];exact HOW.out
         have HVT:Hid (TSt V tb l stZ):=by rw [← hW];exact HTR.out.block rfl
         have HVB:Hid (Below tb w V):=by rw [← hW];exact ⟨HBR.out.os,HBR.out.tape,HBR.out.output,HBR.out.size,HBR.out.block⟩
         have HVX:Hid (TxtAt V g3 xs):=by rw [← hW];exact HTXR.out
         have v1:V.cell? ⟨tb+1,1,none⟩=some (.slice la rq'.length lc):=by rw [← hW];exact r1
         have vk:V.cell? ⟨g3,j,none⟩=some (.string (strA x)):=by rw [← hW];exact ck
         have hsV:tb+1 < V.heap.size:=blk_lt HVR.out
         have hgV:g3 < V.heap.size:=cell_lt vk
         have hbV:tb+2≤V.heap.size:=by omega
         have HROW:Hid (Value.ownBlock (.slice la rq'.length lc)≠some (tb+1)):=fun e=>by have:=(HVO.out.lt _ e).1;omega
         clear hW r1 ck HRD HOW HTR HBR HTXR HAM
         go_wp2_with fail
         go_region_law (refine step_append_lies _ rfl (.tmp 81) (.tmp 86) 61 rfl (tb+2) 9 i0 (.string ⟨#[]⟩) 1 16 Tryz.underlying61 hi hz0 hz1 hz2 rfl (by decide) (.slice la rq'.length lc) rq'.length (tcells rq') (by simp [Act.eval,Act.put]) (HVO.out.alloc _) ⟨V.heap.size,0,none⟩ 1 1 [.string (strA x)] (by simp [Act.eval,Act.put]) rfl (one_strQ V x _) (oneQ x) (by decide) (by unfold maxLen;omega) (by omega) (by simp;omega) _ rfl ?_;intro g' cap' w5 hown5 hgrow hat hlt5;have HO5:=hide hown5;have HG5:=hide hgrow;have HAT:=hide hat;have t2:w5.cell? ⟨tb+1,1,none⟩=some (.slice la rq'.length lc):=hgrow.cell (a:=⟨tb+1,1,none⟩) ((World.cell?_of_block (a:=⟨tb+1,1,none⟩) (w:=V) (Below.heap_alloc _ _ _ hsV)).trans v1) (fun e=>HROW.out e.symm);have hft:∀ j,w5.frozen? ⟨tb+1,j,none⟩=false:=fun j=>(World.frozen?_of_block (a:=⟨tb+1,j,none⟩) (w:=V) ((hgrow.block (tb+1) (by simp;omega) (fun e=>HROW.out e.symm)).trans (Below.heap_alloc _ _ _ hsV))).trans (blk_frozen HVR.out j);clear hown5 hgrow hat;skip)
         all_goals go_wp2
         all_goals go_roundg (xs.length - (j+1))
         all_goals first
          | (have hfin:=need_app HVR.out HVO.out HVT.out HVB.out HVX.out HGOR.out hne3 hgt3 HG5.out HO5.out HAT.out
             exact ⟨j+1,rq'++[x],_,rfl,by omega,by go_num,by rw [HFT.out,HAD.out],hfin.1,hfin.2.1,(fun e=>by simp at e),hfin.2.2.1,hfin.2.2.2.1,hfin.2.2.2.2.1,hfin.2.2.2.2.2,by simp;omega⟩)
          | omega
       ·have hlb:decide ((j:Int) < (xs.length:Int))=false:=decide_eq_false (by omega)
        have hjx:j=xs.length:=by omega
        subst hjx
        go_wp2
        go_meet
        exact ⟨rq',nv',by rw [HRQ.out,List.take_of_length_le (Nat.le_refl _)],HRD.out,HOW.out,HNJ.out,HTR.out,HBR.out,hlen'⟩
     case rest=>
      obtain ⟨rq',nv',hrq,hrd,hown,hnil,ht,hb,hlen'⟩:=hcut
      have HNK:=hide hnil
      clear hnil
      have HSG:=hide (qsign_any (tb+1) tb nv' l 59 stZ wc hrd ht hl)
      have HRD:=hide hrd
      have HOW:=hide hown
      have HBR:=hide hb
      have hwc:tb+1 < wc.heap.size:=blk_lt hrd
      have HST:=hide (HSTEP.out rq' (fun z hz=>by rw [HZ.out z hz];exact hrq))
      clear hrq hrd hown ht hb HSTEP HZ HRD3 HOW3 HT3 HB3 HTX HGO
      go_wp2_with fail
      refine HSG.out.mono ?_
      rintro e w4 ⟨rfl,hm4,ht4⟩
      have HRD4:=hide (HRD.out.mod hm4 (by omega))
      have HOW4:=hide (ownsRow_mod (b:=tb) HOW.out hm4 (by omega))
      have HT4:=hide ht4
      have HB4:=hide (HBR.out.trans (hm4.below (Nat.le_refl _) (by omega)))
      have hmu:=HST.out.1
      clear hm4 ht4
      go_wp2
      go_roundg (muS l (signS l 59 stZ))
      case measure=>exact hmu
      case rel=>exact ⟨_,rq',nv',rfl,HRD4.out,HOW4.out,HNK.out,HT4.out,HB4.out,HST.out.2,by omega⟩
    ·have HFIN:Hid (∃ (st1:Except Flt PS) (rq:List (List UInt8)) (nv:Value),RdQ wr (tb+1) tb nv∧wr.ownsRow (tb+2) 9 1 nv rq.length (tcells rq)∧(rq=[]→nv=.slice none 0 0)∧TSt wr tb l st1∧Below tb w wr∧rq.length≤2000000∧R=bindS st1 fun s=>.ok (rq,s)):=⟨st1,rq,nv,HRD.out,HOW.out,HNI.out,HTR.out,HBR.out,by omega,req_end HRR.out HTR.out hk⟩
     by_cases hk1:(wordS l st1).1=119
     ·have hkb:(((wordS l st1).1:Int) == 119)=true:=by simp;omega
      have heb:((errS st1:Int) == 0)=true:=by obtain ⟨s,hs,_,_⟩:=ok_word HTR.out hk1;rw [hs];rfl
      rw [decide_eq_false (fun e=>hk ⟨hk1,e⟩)] at e5
      clear hk hk1
      go_wp2
      go_meet
      exact HFIN.out
     ·have hkb:(((wordS l st1).1:Int) == 119)=false:=by simp;omega
      clear hk hk1 e5
      cases heb:((errS st1:Int) == 0)
      all_goals go_wp2
      all_goals go_meet
      all_goals exact HFIN.out
  case rest=>
   obtain ⟨st1,rq,nv,hrd,hown,hnil,ht,hb,hlen,hR⟩:=hcut
   have HNI:=hide hnil
   clear hnil
   have hP:=HPI.out rq st1 hR
   have hri:RdI wc (tb+1) tb nv rq:=RdI.of_owns hrd (by omega) hown (by omega) (by omega)
   have hwc:tb+1 < wc.heap.size:=blk_lt hrd
   obtain ⟨R2,hR2⟩:∃ R2,bindS st1 (cmdsMore (cmdL l rq F 7) F [])=R2:=⟨_,rfl⟩
   rw [hR2] at hP
   have HTI:Hid (TopI R2 l (cmdL l rq F 7) st1 []):=⟨F,fun s hs=>by rw [hs] at ht;have:=mu_bound ht hl;omega,hR2.symm⟩
   have HDN:=hide (fun s hs=>cmd_dn (l:=l) (req:=rq) (F:=F) 7 s hs)
   have HCM:=hide (qcommands_any 7 (TopI R2 l (cmdL l rq F 7)) (tb+1) tb nv rq l F 0 st1 wc hri ht hl (qcommand_any (tb+1) tb nv rq l F hl hF2 7 0 rfl) HTI.out (fun w1 st1 acc acc' h1 h2 h3 h4=>top_step HDN.out h1 h2 h3 h4))
   have HRI2:=hide hri
   have HB2:=hide hb
   have HP:=hide hP
   have HOW:=hide hown
   clear hrd hown ht hb hR hP hri hR2 HR1 HT1 HRI HPI HTI
   go_wp2_with fail
   refine HCM.out.mono ?_
   rintro e w2 ⟨v,st2,cs,rfl,hm2,ht2,hj,hk,⟨p2,m2,c2',rfl⟩,hv⟩
   have HTE:=hide (top_end (fun s h1 h2=>cmd_noword h1 h2) hj ht2 hk)
   have HRD2:=hide (HRI2.out.mod hm2)
   have HOW2:=hide (ownsRow_mod (b:=tb) HOW.out hm2 (by omega))
   have HB3:=hide (HB2.out.trans (hm2.below (Nat.le_refl _) (by omega)))
   have HT2:=hide ht2
   have HV2:=hide hv
   have hw2:tb+1 < w2.heap.size:=blk_lt HRD2.out.r
   have hsz2:=hm2.size
   have r0:w2.cell? ⟨tb+1,0,none⟩=some (.pointer (some ⟨tb,0,none⟩)):=blk_cell HRD2.out.r 0
   obtain ⟨q2,q4,q5,q6,q7⟩:=ht2.cells
   have HF:=hide (qfail_st tb l st2 ⟨4,(wordS l st2).2.2.2⟩ w2.drew (ht2.block rfl) hl (Nat.succ_ne_zero 3))
   clear hm2 ht2 hj hk hv HRI2 HOW HB2 HCM
   go_upto_if 102 with fail
   go_cut [] (fun wx=>Mod tb w2 wx∧TSt wx tb l (if (wordS l st2).1=0 then st2 else failS st2 ⟨4,(wordS l st2).2.2.2⟩))
   case first=>
    by_cases h0:(wordS l st2).1=0
    ·have hkb:(((wordS l st2).1:Int) != 0)=false:=by simp;omega
     have HI:Hid ((if (wordS l st2).1=0 then st2 else failS st2 ⟨4,(wordS l st2).2.2.2⟩)=st2):=if_pos h0
     clear h0
     go_wp2
     go_meet
     exact ⟨Mod.refl _ _,by rw [HI.out];exact HT2.out⟩
    ·have hkb:(((wordS l st2).1:Int) != 0)=true:=by simp;omega
     have HI:Hid ((if (wordS l st2).1=0 then st2 else failS st2 ⟨4,(wordS l st2).2.2.2⟩)=failS st2 ⟨4,(wordS l st2).2.2.2⟩):=if_neg h0
     clear h0
     go_wp2_with fail
     go_region_with (first | (go_at_call 70;refine HF.out.mono ?_;rintro e w3 h1;obtain ⟨rfl,hm1,ht1⟩:=h1;have HM3:=hide hm1;have HT3:=hide ht1;clear hm1 ht1;skip))
     all_goals go_wp2
     all_goals go_meet
     all_goals exact ⟨mod_fix HM3.out,by rw [HI.out];exact HT3.out⟩
   case rest=>
    obtain ⟨hm3,ht3⟩:=hcut
    obtain ⟨st3,hst3⟩:∃ st3,(if (wordS l st2).1=0 then st2 else failS st2 ⟨4,(wordS l st2).2.2.2⟩)=st3:=⟨_,rfl⟩
    rw [hst3] at HTE ht3
    have HRD3:=hide (HRD2.out.mod hm3)
    have HOW3:=hide (ownsRow_mod (b:=tb) HOW2.out hm3 (by omega))
    have HB4:=hide (HB3.out.trans (hm3.below (Nat.le_refl _) (by omega)))
    have HM3:=hide hm3
    have HT3:=hide ht3
    have r3:wc.cell? ⟨tb+1,0,none⟩=some (.pointer (some ⟨tb,0,none⟩)):=blk_cell HRD3.out.r 0
    have r4:wc.cell? ⟨tb+1,1,none⟩=some nv:=blk_cell HRD3.out.r 1
    obtain ⟨y2,_,_,_,_⟩:=ht3.cells
    have HS3:=hide hst3
    clear hm3 ht3 hst3 r0 q2 q4 q5 q6 q7
    cases st3 with
    | error f=>
     have y3:wc.cell? ⟨tb,3,none⟩=some (.int .i64 f.pos):=blk_cell HT3.out.1 3
     have heb:((errS (.error f):Int) != 0)=true:=by have:=HT3.out.2;show ((f.err:Int) != 0)=true;simp;omega
     have y2':wc.cell? ⟨tb,2,none⟩=some (.int .i64 f.err):=y2
     have heb':((f.err:Int) != 0)=true:=heb
     have hPE:parseL l=.error f:=by rw [HP.out,HTE.out];rfl
     have HPE:=hide hPE
     clear y2 heb hPE
     go_wp2_with fail
     go_quiet (fail)
     go_wp2
     refine bodyPost_ret (v:=.tuple #[.pointer none,.int .i64 f.err,.int .i64 f.pos]) (by simp [results,Tryz.results44,go_sem]) rfl ?_
     exact HXE.out _ _ f HPE.out (by rw [← HTB.out];exact ⟨HB4.out.os,HB4.out.tape,HB4.out.output,HB4.out.size,HB4.out.block⟩) rfl
    | ok s=>
     have y2':wc.cell? ⟨tb,2,none⟩=some (.int .i64 0):=y2
     have hPO:parseL l=.ok (rq,cs):=by rw [HP.out,HTE.out];rfl
     have HPO:=hide hPO
     have hst:∃ s,st2=.ok s:=by
      cases st2 with
      | ok s=>exact ⟨s,rfl⟩
      | error g=>have:=HS3.out;rw [if_pos (show (wordS l (.error g)).1=0 from rfl)] at this;cases this
     obtain ⟨s2,hs2⟩:=hst
     have HTY:=hide (HV2.out s2 hs2)
     obtain ⟨la,lc,rfl⟩:=own_lenQ HOW3.out
     have HTYW:=hide ((trY_tree (rcmd_tree 7)).weak _ (fromB w.heap.size) _ _ _ ((trY_tree (rcmd_tree 7)).keep _ _ _ _ _ HTY.out ((HM3.out.alloc (.cells #[.slice la rq.length lc,.slice p2 m2 c2'] 115)).abvX (fun e=>by have e':_≤tb:=e;omega))) (fun k hk _=>by have hk':_≤k:=hk;show w.heap.size≤k;rw [← HTB.out];omega))
     have HSY:Hid (slY (fromB w.heap.size) rq (wc.alloc (.cells #[.slice la rq.length lc,.slice p2 m2 c2'] 115)) (.slice la rq.length lc)):=by
      by_cases hq:rq=[]
      ·exact Or.inl ⟨hq,HNI.out hq⟩
      ·refine Or.inr ?_
       obtain ⟨g,c,h1,h2,h3,h4⟩:=slB.of_owns (HOW3.out.alloc (.cells #[.slice la rq.length lc,.slice p2 m2 c2'] 115)) rfl hq
       exact ⟨g,c,h1,by show w.heap.size≤g;rw [← HTB.out];omega,h3,h4⟩
     clear y2 hPO hs2
     go_wp2
     refine bodyPost_ret (v:=.tuple #[.pointer (some ⟨wc.heap.size,0,none⟩),.int .i64 0,.int .i64 0]) (by simp [results,Tryz.results44,go_sem]) rfl ?_
     have hbb:=HB4.out.alloc (by have:=blk_lt HRD3.out.r;omega) (.cells #[.slice la rq.length lc,.slice p2 m2 c2'] 115)
     rw [HTB.out] at hbb
     exact HXO.out _ _ (rq,cs) _ HPO.out hbb rfl ⟨wc.heap.size,_,_,rfl,HB4.out.size,blk_new _ _,HSY.out,HTYW.out⟩
end Go.Proofs.YtgnkjijocdmniaaGreatDoor
