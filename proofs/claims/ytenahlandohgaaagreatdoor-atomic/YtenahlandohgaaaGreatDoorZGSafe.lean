import Derived.Test.YtenahlandohgaaaGreatDoorZGBoxR
import Derived.Test.YtenahlandohgaaaGreatDoorZGPart
import Derived.Test.YtenahlandohgaaaGreatDoorZGSDel
import Derived.Test.YtenahlandohgaaaGreatDoorZPlainRuns
namespace Go.Proofs.YtenahlandohgaaaGreatDoor
set_option linter.unusedVariables false
set_option linter.unusedSimpArgs false
set_option maxRecDepth 100000
set_option maxHeartbeats 4000000
section
open Go.RowKit
attribute [local go_sem ↓] Go.wp_at_zero Go.wp_at_succ
def bdRes (A:AD) (id:List UInt8) (acts:List (Int×List UInt8)) (text:List UInt8):Nat×AD:=
 match filesL id acts text with
 | .error k=>(k,A)
 | .ok fs=>if fs=[] then (0,A) else aRun (leaveOps (jouL id text acts) fs) A
theorem AbsD.ac {w w':World} {B db bd bn n b:Nat} {A:AD} (h:AbsD w B db bd bn n A) (hf:Fr (PAc b) w w'):AbsD w' B db bd bn n A:=by
 obtain ⟨pv,h⟩:=h
 exact ⟨pv,h.fr hf (fun k cs ⟨_,cs',e⟩=>by injection e with e1 e2;exact absurd e2 (by decide)) (fun k es c ⟨_,cs',e⟩=>by cases e) (fun k cs ⟨_,cs',e⟩=>by injection e with e1 e2;exact absurd e2 (by decide)) (fun k cs ⟨_,cs',e⟩=>by injection e with e1 e2;exact absurd e2 (by decide))⟩
theorem gbd_split {B db bd bn n:Nat} {A:AD} {id text:List UInt8} {acts:List (Int×List UInt8)} {e:Ending} {w w':World} (h:GvPost B db bd bn n A id acts text w e w') :
 ∃ ev,e=.returned ev∧AbsD w' B db bd bn (n+1200) (bdRes A id acts text).2∧(ev=errV (bdRes A id acts text).1∨ev=.iface 40 (.int .i64 ((bdRes A id acts text).1:Int))):=by
 unfold bdRes
 obtain ⟨_,⟨k,h1,rfl,h2⟩ | ⟨h1,rfl,h2⟩ | ⟨fs,h1,hne,rfl,h2⟩⟩:=h
 ·rw [h1]
  exact ⟨_,rfl,h2.mono (by omega),Or.inr rfl⟩
 ·rw [h1]
  exact ⟨_,rfl,by simp;exact h2.mono (by omega),Or.inl (by simp;rfl)⟩
 ·rw [h1]
  dsimp only
  rw [if_neg hne]
  exact ⟨_,rfl,h2,Or.inl rfl⟩
theorem gbdeliver_any (B bb db bd bn n:Nat) (F:Fs) (id text:List UInt8) (acts:List (Int×List UInt8)) (av:Value) (l f kp pt:Int) (R:Nat×AD) (w:World) (hb:w.heap[bb]?=some (.cells #[.pointer (some ⟨db,0,none⟩)] 55)) (h:AbsD w B db bd bn n ⟨F,F,[],⟨-1,-1,false⟩⟩) (ht:Tab w) (hz:Tz w) (hg:ErrT w) (ha:∀ w',Fr (PDk B) w w'→ActG w' av acts)
 (h1:id.length≤2000000) (h2:text.length≤2000000) (h3:∀ a∈acts,a.2.length≤2000000) (h4:acts.length≤1000000) (hj0:F kJournal=none) (hn:n≤450000) (hJl:∀ fs,filesL id acts text=.ok fs→(jouL id text acts).length≤100000000) (hB6:6 < B) (hBw:B≤w.heap.size)
 (hR:R=bdRes ⟨F,F,[],⟨l,f,false⟩⟩ id acts text) (hR1:R.2.p.length≤100) (hR2:OpsOk R.2.p) (hR3:∀ o∈R.2.p,o.data.length≤100000000) (hl0:-9223372036854775808≤pt) (hl1:pt≤9223372036854775807) :
 Calls Tryz.prog 19 #[.pointer (some ⟨bb,0,none⟩),.string (strA id),av,.string (strA text),.int .i64 l,.int .i64 f,.int .i64 kp,.int .i64 pt] w fun e w'=>e=.returned (.int .i64 (R.1:Int))∧Fr (PDk B) w w'∧∃ bn' D' N' p',BoxEnd R.2 D' N' p'∧AbsD w' B db bd bn' (n+1400) ⟨D',N',p',⟨-1,-1,false⟩⟩:=by
 obtain ⟨pv,h⟩:=h
 have h:DJ w B db bd bn n F F [] (-1) (-1) false pv:=h
 have HR:=hide hR
 have HR1:=hide hR1
 have HR2:=hide hR2
 have HR3:=hide hR3
 have HD:=hide h
 have HT:=hide ht
 have HZ:=hide hz
 have HG:=hide hg
 have HA:=hide ha
 have H3:=hide h3
 have HJ0:=hide hj0
 have HBX:=hide hb
 have b0:w.cell? ⟨bb,0,none⟩=some (.pointer (some ⟨db,0,none⟩)):=blk_cell hb 0
 have d3:w.cell? ⟨db,3,none⟩=some (.int .i64 (-1)):=blk_cell h.blk 3
 have d4:w.cell? ⟨db,4,none⟩=some (.int .i64 (-1)):=blk_cell h.blk 4
 have z0:∀ j,w.frozen? ⟨db,j,none⟩=false:=blk_frozen h.blk
 obtain ⟨a,c,hav,_⟩:=ha w (Fr.refl _ w)
 subst hav
 clear h ht hz hg h3 hj0 hb ha hR hR1 hR2 hR3
 go_enter Tryz.func19,Tryz.ntmps19
 go_wp2_with fail
 refine wp_region_noPanic ?_
 go_region
 refine NoPanic.normal ?_
 obtain ⟨W,hW⟩:∃ W,W=((w.setCell ⟨db,3,none⟩ (.int .i64 l)).setCell ⟨db,4,none⟩ (.int .i64 f)).drew:=⟨_,rfl⟩
 obtain ⟨hDW,hFW⟩:=HD.out.aim l f
 rw [← hW] at hDW hFW
 rw [← hW]
 have HDW:=hide hDW
 have HFW:Hid (Fr (PDk B) w W):=hFW.mono (fun _ _ h=>h.toK HD.out.bb.1)
 have HAW:Hid (ActG W (.slice a acts.length c) acts):=HA.out W HFW.out
 have HBW:=hide (hFW.block _ _ HBX.out (fun ⟨_,cs,e⟩=>by injection e with e1 e2;exact absurd e2 (by decide)))
 clear hW hDW hFW b0 d3 d4 z0
 go_wp2_with (at_builtin;refine append_acts rfl _ _ rfl acts (.slice a acts.length c) rfl rfl HAW.out h4 ?_;intro a5 k5 w5 ho5 hb5;have HO5:=hide ho5;have HB5:=hide hb5;clear ho5 hb5;have b5:w5.cell? ⟨bb,0,none⟩=some (.pointer (some ⟨db,0,none⟩)):=blk_cell (blk_below HBW.out HB5.out) 0)
 have HF5:Hid (Fr (PDk B) w w5):=HFW.out.trans (Fr.of_below HB5.out)
 have hBW:w.heap.size≤W.heap.size:=HFW.out.size
 have HT5:Hid (Tab w5):=HT.out.keep HF5.out hB6
 have HZ5:Hid (Tz w5):=HF5.out.lowCell (a:=⟨6,15,none⟩) hB6 HZ.out
 have HX5:=hide (blk_below HBW.out HB5.out)
 refine (gmdeliver_any B db bd bn n ⟨F,F,[],⟨l,f,false⟩⟩ id text acts (.slice a5 acts.length k5) w5 ⟨pv,HDW.out.below HB5.out⟩ rfl HT5.out HZ5.out (ActG.of_owns HO5.out) h1 h2 H3.out (by omega) HJ0.out hn (by simp) (by intro o ho;cases ho) hJl).mono ?_
 intro e w6 hr6
 have hF6:=hr6.1
 have HF6:=hide (HF5.out.trans hF6)
 have HX6:=hide (hF6.block _ _ HX5.out PDk.notBox)
 have HO6:Hid (w6.ownsRow W.heap.size 51 2 (.slice a5 acts.length k5) acts.length (acells acts)):=owns_fr HO5.out hF6 (fun k cs=>PDk.notAc)
 clear hF6 b5
 obtain ⟨ev,hev,hD6,hrr⟩:=gbd_split hr6
 subst hev
 rw [← HR.out] at hD6 hrr
 have HD6:=hide hD6
 have HRR:=hide hrr
 clear hD6 hrr hr6
 go_wp2_with fail
 go_loopw [19,49] (fun _ i wr=>∃ (j:Nat) (xs:List Value),j≤acts.length∧i=.int .i64 (j:Int)∧wr.ownsRow W.heap.size 51 2 (.slice a5 acts.length k5) acts.length xs∧Fr (PAc W.heap.size) w6 wr) (fun _ i _=>acts.length - (intOf i).toNat)
 case atStart=>exact ⟨0,_,Nat.zero_le _,by go_num,HO6.out,Fr.refl _ _⟩
 case round=>
  obtain ⟨j,xs,hj,rfl,hown,hF⟩:=hrel
  by_cases hlt:j < acts.length
  ·obtain ⟨g,c,hv,hbg,hgl,hcells⟩:=owns_get hown (by omega)
   injection hv with hv1 hv2 hv3
   subst hv1 hv3
   have hxl:=hown.1
   obtain ⟨u2,hu2⟩:∃ u,wr.cell? ⟨g,j*2+1,none⟩=some u:=⟨xs[j*2+1]'(by omega),hcells _ _ (List.getElem?_eq_getElem (by omega))⟩
   have hfz:∀ o,wr.frozen? ⟨g,o,none⟩=false:=hown.frozenAt
   obtain ⟨s1,g1⟩:=hown.stored (j*2+1) (.string ⟨#[109,105,110,101]⟩)
   have HS:=hide (And.intro s1 (hF.trans ((Fr.refl (PAc W.heap.size) wr).grown g1 (fun k' o e ho'=>owns_blk hown k' o e ho'))))
   clear s1 g1 hown hF hcells hxl
   go_wp2
   go_roundw
   case rel=>exact ⟨j+1,_,by omega,by go_num,HS.out.1,HS.out.2⟩
   case measure=>simp [intOf];omega
  ·have HFR:Hid (Fr (PDk B) w wr):=HF6.out.newAc hF hBW
   have HDR:=hide (AbsD.ac HD6.out hF)
   have HXR:=hide (hF.block _ _ HX6.out (fun ⟨_,cs,e⟩=>by injection e with e1 e2;exact absurd e2 (by decide)))
   have HGR:Hid (ErrT wr):=HFR.out.lowCell (a:=⟨0,0,none⟩) (by show 0 < B;omega) HG.out
   have hjn:j=acts.length:=by omega
   subst hjn
   clear hF hown
   have HTO:Hid (Calls Tryz.prog 27 #[ev] wr fun e w'=>e=.returned (.tuple #[.int .i64 (R.1:Int),.int .i64 (-1)])∧Below wr.heap.size wr w'):=by
    rcases HRR.out with hev | hev
    ·rw [hev];exact told_errV R.1 wr HGR.out
    ·rw [hev];exact told_errno (R.1:Int) wr HGR.out
   clear HRR
   go_wp2_with fail
   refine HTO.out.mono ?_
   rintro e w7 ⟨rfl,hb7⟩
   obtain ⟨pv7,hD7⟩:=HDR.out
   have HD7:=hide (hD7.below hb7)
   have HF7:Hid (Fr (PDk B) w w7):=HFR.out.trans (Fr.of_below hb7)
   have hX7:=blk_below HXR.out hb7
   have b0:w7.cell? ⟨bb,0,none⟩=some (.pointer (some ⟨db,0,none⟩)):=blk_cell hX7 0
   have d3:w7.cell? ⟨db,3,none⟩=some (.int .i64 R.2.lf.left):=blk_cell HD7.out.blk 3
   have d4:w7.cell? ⟨db,4,none⟩=some (.int .i64 R.2.lf.full):=blk_cell HD7.out.blk 4
   have d5:w7.cell? ⟨db,5,none⟩=some (.bool R.2.lf.down):=blk_cell HD7.out.blk 5
   have z0:∀ j,w7.frozen? ⟨db,j,none⟩=false:=blk_frozen HD7.out.blk
   have HX7:=hide hX7
   have HAIM:=hide (HD7.out.aim (-1) (-1))
   clear hb7 hX7 HTO hD7
   generalize hdn:R.2.lf.down=dn at *
   have HDN:=hide hdn
   clear hdn
   cases dn with
   | false=>
    go_wp2_with fail
    refine wp_region_noPanic ?_
    go_region
    refine NoPanic.normal ?_
    go_wp2
    go_ret
    obtain ⟨h8,h9⟩:=HAIM.out
    exact ⟨rfl,HF7.out.trans (h9.mono (fun _ _ h=>h.toK HD7.out.bb.1)),bn,R.2.D,R.2.N,R.2.p,Or.inl ⟨HDN.out,rfl,rfl,rfl⟩,AbsD.mono ⟨_,h8⟩ (by omega)⟩
   | true=>
    have HCR:=hide (gcrash_any B db bd bn (n+1200) R.2 kp pt w7 ⟨_,by rw [HDN.out];exact HD7.out⟩ (by omega) (by have:=HR1.out;omega) HR2.out HR3.out hl0 hl1)
    clear HAIM d3 d4 z0
    go_wp2_with fail
    refine HCR.out.mono ?_
    rintro e w8 ⟨rfl,hF8,bn',D',hcr,pv8,hD8⟩
    have hD8':DJ w8 B db bd bn' (n+1200+R.2.p.length) D' D' [] (-1) (-1) false pv8:=hD8
    have HD8:=hide hD8'
    have hX8:=hF8.block _ _ HX7.out PDk.notBox
    have b8:w8.cell? ⟨bb,0,none⟩=some (.pointer (some ⟨db,0,none⟩)):=blk_cell hX8 0
    have e3:w8.cell? ⟨db,3,none⟩=some (.int .i64 (-1)):=blk_cell hD8'.blk 3
    have e4:w8.cell? ⟨db,4,none⟩=some (.int .i64 (-1)):=blk_cell hD8'.blk 4
    have y0:∀ j,w8.frozen? ⟨db,j,none⟩=false:=blk_frozen hD8'.blk
    have HAIM:=hide (hD8'.aim (-1) (-1))
    have HF8:=hide (HF7.out.trans hF8)
    have HCC:=hide hcr
    clear hD8 hD8' hX8 hF8 hcr b0 d5
    go_wp2_with fail
    refine wp_region_noPanic ?_
    go_region
    refine NoPanic.normal ?_
    go_wp2
    go_ret
    obtain ⟨h8,h9⟩:=HAIM.out
    exact ⟨rfl,HF8.out.trans (h9.mono (fun _ _ h=>h.toK HD8.out.bb.1)),bn',D',D',[],Or.inr ⟨HDN.out,HCC.out,rfl,rfl⟩,AbsD.mono ⟨_,h8⟩ (by have:=HR1.out;omega)⟩
end
section
structure DvIs (F:Fs) (id:List UInt8) (acts:List (Int×List UInt8)) (text:List UInt8) (fs:List Fl):Prop where
 ok:filesL id acts text=.ok fs
 li:id.length≤100000
 lt:text.length≤100000
 la:∀ a∈acts,a.2.length≤100000
 dot:∀ x,(F x).isSome=true→dotB x=false
 jl:(joinedL (jparts id text acts)).length≤80000000
 f10:fs.length≤6
 a6:acts.length≤6
 nm:∀ f∈fs,NameOk f.1∧f.2.length≤400000
 kd:∀ a∈acts,0≤a.1∧a.1≤2147483647
variable {F:Fs} {id:List UInt8} {acts:List (Int×List UInt8)} {text:List UInt8} {fs:List Fl}
theorem DvIs.nj (h:DvIs F id acts text fs):∀ f∈fs,f.1≠kJournal:=fun f hf e=>by
 obtain ⟨_,c0,r,e1,e2⟩:=(h.nm f hf).1
 rw [e] at e1
 injection e1 with e3 _
 exact e2 e3.symm
theorem DvIs.fj (h:DvIs F id acts text fs):F kJournal=none:=by
 cases e:F kJournal with
 | none=>rfl
 | some s=>exact absurd (h.dot kJournal (by rw [e];rfl)) (by decide)
theorem name_dot {x:List UInt8} (h:NameOk x):dotB x=false:=by
 obtain ⟨_,c0,r,e1,e2⟩:=h
 subst e1
 show (46 == c0 && List.isPrefixOf [] r)=false
 rw [Bool.and_eq_false_iff]
 exact Or.inl (by rw [beq_eq_false_iff_ne];exact fun e=>e2 e.symm)
theorem putFs_somG (x:List UInt8):∀ (l:List Fl) (M:Fs),(putFs M l x).isSome=true→(M x).isSome=true∨∃ f∈l,f.1=x
 | [],M,h=>Or.inl h
 | f :: r,M,h=>by
  rcases putFs_somG x r (putP M f) h with h | ⟨g,hg,e⟩
  ·by_cases hx:x=f.1
   ·exact Or.inr ⟨f,List.mem_cons_self,hx.symm⟩
   ·refine Or.inl ?_
    have:putF M f.1 f.2 x=M x:=by unfold putF;rw [if_neg hx]
    rw [← this]
    exact h
  ·exact Or.inr ⟨g,List.mem_cons_of_mem _ hg,e⟩
theorem own_is (h:DvIs F id acts text fs) (w:World) (ht:Tab w) (hz:Tz w) (M:Fs) (own:Option (List Fl)) (ho:OwnOf F (jouL id text acts) fs M own):OwnIs w M own:=by
 have hfd:∀ f∈fs,dotB f.1=false:=fun f hf=>name_dot (h.nm f hf).1
 have hTab:∀ B W,6 < B→Fr (PDk B) w W→Tab W∧Tz W:=fun B W hB hf=>⟨ht.keep hf hB,hf.lowCell (a:=⟨6,15,none⟩) hB hz⟩
 have hjl:(jouL id text acts).length≤90000000:=by
  unfold jouL
  rw [sealed_head,List.length_append]
  have h1:=itoa_len8 8 (joinedL (jparts id text acts)).length (by have:=h.jl;omega)
  have h2:=hexL_len (fnvL [kJournal,[10],joinedL (jparts id text acts)])
  unfold headL
  rw [List.length_append,List.length_append]
  have h3:=h.jl
  simp only [List.length_cons,List.length_nil]
  omega
 rcases ho with ⟨rfl,hW | hX⟩ | ⟨rfl,hT⟩ | ⟨rfl,hJ⟩
 ·exact fun x hx=>h.dot x (by rw [← hW x];exact hx)
 ·exact fun x hx=>by
   rw [hX x] at hx
   rcases putFs_somG x fs F hx with hx | ⟨f,hf,e⟩
   ·exact h.dot x hx
   ·rw [← e];exact hfd f hf
 ·obtain ⟨hx,k,hk,hs⟩:=hT
  refine ⟨fun x h1 h2=>h.dot x (by rw [← hx x h2];exact h1),by simp,(fun f hf=>by cases hf),(fun f hf=>by cases hf),_,hs,?_,fun B W hB hf=>?_⟩
  ·rw [List.length_take];omega
  ·obtain ⟨hT,hZ⟩:=hTab B W hB hf
   rcases torn_head kJournal (joinedL (jparts id text acts)) k hk with hn | ⟨z,hz1,hz2,hz3⟩
   ·exact (told_nocut kJournal _ W hn (by show (List.take k (jouL id text acts)).length≤_;rw [List.length_take];omega)).mono (fun e w' hh=>Or.inl ⟨rfl,hh⟩)
   ·show Calls _ _ #[_,.string (strA (List.take k (sealedL kJournal (joinedL (jparts id text acts)))))] _ _
    rw [hz1] at hz3 ⊢
    refine (told_bad kJournal _ z W hT hZ (head_ne _ _) ?_ (by decide) hz3).mono (fun e w' hh=>Or.inl ⟨rfl,hh⟩)
    have h4:(headL kJournal (joinedL (jparts id text acts))++10 :: z).length≤(jouL id text acts).length:=by
     rw [← hz1,List.length_take]
     show min _ (jouL id text acts).length≤_
     omega
    simp only [List.length_append,List.length_cons] at h4
    omega
 ·refine ⟨fun x h1 h2=>?_,by have:=h.f10;omega,fun f hf=>⟨by have:=(h.nm f hf).1.1;omega,by have:=(h.nm f hf).2;omega⟩,h.nj,_,hJ.1,hjl,fun B W hB hf=>?_⟩
  ·by_cases hn:∃ f∈fs,f.1=x
   ·obtain ⟨f,hf,e⟩:=hn
    rw [← e];exact hfd f hf
   ·exact h.dot x (by rw [← hJ.2 x h2 (fun f hf e=>hn ⟨f,hf,e⟩)];exact h1)
  ·obtain ⟨hT,hZ⟩:=hTab B W hB hf
   exact (told_whole kJournal id text acts W hT hZ (by decide) h.jl (by have:=h.a6;omega) h.kd).mono (fun e w' hh=>Or.inr ⟨id,text,acts,h.ok,by have:=h.li;omega,by have:=h.lt;omega,fun a ha=>by have:=h.la a ha;omega,by have:=h.a6;omega,hh⟩)
end
section
open Go.RowKit
attribute [local go_sem ↓] Go.wp_at_zero Go.wp_at_succ
theorem DJ.toDI {w:World} {B db bd bn n:Nat} {D N:Fs} {p:List Dop} {pv:Value} (h:DJ w B db bd bn n D N p (-1) (-1) false pv):DI w B db bd bn n D N p (-1) pv:=⟨h.bb,h.ne,h.blk,h.md,h.mn,h.row⟩
theorem gblose_any (B bb db bd bn n:Nat) (A:AD) (kp pt:Int) (w:World) (hb:w.heap[bb]?=some (.cells #[.pointer (some ⟨db,0,none⟩)] 55)) (h:AbsD w B db bd bn n A) (hn:n≤480000) (hp:A.p.length≤10000) (hops:OpsOk A.p) (hdl:∀ o∈A.p,o.data.length≤100000000) (h0:-9223372036854775808≤pt) (h1:pt≤9223372036854775807) :
 Calls Tryz.prog 23 #[.pointer (some ⟨bb,0,none⟩),.int .i64 kp,.int .i64 pt] w fun e w'=>e=.returned (.tuple #[])∧Fr (PDk B) w w'∧∃ bn' D',CrashOf A.D A.p D'∧AbsD w' B db bd bn' (n+A.p.length) ⟨D',D',[],⟨-1,-1,false⟩⟩:=by
 have HL:=hide (gcrash_any B db bd bn n A kp pt w h hn hp hops hdl h0 h1)
 have b0:w.cell? ⟨bb,0,none⟩=some (.pointer (some ⟨db,0,none⟩)):=blk_cell hb 0
 clear h hb hops hdl
 go_enter Tryz.func23,Tryz.ntmps23
 go_wp2_with fail
 refine HL.out.mono ?_
 rintro e w2 ⟨rfl,hF2,bn',D',hc,hD2⟩
 have HD2:=hide hD2
 have HF2:=hide hF2
 have HC:=hide hc
 clear hD2 hF2 hc
 go_wp2
 go_end0
 exact ⟨rfl,HF2.out,bn',D',HC.out,HD2.out⟩
theorem gbfiles_any (B bb db bd bn n:Nat) (D N:Fs) (p:List Dop) (w:World) (hb:w.heap[bb]?=some (.cells #[.pointer (some ⟨db,0,none⟩)] 55)) (h:AbsD w B db bd bn n ⟨D,N,p,⟨-1,-1,false⟩⟩) (hn:n≤500000) :
 Calls Tryz.prog 20 #[.pointer (some ⟨bb,0,none⟩)] w fun e w'=>Below w.heap.size w w'∧∃ v l,e=.returned v∧FilN w' v l∧Lists D l∧l.length≤n:=by
 obtain ⟨pv,h⟩:=h
 have HL:=hide (dfiles_all B db bd bn n D N p (-1) pv w (DJ.toDI h) hn)
 have b0:w.cell? ⟨bb,0,none⟩=some (.pointer (some ⟨db,0,none⟩)):=blk_cell hb 0
 clear h hb
 go_enter Tryz.func20,Tryz.ntmps20
 go_wp2_with fail
 refine HL.out.mono ?_
 rintro e w1 ⟨hb1,v,l,rfl,h1,h2,h3⟩
 have HB1:=hide hb1
 have H1:=hide h1
 have H2:=hide h2
 clear hb1 h1 h2
 go_wp2
 go_ret
 exact ⟨HB1.out,v,l,rfl,H1.out,H2.out,h3⟩
end
section
variable {F:Fs} {id:List UInt8} {acts:List (Int×List UInt8)} {text:List UInt8} {fs:List Fl}
structure NamesIn (F:Fs) (fs:List Fl) (L:List (List UInt8)):Prop where
 f:∀ x,(F x).isSome=true→x∈L
 j:kJournal∈L
 n:∀ f∈fs,f.1∈L
theorem NamesIn.next {L:List (List UInt8)} (h:NamesIn F fs L) (x:List UInt8) (hx:(putFs F fs x).isSome=true):x∈L:=by
 rcases putFs_somG x fs F hx with hx | ⟨f,hf,e⟩
 ·exact h.f x hx
 ·rw [← e];exact h.n f hf
theorem good_names {J:List UInt8} {L:List (List UInt8)} {D:Fs} {p:List Dop} (hL:NamesIn F fs L) (h:Good F J fs D p) (x:List UInt8) (hx:(D x).isSome=true):x∈L:=by
 by_cases hj:x=kJournal
 ·rw [hj];exact hL.j
 rcases h with ⟨h,_⟩ | ⟨h,_⟩ | ⟨h,_⟩ | ⟨h,_⟩ | ⟨h,_⟩
 ·exact hL.f x (by rw [← h x];exact hx)
 ·exact hL.f x (by rw [← h.1 x hj];exact hx)
 ·by_cases hn:∃ f∈fs,f.1=x
  ·obtain ⟨f,hf,e⟩:=hn
   rw [← e];exact hL.n f hf
  ·exact hL.f x (by rw [← h.2 x hj (fun f hf e=>hn ⟨f,hf,e⟩)];exact hx)
 ·exact hL.next x (by rw [← h.2 x hj];exact hx)
 ·exact hL.next x (by rw [← h x];exact hx)
theorem good_pend (h:DvIs F id acts text fs) {D:Fs} {p:List Dop} (hg:Good F (jouL id text acts) fs D p) (hjl:(jouL id text acts).length≤100000000):p.length≤6∧OpsOk p∧∀ o∈p,o.data.length≤100000000:=by
 have hk:kJournal.length≤1000000:=by decide
 have h1:OpsOk [wOp (kJournal,jouL id text acts)]:=fun o ho=>by rw [List.mem_singleton.1 ho];exact ⟨Or.inl rfl,hk⟩
 have h2:OpsOk [rOp kJournal]:=fun o ho=>by rw [List.mem_singleton.1 ho];exact ⟨Or.inr rfl,hk⟩
 rcases hg with ⟨_,rfl | rfl⟩ | ⟨_,rfl | rfl⟩ | ⟨_,k,rfl⟩ | ⟨_,rfl⟩ | ⟨_,rfl⟩
 ·exact ⟨by simp,(fun o ho=>by cases ho),(fun o ho=>by cases ho)⟩
 ·exact ⟨by simp,h1,fun o ho=>by rw [List.mem_singleton.1 ho];exact hjl⟩
 ·exact ⟨by simp,(fun o ho=>by cases ho),(fun o ho=>by cases ho)⟩
 ·exact ⟨by simp,h2,fun o ho=>by rw [List.mem_singleton.1 ho];exact Nat.zero_le _⟩
 ·have hl:=h.f10
  refine ⟨by rw [List.length_map,List.length_take];omega,fun o ho=>?_,fun o ho=>?_⟩
  ·obtain ⟨f,hf,rfl⟩:=List.mem_map.1 ho
   have:=(h.nm f (List.mem_of_mem_take hf)).1.1
   exact ⟨Or.inl rfl,by show f.1.length≤_;omega⟩
  ·obtain ⟨f,hf,rfl⟩:=List.mem_map.1 ho
   have:=(h.nm f (List.mem_of_mem_take hf)).2
   show f.2.length≤_
   omega
 ·exact ⟨by simp,h2,fun o ho=>by rw [List.mem_singleton.1 ho];exact Nat.zero_le _⟩
 ·exact ⟨by simp,(fun o ho=>by cases ho),(fun o ho=>by cases ho)⟩
def BoxG (w:World) (B db bd m:Nat) (F:Fs) (J:List UInt8) (fs:List Fl):Prop:=
 ∃ bn D N p,AbsD w B db bd bn m ⟨D,N,p,⟨-1,-1,false⟩⟩∧Good F J fs D p∧N=p.foldl doF D
def BoxR (w:World) (B db bd m:Nat) (Q:Fs→Prop):Prop:=∃ bn M,Q M∧AbsD w B db bd bn m ⟨M,M,[],⟨-1,-1,false⟩⟩
def BoxP (B db bd m:Nat) (F:Fs) (J:List UInt8) (fs:List Fl) (Q:Fs→Prop) (w:World) (e:Ending) (w':World):Prop:=
 ∃ k:Nat,e=.returned (.int .i64 (k:Int))∧Fr (PDk B) w w'∧((k=0∧BoxR w' B db bd m Q)∨((k=15∨k=16)∧BoxG w' B db bd m F J fs))
theorem box_end {J:List UInt8} {L:List (List UInt8)} {B db bd bn' n:Nat} {R:Nat×AD} {Q:Fs→Prop} {D' N':Fs} {p':List Dop} {w w':World} {e:Ending} (hL:NamesIn F fs L) (hF:F kJournal=none) (hj:∀ f∈fs,f.1≠kJournal) (hE:Ends F J fs R Q) (hQ:∀ M,Q M→∀ x,(M x).isSome=true→x∈L)
 (he:e=.returned (.int .i64 (R.1:Int))) (hf:Fr (PDk B) w w') (hb:BoxEnd R.2 D' N' p') (hA:AbsD w' B db bd bn' n ⟨D',N',p',⟨-1,-1,false⟩⟩):BoxP B db bd L.length F J fs Q w e w':=by
 refine ⟨R.1,he,hf,?_⟩
 rcases hE with ⟨h0,h1,h2,h3,h4⟩ | ⟨hfail,hg,hN⟩
 ·refine Or.inl ⟨h0,bn',R.2.D,h4,?_⟩
  rcases hb with ⟨_,rfl,rfl,rfl⟩ | ⟨hd,_⟩
  ·rw [h2,← h1] at hA
   exact hA.tight L (hQ _ h4) (hQ _ h4)
  ·rw [h3] at hd;cases hd
 ·refine Or.inr ⟨?_,?_⟩
  ·rcases hfail with ⟨h,_⟩ | ⟨h,_⟩
   ·exact Or.inl h
   ·exact Or.inr h
  ·rcases hb with ⟨hd,rfl,rfl,rfl⟩ | ⟨hd,hc,rfl,rfl⟩
   ·refine ⟨bn',_,_,_,hA.tight L (good_names hL hg) ?_,hg,hN hd⟩
    show ∀ x,(R.2.N x).isSome=true→x∈L
    rw [hN hd]
    exact good_names hL (good_now hg hF hj)
   ·have hg':=good_crash hg hF hj hc
    exact ⟨bn',_,_,_,hA.tight L (good_names hL hg') (good_names hL hg'),hg',rfl⟩
theorem jou_len (h:DvIs F id acts text fs):(jouL id text acts).length≤90000000:=by
 unfold jouL
 rw [sealed_head,List.length_append]
 have h1:=itoa_len8 8 (joinedL (jparts id text acts)).length (by have:=h.jl;omega)
 have h2:=hexL_len (fnvL [kJournal,[10],joinedL (jparts id text acts)])
 unfold headL
 rw [List.length_append,List.length_append]
 have h3:=h.jl
 simp only [List.length_cons,List.length_nil]
 omega
theorem ends_good {J:List UInt8} {R:Nat×AD} {Q:Fs→Prop} (hE:Ends F J fs R Q):R.2.p=[]∨Good F J fs R.2.D R.2.p:=by
 rcases hE with ⟨_,_,h2,_⟩ | ⟨_,hg,_⟩
 ·exact Or.inl h2
 ·exact Or.inr hg
theorem ends_pend (h:DvIs F id acts text fs) {R:Nat×AD} {Q:Fs→Prop} (hE:Ends F (jouL id text acts) fs R Q):R.2.p.length≤6∧OpsOk R.2.p∧∀ o∈R.2.p,o.data.length≤100000000:=by
 rcases ends_good hE with hp | hg
 ·rw [hp];exact ⟨by simp,(fun o ho=>by cases ho),(fun o ho=>by cases ho)⟩
 ·exact good_pend h hg (by have:=jou_len h;omega)
theorem sbrecover (B bb db bd:Nat) (L:List (List UInt8)) (l f kp pt:Int) (w:World) (hv:DvIs F id acts text fs) (hL:NamesIn F fs L) (hb:w.heap[bb]?=some (.cells #[.pointer (some ⟨db,0,none⟩)] 55)) (h:BoxG w B db bd L.length F (jouL id text acts) fs) (hB:6 < B) (ht:Tab w) (hz:Tz w) (hg:ErrT w) (hn:L.length≤450000) (hl0:-9223372036854775808≤pt) (hl1:pt≤9223372036854775807) :
 Calls Tryz.prog 24 #[.pointer (some ⟨bb,0,none⟩),.int .i64 l,.int .i64 f,.int .i64 kp,.int .i64 pt] w (BoxP B db bd L.length F (jouL id text acts) fs (fun M=>Was F M∨Nxt F fs M) w):=by
 obtain ⟨bn,D,N,p,hA,hgd,hN⟩:=h
 have hgN:Good F (jouL id text acts) fs N []:=by rw [hN];exact good_now hgd hv.fj hv.nj
 obtain ⟨own,ho⟩:=own_of hgN
 have hE:=rec_run ⟨D,N,p,⟨l,f,false⟩⟩ own hgd hN ho hv.fj hv.nj
 obtain ⟨p1,p2,p3⟩:=ends_pend hv hE
 obtain ⟨q1,q2,q3⟩:=good_pend hv hgd (by have:=jou_len hv;omega)
 refine (gbrecover_any B bb db bd bn L.length D N p l f kp pt own _ w hb hA hB ht hg (own_is hv w ht hz N own ho) hn (by omega) q2 rfl (by omega) p2 p3 hl0 hl1).mono ?_
 rintro e w' ⟨he,hf,bn',D',N',p',hbe,hA'⟩
 refine box_end hL hv.fj hv.nj hE (fun M hM x hx=>?_) he hf hbe hA'
 rcases hM with hM | hM
 ·exact hL.f x (by rw [← hM x];exact hx)
 ·exact hL.next x (by rw [← hM x];exact hx)
theorem sbdeliver (B bb db bd:Nat) (L:List (List UInt8)) (av:Value) (l f kp pt:Int) (w:World) (hv:DvIs F id acts text fs) (hne:fs≠[]) (hL:NamesIn F fs L) (hb:w.heap[bb]?=some (.cells #[.pointer (some ⟨db,0,none⟩)] 55)) (h:BoxR w B db bd L.length (fun M=>M=F)) (hB:6 < B) (hBw:B≤w.heap.size) (ht:Tab w) (hz:Tz w) (hg:ErrT w) (ha:∀ w',Fr (PDk B) w w'→ActG w' av acts) (hn:L.length≤450000) (hl0:-9223372036854775808≤pt) (hl1:pt≤9223372036854775807) :
 Calls Tryz.prog 19 #[.pointer (some ⟨bb,0,none⟩),.string (strA id),av,.string (strA text),.int .i64 l,.int .i64 f,.int .i64 kp,.int .i64 pt] w (BoxP B db bd L.length F (jouL id text acts) fs (Nxt F fs) w):=by
 obtain ⟨bn,M,rfl,hA⟩:=h
 have hR:bdRes ⟨M,M,[],⟨l,f,false⟩⟩ id acts text=aRun (leaveOps (jouL id text acts) fs) ⟨M,M,[],⟨l,f,false⟩⟩:=by
  unfold bdRes
  rw [hv.ok]
  dsimp only
  rw [if_neg hne]
 have hE:Ends M (jouL id text acts) fs (bdRes ⟨M,M,[],⟨l,f,false⟩⟩ id acts text) (Nxt M fs):=by rw [hR];exact leave_run _ hv.fj hv.nj
 obtain ⟨p1,p2,p3⟩:=ends_pend hv hE
 refine (gbdeliver_any B bb db bd bn L.length M id text acts av l f kp pt _ w hb hA ht hz hg ha (by have:=hv.li;omega) (by have:=hv.lt;omega) (fun a h=>by have:=hv.la a h;omega) (by have:=hv.a6;omega) hv.fj hn (fun _ _=>by have:=jou_len hv;omega) hB hBw rfl (by omega) p2 p3 hl0 hl1).mono ?_
 rintro e w' ⟨he,hf,bn',D',N',p',hbe,hA'⟩
 exact box_end hL hv.fj hv.nj hE (fun M' hM x hx=>hL.next x (by rw [← hM x];exact hx)) he hf hbe hA'
end
end Go.Proofs.YtenahlandohgaaaGreatDoor
