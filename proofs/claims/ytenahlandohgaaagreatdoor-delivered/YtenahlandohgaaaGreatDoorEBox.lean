import Derived.Laws.AppendOwnNone
import Derived.BigRegion
import Derived.Test.YtenahlandohgaaaGreatDoorDList
import Derived.Test.YtenahlandohgaaaGreatDoorERecover
import Derived.Test.YtenahlandohgaaaGreatDoorTold4
namespace Go.Proofs.YtenahlandohgaaaGreatDoor
set_option linter.unusedVariables false
set_option linter.unusedSimpArgs false
set_option maxRecDepth 100000
set_option maxHeartbeats 4000000
open Go.RowKit
attribute [local go_sem ↓] Go.wp_at_zero Go.wp_at_succ
theorem Tryz.infoActE:(Tryz.prog.info? 51).map (fun i=>(i.zero,i.size,i.bytes))=some (some (.agg #[.int .i64 0,.string ⟨#[]⟩]),2,24):=by kernel_rfl
theorem acells_oneE (l:List (Int×List UInt8)):∀ u∈acells l,u.oneCell'=true:=by
 intro u hu
 unfold acells at hu
 obtain ⟨a,_,ha⟩:=List.mem_flatMap.1 hu
 simp at ha
 rcases ha with rfl | rfl <;> rfl
theorem acells_get {l:List (Int×List UInt8)} {j:Nat} {u:Value} (h:(acells l)[j]?=some u):∃ k,∃ hk:k < l.length,(j=k*2∧u=.int .i64 l[k].1)∨(j=k*2+1∧u=.string (strA l[k].2)):=by
 have hj:j < l.length*2:=by rw [← acells_length];exact (List.getElem?_eq_some_iff.1 h).1
 have hk:j / 2 < l.length:=by omega
 obtain ⟨h1,h2⟩:=acells_at l (j / 2) hk
 refine ⟨j / 2,hk,?_⟩
 rcases Nat.mod_two_eq_zero_or_one j with e | e
 ·have e1:j / 2*2=j:=by omega
  rw [e1] at h1
  rw [h] at h1
  injection h1 with h1
  exact Or.inl ⟨e1.symm,h1⟩
 ·have e1:j / 2*2+1=j:=by omega
  rw [e1] at h2
  rw [h] at h2
  injection h2 with h2
  exact Or.inr ⟨e1.symm,h2⟩
theorem append_acts {w:World} {ops:Array Oper} {rest:List Oper} {o:Oper} {a:Act} {Q:Exit→Act→World→Prop} (hgd:o.guard=none) (s x:Operand)
 (ho:o.op=.call { callee:=.builtin .append,args:=#[s,x],argTypes:=#[29,29] }) (l:List (Int×List UInt8)) (sv:Value) (hs:a.eval s=.slice none 0 0) (hx:a.eval x=sv) (h:ActG w sv l) (hl:l.length≤1000000)
 (K:∀ a' k' w',w'.ownsRow w.heap.size 51 2 (.slice a' l.length k') l.length (acells l)→Below w.heap.size w w'→wpList Tryz.prog ops Q rest (a.put o.dst (.slice a' l.length k')) w'):wpList Tryz.prog ops Q (o :: rest) a w:=by
 obtain ⟨i0,hi,hz0,hz1,hz2⟩:=info_parts Tryz.infoActE
 obtain ⟨ad,c,rfl,hc⟩:=h
 cases ad with
 | none=>
  have h0:l=[]:=Classical.byContradiction fun hne=>by obtain ⟨b,off,e,_⟩:=hc hne;cases e
  subst h0
  have K':=K none 0 w (World.ownsRow_nil _ _ _ _) (Below.refl _ _)
  have hr:(Builtin.append_ #[29,29] o.type #[.slice none 0 0,.slice none 0 c]).run Tryz.prog w=.ok (.slice none 0 0) w:=by kernel_rfl
  refine wpList_plain hgd fun K2 hK=>?_
  unfold Oper.wp
  have hx':a.eval x=.slice none 0 c:=hx
  simp [execOp,ho,resolve,invoke,builtin,hs,hx',hr,Result.andThen]
  exact hK _ _ K'
 | some ad=>
  refine wpList_append_own _ hgd s x _ ho w.heap.size 51 i0 _ 2 24 Tryz.underlying29 hi hz0 hz1 hz2 rfl (by decide) (.slice none 0 0) 0 [] hs (World.ownsRow_nil _ _ _ _) ad l.length c (acells l) hx (acells_length l) (fun j u hj=>?_) (acells_oneE l) (by unfold maxLen;omega) (by omega) (Nat.le_refl _) (fun v' w' ho' hg' _=>?_)
  ·have hne:l≠[]:=fun e=>by subst e;cases hj
   obtain ⟨b,off,e,hcc⟩:=hc hne
   injection e with e
   subst e
   have e2:(⟨b,off,none⟩:Addr).add j=⟨b,off+j,none⟩:=by cases j <;> simp [Addr.add]
   rw [e2]
   obtain ⟨k,hk,⟨rfl,rfl⟩ | ⟨rfl,rfl⟩⟩:=acells_get hj
   ·exact (hcc k hk).1
   ·exact (hcc k hk).2
  ·rw [Nat.zero_add,List.nil_append] at ho'
   obtain ⟨a',k',hv⟩:=owns_len ho'
   subst hv
   exact K a' k' w' ho' ((Below.refl _ _).grown hg' (Nat.le_refl _) (fun k hk=>nomatch hk))
theorem DI.aim {w:World} {B db bd bn n:Nat} {D N:Fs} {p:List Dop} {q:Int} {pv:Value} (h:DI w B db bd bn n D N p q pv) (q':Int) :
 DI ((w.setCell ⟨db,3,none⟩ (.int .i64 q')).setCell ⟨db,4,none⟩ (.int .i64 q')).drew B db bd bn n D N p q' pv∧Fr (PDb db) w ((w.setCell ⟨db,3,none⟩ (.int .i64 q')).setCell ⟨db,4,none⟩ (.int .i64 q')).drew:=by
 have h1:=heap_setCell_at w db 3 (.int .i64 q') _ _ h.blk
 have h2:=heap_setCell_at _ db 4 (.int .i64 q') _ _ h1
 have hf:Fr (PDb db) w ((w.setCell ⟨db,3,none⟩ (.int .i64 q')).setCell ⟨db,4,none⟩ (.int .i64 q')).drew:=(((Fr.refl _ w).set h.blk ⟨rfl,_,rfl⟩ 3 _).set h1 ⟨rfl,_,rfl⟩ 4 _).drew
 exact ⟨h.turn hf h2,hf⟩
theorem ActG.of_owns {w:World} {base:Nat} {a:Option Addr} {c:Nat} {l:List (Int×List UInt8)} (h:w.ownsRow base 51 2 (.slice a l.length c) l.length (acells l)):ActG w (.slice a l.length c) l:=by
 refine ⟨a,c,rfl,fun hne=>?_⟩
 have hc:=h
 rcases h.2 with ⟨_,h0⟩ | ⟨g,cap,cur,hv,_,hb,_⟩
 ·exact absurd (List.eq_nil_of_length_eq_zero h0) hne
 ·injection hv with h1 h2 h3
  subst h1
  have e:∀ j,(⟨g,0,none⟩:Addr).add j=⟨g,0+j,none⟩:=fun j=>by cases j <;> simp [Addr.add]
  refine ⟨g,0,rfl,fun j hj=>?_⟩
  have h1:=hc.cells (g:=g) rfl (j*2) _ (acells_at l j hj).1
  have h2:=hc.cells (g:=g) rfl (j*2+1) _ (acells_at l j hj).2
  rw [e] at h1 h2
  exact ⟨h1,h2⟩
def PAc (B:Nat) (k:Nat) (o:Obj):Prop:=B≤k∧∃ cs,o=.cells cs 51
theorem DI.ac {w w':World} {B C db bd bn n:Nat} {D N:Fs} {p:List Dop} {q:Int} {pv:Value} (h:DI w B db bd bn n D N p q pv) (hf:Fr (PAc C) w w'):DI w' B db bd bn n D N p q pv:=
 h.fr hf (fun k cs ⟨_,cs',e⟩=>by injection e with e1 e2;exact absurd e2 (by decide)) (fun k es c ⟨_,cs',e⟩=>by cases e) (fun k cs ⟨_,cs',e⟩=>by injection e with e1 e2;exact absurd e2 (by decide)) (fun k cs ⟨_,cs',e⟩=>by injection e with e1 e2;exact absurd e2 (by decide))
theorem Fr.newAc {P:Nat→Obj→Prop} {w w2 w3:World} {C:Nat} (h:Fr P w w2) (hf:Fr (PAc C) w2 w3) (hC:w.heap.size≤C):Fr P w w3:=
 ⟨hf.os.trans h.os,hf.tape.trans h.tape,hf.output.trans h.output,Nat.le_trans h.size hf.size,fun k o hk hp=>hf.block k o (h.block k o hk hp) (fun ⟨hc,_⟩=>by have:=blk_lt hk;omega)⟩
theorem PDk.notAc {B k:Nat} {cs:Array Value}:¬ PDk B k (.cells cs 51):=by
 rintro ⟨_,⟨cs',e⟩ | ⟨es,c,e⟩ | ⟨cs',e⟩⟩
 ·injection e with e1 e2;exact absurd e2 (by decide)
 ·cases e
 ·injection e with e1 e2;exact absurd e2 (by decide)
theorem PDk.notBox {B k:Nat} {cs:Array Value}:¬ PDk B k (.cells cs 55):=by
 rintro ⟨_,⟨cs',e⟩ | ⟨es,c,e⟩ | ⟨cs',e⟩⟩
 ·injection e with e1 e2;exact absurd e2 (by decide)
 ·cases e
 ·injection e with e1 e2;exact absurd e2 (by decide)
theorem Fr.lowCell {B:Nat} {w w':World} {a:Addr} {v:Value} (h:Fr (PDk B) w w') (ha:a.block < B) (hc:w.cell? a=some v):w'.cell? a=some v:=by
 have hl:=cell_lt hc
 obtain ⟨o,ho⟩:∃ o,w.heap[a.block]?=some o:=⟨w.heap[a.block],Array.getElem?_eq_getElem hl⟩
 rw [World.cell?_of_block (w:=w) ((h.block _ _ ho (fun hp=>by have:=hp.1;omega)).trans ho.symm)]
 exact hc
theorem Tab.keep {B:Nat} {w w':World} (h:Tab w) (hf:Fr (PDk B) w w') (hB:6 < B):Tab w':=by
 have hn:Tryz.prog.globalNamed "internal/strconv.uint64pow10"=some 2:=by kernel_rfl
 unfold Tab Lib.TabIs World.var? at h ⊢
 rw [hn] at h ⊢
 simp only [Option.bind_some] at h ⊢
 cases ho:w.heap[2]? with
 | none=>rw [ho] at h;cases h
 | some o=>rw [hf.block 2 o ho (fun hp=>by have:=hp.1;omega),← ho];exact h
def BdPost (B db bd bn n:Nat) (F:Fs) (id:List UInt8) (acts:List (Int×List UInt8)) (text:List UInt8) (w:World) (e:Ending) (w':World):Prop:=
 Fr (PDk B) w w'∧((∃ k pv',filesL id acts text=.error k∧e=.returned (.int .i64 ((k:Nat):Int))∧DI w' B db bd bn n F F [] (-1) pv')∨
  ∃ fs n' pv',filesL id acts text=.ok fs∧e=.returned (.int .i64 0)∧n'≤n+20*min 1 fs.length∧DI w' B db bd bn n' (putFs F fs) (putFs F fs) [] (-1) pv')
theorem bd_split {B db bd bn n:Nat} {F:Fs} {q:Int} {id text:List UInt8} {acts:List (Int×List UInt8)} {e:Ending} {w':World} (h:(∃ k pv',filesL id acts text=.error k∧e=.returned (.iface 40 (.int .i64 ((k:Nat):Int)))∧DI w' B db bd bn n F F [] q pv')∨
 ∃ fs n' q' pv',filesL id acts text=.ok fs∧e=.returned .nilIface∧n'≤n+20*min 1 fs.length∧q - 20≤q'∧q'≤q∧DI w' B db bd bn n' (putFs F fs) (putFs F fs) [] q' pv') :
 ∃ (ev:Value) (n':Nat) (q':Int) (F':Fs) (pv':Value),e=.returned ev∧DI w' B db bd bn n' F' F' [] q' pv'∧((∃ k,filesL id acts text=.error k∧ev=.iface 40 (.int .i64 ((k:Nat):Int))∧n'=n∧F'=F)∨∃ fs,filesL id acts text=.ok fs∧ev=.nilIface∧n'≤n+20*min 1 fs.length∧F'=putFs F fs):=by
 rcases h with ⟨k,pv',h1,rfl,h2⟩ | ⟨fs,n',q',pv',h1,rfl,h2,_,_,h3⟩
 ·exact ⟨_,_,_,_,_,rfl,h2,Or.inl ⟨k,h1,rfl,rfl,rfl⟩⟩
 ·exact ⟨_,_,_,_,_,rfl,h3,Or.inr ⟨fs,h1,rfl,h2,rfl⟩⟩
theorem bdeliver_any (B bb db bd bn n:Nat) (F:Fs) (pv:Value) (id text:List UInt8) (acts:List (Int×List UInt8)) (av:Value) (kp pt:Int) (w:World) (hb:w.heap[bb]?=some (.cells #[.pointer (some ⟨db,0,none⟩)] 55)) (h:DI w B db bd bn n F F [] (-1) pv) (ht:Tab w) (hz:Tz w) (hg:ErrT w) (ha:∀ w',Fr (PDk B) w w'→ActG w' av acts)
 (h1:id.length≤2000000) (h2:text.length≤2000000) (h3:∀ a∈acts,a.2.length≤2000000) (h4:acts.length≤1000000) (hj0:F kJournal=none) (hn:n≤450000) (hB6:6 < B) (hBw:B≤w.heap.size) :
 Calls Tryz.prog 19 #[.pointer (some ⟨bb,0,none⟩),.string (strA id),av,.string (strA text),.int .i64 (-1),.int .i64 (-1),.int .i64 kp,.int .i64 pt] w (BdPost B db bd bn n F id acts text w):=by
 have HD:=hide h
 have HT:=hide ht
 have HZ:=hide hz
 have HG:=hide hg
 have HA:=hide ha
 have H3:=hide h3
 have HJ0:=hide hj0
 have HBX:=hide hb
 have b0:w.cell? ⟨bb,0,none⟩=some (.pointer (some ⟨db,0,none⟩)):=blk_cell hb 0
 have d3:w.cell? ⟨db,3,none⟩=some (.int .i64 (-1)):=blk_cell h.blk 3
 have d4:w.cell? ⟨db,4,none⟩=some (.int .i64 (-1)):=blk_cell h.blk 4
 have z0:∀ j,w.frozen? ⟨db,j,none⟩=false:=blk_frozen h.blk
 obtain ⟨a,c,hav,_⟩:=ha w (Fr.refl _ w)
 subst hav
 clear h ht hz hg h3 hj0 hb ha
 go_enter Tryz.func19,Tryz.ntmps19
 go_wp2_with fail
 refine wp_region_noPanic ?_
 go_region
 refine NoPanic.normal ?_
 obtain ⟨W,hW⟩:∃ W,W=((w.setCell ⟨db,3,none⟩ (.int .i64 (-1))).setCell ⟨db,4,none⟩ (.int .i64 (-1))).drew:=⟨_,rfl⟩
 obtain ⟨hDW,hFW⟩:=HD.out.aim (-1)
 rw [← hW] at hDW hFW
 rw [← hW]
 have HDW:=hide hDW
 have HFW:Hid (Fr (PDk B) w W):=hFW.mono (fun _ _ h=>h.toK HD.out.bb.1)
 have HAW:Hid (ActG W (.slice a acts.length c) acts):=HA.out W HFW.out
 have HBW:=hide (hFW.block _ _ HBX.out (fun ⟨_,cs,e⟩=>by injection e with e1 e2;exact absurd e2 (by decide)))
 clear hW hDW hFW b0 d3 d4 z0
 go_wp2_with (at_builtin;refine append_acts rfl _ _ rfl acts (.slice a acts.length c) rfl rfl HAW.out h4 ?_;intro a5 k5 w5 ho5 hb5;have HO5:=hide ho5;have HB5:=hide hb5;clear ho5 hb5;have b5:w5.cell? ⟨bb,0,none⟩=some (.pointer (some ⟨db,0,none⟩)):=blk_cell (blk_below HBW.out HB5.out) 0)
 have HF5:Hid (Fr (PDk B) w w5):=HFW.out.trans (Fr.of_below HB5.out)
 have hBW:w.heap.size≤W.heap.size:=HFW.out.size
 have HT5:Hid (Tab w5):=HT.out.keep HF5.out hB6
 have HZ5:Hid (Tz w5):=HF5.out.lowCell (a:=⟨6,15,none⟩) hB6 HZ.out
 have HX5:=hide (blk_below HBW.out HB5.out)
 refine (mdeliver_any B db bd bn n F (-1) pv id text acts (.slice a5 acts.length k5) w5 (HDW.out.below HB5.out) HT5.out HZ5.out (ActG.of_owns HO5.out) h1 h2 H3.out (by omega) HJ0.out hn (by omega) (by omega)).mono ?_
 rintro e w6 ⟨hF6,hr6⟩
 have HF6:=hide (HF5.out.trans hF6)
 have HX6:=hide (hF6.block _ _ HX5.out PDk.notBox)
 have HO6:Hid (w6.ownsRow W.heap.size 51 2 (.slice a5 acts.length k5) acts.length (acells acts)):=owns_fr HO5.out hF6 (fun k cs=>PDk.notAc)
 clear hF6 b5
 obtain ⟨ev,n',q',F',pv',hev,hD6,hrr⟩:=bd_split hr6
 subst hev
 have HD6:=hide hD6
 have HRR:=hide hrr
 clear hD6 hrr hr6
 go_wp2_with fail
 go_loopw [19,49] (fun _ i wr=>∃ (j:Nat) (xs:List Value),j≤acts.length∧i=.int .i64 (j:Int)∧wr.ownsRow W.heap.size 51 2 (.slice a5 acts.length k5) acts.length xs∧Fr (PAc W.heap.size) w6 wr) (fun _ i _=>acts.length - (intOf i).toNat)
 case atStart=>exact ⟨0,_,Nat.zero_le _,by go_num,HO6.out,Fr.refl _ _⟩
 case round=>
  obtain ⟨j,xs,hj,rfl,hown,hF⟩:=hrel
  by_cases hlt:j < acts.length
  ·obtain ⟨g,c,hv,hbg,hgl,hcells⟩:=owns_get hown (by omega)
   injection hv with hv1 hv2 hv3
   subst hv1 hv3
   have hxl:=hown.1
   obtain ⟨u2,hu2⟩:∃ u,wr.cell? ⟨g,j*2+1,none⟩=some u:=⟨xs[j*2+1]'(by omega),hcells _ _ (List.getElem?_eq_getElem (by omega))⟩
   have hfz:∀ o,wr.frozen? ⟨g,o,none⟩=false:=hown.frozenAt
   obtain ⟨s1,g1⟩:=hown.stored (j*2+1) (.string ⟨#[109,105,110,101]⟩)
   have HS:=hide (And.intro s1 (hF.trans ((Fr.refl (PAc W.heap.size) wr).grown g1 (fun k' o e ho'=>owns_blk hown k' o e ho'))))
   clear s1 g1 hown hF hcells hxl
   go_wp2
   go_roundw
   case rel=>exact ⟨j+1,_,by omega,by go_num,HS.out.1,HS.out.2⟩
   case measure=>simp [intOf];omega
  ·have HFR:Hid (Fr (PDk B) w wr):=HF6.out.newAc hF hBW
   have HDR:=hide (HD6.out.ac hF)
   have HXR:=hide (hF.block _ _ HX6.out (fun ⟨_,cs,e⟩=>by injection e with e1 e2;exact absurd e2 (by decide)))
   have HGR:Hid (ErrT wr):=HFR.out.lowCell (a:=⟨0,0,none⟩) (by show 0 < B;omega) HG.out
   have hjn:j=acts.length:=by omega
   subst hjn
   clear hF hown
   rcases HRR.out with ⟨k,hk1,rfl,rfl,rfl⟩ | ⟨fs,hk1,rfl,hn',rfl⟩
   ·have HK:=hide hk1
    clear hk1 HRR
    go_wp2_with fail
    refine (told_errno k wr HGR.out).mono ?_
    rintro e w7 ⟨rfl,hb7⟩
    have HD7:=hide (HDR.out.below hb7)
    have HF7:Hid (Fr (PDk B) w w7):=HFR.out.trans (Fr.of_below hb7)
    have hX7:=blk_below HXR.out hb7
    have b0:w7.cell? ⟨bb,0,none⟩=some (.pointer (some ⟨db,0,none⟩)):=blk_cell hX7 0
    have d3:w7.cell? ⟨db,3,none⟩=some (.int .i64 q'):=blk_cell HD7.out.blk 3
    have d4:w7.cell? ⟨db,4,none⟩=some (.int .i64 q'):=blk_cell HD7.out.blk 4
    have d5:w7.cell? ⟨db,5,none⟩=some (.bool false):=blk_cell HD7.out.blk 5
    have z0:∀ j,w7.frozen? ⟨db,j,none⟩=false:=blk_frozen HD7.out.blk
    have HAIM:=hide (HD7.out.aim (-1))
    clear hb7 hX7
    go_wp2_with fail
    refine wp_region_noPanic ?_
    go_region
    refine NoPanic.normal ?_
    go_wp2
    go_ret
    obtain ⟨h8,h9⟩:=HAIM.out
    exact ⟨HF7.out.trans (h9.mono (fun _ _ h=>h.toK HD7.out.bb.1)),Or.inl ⟨k,_,HK.out,rfl,h8⟩⟩
   ·have HK:=hide hk1
    clear hk1 HRR
    go_wp2_with fail
    refine (told_nil wr).mono ?_
    rintro e w7 ⟨rfl,hb7⟩
    have HD7:=hide (HDR.out.below hb7)
    have HF7:Hid (Fr (PDk B) w w7):=HFR.out.trans (Fr.of_below hb7)
    have hX7:=blk_below HXR.out hb7
    have b0:w7.cell? ⟨bb,0,none⟩=some (.pointer (some ⟨db,0,none⟩)):=blk_cell hX7 0
    have d3:w7.cell? ⟨db,3,none⟩=some (.int .i64 q'):=blk_cell HD7.out.blk 3
    have d4:w7.cell? ⟨db,4,none⟩=some (.int .i64 q'):=blk_cell HD7.out.blk 4
    have d5:w7.cell? ⟨db,5,none⟩=some (.bool false):=blk_cell HD7.out.blk 5
    have z0:∀ j,w7.frozen? ⟨db,j,none⟩=false:=blk_frozen HD7.out.blk
    have HAIM:=hide (HD7.out.aim (-1))
    clear hb7 hX7
    go_wp2_with fail
    refine wp_region_noPanic ?_
    go_region
    refine NoPanic.normal ?_
    go_wp2
    go_ret
    obtain ⟨h8,h9⟩:=HAIM.out
    exact ⟨HF7.out.trans (h9.mono (fun _ _ h=>h.toK HD7.out.bb.1)),Or.inr ⟨fs,n',_,HK.out,rfl,hn',h8⟩⟩
end Go.Proofs.YtenahlandohgaaaGreatDoor
