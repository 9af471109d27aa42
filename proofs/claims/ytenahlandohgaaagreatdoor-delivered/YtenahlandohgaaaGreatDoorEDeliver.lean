import Derived.Test.YtenahlandohgaaaGreatDoorEGuard
import Derived.Test.YtenahlandohgaaaGreatDoorEJour
namespace Go.Proofs.YtenahlandohgaaaGreatDoor
set_option linter.unusedVariables false
set_option linter.unusedSimpArgs false
set_option maxRecDepth 100000
set_option maxHeartbeats 4000000
open Go.RowKit
attribute [local go_sem ↓] Go.wp_at_zero Go.wp_at_succ
def LvPost (B db bd bn n:Nat) (F:Fs) (fs:List Fl) (q:Int) (w:World) (e:Ending) (w':World):Prop:=
 e=.returned .nilIface∧(∃ pv',DI w' B db bd bn (n+2+fs.length+fs.length+2) (putFs F fs) (putFs F fs) [] (q - 5 - fs.length) pv')∧Fr (PDk B) w w'
theorem deliver1_any (B db bd bn n vb xb fb:Nat) (F:Fs) (q:Int) (pv:Value) (id text:List UInt8) (a:Option Addr) (m c:Nat) (b:Option Addr) (fl fc:Nat) (fs:List Fl) (w:World) (h:DI w B db bd bn n F F [] q pv)
 (hv:w.heap[vb]?=some (.cells #[.string (strA id),.slice a m c,.string (strA text)] 159)) (hx:w.heap[xb]?=some (.cells #[dskV db] 113)) (hf:w.heap[fb]?=some (.cells #[.slice b fl fc] 26))
 (hfv:FilE w (.slice b fl fc) fs) (hJou:∀ W,Below w.heap.size w W→JouOk id text (.slice a m c) W) (hj0:F kJournal=none) (hjf:∀ f∈fs,f.1≠kJournal)
 (hn:n+fs.length≤460000) (hq:-20000≤q - fs.length) (hq1:q≤-1) (hs:∀ f∈fs,f.1.length≤1000∧f.2.length≤100000000) :
 Calls Tryz.prog 80 #[.pointer (some ⟨vb,0,none⟩),.pointer (some ⟨xb,0,none⟩),.pointer (some ⟨fb,0,none⟩)] w (LvPost B db bd bn n F fs q w):=by
 have v0:w.cell? ⟨vb,0,none⟩=some (.string (strA id)):=blk_cell hv 0
 have v1:w.cell? ⟨vb,1,none⟩=some (.slice a m c):=blk_cell hv 1
 have v2:w.cell? ⟨vb,2,none⟩=some (.string (strA text)):=blk_cell hv 2
 have x0:w.cell? ⟨xb,0,none⟩=some (dskV db):=blk_cell hx 0
 have f0:w.cell? ⟨fb,0,none⟩=some (.slice b fl fc):=blk_cell hf 0
 have HL:=hide (leave_any B db bd bn n F q pv id text a m c b fl fc fs w h hfv hJou hj0 hjf hn hq hq1 hs)
 clear h hv hx hf hfv hJou hj0 hjf hs
 unfold LvPost
 unfold dskV at x0 HL
 go_enter Tryz.func80,Tryz.ntmps80
 go_wp2_with fail
 refine HL.out.mono ?_
 rintro e w1 ⟨rfl,h1,h2⟩
 have H1:=hide h1
 have H2:=hide h2
 clear h1 h2
 go_wp2
 go_ret
 exact ⟨rfl,H1.out,H2.out⟩
theorem FilE.of_owns {w:World} {base:Nat} {v:Value} {l:List Fl} (h:w.ownsRow base 86 2 v l.length (fcells l)):FilE w v l:=by
 have hc:=h
 rcases h.2 with ⟨rfl,h0⟩ | ⟨g,cap,cur,rfl,_,hb,_⟩
 ·exact ⟨none,0,by rw [h0],fun hne=>absurd (List.eq_nil_of_length_eq_zero h0) hne⟩
 ·refine ⟨_,_,rfl,fun _=>⟨g,cur,rfl,hb,fun j hj=>?_⟩⟩
  have e:∀ j,(⟨g,0,none⟩:Addr).add j=⟨g,j,none⟩:=fun j=>by cases j <;> simp [Addr.add]
  have h1:=hc.cells (g:=g) rfl (j*2) _ (fcells_at l j hj).1
  have h2:=hc.cells (g:=g) rfl (j*2+1) _ (fcells_at l j hj).2
  rw [e] at h1 h2
  exact ⟨h1,h2⟩
theorem filesTo_kinds {id text:List UInt8}:∀ (r:List (Int×List UInt8)) (n:Nat) (l:List (List UInt8×List UInt8)),filesTo id text n r=.ok l→∀ a∈r,0≤a.1∧a.1≤2147483647
 | [],n,l,h=>by intro a ha;cases ha
 | x :: r,n,l,h=>by
  rw [filesTo] at h
  cases hf:fileL id text n x with
  | error e=>rw [hf] at h;cases h
  | ok f=>
   rw [hf] at h
   dsimp only at h
   cases hr:filesTo id text (n+1) r with
   | error e=>rw [hr] at h;cases h
   | ok l'=>
    intro a ha
    rcases List.mem_cons.1 ha with ha | ha
    ·subst ha
     unfold fileL at hf
     by_cases h1:a.1=1
     ·omega
     ·rw [if_neg h1] at hf
      by_cases h2:a.1=2
      ·omega
      ·rw [if_neg h2] at hf
       by_cases h3:a.1=3
       ·omega
       ·rw [if_neg h3] at hf
        by_cases h4:a.1=4
        ·omega
        ·rw [if_neg h4] at hf;cases hf
    ·exact filesTo_kinds r (n+1) l' hr a ha
theorem filesL_all {id:List UInt8} {acts:List (Int×List UInt8)} {text:List UInt8} {l:List Fl} (M:Nat) (h:filesL id acts text=.ok l) (hM:∀ a∈acts,a.2.length≤M) :
 l.length=acts.length∧acts.length≤6∧(∀ f∈l,NameOk f.1∧f.2.length≤M+text.length+8)∧∀ a∈acts,0≤a.1∧a.1≤2147483647:=by
 unfold filesL at h
 by_cases hi:isIDL id=true
 ·rw [if_pos hi] at h
  by_cases h6:6 < acts.length
  ·rw [if_pos h6] at h;cases h
  ·rw [if_neg h6] at h
   exact ⟨filesTo_len _ _ _ h,by omega,filesTo_ok_all (id_len hi) M (fun n hn=>itoaL_len n (by omega)) _ _ _ (by omega) hM h,filesTo_kinds _ _ _ h⟩
 ·rw [if_neg hi] at h;cases h
def PEr (k:Nat) (o:Obj):Prop:=∃ cs,o=.cells cs 67
theorem PDk.notEr {B k:Nat} {cs:Array Value}:¬ PDk B k (.cells cs 67):=by
 rintro ⟨_,⟨cs',e⟩ | ⟨es,c,e⟩ | ⟨cs',e⟩⟩
 ·injection e with e1 e2;exact absurd e2 (by decide)
 ·cases e
 ·injection e with e1 e2;exact absurd e2 (by decide)
theorem DI.er {w w':World} {B db bd bn n:Nat} {D N:Fs} {p:List Dop} {q:Int} {pv:Value} (h:DI w B db bd bn n D N p q pv) (hf:Fr PEr w w'):DI w' B db bd bn n D N p q pv:=
 h.fr hf (fun k cs ⟨cs',e⟩=>by injection e with e1 e2;exact absurd e2 (by decide)) (fun k es c ⟨cs',e⟩=>by cases e) (fun k cs ⟨cs',e⟩=>by injection e with e1 e2;exact absurd e2 (by decide)) (fun k cs ⟨cs',e⟩=>by injection e with e1 e2;exact absurd e2 (by decide))
theorem Fr.setNew {P:Nat→Obj→Prop} {u w:World} (h:Fr P u w) (b:Nat) (hb:u.heap.size≤b) (j:Nat) (v:Value):Fr P u (w.setCell ⟨b,j,none⟩ v):=
 ⟨h.os,h.tape,h.output,Nat.le_trans h.size (by simp),fun k o hk hp=>by rw [Below.heap_setCell _ _ _ _ (by have:=blk_lt hk;show k≠b;omega)];exact h.block k o hk hp⟩
def DvPost (B db bd bn n:Nat) (F:Fs) (q:Int) (id:List UInt8) (acts:List (Int×List UInt8)) (text:List UInt8) (w:World) (e:Ending) (w':World):Prop:=
 Fr (PDk B) w w'∧((∃ k pv',filesL id acts text=.error k∧e=.returned (.iface 40 (.int .i64 ((k:Nat):Int)))∧DI w' B db bd bn n F F [] q pv')∨
  ∃ fs n' q' pv',filesL id acts text=.ok fs∧e=.returned .nilIface∧n'≤n+20*min 1 fs.length∧q - 20≤q'∧q'≤q∧DI w' B db bd bn n' (putFs F fs) (putFs F fs) [] q' pv')
theorem deliver_guarded (B db bd bn n X:Nat) (F:Fs) (q:Int) (pv:Value) (id text:List UInt8) (acts:List (Int×List UInt8)) (a:Option Addr) (c:Nat) (b:Option Addr) (fl fc:Nat) (fs:List Fl) (w w1:World) (h:DI w B db bd bn n F F [] q pv) (ht:Tab w) (hz:Tz w) (ha:ActG w (.slice a acts.length c) acts)
 (h1:id.length≤2000000) (h2:text.length≤2000000) (h3:∀ a∈acts,a.2.length≤2000000) (hj0:F kJournal=none) (hn:n≤450000) (hq:-19000≤q) (hq1:q≤-1) (hf6:fs.length≤6) (h6:acts.length≤6)
 (hb1:Below w.heap.size w w1) (hx:w1.heap[X]?=some (.cells #[dskV db] 113)) (hv:w1.heap[X+1]?=some (.cells #[.string (strA id),.slice a acts.length c,.string (strA text)] 159))
 (hfv:FilE w1 (.slice b fl fc) fs) (hN:∀ f∈fs,NameOk f.1∧f.2.length≤2000000+text.length+8) (hK:∀ a∈acts,0≤a.1∧a.1≤2147483647) :
 Calls Tryz.prog 79 #[.func (.func 80) #[] #[.pointer (some ⟨X+1,0,none⟩),.pointer (some ⟨X,0,none⟩),.pointer (some ⟨w1.heap.size,0,none⟩)]] (w1.alloc (.cells #[.slice b fl fc] 26)) fun e w'=>e=.returned .nilIface∧Fr (PDk B) w w'∧∃ pv',DI w' B db bd bn (n+2+fs.length+fs.length+2) (putFs F fs) (putFs F fs) [] (q - 5 - fs.length) pv':=by
 obtain ⟨Y,hY⟩:∃ Y,Y=(w1.alloc (.cells #[.slice b fl fc] 26)).alloc (.cells #[.nilIface] 67):=⟨_,rfl⟩
 have hYB:Below w1.heap.size w1 Y:=by rw [hY];exact ((Below.refl _ _).alloc (Nat.le_refl _) _).alloc (by simp) _
 have hYw:Below w.heap.size w Y:=hb1.trans (hYB.mono hb1.size)
 have hYf:Y.heap[w1.heap.size]?=some (.cells #[.slice b fl fc] 26):=by rw [hY];exact blk_alloc (blk_new _ _)
 have hYe:Y.heap[(w1.alloc (.cells #[.slice b fl fc] 26)).heap.size]?=some (.cells #[.nilIface] 67):=by rw [hY];exact blk_new _ _
 have hcall:=deliver1_any B db bd bn n (X+1) X w1.heap.size F q pv id text a acts.length c b fl fc fs Y (h.below hYw) (blk_below hv hYB) (blk_below hx hYB) hYf (hfv.fr (P:=fun _ _=>False) (Fr.of_below hYB) (fun _ _ h=>h))
  (fun W hW=>journal_any id text kJournal acts (.slice a acts.length c) W (ht.below (hYw.trans (hW.mono hYw.size))) (hz.below (hYw.trans (hW.mono hYw.size))) (ha.below (hYw.trans (hW.mono hYw.size))) h1 h2 (fun a ha=>⟨h3 a ha,hK a ha⟩) (by omega) (by decide)) hj0
  (fun f hf e=>by obtain ⟨_,c0,r,e1,e2⟩:=(hN f hf).1;rw [e] at e1;injection e1 with e3 _;exact e2 e3.symm) (by omega) (by omega) hq1 (fun f hf=>⟨by have:=(hN f hf).1.1;omega,by have:=(hN f hf).2;omega⟩)
 rw [hY] at hcall
 refine (guarded_any 80 _ (fun w'=>(∃ pv',DI w' B db bd bn (n+2+fs.length+fs.length+2) (putFs F fs) (putFs F fs) [] (q - 5 - fs.length) pv')∧Fr (PDk B) Y w') _ (fun _ _=>by kernel_rfl) (hcall.mono ?_)).mono ?_
 ·rintro e w' ⟨rfl,hD,hF⟩
  rw [← hY] at hF
  exact ⟨rfl,hF.block _ _ hYe PDk.notEr,hD,hF⟩
 ·rintro e w' ⟨rfl,w2,⟨⟨pv',hD⟩,hF⟩,hE,rfl⟩
  have h2F:Fr (PDk B) w w2:=(Fr.of_below hYw).trans hF
  refine ⟨rfl,h2F.setNew _ (Nat.le_trans hb1.size (by simp)) _ _,pv',hD.er ((Fr.refl _ w2).set hE ⟨_,rfl⟩ _ _)⟩
theorem sdeliver_any (B db bd bn n:Nat) (F:Fs) (q:Int) (pv:Value) (id text:List UInt8) (acts:List (Int×List UInt8)) (av:Value) (w:World) (h:DI w B db bd bn n F F [] q pv) (ht:Tab w) (hz:Tz w) (ha:ActG w av acts)
 (h1:id.length≤2000000) (h2:text.length≤2000000) (h3:∀ a∈acts,a.2.length≤2000000) (h4:acts.length≤2000000) (hj0:F kJournal=none) (hn:n≤450000) (hq:-19000≤q) (hq1:q≤-1) :
 Calls Tryz.prog 50 #[dskV db,.string (strA id),av,.string (strA text)] w (DvPost B db bd bn n F q id acts text w):=by
 have hmf:∀ (fn:Fn) (first cap:Array Value) (w:World),(Instr.makeFunc fn first cap).run Tryz.prog w=.ok (.func fn first cap) w:=fun _ _ _ _=>rfl
 have HD:=hide h
 have HT:=hide ht
 have HZ:=hide hz
 have HA:=hide ha
 have H3:=hide h3
 have HJ0:=hide hj0
 obtain ⟨a,c,hav,_⟩:=ha
 subst hav
 clear h ht hz h3 hj0
 unfold dskV
 go_enter Tryz.func50,Tryz.ntmps50
 go_wp2_with fail
 obtain ⟨V,hV⟩:∃ V,V=(w.alloc (.cells #[.iface 52 (.pointer (some ⟨db,0,none⟩))] 113)).alloc (.cells #[.string (strA id),.slice a acts.length c,.string (strA text)] 159):=⟨_,rfl⟩
 have hVX:V.heap[w.heap.size]?=some (.cells #[dskV db] 113):=by rw [hV];exact blk_alloc (blk_new _ _)
 have hVV:V.heap[w.heap.size+1]?=some (.cells #[.string (strA id),.slice a acts.length c,.string (strA text)] 159):=by rw [hV];exact blk_newAt (by simp)
 have hVB:Below w.heap.size w V:=by rw [hV];exact ((Below.refl _ _).alloc (Nat.le_refl _) _).alloc (by simp) _
 rw [← hV]
 clear hV
 have HVX:=hide hVX
 have HVV:=hide hVV
 have HVB:=hide hVB
 have hVz:=blk_lt hVV
 clear hVX hVV hVB
 refine (dvfiles_any id text acts (.slice a acts.length c) V (HT.out.below HVB.out) (HA.out.below HVB.out) h1 h2 H3.out h4).mono ?_
 rintro e w1 ⟨hb1,⟨fs,v,hfs,rfl,hrow⟩ | ⟨k,hfs,rfl⟩⟩
 ·have HB1:=hide (HVB.out.trans (hb1.mono HVB.out.size))
  have HVX1:=hide (blk_below HVX.out hb1)
  have HVV1:=hide (blk_below HVV.out hb1)
  obtain ⟨hfl,h6,hN,hK⟩:=filesL_all 2000000 hfs H3.out
  have HFE:=hide (FilE.of_owns hrow)
  have HN:=hide hN
  have HK:=hide hK
  have HFS:=hide hfs
  obtain ⟨va,vc,hvv⟩:=owns_len hrow
  subst hvv
  have hz1:=hb1.size
  have hf6:fs.length≤6:=by omega
  clear hb1 hrow hN hK hfs hfl
  by_cases h0:fs.length=0
  ·have HF0:Hid (fs=[]):=List.eq_nil_of_length_eq_zero h0
   have h0':((fs.length:Nat):Int)=0:=by omega
   go_wp2
   go_ret
   refine ⟨?_,Or.inr ⟨fs,n,q,pv,HFS.out,rfl,by omega,by omega,by omega,?_⟩⟩
   ·exact Fr.of_below (HB1.out.alloc HB1.out.size _)
   ·rw [HF0.out]
    exact HD.out.below (HB1.out.alloc HB1.out.size _)
  ·have h0':¬ ((fs.length:Nat):Int)=0:=by omega
   have HG:=hide (deliver_guarded B db bd bn n w.heap.size F q pv id text acts a c va fs.length vc fs w w1 HD.out HT.out HZ.out HA.out h1 h2 H3.out HJ0.out (by omega) (by omega) hq1 hf6 h6 HB1.out HVX1.out HVV1.out HFE.out HN.out HK.out)
   go_wp2_with fail
   refine HG.out.mono ?_
   rintro e w2 ⟨rfl,hF2,hD2⟩
   have HF2:=hide hF2
   have HD2:=hide hD2
   clear hF2 hD2
   go_wp2
   go_ret
   obtain ⟨pv',hD⟩:=HD2.out
   exact ⟨HF2.out,Or.inr ⟨fs,_,_,pv',HFS.out,rfl,by omega,by omega,by omega,hD⟩⟩
 ·have HB1:=hide (HVB.out.trans (hb1.mono HVB.out.size))
  have HFS:=hide hfs
  clear hb1 hfs
  go_wp2
  go_ret
  exact ⟨Fr.of_below (HB1.out.alloc HB1.out.size _),Or.inl ⟨k,pv,HFS.out,rfl,HD.out.below (HB1.out.alloc HB1.out.size _)⟩⟩
end Go.Proofs.YtenahlandohgaaaGreatDoor
