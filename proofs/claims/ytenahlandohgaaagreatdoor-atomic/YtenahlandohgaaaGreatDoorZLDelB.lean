import Derived.Test.YtenahlandohgaaaGreatDoorLDel
import Derived.Test.YtenahlandohgaaaGreatDoorPlainNever
import Derived.Test.YtenahlandohgaaaGreatDoorZStepOpen
namespace Go.Proofs.YtenahlandohgaaaGreatDoor
set_option linter.unusedVariables false
set_option linter.unusedSimpArgs false
set_option maxRecDepth 100000
set_option maxHeartbeats 4000000
section
open Go.RowKit
theorem BoxR.below {w w':World} {B db bd m:Nat} {Q:Fs→Prop} (h:BoxR w B db bd m Q) (hb:Below w.heap.size w w'):BoxR w' B db bd m Q:=by
 obtain ⟨bn,M,hM,hA⟩:=h
 exact ⟨bn,M,hM,hA.below hb⟩
theorem BoxR.mono {w:World} {B db bd m m':Nat} {Q:Fs→Prop} (h:BoxR w B db bd m Q) (hm:m≤m'):BoxR w B db bd m' Q:=by
 obtain ⟨bn,M,hM,hA⟩:=h
 exact ⟨bn,M,hM,hA.mono hm⟩
theorem BoxG.below {w w':World} {B db bd m:Nat} {F:Fs} {J:List UInt8} {fs:List Fl} (h:BoxG w B db bd m F J fs) (hb:Below w.heap.size w w'):BoxG w' B db bd m F J fs:=by
 obtain ⟨bn,D,N,p,hA,hg⟩:=h
 exact ⟨bn,D,N,p,hA.below hb,hg⟩
theorem dv_of {F:Fs} {id:List UInt8} {acts:List (Int×List UInt8)} {text:List UInt8} {fs:List Fl} (hr:filesL id acts text=.ok fs) (h1:id.length≤65536) (h2:text.length≤65536) (h3:∀ a∈acts,a.2.length≤65536) (hF:∀ x,(F x).isSome=true→Lib.hasPrefix x [46]=false):DvIs F id acts text fs:=by
 obtain ⟨a1,a2,a3,a4⟩:=filesL_all 65536 hr h3
 refine ⟨hr,by omega,by omega,fun a h=>by have:=h3 a h;omega,hF,?_,by omega,a2,fun f hf=>⟨(a3 f hf).1,by have:=(a3 f hf).2;omega⟩,a4⟩
 have hs:=jparts_sum id text acts (by omega) (by omega) (fun a h=>⟨by have:=h3 a h;omega,a4 a h⟩)
 have hj:=joined_len (jparts id text acts) (fun p hp=>by have:=sumP_le p hp;omega)
 omega
def withN (L:List (List UInt8)) (fs:List Fl):List (List UInt8):=L++fs.map (·.1)
theorem names_with {F:Fs} {fs:List Fl} {L:List (List UInt8)} (h:∀ x,(F x).isSome=true→x∈L) (hj:kJournal∈L):NamesIn F fs (withN L fs):=
 ⟨fun x hx=>List.mem_append_left _ (h x hx),List.mem_append_left _ hj,fun f hf=>List.mem_append_right _ (List.mem_map_of_mem hf)⟩
theorem withN_len (L:List (List UInt8)) (fs:List Fl):(withN L fs).length=L.length+fs.length:=by
 unfold withN
 rw [List.length_append,List.length_map]
theorem putFs_dot {F:Fs} {id:List UInt8} {acts:List (Int×List UInt8)} {text:List UInt8} {fs:List Fl} (hv:DvIs F id acts text fs) (x:List UInt8) (hx:(putFs F fs x).isSome=true):Lib.hasPrefix x [46]=false:=by
 rcases putFs_somG x fs F hx with hx | ⟨f,hf,e⟩
 ·exact hv.dot x hx
 ·rw [← e];exact name_dot (hv.nm f hf).1
theorem sbdeliver_ok {F:Fs} {id:List UInt8} {acts:List (Int×List UInt8)} {text:List UInt8} {fs:List Fl} (B bb db bd:Nat) (L:List (List UInt8)) (av:Value) (l f kp pt:Int) (w:World) (hv:DvIs F id acts text fs) (hL:NamesIn F fs L) (hb:w.heap[bb]?=some (.cells #[.pointer (some ⟨db,0,none⟩)] 55)) (h:BoxR w B db bd L.length (fun M=>M=F)) (hB:6 < B) (hBw:B≤w.heap.size) (ht:Tab w) (hz:Tz w) (hg:ErrT w) (ha:∀ w',Fr (PDk B) w w'→ActG w' av acts) (hn:L.length≤450000) (hl0:-9223372036854775808≤pt) (hl1:pt≤9223372036854775807) :
 Calls Tryz.prog 19 #[.pointer (some ⟨bb,0,none⟩),.string (strA id),av,.string (strA text),.int .i64 l,.int .i64 f,.int .i64 kp,.int .i64 pt] w fun e w'=>∃ k:Nat,e=.returned (.int .i64 (k:Int))∧Fr (PDk B) w w'∧((k=0∧BoxR w' B db bd L.length (fun M=>M=putFs F fs))∨((k=15∨k=16)∧BoxG w' B db bd L.length F (jouL id text acts) fs)):=by
 by_cases hne:fs=[]
 ·obtain ⟨bn,M,rfl,hA⟩:=h
  have hR:bdRes ⟨M,M,[],⟨l,f,false⟩⟩ id acts text=(0,⟨M,M,[],⟨l,f,false⟩⟩):=by
   unfold bdRes
   rw [hv.ok]
   dsimp only
   rw [if_pos hne]
  refine (gbdeliver_any B bb db bd bn L.length M id text acts av l f kp pt _ w hb hA ht hz hg ha (by have:=hv.li;omega) (by have:=hv.lt;omega) (fun a h=>by have:=hv.la a h;omega) (by have:=hv.a6;omega) hv.fj hn (fun _ _=>by have:=jou_len hv;omega) hB hBw hR.symm (by simp) (by intro o ho;cases ho) (by intro o ho;cases ho) hl0 hl1).mono ?_
  rintro e w' ⟨he,hf,bn',D',N',p',hbe,hA'⟩
  refine ⟨0,he,hf,Or.inl ⟨rfl,?_⟩⟩
  rcases hbe with ⟨_,rfl,rfl,rfl⟩ | ⟨hd,_⟩
  ·exact ⟨bn',_,by rw [hne];rfl,hA'.tight L hL.f hL.f⟩
  ·cases hd
 ·refine (sbdeliver B bb db bd L av l f kp pt w hv hne hL hb h hB hBw ht hz hg ha hn hl0 hl1).mono ?_
  rintro e w' ⟨k,he,hf,⟨h0,bn,M,hM,hA⟩ | hG⟩
  ·exact ⟨k,he,hf,Or.inl ⟨h0,bn,M,funext hM,hA⟩⟩
  ·exact ⟨k,he,hf,Or.inr hG⟩
theorem sbdeliver_bad {F:Fs} {id:List UInt8} {acts:List (Int×List UInt8)} {text:List UInt8} {k:Nat} (B bb db bd:Nat) (L:List (List UInt8)) (av:Value) (l f kp pt:Int) (w:World) (hr:filesL id acts text=.error k) (h1:id.length≤2000000) (h2:text.length≤2000000) (h3:∀ a∈acts,a.2.length≤2000000) (h4:acts.length≤1000000) (hF:∀ x,(F x).isSome=true→x∈L) (hj:F kJournal=none) (hb:w.heap[bb]?=some (.cells #[.pointer (some ⟨db,0,none⟩)] 55)) (h:BoxR w B db bd L.length (fun M=>M=F)) (hB:6 < B) (hBw:B≤w.heap.size) (ht:Tab w) (hz:Tz w) (hg:ErrT w) (ha:∀ w',Fr (PDk B) w w'→ActG w' av acts) (hn:L.length≤450000) (hl0:-9223372036854775808≤pt) (hl1:pt≤9223372036854775807) :
 Calls Tryz.prog 19 #[.pointer (some ⟨bb,0,none⟩),.string (strA id),av,.string (strA text),.int .i64 l,.int .i64 f,.int .i64 kp,.int .i64 pt] w fun e w'=>e=.returned (.int .i64 (k:Int))∧Fr (PDk B) w w'∧BoxR w' B db bd L.length (fun M=>M=F):=by
 obtain ⟨bn,M,rfl,hA⟩:=h
 have hR:bdRes ⟨M,M,[],⟨l,f,false⟩⟩ id acts text=(k,⟨M,M,[],⟨l,f,false⟩⟩):=by
  unfold bdRes
  rw [hr]
 refine (gbdeliver_any B bb db bd bn L.length M id text acts av l f kp pt _ w hb hA ht hz hg ha h1 h2 h3 h4 hj hn (fun fs h=>by rw [hr] at h;cases h) hB hBw hR.symm (by simp) (by intro o ho;cases ho) (by intro o ho;cases ho) hl0 hl1).mono ?_
 rintro e w' ⟨he,hf,bn',D',N',p',hbe,hA'⟩
 refine ⟨he,hf,?_⟩
 rcases hbe with ⟨_,rfl,rfl,rfl⟩ | ⟨hd,_⟩
 ·exact ⟨bn',_,rfl,hA'.tight L hF hF⟩
 ·cases hd
structure StoreA (w:World) (B bb db bd:Nat) (L:List (List UInt8)) (F:Fs) (v:Value) (l:List Fl):Prop where
 box:w.heap[bb]?=some (.cells #[.pointer (some ⟨db,0,none⟩)] 55)
 disk:BoxR w B db bd L.length (fun M=>M=F)
 fil:FilS w v l
 lst:Lists F l
 own:∀ x,(F x).isSome=true→Lib.hasPrefix x [46]=false
 siz:B≤w.heap.size
 nam:∀ x,(F x).isSome=true→x∈L
 jou:kJournal∈L
 len:l.length≤L.length
def DelPostA (u:World) (B bb db bd:Nat) (L:List (List UInt8)) (x:StepD) (e:Ending) (w':World):Prop:=
 Below u.heap.size u w'∧∃ L' F' v' l',e=.returned (.tuple #[v',.bool true])∧L'.length≤L.length+20*min 1 x.acts.length∧(x.id=[]→L'.length≤L.length)∧StoreA w' B bb db bd L' F' v' l'
end
section
open Go.RowKit
attribute [local go_sem ↓] Go.wp_at_zero Go.wp_at_succ
def RecPost (u w:World) (B bb db bd:Nat) (L:List (List UInt8)) (F:Fs) (fs:List Fl) (e:Ending) (w':World):Prop:=
 Below u.heap.size u w'∧∃ v' M l',e=.returned (.tuple #[v',.bool true])∧(M=F∨M=putFs F fs)∧BoxR w' B db bd L.length (fun X=>X=M)∧w'.heap[bb]?=some (.cells #[.pointer (some ⟨db,0,none⟩)] 55)∧FilS w' v' l'∧Lists M l'∧l'.length≤L.length∧w.heap.size≤w'.heap.size
theorem recovered_any {F:Fs} {id:List UInt8} {acts:List (Int×List UInt8)} {text:List UInt8} {fs:List Fl} (u:World) (B bb db bd:Nat) (L:List (List UInt8)) (vw vn:Value) (lw ln:List Fl) (x:StepD) (w:World) (he:EnvD u) (hu:Below u.heap.size u w) (hB:u.heap.size≤B) (hv:DvIs F id acts text fs) (hL:NamesIn F fs L)
 (hb:w.heap[bb]?=some (.cells #[.pointer (some ⟨db,0,none⟩)] 55)) (h:BoxG w B db bd L.length F (jouL id text acts) fs) (hds:IntsG u x.dv x.downs) (hp:-9223372036854775808≤x.part∧x.part≤9223372036854775807) (hn:L.length≤440000) (hdl:x.downs.length≤65536) (hfw:FilS w vw lw) (hfn:FilS w vn ln) (hlw:Lists F lw) (hln:Lists (putFs F fs) ln) (hll:lw.length≤440000∧ln.length≤440000) :
 Calls Tryz.prog 9 #[.pointer (some ⟨bb,0,none⟩),vw,vn,stepV x] w (RecPost u w B bb db bd L F fs):=by
 have HFW:=hide hfw
 have HFN:=hide hfn
 have HLW:=hide hlw
 have HLN:=hide hln
 obtain ⟨wa,wc,hvw⟩:=hfw.len
 obtain ⟨na,nc,hvn⟩:=hfn.len
 clear hfw hfn hlw hln
 subst hvw hvn
 obtain ⟨a,c,hdv,hdc⟩:=hds
 have HDC:=hide hdc
 have HV:=hide hv
 have HL:=hide hL
 have HBX:=hide hb
 have HG:=hide h
 have HE:=hide he
 have HU:=hide hu
 have hus:=hu.size
 clear hdc hv hL hb h he hu
 unfold stepV
 rw [hdv]
 go_enter Tryz.func9,Tryz.ntmps9
 go_wp2_with fail
 obtain ⟨W,hW⟩:∃ W,W=w.alloc (.cells #[.string (strA x.id),x.av,.string (strA x.text),.int .i64 x.left,.int .i64 x.full,.int .i64 x.kept,.int .i64 x.part,.slice a x.downs.length c,.bool x.again] 32):=⟨_,rfl⟩
 rw [← hW]
 have HWB:Hid (Below w.heap.size w W):=by rw [hW];exact (Below.refl _ _).alloc (Nat.le_refl _) _
 have HWS:Hid (W.heap[w.heap.size]?=some (.cells #[.string (strA x.id),x.av,.string (strA x.text),.int .i64 x.left,.int .i64 x.full,.int .i64 x.kept,.int .i64 x.part,.slice a x.downs.length c,.bool x.again] 32)):=by rw [hW];exact blk_new _ _
 clear hW
 go_loopw [10,11] (fun i _ wr=>∃ k:Nat,k≤x.downs.length∧i=.int .i64 (k:Int)∧Fr (PDk B) W wr∧BoxG wr B db bd L.length F (jouL id text acts) fs) (fun i _ _=>x.downs.length - (intOf i).toNat)
 case atStart=>exact ⟨0,Nat.zero_le _,rfl,Fr.refl _ _,by obtain ⟨bn,D,N,p,hA,hg⟩:=HG.out;exact ⟨bn,D,N,p,hA.below HWB.out,hg⟩⟩
 case round=>
  obtain ⟨k,hk,rfl,hF,hG⟩:=hrel
  have HF:=hide hF
  have HGr:=hide hG
  have hS:=hF.block _ _ HWS.out (fun ⟨_,hp⟩=>by
   rcases hp with ⟨cs,e⟩ | ⟨es,c,e⟩ | ⟨cs,e⟩
   ·injection e with e1 e2;exact absurd e2 (by decide)
   ·cases e
   ·injection e with e1 e2;exact absurd e2 (by decide))
  have s4:wr.cell? ⟨w.heap.size,4,none⟩=some (.int .i64 x.full):=blk_cell hS 4
  have s5:wr.cell? ⟨w.heap.size,5,none⟩=some (.int .i64 x.kept):=blk_cell hS 5
  have s6:wr.cell? ⟨w.heap.size,6,none⟩=some (.int .i64 x.part):=blk_cell hS 6
  have s7:wr.cell? ⟨w.heap.size,7,none⟩=some (.slice a x.downs.length c):=blk_cell hS 7
  clear hF hG
  by_cases hlt:k < x.downs.length
  rotate_left
  ·as_aux_lemma=>
    have hz:¬ (k:Int) < (x.downs.length:Int):=by omega
    go_wp2_with fail
    have HBr:Hid (Below u.heap.size u wr):=Fr.lowB (HU.out.trans (HWB.out.mono hus)) HF.out hB
    have HXr:=hide (HF.out.block _ _ (blk_below HBX.out HWB.out) PDk.notBox)
    have h6:6 < B:=Nat.lt_of_lt_of_le (cell_lt (a:=⟨6,15,none⟩) HE.out.tz) hB
    refine (sbrecover_never B bb db bd L 0 0 wr HV.out HL.out HXr.out HGr.out h6 (HE.out.below HBr.out).tab (HE.out.below HBr.out).tz (HE.out.below HBr.out).err (by omega) (by omega) (by omega)).mono ?_
    rintro e w1 ⟨rfl,hF1,bn1,M,hM,hA1⟩
    have HF1:=hide hF1
    have HX1:=hide (hF1.block _ _ HXr.out PDk.notBox)
    have hS1:=hF1.block _ _ hS (fun ⟨_,hp⟩=>by
     rcases hp with ⟨cs,e⟩ | ⟨es,c,e⟩ | ⟨cs,e⟩
     ·injection e with e1 e2;exact absurd e2 (by decide)
     ·cases e
     ·injection e with e1 e2;exact absurd e2 (by decide))
    have t5:w1.cell? ⟨w.heap.size,5,none⟩=some (.int .i64 x.kept):=blk_cell hS1 5
    have t6:w1.cell? ⟨w.heap.size,6,none⟩=some (.int .i64 x.part):=blk_cell hS1 6
    have HA1:=hide hA1
    have HM:=hide hM
    clear hF1 hA1 hM hS1 s4 s5 s6 s7
    go_wp2_with fail
    refine (gblose_any B bb db bd bn1 L.length ⟨M,M,[],⟨-1,-1,false⟩⟩ x.kept x.part w1 HX1.out HA1.out (by omega) (by simp) (by intro o ho;cases ho) (by intro o ho;cases ho) hp.1 hp.2).mono ?_
    rintro e w2 ⟨rfl,hF2,bn2,D2,hc2,hA2⟩
    have hD2:D2=M:=hc2
    subst hD2
    have HF2:=hide (HF.out.trans (HF1.out.trans hF2))
    have HX2:=hide (hF2.block _ _ HX1.out PDk.notBox)
    have HA2:Hid (AbsD w2 B db bd bn2 L.length ⟨D2,D2,[],⟨-1,-1,false⟩⟩):=hA2
    clear hF2 hA2 hc2
    go_wp2_with fail
    refine (gbfiles_any B bb db bd bn2 L.length D2 D2 [] w2 HX2.out HA2.out (by omega)).mono ?_
    rintro e w3 ⟨hb3,v3,l3,rfl,hf3,hl3,hn3⟩
    have HB3:=hide hb3
    have HF3:=hide hf3
    have HL3:=hide hl3
    clear hb3 hf3 hl3
    have HFr3:Hid (Fr (PDk B) W w3):=HF2.out.trans (Fr.of_below HB3.out)
    have HN3:=hide ((HFN.out.below HWB.out).fr HFr3.out (fun _ _=>PDk.notFile))
    have HW3:=hide ((HFW.out.below HWB.out).fr HFr3.out (fun _ _=>PDk.notFile))
    go_wp2_with fail
    refine (sameF_any v3 _ l3 ln w3 HF3.out.toS HN3.out (by omega) (by omega)).mono ?_
    rintro e w4 ⟨rfl,hb4⟩
    have HB4:=hide hb4
    clear hb4
    go_wp2_with fail
    refine (sameF_any v3 _ l3 lw w4 (HF3.out.toS.below HB4.out) (HW3.out.below HB4.out) (by omega) (by omega)).mono ?_
    rintro e w5 ⟨rfl,hb5⟩
    have HB5:=hide (HB4.out.trans (hb5.mono HB4.out.size))
    clear hb5
    have HEND2:Hid (w.heap.size≤w5.heap.size):=Nat.le_trans HWB.out.size (Nat.le_trans HFr3.out.size HB5.out.size)
    have HMM:Hid (D2=F∨D2=putFs F fs):=HM.out.imp funext funext
    have HEND:Hid (Below u.heap.size u w5∧BoxR w5 B db bd L.length (fun X=>X=D2)∧w5.heap[bb]?=some (.cells #[.pointer (some ⟨db,0,none⟩)] 55)):=
     ⟨(Fr.lowB (HU.out.trans (HWB.out.mono hus)) HFr3.out hB).trans (HB5.out.mono (Nat.le_trans hus (Nat.le_trans HWB.out.size HFr3.out.size))),⟨bn2,D2,rfl,(HA2.out.below HB3.out).below HB5.out⟩,blk_below (blk_below HX2.out HB3.out) HB5.out⟩
    have HN5:=hide (HN3.out.below HB5.out)
    have HW5:=hide (HW3.out.below HB5.out)
    by_cases hone:l3=ln
    ·have h1:decide (l3=ln)=true:=by simpa using hone
     rw [h1]
     go_wp2
     go_ret2
     exact ⟨HEND.out.1,_,D2,ln,rfl,HMM.out,HEND.out.2.1,HEND.out.2.2,HN5.out,hone ▸ HL3.out,hone ▸ hn3,HEND2.out⟩
    ·have h1:decide (l3=ln)=false:=by simpa using hone
     rw [h1]
     have hF2:D2=F:=by
      rcases HMM.out with h | h
      ·exact h
      ·exact absurd (lists_one (h ▸ HL3.out) HLN.out) hone
     have htwo:l3=lw:=lists_one (hF2 ▸ HL3.out) HLW.out
     have h2:decide (l3=lw)=true:=by simpa using htwo
     rw [h2]
     have HTW:=hide htwo
     clear htwo hF2 hone h1 h2
     go_wp2
     go_ret2
     exact ⟨HEND.out.1,_,D2,lw,rfl,HMM.out,HEND.out.2.1,HEND.out.2.2,HW5.out,HTW.out ▸ HL3.out,HTW.out ▸ hn3,HEND2.out⟩
  ·have hlt':(k:Int) < (x.downs.length:Int):=by omega
   obtain ⟨b,off,hab,hcells⟩:=HDC.out (by intro e;rw [e] at hlt;simp at hlt)
   subst hab
   have HBr:Hid (Below u.heap.size u wr):=Fr.lowB (HU.out.trans (HWB.out.mono hus)) HF.out hB
   have HXr:=hide (HF.out.block _ _ (blk_below HBX.out HWB.out) PDk.notBox)
   have h6:6 < B:=Nat.lt_of_lt_of_le (cell_lt (a:=⟨6,15,none⟩) HE.out.tz) hB
   have hck:wr.cell? ⟨b,off+k,none⟩=some (.int .i64 x.downs[k]):=(HBr.out.cell (p:=⟨b,off+k,none⟩) (cell_lt (hcells k hlt))).trans (hcells k hlt)
   have HSR:=hide (fun l=>sbrecover B bb db bd L l x.full x.kept x.part wr.drew HV.out HL.out HXr.out (by obtain ⟨bn,D,N,p,hA,hg⟩:=HGr.out;exact ⟨bn,D,N,p,hA.below ((Below.refl _ _).drew),hg⟩) h6 (HE.out.below HBr.out.drew).tab (HE.out.below HBr.out.drew).tz (HE.out.below HBr.out.drew).err (by omega) hp.1 hp.2)
   have HCU:=hide (hcells k hlt)
   generalize x.downs[k]=dk at *
   clear hcells
   have HKP:Hid (∀ W':World,Fr (PDk B) wr.drew W'→W'.cell? ⟨w.heap.size,7,none⟩=some (.slice (some ⟨b,off,none⟩) x.downs.length c)∧W'.cell? ⟨b,off+k,none⟩=some (.int .i64 dk)∧W'.cell? ⟨w.heap.size,4,none⟩=some (.int .i64 x.full)∧W'.cell? ⟨w.heap.size,5,none⟩=some (.int .i64 x.kept)∧W'.cell? ⟨w.heap.size,6,none⟩=some (.int .i64 x.part)):=fun W' hf=>by
    have hS':=hf.block _ _ (show wr.drew.heap[w.heap.size]?=_ from hS) (fun ⟨_,hp⟩=>by
     rcases hp with ⟨cs,e⟩ | ⟨es,c,e⟩ | ⟨cs,e⟩
     ·injection e with e1 e2;exact absurd e2 (by decide)
     ·cases e
     ·injection e with e1 e2;exact absurd e2 (by decide))
    exact ⟨blk_cell hS' 7,(Fr.lowB (HBr.out.drew) hf hB).cell (p:=⟨b,off+k,none⟩) (cell_lt (HCU.out)) |>.trans HCU.out,blk_cell hS' 4,blk_cell hS' 5,blk_cell hS' 6⟩
   go_wp2_with fail
   go_region_held3 (fun w'=>w'.cell? ⟨w.heap.size,7,none⟩=some (.slice (some ⟨b,off,none⟩) x.downs.length c)∧w'.cell? ⟨b,off+k,none⟩=some (.int .i64 dk)∧w'.cell? ⟨w.heap.size,4,none⟩=some (.int .i64 x.full)∧w'.cell? ⟨w.heap.size,5,none⟩=some (.int .i64 x.kept)∧w'.cell? ⟨w.heap.size,6,none⟩=some (.int .i64 x.part)) (first | go_keep | exact HKP.out wb HFB.out) (first | (go_at_call 24;refine (HSR.out dk).mono ?_;rintro e wb ⟨k1,rfl,hFb,hh⟩;have HFB:=hide hFb;have HHH:=hide hh;clear hFb hh;skip))
   have HFb:Hid (Fr (PDk B) W wb):=HF.out.drew.trans HFB.out
   have hSb:=HFb.out.block _ _ HWS.out (fun ⟨_,hp⟩=>by
    rcases hp with ⟨cs,e⟩ | ⟨es,c,e⟩ | ⟨cs,e⟩
    ·injection e with e1 e2;exact absurd e2 (by decide)
    ·cases e
    ·injection e with e1 e2;exact absurd e2 (by decide))
   clear s4 s5 s6 s7 hck HBr HXr HKP HSR HCU
   rcases HHH.out with ⟨hk0,hR⟩ | ⟨hk1,hG⟩
   ·as_aux_lemma=>
     subst hk0
     have HGb:Hid (BoxG wb B db bd L.length F (jouL id text acts) fs):=hR.good
     clear HHH hR h6
     go_wp2_with fail
     have HBr:Hid (Below u.heap.size u wb):=Fr.lowB (HU.out.trans (HWB.out.mono hus)) HFb.out hB
     have HXr:=hide (HFb.out.block _ _ (blk_below HBX.out HWB.out) PDk.notBox)
     have h6:6 < B:=Nat.lt_of_lt_of_le (cell_lt (a:=⟨6,15,none⟩) HE.out.tz) hB
     refine (sbrecover_never B bb db bd L 0 0 wb HV.out HL.out HXr.out HGb.out h6 (HE.out.below HBr.out).tab (HE.out.below HBr.out).tz (HE.out.below HBr.out).err (by omega) (by omega) (by omega)).mono ?_
     rintro e w1 ⟨rfl,hF1,bn1,M,hM,hA1⟩
     have HF1:=hide hF1
     have HX1:=hide (hF1.block _ _ HXr.out PDk.notBox)
     have hS1:=hF1.block _ _ hSb (fun ⟨_,hp⟩=>by
      rcases hp with ⟨cs,e⟩ | ⟨es,c,e⟩ | ⟨cs,e⟩
      ·injection e with e1 e2;exact absurd e2 (by decide)
      ·cases e
      ·injection e with e1 e2;exact absurd e2 (by decide))
     have t5:w1.cell? ⟨w.heap.size,5,none⟩=some (.int .i64 x.kept):=blk_cell hS1 5
     have t6:w1.cell? ⟨w.heap.size,6,none⟩=some (.int .i64 x.part):=blk_cell hS1 6
     have HA1:=hide hA1
     have HM:=hide hM
     clear hF1 hA1 hM hS1
     go_wp2_with fail
     refine (gblose_any B bb db bd bn1 L.length ⟨M,M,[],⟨-1,-1,false⟩⟩ x.kept x.part w1 HX1.out HA1.out (by omega) (by simp) (by intro o ho;cases ho) (by intro o ho;cases ho) hp.1 hp.2).mono ?_
     rintro e w2 ⟨rfl,hF2,bn2,D2,hc2,hA2⟩
     have hD2:D2=M:=hc2
     subst hD2
     have HF2:=hide (HFb.out.trans (HF1.out.trans hF2))
     have HX2:=hide (hF2.block _ _ HX1.out PDk.notBox)
     have HA2:Hid (AbsD w2 B db bd bn2 L.length ⟨D2,D2,[],⟨-1,-1,false⟩⟩):=hA2
     clear hF2 hA2 hc2
     go_wp2_with fail
     refine (gbfiles_any B bb db bd bn2 L.length D2 D2 [] w2 HX2.out HA2.out (by omega)).mono ?_
     rintro e w3 ⟨hb3,v3,l3,rfl,hf3,hl3,hn3⟩
     have HB3:=hide hb3
     have HF3:=hide hf3
     have HL3:=hide hl3
     clear hb3 hf3 hl3
     have HFr3:Hid (Fr (PDk B) W w3):=HF2.out.trans (Fr.of_below HB3.out)
     have HN3:=hide ((HFN.out.below HWB.out).fr HFr3.out (fun _ _=>PDk.notFile))
     have HW3:=hide ((HFW.out.below HWB.out).fr HFr3.out (fun _ _=>PDk.notFile))
     go_wp2_with fail
     refine (sameF_any v3 _ l3 ln w3 HF3.out.toS HN3.out (by omega) (by omega)).mono ?_
     rintro e w4 ⟨rfl,hb4⟩
     have HB4:=hide hb4
     clear hb4
     go_wp2_with fail
     refine (sameF_any v3 _ l3 lw w4 (HF3.out.toS.below HB4.out) (HW3.out.below HB4.out) (by omega) (by omega)).mono ?_
     rintro e w5 ⟨rfl,hb5⟩
     have HB5:=hide (HB4.out.trans (hb5.mono HB4.out.size))
     clear hb5
     have HEND2:Hid (w.heap.size≤w5.heap.size):=Nat.le_trans HWB.out.size (Nat.le_trans HFr3.out.size HB5.out.size)
     have HMM:Hid (D2=F∨D2=putFs F fs):=HM.out.imp funext funext
     have HEND:Hid (Below u.heap.size u w5∧BoxR w5 B db bd L.length (fun X=>X=D2)∧w5.heap[bb]?=some (.cells #[.pointer (some ⟨db,0,none⟩)] 55)):=
      ⟨(Fr.lowB (HU.out.trans (HWB.out.mono hus)) HFr3.out hB).trans (HB5.out.mono (Nat.le_trans hus (Nat.le_trans HWB.out.size HFr3.out.size))),⟨bn2,D2,rfl,(HA2.out.below HB3.out).below HB5.out⟩,blk_below (blk_below HX2.out HB3.out) HB5.out⟩
     have HN5:=hide (HN3.out.below HB5.out)
     have HW5:=hide (HW3.out.below HB5.out)
     by_cases hone:l3=ln
     ·have h1:decide (l3=ln)=true:=by simpa using hone
      rw [h1]
      go_wp2
      go_ret2
      exact ⟨HEND.out.1,_,D2,ln,rfl,HMM.out,HEND.out.2.1,HEND.out.2.2,HN5.out,hone ▸ HL3.out,hone ▸ hn3,HEND2.out⟩
     ·have h1:decide (l3=ln)=false:=by simpa using hone
      rw [h1]
      have hF2:D2=F:=by
       rcases HMM.out with h | h
       ·exact h
       ·exact absurd (lists_one (h ▸ HL3.out) HLN.out) hone
      have htwo:l3=lw:=lists_one (hF2 ▸ HL3.out) HLW.out
      have h2:decide (l3=lw)=true:=by simpa using htwo
      rw [h2]
      have HTW:=hide htwo
      clear htwo hF2 hone h1 h2
      go_wp2
      go_ret2
      exact ⟨HEND.out.1,_,D2,lw,rfl,HMM.out,HEND.out.2.1,HEND.out.2.2,HW5.out,HTW.out ▸ HL3.out,HTW.out ▸ hn3,HEND2.out⟩
   ·as_aux_lemma=>
     have HGb:=hide hG
     clear HHH hG
     rcases hk1 with h | h
     ·subst h
      go_wp2
      exact ⟨⟨k+1,by omega,by go_num,HFb.out,HGb.out⟩,by simp [intOf];omega⟩
     ·subst h
      go_wp2
      exact ⟨⟨k+1,by omega,by go_num,HFb.out,HGb.out⟩,by simp [intOf];omega⟩
end
section
open Go.RowKit
attribute [local go_sem ↓] Go.wp_at_zero Go.wp_at_succ
theorem delivered_down (u:World) (B bb db bd:Nat) (L:List (List UInt8)) (F:Fs) (v:Value) (l:List Fl) (x:StepD) (w:World) (he:EnvD u) (hu:Below u.heap.size u w) (hB:u.heap.size≤B) (h:StoreA w B bb db bd L F v l) (ha:ActG u x.av x.acts) (hd:IntsG u x.dv x.downs) (hs:costN x≤65536) (hp:-9223372036854775808≤x.part∧x.part≤9223372036854775807) (hn:L.length≤437000) :
 Calls Tryz.prog 8 #[.pointer (some ⟨bb,0,none⟩),v,stepV x,.bool true] w (DelPostA u B bb db bd L x):=by
 have h1:x.id.length≤65536:=by unfold costN at hs;omega
 have h2:x.text.length≤65536:=by unfold costN at hs;omega
 have hdl:x.downs.length≤65536:=by unfold costN at hs;omega
 have h4:x.acts.length≤65536:=by unfold costN at hs;omega
 have h3:∀ a∈x.acts,a.2.length≤65536:=fun a h=>by
  have h5:=argN_mem a x.acts h
  unfold costN at hs
  omega
 have HRC:=hide (fun (F:Fs) (fs:List Fl) (L:List (List UInt8)) (vw vn:Value) (lw ln:List Fl) (w:World) (hu:Below u.heap.size u w) (hv:DvIs F x.id x.acts x.text fs) (hL:NamesIn F fs L)=>recovered_any u B bb db bd L vw vn lw ln x w he hu hB hv hL)
 have HDS:=hide hd
 have HA:=hide ha
 have HE:=hide he
 have HU:=hide hu
 have HS:=hide h
 have H3:=hide h3
 have h6:6 < u.heap.size:=cell_lt (a:=⟨6,15,none⟩) he.tz
 obtain ⟨aa,ac,hav,-⟩:=ha
 obtain ⟨da,dc,hdv,-⟩:=hd
 obtain ⟨va,vc,hve⟩:=h.fil.len
 subst hve
 clear he h3 hu h hs
 obtain ⟨id,acts,av,text,left,full,kept,part,downs,dv,again⟩:=x
 dsimp only at *
 subst hav hdv
 unfold stepV at HRC ⊢
 dsimp only at HRC ⊢
 go_enter Tryz.func8,Tryz.ntmps8
 go_wp2_with fail
 obtain ⟨V,hV⟩:∃ V,V=w.alloc (.cells #[.string (strA id),.slice aa acts.length ac,.string (strA text),.int .i64 left,.int .i64 full,.int .i64 kept,.int .i64 part,.slice da downs.length dc,.bool again] 32):=⟨_,rfl⟩
 have hBV:Below w.heap.size w V:=by rw [hV];exact (Below.refl _ _).alloc (Nat.le_refl _) _
 have HSt:Hid (V.heap[w.heap.size]?=some (.cells #[.string (strA id),.slice aa acts.length ac,.string (strA text),.int .i64 left,.int .i64 full,.int .i64 kept,.int .i64 part,.slice da downs.length dc,.bool again] 32)):=by rw [hV];exact blk_new _ _
 have HBV:=hide (HU.out.trans (hBV.mono HU.out.size))
 have HXV:=hide (blk_below HS.out.box hBV)
 have HFV:=hide (HS.out.fil.below hBV)
 have HDV:=hide (HS.out.disk.below hBV)
 have HVS:Hid (B≤V.heap.size):=Nat.le_trans HS.out.siz hBV.size
 have HWV:=hide hV
 have hlen:=HS.out.len
 clear hV hBV
 rw [← HWV.out]
 refine (rfiles_any id text acts (.slice aa acts.length ac) V (HA.out.below HBV.out) (by omega) (by omega) (fun a h=>by have:=H3.out a h;omega) (by omega)).mono ?_
 rintro e w1 ⟨hb1,⟨fs,fv,hr,rfl,hrow⟩ | ⟨k,hr,rfl⟩⟩
 ·have HB1:=hide (HBV.out.trans (hb1.mono HBV.out.size))
  have HSt1:=hide (blk_below HSt.out hb1)
  have HX1:=hide (blk_below HXV.out hb1)
  have HF1:=hide (HFV.out.below hb1)
  have hBw1:B≤w1.heap.size:=by have:=hb1.size;have:=HVS.out;omega
  have HRS:=hide hr
  have HDW:Hid (DvIs F id acts text fs):=dv_of hr h1 h2 H3.out HS.out.own
  have HNM:Hid (NamesIn F fs (withN L fs)):=names_with HS.out.nam HS.out.jou
  have hwl:(withN L fs).length≤L.length+fs.length:=Nat.le_of_eq (withN_len L fs)
  have HK1:=hide (FilS.of_owns hrow)
  have hfl:fs.length≤acts.length:=Nat.le_of_eq (filesL_len hr)
  have hf6:fs.length≤6:=HDW.out.f10
  have HD1:Hid (BoxR w1 B db bd (withN L fs).length (fun M=>M=F)):=(HDV.out.below hb1).mono (by have:=withN_len L fs;omega)
  obtain ⟨M,hM⟩:∃ M,M=withN L fs:=⟨_,rfl⟩
  rw [← hM] at HNM hwl HD1
  clear hM
  have HFL:Hid (M.length≤L.length+20*min 1 acts.length∧(id=[]→M.length≤L.length)):=⟨by omega,fun e=>by rw [e] at hr;cases hr⟩
  obtain ⟨fa,fc,hfe⟩:=owns_len hrow
  subst hfe
  clear hb1 hr hrow
  have HBD:=hide (sbdeliver_ok B bb db bd M (.slice aa acts.length ac) left full kept part w1 HDW.out HNM.out HX1.out HD1.out (by omega) hBw1 (HE.out.below HB1.out).tab (HE.out.below HB1.out).tz (HE.out.below HB1.out).err (fun w' hf=>HA.out.below (Fr.lowB HB1.out hf hB)) (by omega) hp.1 hp.2)
  have g0:w1.cell? ⟨w.heap.size,0,none⟩=some (.string (strA id)):=blk_cell HSt1.out 0
  have g1:w1.cell? ⟨w.heap.size,1,none⟩=some (.slice aa acts.length ac):=blk_cell HSt1.out 1
  have g2:w1.cell? ⟨w.heap.size,2,none⟩=some (.string (strA text)):=blk_cell HSt1.out 2
  have g3:w1.cell? ⟨w.heap.size,3,none⟩=some (.int .i64 left):=blk_cell HSt1.out 3
  have g4:w1.cell? ⟨w.heap.size,4,none⟩=some (.int .i64 full):=blk_cell HSt1.out 4
  have g5:w1.cell? ⟨w.heap.size,5,none⟩=some (.int .i64 kept):=blk_cell HSt1.out 5
  have g6:w1.cell? ⟨w.heap.size,6,none⟩=some (.int .i64 part):=blk_cell HSt1.out 6
  go_wp2_with fail
  refine HBD.out.mono ?_
  rintro e w2 ⟨k,rfl,hF2,hr2⟩
  have HB2:=hide (Fr.lowB HB1.out hF2 hB)
  have HX2:=hide (hF2.block _ _ HX1.out PDk.notBox)
  have HSt2:=hide (hF2.block _ _ HSt1.out (PDk.notT (by decide) (by decide)))
  have HF2:=hide (HF1.out.fr hF2 (fun _ _=>PDk.notFil))
  have hBw2:B≤w2.heap.size:=by have:=hF2.size;omega
  have HK2:=hide (HK1.out.fr hF2 (fun _ _=>PDk.notFil))
  have HOW:Hid (∀ y,(putFs F fs y).isSome=true→Lib.hasPrefix y [46]=false):=fun y hy=>putFs_dot HDW.out y hy
  have HLP:=hide (plPut_len fs l)
  have HLN:=hide (lists_put fs HS.out.lst)
  have HR2:=hide hr2
  clear hF2 hr2 g0 g1 g2 g3 g4 g5 g6 HBD
  rcases HR2.out with ⟨hk0,bn2,M2,hM2,hA2⟩ | ⟨hk,hG⟩
  ·as_aux_lemma=>
    subst hk0
    subst hM2
    have HA2:=hide hA2
    clear hA2 HR2
    go_wp2_with fail
    refine (gbfiles_any B bb db bd bn2 M.length (putFs F fs) (putFs F fs) [] w2 HX2.out HA2.out (by omega)).mono ?_
    rintro e w3 ⟨hb3,v3,l3,rfl,hf3,hl3,hln3⟩
    have hle:=lists_one hl3 HLN.out
    subst hle
    have HF3:=hide hf3.toS
    obtain ⟨a3,c3,hv3⟩:=hf3.toS.len
    subst hv3
    have HW3:=hide (HF2.out.below hb3)
    have HK3:=hide (HK2.out.below hb3)
    have HX3:=hide (blk_below HX2.out hb3)
    have HSt3:=hide (blk_below HSt2.out hb3)
    have HA3:=hide (HA2.out.below hb3)
    have HB3:=hide (HB2.out.trans (hb3.mono HB2.out.size))
    have hBw3:B≤w3.heap.size:=by have:=hb3.size;omega
    have HL3:=hide hl3
    clear hb3 hf3 hl3
    go_wp2_with fail
    refine (put_any l fs _ _ w3 HW3.out HK3.out (by omega)).mono ?_
    rintro e w4 ⟨hb4,v4,rfl,hrow4⟩
    have HN4:=hide (FilS.of_owns hrow4)
    obtain ⟨a4,c4,hv4⟩:=owns_len hrow4
    subst hv4
    have HF4:=hide (HF3.out.below hb4)
    have HX4:=hide (blk_below HX3.out hb4)
    have HSt4:=hide (blk_below HSt3.out hb4)
    have HA4:=hide (HA3.out.below hb4)
    have HB4:=hide (HB3.out.trans (hb4.mono HB3.out.size))
    have hBw4:B≤w4.heap.size:=by have:=hb4.size;omega
    have g5:w4.cell? ⟨w.heap.size,5,none⟩=some (.int .i64 kept):=blk_cell HSt4.out 5
    have g6:w4.cell? ⟨w.heap.size,6,none⟩=some (.int .i64 part):=blk_cell HSt4.out 6
    clear hb4 hrow4
    go_wp2_with fail
    refine (gblose_any B bb db bd bn2 M.length ⟨putFs F fs,putFs F fs,[],⟨-1,-1,false⟩⟩ kept part w4 HX4.out HA4.out (by omega) (by simp) (by intro o ho;cases ho) (by intro o ho;cases ho) hp.1 hp.2).mono ?_
    rintro e w5 ⟨rfl,hF5,bn5,D5,hc5,hA5⟩
    have hD5:D5=putFs F fs:=hc5
    subst hD5
    have HF5:=hide (HF4.out.fr hF5 (fun _ _=>PDk.notFil))
    have HN5:=hide (HN4.out.fr hF5 (fun _ _=>PDk.notFil))
    have HX5:=hide (hF5.block _ _ HX4.out PDk.notBox)
    have HA5:Hid (AbsD w5 B db bd bn5 M.length ⟨putFs F fs,putFs F fs,[],⟨-1,-1,false⟩⟩):=hA5
    have HB5:=hide (Fr.lowB HB4.out hF5 hB)
    have hBw5:B≤w5.heap.size:=by have:=hF5.size;omega
    clear hF5 hA5 hc5 g5 g6
    go_wp2_with fail
    refine (gbfiles_any B bb db bd bn5 M.length _ _ _ w5 HX5.out HA5.out (by omega)).mono ?_
    rintro e w6 ⟨hb6,v6,l6,rfl,hf6',hl6,hln6⟩
    have hle:=lists_one hl6 HL3.out
    subst hle
    have HG6:=hide hf6'.toS
    obtain ⟨a6,c6,hv6⟩:=hf6'.toS.len
    subst hv6
    have HF6:=hide (HF5.out.below hb6)
    have HN6:=hide (HN5.out.below hb6)
    have HX6:=hide (blk_below HX5.out hb6)
    have HA6:=hide (HA5.out.below hb6)
    have HB6:=hide (HB5.out.trans (hb6.mono HB5.out.size))
    have hBw6:B≤w6.heap.size:=by have:=hb6.size;omega
    clear hb6 hf6' hl6
    go_wp2_with fail
    refine (sameF_any _ _ _ _ w6 HF6.out HN6.out (by omega) (by omega)).mono ?_
    rintro e w7 ⟨rfl,hb7⟩
    rw [decide_eq_true rfl]
    have HG7:=hide (HG6.out.below hb7)
    have HN7:=hide (HN6.out.below hb7)
    have HX7:=hide (blk_below HX6.out hb7)
    have HA7:=hide (HA6.out.below hb7)
    have HB7:=hide (HB6.out.trans (hb7.mono HB6.out.size))
    have hBw7:B≤w7.heap.size:=by have:=hb7.size;omega
    clear hb7
    go_wp2_with fail
    refine (sameF_any _ _ _ _ w7 HG7.out HN7.out (by omega) (by omega)).mono ?_
    rintro e w8 ⟨rfl,hb8⟩
    rw [decide_eq_true rfl]
    have HN8:=hide (HN7.out.below hb8)
    have HX8:=hide (blk_below HX7.out hb8)
    have HA8:=hide (HA7.out.below hb8)
    have HB8:=hide (HB7.out.trans (hb8.mono HB7.out.size))
    have hBw8:B≤w8.heap.size:=by have:=hb8.size;omega
    clear hb8
    go_wp2
    go_ret2
    exact ⟨HB8.out,M,putFs F fs,_,_,rfl,HFL.out.1,HFL.out.2,HX8.out,⟨bn5,_,rfl,HA8.out⟩,HN8.out,HL3.out,HOW.out,hBw8,HNM.out.next,HNM.out.j,hln6⟩
  ·as_aux_lemma=>
    have HG2:=hide hG
    obtain ⟨bn2,D2,N2,p2,hA2,hg2,hN2⟩:=hG
    have HA2:=hide hA2
    have hknz:¬ ((k:Nat):Int)=0:=by omega
    have hk2:((k:Nat):Int)=15∨((k:Nat):Int)=16:=by omega
    generalize ((k:Nat):Int)=kz at *
    clear hA2 hg2 hN2 HR2 hk
    go_wp2_with fail
    refine (gbfiles_any B bb db bd bn2 M.length D2 N2 p2 w2 HX2.out HA2.out (by omega)).mono ?_
    rintro e w3 ⟨hb3,v3,l3,rfl,hf3,hl3,hln3⟩
    obtain ⟨a3,c3,hv3⟩:=hf3.toS.len
    subst hv3
    have HW3:=hide (HF2.out.below hb3)
    have HK3:=hide (HK2.out.below hb3)
    have HX3:=hide (blk_below HX2.out hb3)
    have HSt3:=hide (blk_below HSt2.out hb3)
    have HG3:=hide (HG2.out.below hb3)
    have HB3:=hide (HB2.out.trans (hb3.mono HB2.out.size))
    have hBw3:B≤w3.heap.size:=by have:=hb3.size;omega
    clear hb3 hf3 hl3
    go_wp2_with fail
    refine (put_any l fs _ _ w3 HW3.out HK3.out (by omega)).mono ?_
    rintro e w4 ⟨hb4,v4,rfl,hrow4⟩
    have HN4:=hide (FilS.of_owns hrow4)
    obtain ⟨a4,c4,hv4⟩:=owns_len hrow4
    subst hv4
    have HW4:=hide (HW3.out.below hb4)
    have HX4:=hide (blk_below HX3.out hb4)
    have HSt4:=hide (blk_below HSt3.out hb4)
    have HG4:=hide (HG3.out.below hb4)
    have HB4:=hide (HB3.out.trans (hb4.mono HB3.out.size))
    have hBw4:B≤w4.heap.size:=by have:=hb4.size;omega
    have g0:w4.cell? ⟨w.heap.size,0,none⟩=some (.string (strA id)):=blk_cell HSt4.out 0
    have g1:w4.cell? ⟨w.heap.size,1,none⟩=some (.slice aa acts.length ac):=blk_cell HSt4.out 1
    have g2:w4.cell? ⟨w.heap.size,2,none⟩=some (.string (strA text)):=blk_cell HSt4.out 2
    have g3:w4.cell? ⟨w.heap.size,3,none⟩=some (.int .i64 left):=blk_cell HSt4.out 3
    have g4:w4.cell? ⟨w.heap.size,4,none⟩=some (.int .i64 full):=blk_cell HSt4.out 4
    have g5:w4.cell? ⟨w.heap.size,5,none⟩=some (.int .i64 kept):=blk_cell HSt4.out 5
    have g6:w4.cell? ⟨w.heap.size,6,none⟩=some (.int .i64 part):=blk_cell HSt4.out 6
    have g7:w4.cell? ⟨w.heap.size,7,none⟩=some (.slice da downs.length dc):=blk_cell HSt4.out 7
    have g8:w4.cell? ⟨w.heap.size,8,none⟩=some (.bool again):=blk_cell HSt4.out 8
    have HRD:=hide (HRC.out F fs M (.slice va l.length vc) (.slice a4 (plPut l fs).length c4) l (plPut l fs) w4 HB4.out HDW.out HNM.out HX4.out HG4.out HDS.out hp (by omega) hdl HW4.out HN4.out HS.out.lst HLN.out ⟨by omega,by have:=HLP.out;omega⟩)
    clear hb4 hrow4
    rcases hk2 with hk | hk
    all_goals subst hk
    all_goals go_wp2_with fail
    all_goals refine HRD.out.mono ?_
    all_goals rintro e w5 ⟨hb5,v5,M5,l5,rfl,hM5,hR5,hX5,hf5,hl5,hln5,hsz5⟩
    all_goals obtain ⟨a5,c5,hv5⟩:=hf5.len
    all_goals subst hv5
    all_goals have HEND:Hid (DelPostA u B bb db bd L ⟨id,acts,.slice aa acts.length ac,text,left,full,kept,part,downs,.slice da downs.length dc,again⟩ (.returned (.tuple #[.slice a5 l5.length c5,.bool true])) w5):=(by
     refine ⟨hb5,M,M5,_,l5,rfl,HFL.out.1,HFL.out.2,hX5,hR5,hf5,hl5,?_,?_,?_,HNM.out.j,hln5⟩
     ·rcases hM5 with rfl | rfl
      ·exact HS.out.own
      ·exact HOW.out
     ·omega
     ·rcases hM5 with rfl | rfl
      ·exact HNM.out.f
      ·exact HNM.out.next)
    all_goals clear hb5 hM5 hR5 hX5 hf5 hl5 hln5 hsz5
    all_goals go_wp2
    all_goals go_ret2
    all_goals exact HEND.out
 ·as_aux_lemma=>
   have hkp:=filesL_pos hr
   have hkp':¬ ((k:Nat):Int)=0:=by omega
   have HB1:=hide (HBV.out.trans (hb1.mono HBV.out.size))
   have HSt1:=hide (blk_below HSt.out hb1)
   have HX1:=hide (blk_below HXV.out hb1)
   have HD1:=hide (HDV.out.below hb1)
   have HF1:=hide (HFV.out.below hb1)
   have g0:w1.cell? ⟨w.heap.size,0,none⟩=some (.string (strA id)):=blk_cell HSt1.out 0
   have g1:w1.cell? ⟨w.heap.size,1,none⟩=some (.slice aa acts.length ac):=blk_cell HSt1.out 1
   have g2:w1.cell? ⟨w.heap.size,2,none⟩=some (.string (strA text)):=blk_cell HSt1.out 2
   have g3:w1.cell? ⟨w.heap.size,3,none⟩=some (.int .i64 left):=blk_cell HSt1.out 3
   have g4:w1.cell? ⟨w.heap.size,4,none⟩=some (.int .i64 full):=blk_cell HSt1.out 4
   have g5:w1.cell? ⟨w.heap.size,5,none⟩=some (.int .i64 kept):=blk_cell HSt1.out 5
   have g6:w1.cell? ⟨w.heap.size,6,none⟩=some (.int .i64 part):=blk_cell HSt1.out 6
   have hBw1:B≤w1.heap.size:=by have:=hb1.size;have:=HVS.out;omega
   have HBD:=hide (sbdeliver_bad B bb db bd L (.slice aa acts.length ac) left full kept part w1 hr (by omega) (by omega) (fun a h=>by have:=H3.out a h;omega) (by omega) HS.out.nam (own_jou HS.out.own) HX1.out HD1.out (by omega) hBw1 (HE.out.below HB1.out).tab (HE.out.below HB1.out).tz (HE.out.below HB1.out).err (fun w' hf=>HA.out.below (Fr.lowB HB1.out hf hB)) (by omega) hp.1 hp.2)
   clear hb1 hr
   go_wp2_with fail
   refine HBD.out.mono ?_
   rintro e w2 ⟨rfl,hF2,bn2,M2,hM2,hA2⟩
   subst hM2
   have HB2:=hide (Fr.lowB HB1.out hF2 hB)
   have HX2:=hide (hF2.block _ _ HX1.out PDk.notBox)
   have HF2:=hide (HF1.out.fr hF2 (fun _ _=>PDk.notFil))
   have hBw2:B≤w2.heap.size:=by have:=hF2.size;omega
   have HA2:=hide hA2
   clear hF2 hA2 g0 g1 g2 g3 g4 g5 g6
   go_wp2_with fail
   refine (gbfiles_any B bb db bd bn2 L.length M2 M2 [] w2 HX2.out HA2.out (by omega)).mono ?_
   rintro e w3 ⟨hb3,v3,l3,rfl,hf3,hl3,hln3⟩
   have hle:=lists_one hl3 HS.out.lst
   subst hle
   have HF3:=hide hf3.toS
   obtain ⟨a3,c3,hv3⟩:=hf3.toS.len
   subst hv3
   have HW3:=hide (HF2.out.below hb3)
   have HX3:=hide (blk_below HX2.out hb3)
   have HA3:=hide (HA2.out.below hb3)
   have HB3:=hide (HB2.out.trans (hb3.mono HB2.out.size))
   have hBw3:B≤w3.heap.size:=by have:=hb3.size;omega
   clear hb3 hf3 hl3
   go_wp2_with fail
   refine (sameF_any _ _ l3 l3 w3 HF3.out HW3.out (by omega) (by omega)).mono ?_
   rintro e w4 ⟨rfl,hb4⟩
   rw [decide_eq_true rfl]
   have HW4:=hide (HW3.out.below hb4)
   have HX4:=hide (blk_below HX3.out hb4)
   have HA4:=hide (HA3.out.below hb4)
   have HB4:=hide (HB3.out.trans (hb4.mono HB3.out.size))
   have hBw4:B≤w4.heap.size:=by have:=hb4.size;omega
   clear hb4
   go_wp2
   go_ret2
   exact ⟨HB4.out,L,M2,_,l3,rfl,(by omega),(fun _=>Nat.le_refl _),HX4.out,⟨bn2,_,rfl,HA4.out⟩,HW4.out,HS.out.lst,HS.out.own,hBw4,HS.out.nam,HS.out.jou,hlen⟩
end
end Go.Proofs.YtenahlandohgaaaGreatDoor
