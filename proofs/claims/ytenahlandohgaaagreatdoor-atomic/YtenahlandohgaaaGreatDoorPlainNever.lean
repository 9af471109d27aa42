import Derived.Test.YtenahlandohgaaaGreatDoorZGSafe
namespace Go.Proofs.YtenahlandohgaaaGreatDoor
set_option linter.unusedVariables false
set_option linter.unusedSimpArgs false
set_option maxRecDepth 100000
set_option maxHeartbeats 4000000
open Go.RowKit
theorem aWr_never (i:Nat) (hi:i≤1000000):aWr ⟨-1 - (i:Int),-1 - (i:Int),false⟩=(0,⟨-1 - ((i+1:Nat):Int),-1 - ((i+1:Nat):Int),false⟩):=by
 have e:w64 (-1 - (i:Int) - 1) = -1 - ((i+1:Nat):Int):=by
  unfold w64 wrap64
  omega
 unfold aWr
 dsimp only
 rw [if_neg (by rintro (h | h);cases h;omega),if_neg (by omega),e]
theorem aDo_never (o:Dop) (A:AD) (i:Nat) (hi:i≤1000000) (h:A.lf=⟨-1 - (i:Int),-1 - (i:Int),false⟩):(aDo o A).1=0∧(aDo o A).2.lf=⟨-1 - ((i+1:Nat):Int),-1 - ((i+1:Nat):Int),false⟩:=by
 have hw:=aWr_never i hi
 rw [← h] at hw
 unfold aDo
 rw [hw]
 dsimp only
 rw [if_pos rfl]
 repeat' split
 all_goals exact ⟨rfl,rfl⟩
theorem aRun_never:∀ (l:List Dop) (A:AD) (i:Nat),i+l.length≤1000000→A.lf=⟨-1 - (i:Int),-1 - (i:Int),false⟩→(aRun l A).1=0
 | [],A,i,_,_=>rfl
 | o :: r,A,i,hi,h=>by
  simp only [List.length_cons] at hi
  obtain ⟨h1,h2⟩:=aDo_never o A i (by omega) h
  rw [aRun,if_pos h1]
  exact aRun_never r _ (i+1) (by omega) h2
theorem rec_never {F:Fs} {J:List UInt8} {fs:List Fl} (D N:Fs) (p:List Dop) (own:Option (List Fl)) (h:Good F J fs D p) (hN:N=p.foldl doF D) (ho:OwnOf F J fs N own) (hf:fs.length≤100):(aRun (recOps own) ⟨D,N,p,⟨-1,-1,false⟩⟩).1=0:=by
 refine aRun_never _ _ 0 ?_ rfl
 unfold recOps ownOps
 rcases ho with ⟨rfl,_⟩ | ⟨rfl,_⟩ | ⟨rfl,_⟩
 ·simp
 ·simp [settleOps]
 ·simp [settleOps];omega
theorem sbrecover_never {F:Fs} {id:List UInt8} {acts:List (Int×List UInt8)} {text:List UInt8} {fs:List Fl} (B bb db bd:Nat) (L:List (List UInt8)) (kp pt:Int) (w:World) (hv:DvIs F id acts text fs) (hL:NamesIn F fs L) (hb:w.heap[bb]?=some (.cells #[.pointer (some ⟨db,0,none⟩)] 55)) (h:BoxG w B db bd L.length F (jouL id text acts) fs) (hB:6 < B) (ht:Tab w) (hz:Tz w) (hg:ErrT w) (hn:L.length≤450000) (hl0:-9223372036854775808≤pt) (hl1:pt≤9223372036854775807) :
 Calls Tryz.prog 24 #[.pointer (some ⟨bb,0,none⟩),.int .i64 (-1),.int .i64 (-1),.int .i64 kp,.int .i64 pt] w fun e w'=>e=.returned (.int .i64 0)∧Fr (PDk B) w w'∧BoxR w' B db bd L.length (fun M=>Was F M∨Nxt F fs M):=by
 obtain ⟨bn,D,N,p,hA,hgd,hN⟩:=h
 have hgN:Good F (jouL id text acts) fs N []:=by rw [hN];exact good_now hgd hv.fj hv.nj
 obtain ⟨own,ho⟩:=own_of hgN
 have hE:=rec_run ⟨D,N,p,⟨-1,-1,false⟩⟩ own hgd hN ho hv.fj hv.nj
 have h0:=rec_never D N p own hgd hN ho (by have:=hv.f10;omega)
 obtain ⟨p1,p2,p3⟩:=ends_pend hv hE
 obtain ⟨q1,q2,q3⟩:=good_pend hv hgd (by have:=jou_len hv;omega)
 refine (gbrecover_any B bb db bd bn L.length D N p (-1) (-1) kp pt own _ w hb hA hB ht hg (own_is hv w ht hz N own ho) hn (by omega) q2 rfl (by omega) p2 p3 hl0 hl1).mono ?_
 rintro e w' ⟨he,hf,bn',D',N',p',hbe,hA'⟩
 have hP:=box_end hL hv.fj hv.nj hE (fun M hM x hx=>by
  rcases hM with hM | hM
  ·exact hL.f x (by rw [← hM x];exact hx)
  ·exact hL.next x (by rw [← hM x];exact hx)) he hf hbe hA'
 obtain ⟨k,hk,hf',hh⟩:=hP
 rw [he,h0] at hk
 have hk0:k=0:=by
  injection hk with hk
  injection hk with _ hk
  omega
 rcases hh with ⟨_,hh⟩ | ⟨hh,_⟩
 ·exact ⟨by rw [he,h0];rfl,hf,hh⟩
 ·omega
theorem BoxR.good {F:Fs} {J:List UInt8} {fs:List Fl} {w:World} {B db bd m:Nat} (h:BoxR w B db bd m (fun M=>Was F M∨Nxt F fs M)):BoxG w B db bd m F J fs:=by
 obtain ⟨bn,M,hM,hA⟩:=h
 refine ⟨bn,M,M,[],hA,?_,rfl⟩
 rcases hM with hM | hM
 ·exact Or.inl ⟨hM,Or.inl rfl⟩
 ·exact Or.inr (Or.inr (Or.inr (Or.inr ⟨hM,rfl⟩)))
end Go.Proofs.YtenahlandohgaaaGreatDoor
