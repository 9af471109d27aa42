import Derived.Test.YtbiclelojbfnbabGreatDoorZWords
namespace Go.Proofs.YtbiclelojbfnbabGreatDoor
set_option linter.unusedVariables false
set_option linter.unusedSimpArgs false
set_option maxRecDepth 100000
set_option maxHeartbeats 4000000
open Go.RowKit
def QeW (v:Nat) (l:List UInt8):Nat:=(l.takeWhile fun c=>QaE c.toNat).foldl Qfs v
theorem Qnk (l:List UInt8):QkX l=QeW 0 l:=rfl
theorem Qm3 (v:Nat):QeW v []=v:=rfl
theorem QkS (v:Nat) (c:UInt8) (r:List UInt8) (h:QaE c.toNat=true):QeW v (c :: r)=QeW (Qfs v c) r:=by
 simp [QeW,List.takeWhile_cons,h]
theorem Qlm (v:Nat) (c:UInt8) (r:List UInt8) (h:QaE c.toNat=false):QeW v (c :: r)=v:=by
 simp [QeW,List.takeWhile_cons,h]
theorem Qnm (c:UInt8) (r:List UInt8) (h:QaE c.toNat=true):Qch (c :: r)=1+Qch r:=by
 simp [Qch,List.takeWhile_cons,h];omega
theorem QmU (c:UInt8) (r:List UInt8) (h:QaE c.toNat=false):Qch (c :: r)=0:=by
 simp [Qch,List.takeWhile_cons,h]
theorem Qpo:Qch []=0:=rfl
theorem QpD (v:Nat) (c:UInt8):Qfs v c≤2147483648:=by unfold Qfs;omega
theorem QbO (rest:List UInt8) (p v j v' n':Nat) (c1 c2:UInt8) (hv:QkX rest=v) (hj:Qch rest=j) (h1:rest.getD j 0=c1)
 (hv':v'=if isM c1 then v*1048576 else if isK c1 then v*1024 else v) (hn':n'=if isM c1 || isK c1 then j+1 else j) (h2:rest.getD n' 0=c2) :
 scanNumL rest p=if Qbf c2 then .error ⟨2,p⟩ else if 2147483647 < v' then .error ⟨3,p⟩ else .ok (⟨4,p,[],[],v'⟩,p+n'):=by
 subst hv;subst hj;subst h1;subst hv';subst hn';subst h2
 rfl
theorem Qby (s:ByteArray) (a j:Nat) (x:Int) (h:x=(a+j:Nat)):(s.data.toList.drop a).getD j 0=byteOf s x:=by
 subst h
 unfold byteOf
 rw [List.getD_eq_getElem?_getD,List.getElem?_drop,Int.toNat_natCast,List.getD_eq_getElem?_getD]
theorem Qa0 {c:UInt8} (h:Qbg (c.toNat:Int)=true∨QaE (c.toNat:Int)=true):Qbf c=true:=by
 unfold Qbf;rcases h with h | h <;> simp [h]
theorem QbC {c:UInt8} (h:Qbg (c.toNat:Int)=false) (h':QaE (c.toNat:Int)=false):Qbf c=false:=by
 unfold Qbf;simp [h,h']
theorem five_ways (c:UInt8):((c.toNat:Int) == 77)=true∨(((c.toNat:Int) == 77)=false∧((c.toNat:Int) == 109)=true)∨
 (((c.toNat:Int) == 77)=false∧((c.toNat:Int) == 109)=false∧((c.toNat:Int) == 75)=true)∨
 (((c.toNat:Int) == 77)=false∧((c.toNat:Int) == 109)=false∧((c.toNat:Int) == 75)=false∧((c.toNat:Int) == 107)=true)∨
 (((c.toNat:Int) == 77)=false∧((c.toNat:Int) == 109)=false∧((c.toNat:Int) == 75)=false∧((c.toNat:Int) == 107)=false):=by
 cases ((c.toNat:Int) == 77) <;> cases ((c.toNat:Int) == 109) <;> cases ((c.toNat:Int) == 75) <;> cases ((c.toNat:Int) == 107) <;> simp
theorem QgC {c:UInt8} (h:((c.toNat:Int) == 77)=true∨((c.toNat:Int) == 109)=true):isM c=true:=by
 unfold isM;simp at h ⊢;omega
theorem Qdd {c:UInt8} (h:((c.toNat:Int) == 77)=false) (h':((c.toNat:Int) == 109)=false):isM c=false:=by
 unfold isM;simp at h h' ⊢;omega
theorem QgR {c:UInt8} (h:((c.toNat:Int) == 75)=true∨((c.toNat:Int) == 107)=true):isK c=true:=by
 unfold isK;simp at h ⊢;omega
theorem Qj6 {c:UInt8} (h:((c.toNat:Int) == 75)=false) (h':((c.toNat:Int) == 107)=false):isK c=false:=by
 unfold isK;simp at h h' ⊢;omega
theorem QiH (s:ByteArray) (at_:Nat) (w:World) (hs:s.size≤4294967280) (ha:at_≤s.size) :
 Calls Tryz.prog 211 #[.string s,.int .i64 at_] w (Qap (scanNumL (s.data.toList.drop at_) at_) w):=by
 go_enter Tryz.func211,Tryz.ntmps211
 go_wp2_with fail
 go_loop [6,7] (fun a b=>∃ j v:Nat,at_+j≤s.size∧v≤2147483648∧a=.int .i64 v∧b=.int .i64 (at_+j:Nat)∧QkX (s.data.toList.drop at_)=QeW v (s.data.toList.drop (at_+j))∧Qch (s.data.toList.drop at_)=j+Qch (s.data.toList.drop (at_+j))) (fun _ b=>s.size - (intOf b).toNat)
 case atStart=>exact ⟨0,0,by omega,by omega,rfl,by simp,by rw [Qnk];rfl,by simp⟩
 case round=>
  obtain ⟨j,v,hj,hv,rfl,rfl,hN,hD⟩:=hrel
  have HN:=Qaa hN
  have HD:=Qaa hD
  clear hN hD
  by_cases hgo:∃ h:at_+j < s.size,QaE (s[at_+j].toNat:Int)=true
  ·obtain ⟨hlt,hdg⟩:=hgo
   have hd:=Qaa (Qbm s (at_+j) hlt)
   obtain ⟨c,hc⟩:∃ c,s[at_+j]=c:=⟨_,rfl⟩
   rw [hc] at hdg hd
   have hdg':48≤(c.toNat:Int)∧(c.toNat:Int)≤57:=by unfold QaE at hdg;simpa using hdg
   obtain ⟨hd1,hd2⟩:=hdg'
   go_wp2_with (go_at_call 143;refine (Qaj _ _).mono ?_;rintro e w' ⟨rfl,rfl⟩)
   refine ⟨⟨j+1,Qfs v c,by omega,QpD v c,?_,congrArg _ (by omega),?_,?_⟩,by simp [intOf];omega⟩
   ·refine congrArg _ ?_
    unfold Qfs
    omega
   ·rw [HN.out,hd.out,QkS _ _ _ hdg];rfl
   ·rw [HD.out,hd.out,Qnm _ _ hdg,show at_+j+1=at_+(j+1) from rfl];omega
  ·have HN':Hid (QkX (s.data.toList.drop at_)=v):=by
    show _=_
    rw [HN.out]
    by_cases hlt:at_+j < s.size
    ·rw [Qbm s _ hlt,Qlm]
     cases h:QaE (s[at_+j].toNat:Int)
     ·rfl
     ·exact absurd ⟨hlt,h⟩ hgo
    ·rw [List.drop_of_length_le (by simp;omega),Qm3]
   have HD':Hid (Qch (s.data.toList.drop at_)=j):=by
    show _=_
    rw [HD.out]
    by_cases hlt:at_+j < s.size
    ·rw [Qbm s _ hlt,QmU]
     ·rfl
     ·cases h:QaE (s[at_+j].toNat:Int)
      ·rfl
      ·exact absurd ⟨hlt,h⟩ hgo
    ·rw [List.drop_of_length_le (by simp;omega),Qpo];rfl
   clear HN HD
   have HG:=Qaa hgo
   clear hgo
   by_cases hlt:at_+j < s.size
   ·have hdg:QaE (s[at_+j].toNat:Int)=false:=by
     cases h:QaE (s[at_+j].toNat:Int)
     ·rfl
     ·exact absurd ⟨hlt,h⟩ HG.out
    obtain ⟨c,hc⟩:∃ c,s[at_+j]=c:=⟨_,rfl⟩
    rw [hc] at hdg
    clear HG
    go_wp2_with (go_at_call 143;refine (Qaj _ _).mono ?_;rintro e w' ⟨rfl,rfl⟩)
    clear hc hdg
    refine (Qb4 s _ _ (by unfold maxLen;omega) (by omega)).mono ?_
    rintro e w1 ⟨rfl,rfl⟩
    have HC1:=Qaa (Qby s at_ j (↑at_+↑j) (by omega))
    generalize byteOf s (↑at_+↑j)=c1 at HC1
    rcases five_ways c1 with h77 | ⟨h77,h109⟩ | ⟨h77,h109,h75⟩ | ⟨h77,h109,h75,h107⟩ | ⟨h77,h109,h75,h107⟩
    ·have HE:Hid (∀ c2,byteOf s (↑at_+↑j+1)=c2→scanNumL (s.data.toList.drop at_) at_=if Qbf c2 then .error ⟨2,at_⟩ else if 2147483647 < v*1048576 then .error ⟨3,at_⟩ else .ok (⟨4,at_,[],[],v*1048576⟩,at_+(j+1))):=fun c2 h2=>
      QbO _ at_ v j (v*1048576) (j+1) c1 c2 HN'.out HD'.out HC1.out (by rw [QgC (Or.inl h77)];rfl) (by rw [QgC (Or.inl h77)];rfl) (by rw [Qby s at_ (j+1) (↑at_+↑j+1) (by omega)];exact h2)
     clear HC1
     go_wp2_with fail
     refine (Qb4 s _ _ (by unfold maxLen;omega) (by omega)).mono ?_
     rintro e w1 ⟨rfl,rfl⟩
     have HE2:=Qaa (HE.out _ rfl)
     clear HE
     generalize byteOf s (↑at_+↑j+1)=c2 at HE2
     cases hl:Qbg (c2.toNat:Int)
     ·cases hdd:QaE (c2.toNat:Int)
      ·rw [QbC hl hdd] at HE2
       by_cases hbig:2147483647 < v*1048576
       ·rw [if_neg (by decide),if_pos hbig] at HE2
        have hbig':(2147483647:Int) < (v:Int)*1024*1024:=by omega
        go_wp2_with (first | (go_at_call 142;refine (Qai _ _).mono ?_;rintro e w' ⟨rfl,rfl⟩) | (go_at_call 143;refine (Qaj _ _).mono ?_;rintro e w' ⟨rfl,rfl⟩) | (go_at_call 64;refine (Qau _ _ _).mono ?_;rintro e w' ⟨rfl,rfl⟩))
        exact ⟨rfl,Qap.err HE2.out (((Below.refl _ w).alloc (Nat.le_refl _) _).alloc (by simp) _) (QaY 3 at_ (by simp) (by simp))⟩
       ·rw [if_neg (by decide),if_neg hbig] at HE2
        go_wp2_with (first | (go_at_call 142;refine (Qai _ _).mono ?_;rintro e w' ⟨rfl,rfl⟩) | (go_at_call 143;refine (Qaj _ _).mono ?_;rintro e w' ⟨rfl,rfl⟩) | (go_at_call 64;refine (Qau _ _ _).mono ?_;rintro e w' ⟨rfl,rfl⟩))
        refine bodyPost_ret (v:=.tuple #[.agg #[.int .i64 4,.int .i64 at_,.string ⟨#[]⟩,.string ⟨#[]⟩,.int .i64 ((v:Int)*1024*1024)],.int .i64 (↑at_+↑j+1)]) (by simp [results,Tryz.results211,go_sem]) rfl (Qap.ok HE2.out ((Below.refl _ w).alloc (Nat.le_refl _) _) ?_ ?_)
        ·simp [wdV];try omega
        ·simp;try omega
      ·rw [Qa0 (Or.inr hdd)] at HE2
       rw [if_pos rfl] at HE2
       go_wp2_with (first | (go_at_call 142;refine (Qai _ _).mono ?_;rintro e w' ⟨rfl,rfl⟩) | (go_at_call 143;refine (Qaj _ _).mono ?_;rintro e w' ⟨rfl,rfl⟩) | (go_at_call 64;refine (Qau _ _ _).mono ?_;rintro e w' ⟨rfl,rfl⟩))
       exact ⟨rfl,Qap.err HE2.out (((Below.refl _ w).alloc (Nat.le_refl _) _).alloc (by simp) _) (QaY 2 at_ (by simp) (by simp))⟩
     ·rw [Qa0 (Or.inl hl)] at HE2
      rw [if_pos rfl] at HE2
      go_wp2_with (first | (go_at_call 142;refine (Qai _ _).mono ?_;rintro e w' ⟨rfl,rfl⟩) | (go_at_call 143;refine (Qaj _ _).mono ?_;rintro e w' ⟨rfl,rfl⟩) | (go_at_call 64;refine (Qau _ _ _).mono ?_;rintro e w' ⟨rfl,rfl⟩))
      exact ⟨rfl,Qap.err HE2.out (((Below.refl _ w).alloc (Nat.le_refl _) _).alloc (by simp) _) (QaY 2 at_ (by simp) (by simp))⟩
    ·have HE:Hid (∀ c2,byteOf s (↑at_+↑j+1)=c2→scanNumL (s.data.toList.drop at_) at_=if Qbf c2 then .error ⟨2,at_⟩ else if 2147483647 < v*1048576 then .error ⟨3,at_⟩ else .ok (⟨4,at_,[],[],v*1048576⟩,at_+(j+1))):=fun c2 h2=>
      QbO _ at_ v j (v*1048576) (j+1) c1 c2 HN'.out HD'.out HC1.out (by rw [QgC (Or.inr h109)];rfl) (by rw [QgC (Or.inr h109)];rfl) (by rw [Qby s at_ (j+1) (↑at_+↑j+1) (by omega)];exact h2)
     clear HC1
     go_wp2_with fail
     refine (Qb4 s _ _ (by unfold maxLen;omega) (by omega)).mono ?_
     rintro e w1 ⟨rfl,rfl⟩
     have HE2:=Qaa (HE.out _ rfl)
     clear HE
     generalize byteOf s (↑at_+↑j+1)=c2 at HE2
     cases hl:Qbg (c2.toNat:Int)
     ·cases hdd:QaE (c2.toNat:Int)
      ·rw [QbC hl hdd] at HE2
       by_cases hbig:2147483647 < v*1048576
       ·rw [if_neg (by decide),if_pos hbig] at HE2
        have hbig':(2147483647:Int) < (v:Int)*1024*1024:=by omega
        go_wp2_with (first | (go_at_call 142;refine (Qai _ _).mono ?_;rintro e w' ⟨rfl,rfl⟩) | (go_at_call 143;refine (Qaj _ _).mono ?_;rintro e w' ⟨rfl,rfl⟩) | (go_at_call 64;refine (Qau _ _ _).mono ?_;rintro e w' ⟨rfl,rfl⟩))
        exact ⟨rfl,Qap.err HE2.out (((Below.refl _ w).alloc (Nat.le_refl _) _).alloc (by simp) _) (QaY 3 at_ (by simp) (by simp))⟩
       ·rw [if_neg (by decide),if_neg hbig] at HE2
        go_wp2_with (first | (go_at_call 142;refine (Qai _ _).mono ?_;rintro e w' ⟨rfl,rfl⟩) | (go_at_call 143;refine (Qaj _ _).mono ?_;rintro e w' ⟨rfl,rfl⟩) | (go_at_call 64;refine (Qau _ _ _).mono ?_;rintro e w' ⟨rfl,rfl⟩))
        refine bodyPost_ret (v:=.tuple #[.agg #[.int .i64 4,.int .i64 at_,.string ⟨#[]⟩,.string ⟨#[]⟩,.int .i64 ((v:Int)*1024*1024)],.int .i64 (↑at_+↑j+1)]) (by simp [results,Tryz.results211,go_sem]) rfl (Qap.ok HE2.out ((Below.refl _ w).alloc (Nat.le_refl _) _) ?_ ?_)
        ·simp [wdV];try omega
        ·simp;try omega
      ·rw [Qa0 (Or.inr hdd)] at HE2
       rw [if_pos rfl] at HE2
       go_wp2_with (first | (go_at_call 142;refine (Qai _ _).mono ?_;rintro e w' ⟨rfl,rfl⟩) | (go_at_call 143;refine (Qaj _ _).mono ?_;rintro e w' ⟨rfl,rfl⟩) | (go_at_call 64;refine (Qau _ _ _).mono ?_;rintro e w' ⟨rfl,rfl⟩))
       exact ⟨rfl,Qap.err HE2.out (((Below.refl _ w).alloc (Nat.le_refl _) _).alloc (by simp) _) (QaY 2 at_ (by simp) (by simp))⟩
     ·rw [Qa0 (Or.inl hl)] at HE2
      rw [if_pos rfl] at HE2
      go_wp2_with (first | (go_at_call 142;refine (Qai _ _).mono ?_;rintro e w' ⟨rfl,rfl⟩) | (go_at_call 143;refine (Qaj _ _).mono ?_;rintro e w' ⟨rfl,rfl⟩) | (go_at_call 64;refine (Qau _ _ _).mono ?_;rintro e w' ⟨rfl,rfl⟩))
      exact ⟨rfl,Qap.err HE2.out (((Below.refl _ w).alloc (Nat.le_refl _) _).alloc (by simp) _) (QaY 2 at_ (by simp) (by simp))⟩
    ·have HE:Hid (∀ c2,byteOf s (↑at_+↑j+1)=c2→scanNumL (s.data.toList.drop at_) at_=if Qbf c2 then .error ⟨2,at_⟩ else if 2147483647 < v*1024 then .error ⟨3,at_⟩ else .ok (⟨4,at_,[],[],v*1024⟩,at_+(j+1))):=fun c2 h2=>
      QbO _ at_ v j (v*1024) (j+1) c1 c2 HN'.out HD'.out HC1.out (by rw [Qdd h77 h109,QgR (Or.inl h75)];rfl) (by rw [Qdd h77 h109,QgR (Or.inl h75)];rfl) (by rw [Qby s at_ (j+1) (↑at_+↑j+1) (by omega)];exact h2)
     clear HC1
     go_wp2_with fail
     refine (Qb4 s _ _ (by unfold maxLen;omega) (by omega)).mono ?_
     rintro e w1 ⟨rfl,rfl⟩
     have HE2:=Qaa (HE.out _ rfl)
     clear HE
     generalize byteOf s (↑at_+↑j+1)=c2 at HE2
     cases hl:Qbg (c2.toNat:Int)
     ·cases hdd:QaE (c2.toNat:Int)
      ·rw [QbC hl hdd] at HE2
       by_cases hbig:2147483647 < v*1024
       ·rw [if_neg (by decide),if_pos hbig] at HE2
        have hbig':(2147483647:Int) < (v:Int)*1024:=by omega
        go_wp2_with (first | (go_at_call 142;refine (Qai _ _).mono ?_;rintro e w' ⟨rfl,rfl⟩) | (go_at_call 143;refine (Qaj _ _).mono ?_;rintro e w' ⟨rfl,rfl⟩) | (go_at_call 64;refine (Qau _ _ _).mono ?_;rintro e w' ⟨rfl,rfl⟩))
        exact ⟨rfl,Qap.err HE2.out (((Below.refl _ w).alloc (Nat.le_refl _) _).alloc (by simp) _) (QaY 3 at_ (by simp) (by simp))⟩
       ·rw [if_neg (by decide),if_neg hbig] at HE2
        go_wp2_with (first | (go_at_call 142;refine (Qai _ _).mono ?_;rintro e w' ⟨rfl,rfl⟩) | (go_at_call 143;refine (Qaj _ _).mono ?_;rintro e w' ⟨rfl,rfl⟩) | (go_at_call 64;refine (Qau _ _ _).mono ?_;rintro e w' ⟨rfl,rfl⟩))
        refine bodyPost_ret (v:=.tuple #[.agg #[.int .i64 4,.int .i64 at_,.string ⟨#[]⟩,.string ⟨#[]⟩,.int .i64 ((v:Int)*1024)],.int .i64 (↑at_+↑j+1)]) (by simp [results,Tryz.results211,go_sem]) rfl (Qap.ok HE2.out ((Below.refl _ w).alloc (Nat.le_refl _) _) ?_ ?_)
        ·simp [wdV];try omega
        ·simp;try omega
      ·rw [Qa0 (Or.inr hdd)] at HE2
       rw [if_pos rfl] at HE2
       go_wp2_with (first | (go_at_call 142;refine (Qai _ _).mono ?_;rintro e w' ⟨rfl,rfl⟩) | (go_at_call 143;refine (Qaj _ _).mono ?_;rintro e w' ⟨rfl,rfl⟩) | (go_at_call 64;refine (Qau _ _ _).mono ?_;rintro e w' ⟨rfl,rfl⟩))
       exact ⟨rfl,Qap.err HE2.out (((Below.refl _ w).alloc (Nat.le_refl _) _).alloc (by simp) _) (QaY 2 at_ (by simp) (by simp))⟩
     ·rw [Qa0 (Or.inl hl)] at HE2
      rw [if_pos rfl] at HE2
      go_wp2_with (first | (go_at_call 142;refine (Qai _ _).mono ?_;rintro e w' ⟨rfl,rfl⟩) | (go_at_call 143;refine (Qaj _ _).mono ?_;rintro e w' ⟨rfl,rfl⟩) | (go_at_call 64;refine (Qau _ _ _).mono ?_;rintro e w' ⟨rfl,rfl⟩))
      exact ⟨rfl,Qap.err HE2.out (((Below.refl _ w).alloc (Nat.le_refl _) _).alloc (by simp) _) (QaY 2 at_ (by simp) (by simp))⟩
    ·have HE:Hid (∀ c2,byteOf s (↑at_+↑j+1)=c2→scanNumL (s.data.toList.drop at_) at_=if Qbf c2 then .error ⟨2,at_⟩ else if 2147483647 < v*1024 then .error ⟨3,at_⟩ else .ok (⟨4,at_,[],[],v*1024⟩,at_+(j+1))):=fun c2 h2=>
      QbO _ at_ v j (v*1024) (j+1) c1 c2 HN'.out HD'.out HC1.out (by rw [Qdd h77 h109,QgR (Or.inr h107)];rfl) (by rw [Qdd h77 h109,QgR (Or.inr h107)];rfl) (by rw [Qby s at_ (j+1) (↑at_+↑j+1) (by omega)];exact h2)
     clear HC1
     go_wp2_with fail
     refine (Qb4 s _ _ (by unfold maxLen;omega) (by omega)).mono ?_
     rintro e w1 ⟨rfl,rfl⟩
     have HE2:=Qaa (HE.out _ rfl)
     clear HE
     generalize byteOf s (↑at_+↑j+1)=c2 at HE2
     cases hl:Qbg (c2.toNat:Int)
     ·cases hdd:QaE (c2.toNat:Int)
      ·rw [QbC hl hdd] at HE2
       by_cases hbig:2147483647 < v*1024
       ·rw [if_neg (by decide),if_pos hbig] at HE2
        have hbig':(2147483647:Int) < (v:Int)*1024:=by omega
        go_wp2_with (first | (go_at_call 142;refine (Qai _ _).mono ?_;rintro e w' ⟨rfl,rfl⟩) | (go_at_call 143;refine (Qaj _ _).mono ?_;rintro e w' ⟨rfl,rfl⟩) | (go_at_call 64;refine (Qau _ _ _).mono ?_;rintro e w' ⟨rfl,rfl⟩))
        exact ⟨rfl,Qap.err HE2.out (((Below.refl _ w).alloc (Nat.le_refl _) _).alloc (by simp) _) (QaY 3 at_ (by simp) (by simp))⟩
       ·rw [if_neg (by decide),if_neg hbig] at HE2
        go_wp2_with (first | (go_at_call 142;refine (Qai _ _).mono ?_;rintro e w' ⟨rfl,rfl⟩) | (go_at_call 143;refine (Qaj _ _).mono ?_;rintro e w' ⟨rfl,rfl⟩) | (go_at_call 64;refine (Qau _ _ _).mono ?_;rintro e w' ⟨rfl,rfl⟩))
        refine bodyPost_ret (v:=.tuple #[.agg #[.int .i64 4,.int .i64 at_,.string ⟨#[]⟩,.string ⟨#[]⟩,.int .i64 ((v:Int)*1024)],.int .i64 (↑at_+↑j+1)]) (by simp [results,Tryz.results211,go_sem]) rfl (Qap.ok HE2.out ((Below.refl _ w).alloc (Nat.le_refl _) _) ?_ ?_)
        ·simp [wdV];try omega
        ·simp;try omega
      ·rw [Qa0 (Or.inr hdd)] at HE2
       rw [if_pos rfl] at HE2
       go_wp2_with (first | (go_at_call 142;refine (Qai _ _).mono ?_;rintro e w' ⟨rfl,rfl⟩) | (go_at_call 143;refine (Qaj _ _).mono ?_;rintro e w' ⟨rfl,rfl⟩) | (go_at_call 64;refine (Qau _ _ _).mono ?_;rintro e w' ⟨rfl,rfl⟩))
       exact ⟨rfl,Qap.err HE2.out (((Below.refl _ w).alloc (Nat.le_refl _) _).alloc (by simp) _) (QaY 2 at_ (by simp) (by simp))⟩
     ·rw [Qa0 (Or.inl hl)] at HE2
      rw [if_pos rfl] at HE2
      go_wp2_with (first | (go_at_call 142;refine (Qai _ _).mono ?_;rintro e w' ⟨rfl,rfl⟩) | (go_at_call 143;refine (Qaj _ _).mono ?_;rintro e w' ⟨rfl,rfl⟩) | (go_at_call 64;refine (Qau _ _ _).mono ?_;rintro e w' ⟨rfl,rfl⟩))
      exact ⟨rfl,Qap.err HE2.out (((Below.refl _ w).alloc (Nat.le_refl _) _).alloc (by simp) _) (QaY 2 at_ (by simp) (by simp))⟩
    ·have HE:Hid (∀ c2,byteOf s (↑at_+↑j)=c2→scanNumL (s.data.toList.drop at_) at_=if Qbf c2 then .error ⟨2,at_⟩ else if 2147483647 < v then .error ⟨3,at_⟩ else .ok (⟨4,at_,[],[],v⟩,at_+(j))):=fun c2 h2=>
      QbO _ at_ v j (v) (j) c1 c2 HN'.out HD'.out HC1.out (by rw [Qdd h77 h109,Qj6 h75 h107];rfl) (by rw [Qdd h77 h109,Qj6 h75 h107];rfl) (by rw [Qby s at_ (j) (↑at_+↑j) (by omega)];exact h2)
     clear HC1
     go_wp2_with fail
     refine (Qb4 s _ _ (by unfold maxLen;omega) (by omega)).mono ?_
     rintro e w1 ⟨rfl,rfl⟩
     have HE2:=Qaa (HE.out _ rfl)
     clear HE
     generalize byteOf s (↑at_+↑j)=c2 at HE2
     cases hl:Qbg (c2.toNat:Int)
     ·cases hdd:QaE (c2.toNat:Int)
      ·rw [QbC hl hdd] at HE2
       by_cases hbig:2147483647 < v
       ·rw [if_neg (by decide),if_pos hbig] at HE2
        have hbig':(2147483647:Int) < (v:Int):=by omega
        go_wp2_with (first | (go_at_call 142;refine (Qai _ _).mono ?_;rintro e w' ⟨rfl,rfl⟩) | (go_at_call 143;refine (Qaj _ _).mono ?_;rintro e w' ⟨rfl,rfl⟩) | (go_at_call 64;refine (Qau _ _ _).mono ?_;rintro e w' ⟨rfl,rfl⟩))
        exact ⟨rfl,Qap.err HE2.out (((Below.refl _ w).alloc (Nat.le_refl _) _).alloc (by simp) _) (QaY 3 at_ (by simp) (by simp))⟩
       ·rw [if_neg (by decide),if_neg hbig] at HE2
        go_wp2_with (first | (go_at_call 142;refine (Qai _ _).mono ?_;rintro e w' ⟨rfl,rfl⟩) | (go_at_call 143;refine (Qaj _ _).mono ?_;rintro e w' ⟨rfl,rfl⟩) | (go_at_call 64;refine (Qau _ _ _).mono ?_;rintro e w' ⟨rfl,rfl⟩))
        refine bodyPost_ret (v:=.tuple #[.agg #[.int .i64 4,.int .i64 at_,.string ⟨#[]⟩,.string ⟨#[]⟩,.int .i64 ((v:Int))],.int .i64 (↑at_+↑j)]) (by simp [results,Tryz.results211,go_sem]) rfl (Qap.ok HE2.out ((Below.refl _ w).alloc (Nat.le_refl _) _) ?_ ?_)
        ·simp [wdV];try omega
        ·simp;try omega
      ·rw [Qa0 (Or.inr hdd)] at HE2
       rw [if_pos rfl] at HE2
       go_wp2_with (first | (go_at_call 142;refine (Qai _ _).mono ?_;rintro e w' ⟨rfl,rfl⟩) | (go_at_call 143;refine (Qaj _ _).mono ?_;rintro e w' ⟨rfl,rfl⟩) | (go_at_call 64;refine (Qau _ _ _).mono ?_;rintro e w' ⟨rfl,rfl⟩))
       exact ⟨rfl,Qap.err HE2.out (((Below.refl _ w).alloc (Nat.le_refl _) _).alloc (by simp) _) (QaY 2 at_ (by simp) (by simp))⟩
     ·rw [Qa0 (Or.inl hl)] at HE2
      rw [if_pos rfl] at HE2
      go_wp2_with (first | (go_at_call 142;refine (Qai _ _).mono ?_;rintro e w' ⟨rfl,rfl⟩) | (go_at_call 143;refine (Qaj _ _).mono ?_;rintro e w' ⟨rfl,rfl⟩) | (go_at_call 64;refine (Qau _ _ _).mono ?_;rintro e w' ⟨rfl,rfl⟩))
      exact ⟨rfl,Qap.err HE2.out (((Below.refl _ w).alloc (Nat.le_refl _) _).alloc (by simp) _) (QaY 2 at_ (by simp) (by simp))⟩
   ·clear HG
    go_wp2_with (go_at_call 143;refine (Qaj _ _).mono ?_;rintro e w' ⟨rfl,rfl⟩)
    refine (Qb4 s _ _ (by unfold maxLen;omega) (by omega)).mono ?_
    rintro e w1 ⟨rfl,rfl⟩
    have HC1:=Qaa (Qby s at_ j (↑at_+↑j) (by omega))
    generalize byteOf s (↑at_+↑j)=c1 at HC1
    rcases five_ways c1 with h77 | ⟨h77,h109⟩ | ⟨h77,h109,h75⟩ | ⟨h77,h109,h75,h107⟩ | ⟨h77,h109,h75,h107⟩
    ·have HE:Hid (∀ c2,byteOf s (↑at_+↑j+1)=c2→scanNumL (s.data.toList.drop at_) at_=if Qbf c2 then .error ⟨2,at_⟩ else if 2147483647 < v*1048576 then .error ⟨3,at_⟩ else .ok (⟨4,at_,[],[],v*1048576⟩,at_+(j+1))):=fun c2 h2=>
      QbO _ at_ v j (v*1048576) (j+1) c1 c2 HN'.out HD'.out HC1.out (by rw [QgC (Or.inl h77)];rfl) (by rw [QgC (Or.inl h77)];rfl) (by rw [Qby s at_ (j+1) (↑at_+↑j+1) (by omega)];exact h2)
     clear HC1
     go_wp2_with fail
     refine (Qb4 s _ _ (by unfold maxLen;omega) (by omega)).mono ?_
     rintro e w1 ⟨rfl,rfl⟩
     have HE2:=Qaa (HE.out _ rfl)
     clear HE
     generalize byteOf s (↑at_+↑j+1)=c2 at HE2
     cases hl:Qbg (c2.toNat:Int)
     ·cases hdd:QaE (c2.toNat:Int)
      ·rw [QbC hl hdd] at HE2
       by_cases hbig:2147483647 < v*1048576
       ·rw [if_neg (by decide),if_pos hbig] at HE2
        have hbig':(2147483647:Int) < (v:Int)*1024*1024:=by omega
        go_wp2_with (first | (go_at_call 142;refine (Qai _ _).mono ?_;rintro e w' ⟨rfl,rfl⟩) | (go_at_call 143;refine (Qaj _ _).mono ?_;rintro e w' ⟨rfl,rfl⟩) | (go_at_call 64;refine (Qau _ _ _).mono ?_;rintro e w' ⟨rfl,rfl⟩))
        exact ⟨rfl,Qap.err HE2.out (((Below.refl _ w).alloc (Nat.le_refl _) _).alloc (by simp) _) (QaY 3 at_ (by simp) (by simp))⟩
       ·rw [if_neg (by decide),if_neg hbig] at HE2
        go_wp2_with (first | (go_at_call 142;refine (Qai _ _).mono ?_;rintro e w' ⟨rfl,rfl⟩) | (go_at_call 143;refine (Qaj _ _).mono ?_;rintro e w' ⟨rfl,rfl⟩) | (go_at_call 64;refine (Qau _ _ _).mono ?_;rintro e w' ⟨rfl,rfl⟩))
        refine bodyPost_ret (v:=.tuple #[.agg #[.int .i64 4,.int .i64 at_,.string ⟨#[]⟩,.string ⟨#[]⟩,.int .i64 ((v:Int)*1024*1024)],.int .i64 (↑at_+↑j+1)]) (by simp [results,Tryz.results211,go_sem]) rfl (Qap.ok HE2.out ((Below.refl _ w).alloc (Nat.le_refl _) _) ?_ ?_)
        ·simp [wdV];try omega
        ·simp;try omega
      ·rw [Qa0 (Or.inr hdd)] at HE2
       rw [if_pos rfl] at HE2
       go_wp2_with (first | (go_at_call 142;refine (Qai _ _).mono ?_;rintro e w' ⟨rfl,rfl⟩) | (go_at_call 143;refine (Qaj _ _).mono ?_;rintro e w' ⟨rfl,rfl⟩) | (go_at_call 64;refine (Qau _ _ _).mono ?_;rintro e w' ⟨rfl,rfl⟩))
       exact ⟨rfl,Qap.err HE2.out (((Below.refl _ w).alloc (Nat.le_refl _) _).alloc (by simp) _) (QaY 2 at_ (by simp) (by simp))⟩
     ·rw [Qa0 (Or.inl hl)] at HE2
      rw [if_pos rfl] at HE2
      go_wp2_with (first | (go_at_call 142;refine (Qai _ _).mono ?_;rintro e w' ⟨rfl,rfl⟩) | (go_at_call 143;refine (Qaj _ _).mono ?_;rintro e w' ⟨rfl,rfl⟩) | (go_at_call 64;refine (Qau _ _ _).mono ?_;rintro e w' ⟨rfl,rfl⟩))
      exact ⟨rfl,Qap.err HE2.out (((Below.refl _ w).alloc (Nat.le_refl _) _).alloc (by simp) _) (QaY 2 at_ (by simp) (by simp))⟩
    ·have HE:Hid (∀ c2,byteOf s (↑at_+↑j+1)=c2→scanNumL (s.data.toList.drop at_) at_=if Qbf c2 then .error ⟨2,at_⟩ else if 2147483647 < v*1048576 then .error ⟨3,at_⟩ else .ok (⟨4,at_,[],[],v*1048576⟩,at_+(j+1))):=fun c2 h2=>
      QbO _ at_ v j (v*1048576) (j+1) c1 c2 HN'.out HD'.out HC1.out (by rw [QgC (Or.inr h109)];rfl) (by rw [QgC (Or.inr h109)];rfl) (by rw [Qby s at_ (j+1) (↑at_+↑j+1) (by omega)];exact h2)
     clear HC1
     go_wp2_with fail
     refine (Qb4 s _ _ (by unfold maxLen;omega) (by omega)).mono ?_
     rintro e w1 ⟨rfl,rfl⟩
     have HE2:=Qaa (HE.out _ rfl)
     clear HE
     generalize byteOf s (↑at_+↑j+1)=c2 at HE2
     cases hl:Qbg (c2.toNat:Int)
     ·cases hdd:QaE (c2.toNat:Int)
      ·rw [QbC hl hdd] at HE2
       by_cases hbig:2147483647 < v*1048576
       ·rw [if_neg (by decide),if_pos hbig] at HE2
        have hbig':(2147483647:Int) < (v:Int)*1024*1024:=by omega
        go_wp2_with (first | (go_at_call 142;refine (Qai _ _).mono ?_;rintro e w' ⟨rfl,rfl⟩) | (go_at_call 143;refine (Qaj _ _).mono ?_;rintro e w' ⟨rfl,rfl⟩) | (go_at_call 64;refine (Qau _ _ _).mono ?_;rintro e w' ⟨rfl,rfl⟩))
        exact ⟨rfl,Qap.err HE2.out (((Below.refl _ w).alloc (Nat.le_refl _) _).alloc (by simp) _) (QaY 3 at_ (by simp) (by simp))⟩
       ·rw [if_neg (by decide),if_neg hbig] at HE2
        go_wp2_with (first | (go_at_call 142;refine (Qai _ _).mono ?_;rintro e w' ⟨rfl,rfl⟩) | (go_at_call 143;refine (Qaj _ _).mono ?_;rintro e w' ⟨rfl,rfl⟩) | (go_at_call 64;refine (Qau _ _ _).mono ?_;rintro e w' ⟨rfl,rfl⟩))
        refine bodyPost_ret (v:=.tuple #[.agg #[.int .i64 4,.int .i64 at_,.string ⟨#[]⟩,.string ⟨#[]⟩,.int .i64 ((v:Int)*1024*1024)],.int .i64 (↑at_+↑j+1)]) (by simp [results,Tryz.results211,go_sem]) rfl (Qap.ok HE2.out ((Below.refl _ w).alloc (Nat.le_refl _) _) ?_ ?_)
        ·simp [wdV];try omega
        ·simp;try omega
      ·rw [Qa0 (Or.inr hdd)] at HE2
       rw [if_pos rfl] at HE2
       go_wp2_with (first | (go_at_call 142;refine (Qai _ _).mono ?_;rintro e w' ⟨rfl,rfl⟩) | (go_at_call 143;refine (Qaj _ _).mono ?_;rintro e w' ⟨rfl,rfl⟩) | (go_at_call 64;refine (Qau _ _ _).mono ?_;rintro e w' ⟨rfl,rfl⟩))
       exact ⟨rfl,Qap.err HE2.out (((Below.refl _ w).alloc (Nat.le_refl _) _).alloc (by simp) _) (QaY 2 at_ (by simp) (by simp))⟩
     ·rw [Qa0 (Or.inl hl)] at HE2
      rw [if_pos rfl] at HE2
      go_wp2_with (first | (go_at_call 142;refine (Qai _ _).mono ?_;rintro e w' ⟨rfl,rfl⟩) | (go_at_call 143;refine (Qaj _ _).mono ?_;rintro e w' ⟨rfl,rfl⟩) | (go_at_call 64;refine (Qau _ _ _).mono ?_;rintro e w' ⟨rfl,rfl⟩))
      exact ⟨rfl,Qap.err HE2.out (((Below.refl _ w).alloc (Nat.le_refl _) _).alloc (by simp) _) (QaY 2 at_ (by simp) (by simp))⟩
    ·have HE:Hid (∀ c2,byteOf s (↑at_+↑j+1)=c2→scanNumL (s.data.toList.drop at_) at_=if Qbf c2 then .error ⟨2,at_⟩ else if 2147483647 < v*1024 then .error ⟨3,at_⟩ else .ok (⟨4,at_,[],[],v*1024⟩,at_+(j+1))):=fun c2 h2=>
      QbO _ at_ v j (v*1024) (j+1) c1 c2 HN'.out HD'.out HC1.out (by rw [Qdd h77 h109,QgR (Or.inl h75)];rfl) (by rw [Qdd h77 h109,QgR (Or.inl h75)];rfl) (by rw [Qby s at_ (j+1) (↑at_+↑j+1) (by omega)];exact h2)
     clear HC1
     go_wp2_with fail
     refine (Qb4 s _ _ (by unfold maxLen;omega) (by omega)).mono ?_
     rintro e w1 ⟨rfl,rfl⟩
     have HE2:=Qaa (HE.out _ rfl)
     clear HE
     generalize byteOf s (↑at_+↑j+1)=c2 at HE2
     cases hl:Qbg (c2.toNat:Int)
     ·cases hdd:QaE (c2.toNat:Int)
      ·rw [QbC hl hdd] at HE2
       by_cases hbig:2147483647 < v*1024
       ·rw [if_neg (by decide),if_pos hbig] at HE2
        have hbig':(2147483647:Int) < (v:Int)*1024:=by omega
        go_wp2_with (first | (go_at_call 142;refine (Qai _ _).mono ?_;rintro e w' ⟨rfl,rfl⟩) | (go_at_call 143;refine (Qaj _ _).mono ?_;rintro e w' ⟨rfl,rfl⟩) | (go_at_call 64;refine (Qau _ _ _).mono ?_;rintro e w' ⟨rfl,rfl⟩))
        exact ⟨rfl,Qap.err HE2.out (((Below.refl _ w).alloc (Nat.le_refl _) _).alloc (by simp) _) (QaY 3 at_ (by simp) (by simp))⟩
       ·rw [if_neg (by decide),if_neg hbig] at HE2
        go_wp2_with (first | (go_at_call 142;refine (Qai _ _).mono ?_;rintro e w' ⟨rfl,rfl⟩) | (go_at_call 143;refine (Qaj _ _).mono ?_;rintro e w' ⟨rfl,rfl⟩) | (go_at_call 64;refine (Qau _ _ _).mono ?_;rintro e w' ⟨rfl,rfl⟩))
        refine bodyPost_ret (v:=.tuple #[.agg #[.int .i64 4,.int .i64 at_,.string ⟨#[]⟩,.string ⟨#[]⟩,.int .i64 ((v:Int)*1024)],.int .i64 (↑at_+↑j+1)]) (by simp [results,Tryz.results211,go_sem]) rfl (Qap.ok HE2.out ((Below.refl _ w).alloc (Nat.le_refl _) _) ?_ ?_)
        ·simp [wdV];try omega
        ·simp;try omega
      ·rw [Qa0 (Or.inr hdd)] at HE2
       rw [if_pos rfl] at HE2
       go_wp2_with (first | (go_at_call 142;refine (Qai _ _).mono ?_;rintro e w' ⟨rfl,rfl⟩) | (go_at_call 143;refine (Qaj _ _).mono ?_;rintro e w' ⟨rfl,rfl⟩) | (go_at_call 64;refine (Qau _ _ _).mono ?_;rintro e w' ⟨rfl,rfl⟩))
       exact ⟨rfl,Qap.err HE2.out (((Below.refl _ w).alloc (Nat.le_refl _) _).alloc (by simp) _) (QaY 2 at_ (by simp) (by simp))⟩
     ·rw [Qa0 (Or.inl hl)] at HE2
      rw [if_pos rfl] at HE2
      go_wp2_with (first | (go_at_call 142;refine (Qai _ _).mono ?_;rintro e w' ⟨rfl,rfl⟩) | (go_at_call 143;refine (Qaj _ _).mono ?_;rintro e w' ⟨rfl,rfl⟩) | (go_at_call 64;refine (Qau _ _ _).mono ?_;rintro e w' ⟨rfl,rfl⟩))
      exact ⟨rfl,Qap.err HE2.out (((Below.refl _ w).alloc (Nat.le_refl _) _).alloc (by simp) _) (QaY 2 at_ (by simp) (by simp))⟩
    ·have HE:Hid (∀ c2,byteOf s (↑at_+↑j+1)=c2→scanNumL (s.data.toList.drop at_) at_=if Qbf c2 then .error ⟨2,at_⟩ else if 2147483647 < v*1024 then .error ⟨3,at_⟩ else .ok (⟨4,at_,[],[],v*1024⟩,at_+(j+1))):=fun c2 h2=>
      QbO _ at_ v j (v*1024) (j+1) c1 c2 HN'.out HD'.out HC1.out (by rw [Qdd h77 h109,QgR (Or.inr h107)];rfl) (by rw [Qdd h77 h109,QgR (Or.inr h107)];rfl) (by rw [Qby s at_ (j+1) (↑at_+↑j+1) (by omega)];exact h2)
     clear HC1
     go_wp2_with fail
     refine (Qb4 s _ _ (by unfold maxLen;omega) (by omega)).mono ?_
     rintro e w1 ⟨rfl,rfl⟩
     have HE2:=Qaa (HE.out _ rfl)
     clear HE
     generalize byteOf s (↑at_+↑j+1)=c2 at HE2
     cases hl:Qbg (c2.toNat:Int)
     ·cases hdd:QaE (c2.toNat:Int)
      ·rw [QbC hl hdd] at HE2
       by_cases hbig:2147483647 < v*1024
       ·rw [if_neg (by decide),if_pos hbig] at HE2
        have hbig':(2147483647:Int) < (v:Int)*1024:=by omega
        go_wp2_with (first | (go_at_call 142;refine (Qai _ _).mono ?_;rintro e w' ⟨rfl,rfl⟩) | (go_at_call 143;refine (Qaj _ _).mono ?_;rintro e w' ⟨rfl,rfl⟩) | (go_at_call 64;refine (Qau _ _ _).mono ?_;rintro e w' ⟨rfl,rfl⟩))
        exact ⟨rfl,Qap.err HE2.out (((Below.refl _ w).alloc (Nat.le_refl _) _).alloc (by simp) _) (QaY 3 at_ (by simp) (by simp))⟩
       ·rw [if_neg (by decide),if_neg hbig] at HE2
        go_wp2_with (first | (go_at_call 142;refine (Qai _ _).mono ?_;rintro e w' ⟨rfl,rfl⟩) | (go_at_call 143;refine (Qaj _ _).mono ?_;rintro e w' ⟨rfl,rfl⟩) | (go_at_call 64;refine (Qau _ _ _).mono ?_;rintro e w' ⟨rfl,rfl⟩))
        refine bodyPost_ret (v:=.tuple #[.agg #[.int .i64 4,.int .i64 at_,.string ⟨#[]⟩,.string ⟨#[]⟩,.int .i64 ((v:Int)*1024)],.int .i64 (↑at_+↑j+1)]) (by simp [results,Tryz.results211,go_sem]) rfl (Qap.ok HE2.out ((Below.refl _ w).alloc (Nat.le_refl _) _) ?_ ?_)
        ·simp [wdV];try omega
        ·simp;try omega
      ·rw [Qa0 (Or.inr hdd)] at HE2
       rw [if_pos rfl] at HE2
       go_wp2_with (first | (go_at_call 142;refine (Qai _ _).mono ?_;rintro e w' ⟨rfl,rfl⟩) | (go_at_call 143;refine (Qaj _ _).mono ?_;rintro e w' ⟨rfl,rfl⟩) | (go_at_call 64;refine (Qau _ _ _).mono ?_;rintro e w' ⟨rfl,rfl⟩))
       exact ⟨rfl,Qap.err HE2.out (((Below.refl _ w).alloc (Nat.le_refl _) _).alloc (by simp) _) (QaY 2 at_ (by simp) (by simp))⟩
     ·rw [Qa0 (Or.inl hl)] at HE2
      rw [if_pos rfl] at HE2
      go_wp2_with (first | (go_at_call 142;refine (Qai _ _).mono ?_;rintro e w' ⟨rfl,rfl⟩) | (go_at_call 143;refine (Qaj _ _).mono ?_;rintro e w' ⟨rfl,rfl⟩) | (go_at_call 64;refine (Qau _ _ _).mono ?_;rintro e w' ⟨rfl,rfl⟩))
      exact ⟨rfl,Qap.err HE2.out (((Below.refl _ w).alloc (Nat.le_refl _) _).alloc (by simp) _) (QaY 2 at_ (by simp) (by simp))⟩
    ·have HE:Hid (∀ c2,byteOf s (↑at_+↑j)=c2→scanNumL (s.data.toList.drop at_) at_=if Qbf c2 then .error ⟨2,at_⟩ else if 2147483647 < v then .error ⟨3,at_⟩ else .ok (⟨4,at_,[],[],v⟩,at_+(j))):=fun c2 h2=>
      QbO _ at_ v j (v) (j) c1 c2 HN'.out HD'.out HC1.out (by rw [Qdd h77 h109,Qj6 h75 h107];rfl) (by rw [Qdd h77 h109,Qj6 h75 h107];rfl) (by rw [Qby s at_ (j) (↑at_+↑j) (by omega)];exact h2)
     clear HC1
     go_wp2_with fail
     refine (Qb4 s _ _ (by unfold maxLen;omega) (by omega)).mono ?_
     rintro e w1 ⟨rfl,rfl⟩
     have HE2:=Qaa (HE.out _ rfl)
     clear HE
     generalize byteOf s (↑at_+↑j)=c2 at HE2
     cases hl:Qbg (c2.toNat:Int)
     ·cases hdd:QaE (c2.toNat:Int)
      ·rw [QbC hl hdd] at HE2
       by_cases hbig:2147483647 < v
       ·rw [if_neg (by decide),if_pos hbig] at HE2
        have hbig':(2147483647:Int) < (v:Int):=by omega
        go_wp2_with (first | (go_at_call 142;refine (Qai _ _).mono ?_;rintro e w' ⟨rfl,rfl⟩) | (go_at_call 143;refine (Qaj _ _).mono ?_;rintro e w' ⟨rfl,rfl⟩) | (go_at_call 64;refine (Qau _ _ _).mono ?_;rintro e w' ⟨rfl,rfl⟩))
        exact ⟨rfl,Qap.err HE2.out (((Below.refl _ w).alloc (Nat.le_refl _) _).alloc (by simp) _) (QaY 3 at_ (by simp) (by simp))⟩
       ·rw [if_neg (by decide),if_neg hbig] at HE2
        go_wp2_with (first | (go_at_call 142;refine (Qai _ _).mono ?_;rintro e w' ⟨rfl,rfl⟩) | (go_at_call 143;refine (Qaj _ _).mono ?_;rintro e w' ⟨rfl,rfl⟩) | (go_at_call 64;refine (Qau _ _ _).mono ?_;rintro e w' ⟨rfl,rfl⟩))
        refine bodyPost_ret (v:=.tuple #[.agg #[.int .i64 4,.int .i64 at_,.string ⟨#[]⟩,.string ⟨#[]⟩,.int .i64 ((v:Int))],.int .i64 (↑at_+↑j)]) (by simp [results,Tryz.results211,go_sem]) rfl (Qap.ok HE2.out ((Below.refl _ w).alloc (Nat.le_refl _) _) ?_ ?_)
        ·simp [wdV];try omega
        ·simp;try omega
      ·rw [Qa0 (Or.inr hdd)] at HE2
       rw [if_pos rfl] at HE2
       go_wp2_with (first | (go_at_call 142;refine (Qai _ _).mono ?_;rintro e w' ⟨rfl,rfl⟩) | (go_at_call 143;refine (Qaj _ _).mono ?_;rintro e w' ⟨rfl,rfl⟩) | (go_at_call 64;refine (Qau _ _ _).mono ?_;rintro e w' ⟨rfl,rfl⟩))
       exact ⟨rfl,Qap.err HE2.out (((Below.refl _ w).alloc (Nat.le_refl _) _).alloc (by simp) _) (QaY 2 at_ (by simp) (by simp))⟩
     ·rw [Qa0 (Or.inl hl)] at HE2
      rw [if_pos rfl] at HE2
      go_wp2_with (first | (go_at_call 142;refine (Qai _ _).mono ?_;rintro e w' ⟨rfl,rfl⟩) | (go_at_call 143;refine (Qaj _ _).mono ?_;rintro e w' ⟨rfl,rfl⟩) | (go_at_call 64;refine (Qau _ _ _).mono ?_;rintro e w' ⟨rfl,rfl⟩))
      exact ⟨rfl,Qap.err HE2.out (((Below.refl _ w).alloc (Nat.le_refl _) _).alloc (by simp) _) (QaY 2 at_ (by simp) (by simp))⟩
end Go.Proofs.YtbiclelojbfnbabGreatDoor
