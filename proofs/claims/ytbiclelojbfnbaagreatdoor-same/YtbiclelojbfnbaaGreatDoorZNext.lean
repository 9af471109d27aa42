import Derived.Laws.AppendOwn
import Derived.Maps.AppendAt
import Derived.Deep.RegionWith
import Derived.Deep.RegionHeld3
import Derived.Deep.DrawnRows
import Derived.Test.YtbiclelojbfnbaaGreatDoorZPlainParse
import Derived.Test.YtbiclelojbfnbaaGreatDoorZQuote
import Derived.Test.YtbiclelojbfnbaaGreatDoorZTake
namespace Go.Proofs.YtbiclelojbfnbaaGreatDoor
set_option linter.unusedVariables false
set_option linter.unusedSimpArgs false
set_option maxRecDepth 100000
set_option maxHeartbeats 4000000
section
open Go.RowKit
def QeW (v:Nat) (l:List UInt8):Nat:=(l.takeWhile fun c=>QaF c.toNat).foldl Qdp v
theorem Qn6 (l:List UInt8):Qiq l=QeW 0 l:=rfl
theorem Qoa (v:Nat):QeW v []=v:=rfl
theorem Qm0 (v:Nat) (c:UInt8) (r:List UInt8) (h:QaF c.toNat=true):QeW v (c :: r)=QeW (Qdp v c) r:=by
 simp [QeW,List.takeWhile_cons,h]
theorem Qmx (v:Nat) (c:UInt8) (r:List UInt8) (h:QaF c.toNat=false):QeW v (c :: r)=v:=by
 simp [QeW,List.takeWhile_cons,h]
theorem Qor (c:UInt8) (r:List UInt8) (h:QaF c.toNat=true):Qcl (c :: r)=1+Qcl r:=by
 simp [Qcl,List.takeWhile_cons,h];omega
theorem Qon (c:UInt8) (r:List UInt8) (h:QaF c.toNat=false):Qcl (c :: r)=0:=by
 simp [Qcl,List.takeWhile_cons,h]
theorem Qqd:Qcl []=0:=rfl
theorem Qpy (v:Nat) (c:UInt8):Qdp v c≤2147483648:=by unfold Qdp;omega
theorem Qb1 (rest:List UInt8) (p v j v' n':Nat) (c1 c2:UInt8) (hv:Qiq rest=v) (hj:Qcl rest=j) (h1:rest.getD j 0=c1)
 (hv':v'=if isM c1 then v*1048576 else if isK c1 then v*1024 else v) (hn':n'=if isM c1 || isK c1 then j+1 else j) (h2:rest.getD n' 0=c2) :
 scanNumL rest p=if Qbg c2 then .error ⟨2,p⟩ else if 2147483647 < v' then .error ⟨3,p⟩ else .ok (⟨4,p,[],[],v'⟩,p+n'):=by
 subst hv;subst hj;subst h1;subst hv';subst hn';subst h2
 rfl
theorem QbJ (s:ByteArray) (a j:Nat) (x:Int) (h:x=(a+j:Nat)):(s.data.toList.drop a).getD j 0=byteOf s x:=by
 subst h
 unfold byteOf
 rw [List.getD_eq_getElem?_getD,List.getElem?_drop,Int.toNat_natCast,List.getD_eq_getElem?_getD]
theorem Qa6 {c:UInt8} (h:Qa7 (c.toNat:Int)=true∨QaF (c.toNat:Int)=true):Qbg c=true:=by
 unfold Qbg;rcases h with h | h <;> simp [h]
theorem QbM {c:UInt8} (h:Qa7 (c.toNat:Int)=false) (h':QaF (c.toNat:Int)=false):Qbg c=false:=by
 unfold Qbg;simp [h,h']
theorem five_ways (c:UInt8):((c.toNat:Int) == 77)=true∨(((c.toNat:Int) == 77)=false∧((c.toNat:Int) == 109)=true)∨
 (((c.toNat:Int) == 77)=false∧((c.toNat:Int) == 109)=false∧((c.toNat:Int) == 75)=true)∨
 (((c.toNat:Int) == 77)=false∧((c.toNat:Int) == 109)=false∧((c.toNat:Int) == 75)=false∧((c.toNat:Int) == 107)=true)∨
 (((c.toNat:Int) == 77)=false∧((c.toNat:Int) == 109)=false∧((c.toNat:Int) == 75)=false∧((c.toNat:Int) == 107)=false):=by
 cases ((c.toNat:Int) == 77) <;> cases ((c.toNat:Int) == 109) <;> cases ((c.toNat:Int) == 75) <;> cases ((c.toNat:Int) == 107) <;> simp
theorem Qhj {c:UInt8} (h:((c.toNat:Int) == 77)=true∨((c.toNat:Int) == 109)=true):isM c=true:=by
 unfold isM;simp at h ⊢;omega
theorem Qds {c:UInt8} (h:((c.toNat:Int) == 77)=false) (h':((c.toNat:Int) == 109)=false):isM c=false:=by
 unfold isM;simp at h h' ⊢;omega
theorem Qhn {c:UInt8} (h:((c.toNat:Int) == 75)=true∨((c.toNat:Int) == 107)=true):isK c=true:=by
 unfold isK;simp at h ⊢;omega
theorem Qkp {c:UInt8} (h:((c.toNat:Int) == 75)=false) (h':((c.toNat:Int) == 107)=false):isK c=false:=by
 unfold isK;simp at h h' ⊢;omega
theorem Qjy (s:ByteArray) (at_:Nat) (w:World) (hs:s.size≤4294967280) (ha:at_≤s.size) :
 Calls Tryz.prog 310 #[.string s,.int .i64 at_] w (Qav (scanNumL (s.data.toList.drop at_) at_) w):=by
 go_enter Tryz.func310,Tryz.ntmps310
 go_wp2_with fail
 go_loop [6,7] (fun a b=>∃ j v:Nat,at_+j≤s.size∧v≤2147483648∧a=.int .i64 v∧b=.int .i64 (at_+j:Nat)∧Qiq (s.data.toList.drop at_)=QeW v (s.data.toList.drop (at_+j))∧Qcl (s.data.toList.drop at_)=j+Qcl (s.data.toList.drop (at_+j))) (fun _ b=>s.size - (intOf b).toNat)
 case atStart=>exact ⟨0,0,by omega,by omega,rfl,by simp,by rw [Qn6];rfl,by simp⟩
 case round=>
  obtain ⟨j,v,hj,hv,rfl,rfl,hN,hD⟩:=hrel
  have HN:=Qab hN
  have HD:=Qab hD
  clear hN hD
  by_cases hgo:∃ h:at_+j < s.size,QaF (s[at_+j].toNat:Int)=true
  ·obtain ⟨hlt,hdg⟩:=hgo
   have hd:=Qab (Qbv s (at_+j) hlt)
   obtain ⟨c,hc⟩:∃ c,s[at_+j]=c:=⟨_,rfl⟩
   rw [hc] at hdg hd
   have hdg':48≤(c.toNat:Int)∧(c.toNat:Int)≤57:=by unfold QaF at hdg;simpa using hdg
   obtain ⟨hd1,hd2⟩:=hdg'
   go_wp2_with (go_at_call 288;refine (Qam _ _).mono ?_;rintro e w' ⟨rfl,rfl⟩)
   refine ⟨⟨j+1,Qdp v c,by omega,Qpy v c,?_,congrArg _ (by omega),?_,?_⟩,by simp [intOf];omega⟩
   ·refine congrArg _ ?_
    unfold Qdp
    omega
   ·rw [HN.out,hd.out,Qm0 _ _ _ hdg];rfl
   ·rw [HD.out,hd.out,Qor _ _ hdg,show at_+j+1=at_+(j+1) from rfl];omega
  ·have HN':Hid (Qiq (s.data.toList.drop at_)=v):=by
    show _=_
    rw [HN.out]
    by_cases hlt:at_+j < s.size
    ·rw [Qbv s _ hlt,Qmx]
     cases h:QaF (s[at_+j].toNat:Int)
     ·rfl
     ·exact absurd ⟨hlt,h⟩ hgo
    ·rw [List.drop_of_length_le (by simp;omega),Qoa]
   have HD':Hid (Qcl (s.data.toList.drop at_)=j):=by
    show _=_
    rw [HD.out]
    by_cases hlt:at_+j < s.size
    ·rw [Qbv s _ hlt,Qon]
     ·rfl
     ·cases h:QaF (s[at_+j].toNat:Int)
      ·rfl
      ·exact absurd ⟨hlt,h⟩ hgo
    ·rw [List.drop_of_length_le (by simp;omega),Qqd];rfl
   clear HN HD
   have HG:=Qab hgo
   clear hgo
   by_cases hlt:at_+j < s.size
   ·have hdg:QaF (s[at_+j].toNat:Int)=false:=by
     cases h:QaF (s[at_+j].toNat:Int)
     ·rfl
     ·exact absurd ⟨hlt,h⟩ HG.out
    obtain ⟨c,hc⟩:∃ c,s[at_+j]=c:=⟨_,rfl⟩
    rw [hc] at hdg
    clear HG
    go_wp2_with (go_at_call 288;refine (Qam _ _).mono ?_;rintro e w' ⟨rfl,rfl⟩)
    clear hc hdg
    refine (Qch s _ _ (by unfold maxLen;omega) (by omega)).mono ?_
    rintro e w1 ⟨rfl,rfl⟩
    have HC1:=Qab (QbJ s at_ j (↑at_+↑j) (by omega))
    generalize byteOf s (↑at_+↑j)=c1 at HC1
    rcases five_ways c1 with h77 | ⟨h77,h109⟩ | ⟨h77,h109,h75⟩ | ⟨h77,h109,h75,h107⟩ | ⟨h77,h109,h75,h107⟩
    ·have HE:Hid (∀ c2,byteOf s (↑at_+↑j+1)=c2→scanNumL (s.data.toList.drop at_) at_=if Qbg c2 then .error ⟨2,at_⟩ else if 2147483647 < v*1048576 then .error ⟨3,at_⟩ else .ok (⟨4,at_,[],[],v*1048576⟩,at_+(j+1))):=fun c2 h2=>
      Qb1 _ at_ v j (v*1048576) (j+1) c1 c2 HN'.out HD'.out HC1.out (by rw [Qhj (Or.inl h77)];rfl) (by rw [Qhj (Or.inl h77)];rfl) (by rw [QbJ s at_ (j+1) (↑at_+↑j+1) (by omega)];exact h2)
     clear HC1
     go_wp2_with fail
     refine (Qch s _ _ (by unfold maxLen;omega) (by omega)).mono ?_
     rintro e w1 ⟨rfl,rfl⟩
     have HE2:=Qab (HE.out _ rfl)
     clear HE
     generalize byteOf s (↑at_+↑j+1)=c2 at HE2
     cases hl:Qa7 (c2.toNat:Int)
     ·cases hdd:QaF (c2.toNat:Int)
      ·rw [QbM hl hdd] at HE2
       by_cases hbig:2147483647 < v*1048576
       ·rw [if_neg (by decide),if_pos hbig] at HE2
        have hbig':(2147483647:Int) < (v:Int)*1024*1024:=by omega
        go_wp2_with (first | (go_at_call 287;refine (Qai _ _).mono ?_;rintro e w' ⟨rfl,rfl⟩) | (go_at_call 288;refine (Qam _ _).mono ?_;rintro e w' ⟨rfl,rfl⟩) | (go_at_call 118;refine (QaB _ _ _).mono ?_;rintro e w' ⟨rfl,rfl⟩))
        exact ⟨rfl,Qav.err HE2.out (((Below.refl _ w).alloc (Nat.le_refl _) _).alloc (by simp) _) (Qa5 3 at_ (by simp) (by simp))⟩
       ·rw [if_neg (by decide),if_neg hbig] at HE2
        go_wp2_with (first | (go_at_call 287;refine (Qai _ _).mono ?_;rintro e w' ⟨rfl,rfl⟩) | (go_at_call 288;refine (Qam _ _).mono ?_;rintro e w' ⟨rfl,rfl⟩) | (go_at_call 118;refine (QaB _ _ _).mono ?_;rintro e w' ⟨rfl,rfl⟩))
        refine bodyPost_ret (v:=.tuple #[.agg #[.int .i64 4,.int .i64 at_,.string ⟨#[]⟩,.string ⟨#[]⟩,.int .i64 ((v:Int)*1024*1024)],.int .i64 (↑at_+↑j+1)]) (by simp [results,Tryz.results310,go_sem]) rfl (Qav.ok HE2.out ((Below.refl _ w).alloc (Nat.le_refl _) _) ?_ ?_)
        ·simp [wdV];try omega
        ·simp;try omega
      ·rw [Qa6 (Or.inr hdd)] at HE2
       rw [if_pos rfl] at HE2
       go_wp2_with (first | (go_at_call 287;refine (Qai _ _).mono ?_;rintro e w' ⟨rfl,rfl⟩) | (go_at_call 288;refine (Qam _ _).mono ?_;rintro e w' ⟨rfl,rfl⟩) | (go_at_call 118;refine (QaB _ _ _).mono ?_;rintro e w' ⟨rfl,rfl⟩))
       exact ⟨rfl,Qav.err HE2.out (((Below.refl _ w).alloc (Nat.le_refl _) _).alloc (by simp) _) (Qa5 2 at_ (by simp) (by simp))⟩
     ·rw [Qa6 (Or.inl hl)] at HE2
      rw [if_pos rfl] at HE2
      go_wp2_with (first | (go_at_call 287;refine (Qai _ _).mono ?_;rintro e w' ⟨rfl,rfl⟩) | (go_at_call 288;refine (Qam _ _).mono ?_;rintro e w' ⟨rfl,rfl⟩) | (go_at_call 118;refine (QaB _ _ _).mono ?_;rintro e w' ⟨rfl,rfl⟩))
      exact ⟨rfl,Qav.err HE2.out (((Below.refl _ w).alloc (Nat.le_refl _) _).alloc (by simp) _) (Qa5 2 at_ (by simp) (by simp))⟩
    ·have HE:Hid (∀ c2,byteOf s (↑at_+↑j+1)=c2→scanNumL (s.data.toList.drop at_) at_=if Qbg c2 then .error ⟨2,at_⟩ else if 2147483647 < v*1048576 then .error ⟨3,at_⟩ else .ok (⟨4,at_,[],[],v*1048576⟩,at_+(j+1))):=fun c2 h2=>
      Qb1 _ at_ v j (v*1048576) (j+1) c1 c2 HN'.out HD'.out HC1.out (by rw [Qhj (Or.inr h109)];rfl) (by rw [Qhj (Or.inr h109)];rfl) (by rw [QbJ s at_ (j+1) (↑at_+↑j+1) (by omega)];exact h2)
     clear HC1
     go_wp2_with fail
     refine (Qch s _ _ (by unfold maxLen;omega) (by omega)).mono ?_
     rintro e w1 ⟨rfl,rfl⟩
     have HE2:=Qab (HE.out _ rfl)
     clear HE
     generalize byteOf s (↑at_+↑j+1)=c2 at HE2
     cases hl:Qa7 (c2.toNat:Int)
     ·cases hdd:QaF (c2.toNat:Int)
      ·rw [QbM hl hdd] at HE2
       by_cases hbig:2147483647 < v*1048576
       ·rw [if_neg (by decide),if_pos hbig] at HE2
        have hbig':(2147483647:Int) < (v:Int)*1024*1024:=by omega
        go_wp2_with (first | (go_at_call 287;refine (Qai _ _).mono ?_;rintro e w' ⟨rfl,rfl⟩) | (go_at_call 288;refine (Qam _ _).mono ?_;rintro e w' ⟨rfl,rfl⟩) | (go_at_call 118;refine (QaB _ _ _).mono ?_;rintro e w' ⟨rfl,rfl⟩))
        exact ⟨rfl,Qav.err HE2.out (((Below.refl _ w).alloc (Nat.le_refl _) _).alloc (by simp) _) (Qa5 3 at_ (by simp) (by simp))⟩
       ·rw [if_neg (by decide),if_neg hbig] at HE2
        go_wp2_with (first | (go_at_call 287;refine (Qai _ _).mono ?_;rintro e w' ⟨rfl,rfl⟩) | (go_at_call 288;refine (Qam _ _).mono ?_;rintro e w' ⟨rfl,rfl⟩) | (go_at_call 118;refine (QaB _ _ _).mono ?_;rintro e w' ⟨rfl,rfl⟩))
        refine bodyPost_ret (v:=.tuple #[.agg #[.int .i64 4,.int .i64 at_,.string ⟨#[]⟩,.string ⟨#[]⟩,.int .i64 ((v:Int)*1024*1024)],.int .i64 (↑at_+↑j+1)]) (by simp [results,Tryz.results310,go_sem]) rfl (Qav.ok HE2.out ((Below.refl _ w).alloc (Nat.le_refl _) _) ?_ ?_)
        ·simp [wdV];try omega
        ·simp;try omega
      ·rw [Qa6 (Or.inr hdd)] at HE2
       rw [if_pos rfl] at HE2
       go_wp2_with (first | (go_at_call 287;refine (Qai _ _).mono ?_;rintro e w' ⟨rfl,rfl⟩) | (go_at_call 288;refine (Qam _ _).mono ?_;rintro e w' ⟨rfl,rfl⟩) | (go_at_call 118;refine (QaB _ _ _).mono ?_;rintro e w' ⟨rfl,rfl⟩))
       exact ⟨rfl,Qav.err HE2.out (((Below.refl _ w).alloc (Nat.le_refl _) _).alloc (by simp) _) (Qa5 2 at_ (by simp) (by simp))⟩
     ·rw [Qa6 (Or.inl hl)] at HE2
      rw [if_pos rfl] at HE2
      go_wp2_with (first | (go_at_call 287;refine (Qai _ _).mono ?_;rintro e w' ⟨rfl,rfl⟩) | (go_at_call 288;refine (Qam _ _).mono ?_;rintro e w' ⟨rfl,rfl⟩) | (go_at_call 118;refine (QaB _ _ _).mono ?_;rintro e w' ⟨rfl,rfl⟩))
      exact ⟨rfl,Qav.err HE2.out (((Below.refl _ w).alloc (Nat.le_refl _) _).alloc (by simp) _) (Qa5 2 at_ (by simp) (by simp))⟩
    ·have HE:Hid (∀ c2,byteOf s (↑at_+↑j+1)=c2→scanNumL (s.data.toList.drop at_) at_=if Qbg c2 then .error ⟨2,at_⟩ else if 2147483647 < v*1024 then .error ⟨3,at_⟩ else .ok (⟨4,at_,[],[],v*1024⟩,at_+(j+1))):=fun c2 h2=>
      Qb1 _ at_ v j (v*1024) (j+1) c1 c2 HN'.out HD'.out HC1.out (by rw [Qds h77 h109,Qhn (Or.inl h75)];rfl) (by rw [Qds h77 h109,Qhn (Or.inl h75)];rfl) (by rw [QbJ s at_ (j+1) (↑at_+↑j+1) (by omega)];exact h2)
     clear HC1
     go_wp2_with fail
     refine (Qch s _ _ (by unfold maxLen;omega) (by omega)).mono ?_
     rintro e w1 ⟨rfl,rfl⟩
     have HE2:=Qab (HE.out _ rfl)
     clear HE
     generalize byteOf s (↑at_+↑j+1)=c2 at HE2
     cases hl:Qa7 (c2.toNat:Int)
     ·cases hdd:QaF (c2.toNat:Int)
      ·rw [QbM hl hdd] at HE2
       by_cases hbig:2147483647 < v*1024
       ·rw [if_neg (by decide),if_pos hbig] at HE2
        have hbig':(2147483647:Int) < (v:Int)*1024:=by omega
        go_wp2_with (first | (go_at_call 287;refine (Qai _ _).mono ?_;rintro e w' ⟨rfl,rfl⟩) | (go_at_call 288;refine (Qam _ _).mono ?_;rintro e w' ⟨rfl,rfl⟩) | (go_at_call 118;refine (QaB _ _ _).mono ?_;rintro e w' ⟨rfl,rfl⟩))
        exact ⟨rfl,Qav.err HE2.out (((Below.refl _ w).alloc (Nat.le_refl _) _).alloc (by simp) _) (Qa5 3 at_ (by simp) (by simp))⟩
       ·rw [if_neg (by decide),if_neg hbig] at HE2
        go_wp2_with (first | (go_at_call 287;refine (Qai _ _).mono ?_;rintro e w' ⟨rfl,rfl⟩) | (go_at_call 288;refine (Qam _ _).mono ?_;rintro e w' ⟨rfl,rfl⟩) | (go_at_call 118;refine (QaB _ _ _).mono ?_;rintro e w' ⟨rfl,rfl⟩))
        refine bodyPost_ret (v:=.tuple #[.agg #[.int .i64 4,.int .i64 at_,.string ⟨#[]⟩,.string ⟨#[]⟩,.int .i64 ((v:Int)*1024)],.int .i64 (↑at_+↑j+1)]) (by simp [results,Tryz.results310,go_sem]) rfl (Qav.ok HE2.out ((Below.refl _ w).alloc (Nat.le_refl _) _) ?_ ?_)
        ·simp [wdV];try omega
        ·simp;try omega
      ·rw [Qa6 (Or.inr hdd)] at HE2
       rw [if_pos rfl] at HE2
       go_wp2_with (first | (go_at_call 287;refine (Qai _ _).mono ?_;rintro e w' ⟨rfl,rfl⟩) | (go_at_call 288;refine (Qam _ _).mono ?_;rintro e w' ⟨rfl,rfl⟩) | (go_at_call 118;refine (QaB _ _ _).mono ?_;rintro e w' ⟨rfl,rfl⟩))
       exact ⟨rfl,Qav.err HE2.out (((Below.refl _ w).alloc (Nat.le_refl _) _).alloc (by simp) _) (Qa5 2 at_ (by simp) (by simp))⟩
     ·rw [Qa6 (Or.inl hl)] at HE2
      rw [if_pos rfl] at HE2
      go_wp2_with (first | (go_at_call 287;refine (Qai _ _).mono ?_;rintro e w' ⟨rfl,rfl⟩) | (go_at_call 288;refine (Qam _ _).mono ?_;rintro e w' ⟨rfl,rfl⟩) | (go_at_call 118;refine (QaB _ _ _).mono ?_;rintro e w' ⟨rfl,rfl⟩))
      exact ⟨rfl,Qav.err HE2.out (((Below.refl _ w).alloc (Nat.le_refl _) _).alloc (by simp) _) (Qa5 2 at_ (by simp) (by simp))⟩
    ·have HE:Hid (∀ c2,byteOf s (↑at_+↑j+1)=c2→scanNumL (s.data.toList.drop at_) at_=if Qbg c2 then .error ⟨2,at_⟩ else if 2147483647 < v*1024 then .error ⟨3,at_⟩ else .ok (⟨4,at_,[],[],v*1024⟩,at_+(j+1))):=fun c2 h2=>
      Qb1 _ at_ v j (v*1024) (j+1) c1 c2 HN'.out HD'.out HC1.out (by rw [Qds h77 h109,Qhn (Or.inr h107)];rfl) (by rw [Qds h77 h109,Qhn (Or.inr h107)];rfl) (by rw [QbJ s at_ (j+1) (↑at_+↑j+1) (by omega)];exact h2)
     clear HC1
     go_wp2_with fail
     refine (Qch s _ _ (by unfold maxLen;omega) (by omega)).mono ?_
     rintro e w1 ⟨rfl,rfl⟩
     have HE2:=Qab (HE.out _ rfl)
     clear HE
     generalize byteOf s (↑at_+↑j+1)=c2 at HE2
     cases hl:Qa7 (c2.toNat:Int)
     ·cases hdd:QaF (c2.toNat:Int)
      ·rw [QbM hl hdd] at HE2
       by_cases hbig:2147483647 < v*1024
       ·rw [if_neg (by decide),if_pos hbig] at HE2
        have hbig':(2147483647:Int) < (v:Int)*1024:=by omega
        go_wp2_with (first | (go_at_call 287;refine (Qai _ _).mono ?_;rintro e w' ⟨rfl,rfl⟩) | (go_at_call 288;refine (Qam _ _).mono ?_;rintro e w' ⟨rfl,rfl⟩) | (go_at_call 118;refine (QaB _ _ _).mono ?_;rintro e w' ⟨rfl,rfl⟩))
        exact ⟨rfl,Qav.err HE2.out (((Below.refl _ w).alloc (Nat.le_refl _) _).alloc (by simp) _) (Qa5 3 at_ (by simp) (by simp))⟩
       ·rw [if_neg (by decide),if_neg hbig] at HE2
        go_wp2_with (first | (go_at_call 287;refine (Qai _ _).mono ?_;rintro e w' ⟨rfl,rfl⟩) | (go_at_call 288;refine (Qam _ _).mono ?_;rintro e w' ⟨rfl,rfl⟩) | (go_at_call 118;refine (QaB _ _ _).mono ?_;rintro e w' ⟨rfl,rfl⟩))
        refine bodyPost_ret (v:=.tuple #[.agg #[.int .i64 4,.int .i64 at_,.string ⟨#[]⟩,.string ⟨#[]⟩,.int .i64 ((v:Int)*1024)],.int .i64 (↑at_+↑j+1)]) (by simp [results,Tryz.results310,go_sem]) rfl (Qav.ok HE2.out ((Below.refl _ w).alloc (Nat.le_refl _) _) ?_ ?_)
        ·simp [wdV];try omega
        ·simp;try omega
      ·rw [Qa6 (Or.inr hdd)] at HE2
       rw [if_pos rfl] at HE2
       go_wp2_with (first | (go_at_call 287;refine (Qai _ _).mono ?_;rintro e w' ⟨rfl,rfl⟩) | (go_at_call 288;refine (Qam _ _).mono ?_;rintro e w' ⟨rfl,rfl⟩) | (go_at_call 118;refine (QaB _ _ _).mono ?_;rintro e w' ⟨rfl,rfl⟩))
       exact ⟨rfl,Qav.err HE2.out (((Below.refl _ w).alloc (Nat.le_refl _) _).alloc (by simp) _) (Qa5 2 at_ (by simp) (by simp))⟩
     ·rw [Qa6 (Or.inl hl)] at HE2
      rw [if_pos rfl] at HE2
      go_wp2_with (first | (go_at_call 287;refine (Qai _ _).mono ?_;rintro e w' ⟨rfl,rfl⟩) | (go_at_call 288;refine (Qam _ _).mono ?_;rintro e w' ⟨rfl,rfl⟩) | (go_at_call 118;refine (QaB _ _ _).mono ?_;rintro e w' ⟨rfl,rfl⟩))
      exact ⟨rfl,Qav.err HE2.out (((Below.refl _ w).alloc (Nat.le_refl _) _).alloc (by simp) _) (Qa5 2 at_ (by simp) (by simp))⟩
    ·have HE:Hid (∀ c2,byteOf s (↑at_+↑j)=c2→scanNumL (s.data.toList.drop at_) at_=if Qbg c2 then .error ⟨2,at_⟩ else if 2147483647 < v then .error ⟨3,at_⟩ else .ok (⟨4,at_,[],[],v⟩,at_+(j))):=fun c2 h2=>
      Qb1 _ at_ v j (v) (j) c1 c2 HN'.out HD'.out HC1.out (by rw [Qds h77 h109,Qkp h75 h107];rfl) (by rw [Qds h77 h109,Qkp h75 h107];rfl) (by rw [QbJ s at_ (j) (↑at_+↑j) (by omega)];exact h2)
     clear HC1
     go_wp2_with fail
     refine (Qch s _ _ (by unfold maxLen;omega) (by omega)).mono ?_
     rintro e w1 ⟨rfl,rfl⟩
     have HE2:=Qab (HE.out _ rfl)
     clear HE
     generalize byteOf s (↑at_+↑j)=c2 at HE2
     cases hl:Qa7 (c2.toNat:Int)
     ·cases hdd:QaF (c2.toNat:Int)
      ·rw [QbM hl hdd] at HE2
       by_cases hbig:2147483647 < v
       ·rw [if_neg (by decide),if_pos hbig] at HE2
        have hbig':(2147483647:Int) < (v:Int):=by omega
        go_wp2_with (first | (go_at_call 287;refine (Qai _ _).mono ?_;rintro e w' ⟨rfl,rfl⟩) | (go_at_call 288;refine (Qam _ _).mono ?_;rintro e w' ⟨rfl,rfl⟩) | (go_at_call 118;refine (QaB _ _ _).mono ?_;rintro e w' ⟨rfl,rfl⟩))
        exact ⟨rfl,Qav.err HE2.out (((Below.refl _ w).alloc (Nat.le_refl _) _).alloc (by simp) _) (Qa5 3 at_ (by simp) (by simp))⟩
       ·rw [if_neg (by decide),if_neg hbig] at HE2
        go_wp2_with (first | (go_at_call 287;refine (Qai _ _).mono ?_;rintro e w' ⟨rfl,rfl⟩) | (go_at_call 288;refine (Qam _ _).mono ?_;rintro e w' ⟨rfl,rfl⟩) | (go_at_call 118;refine (QaB _ _ _).mono ?_;rintro e w' ⟨rfl,rfl⟩))
        refine bodyPost_ret (v:=.tuple #[.agg #[.int .i64 4,.int .i64 at_,.string ⟨#[]⟩,.string ⟨#[]⟩,.int .i64 ((v:Int))],.int .i64 (↑at_+↑j)]) (by simp [results,Tryz.results310,go_sem]) rfl (Qav.ok HE2.out ((Below.refl _ w).alloc (Nat.le_refl _) _) ?_ ?_)
        ·simp [wdV];try omega
        ·simp;try omega
      ·rw [Qa6 (Or.inr hdd)] at HE2
       rw [if_pos rfl] at HE2
       go_wp2_with (first | (go_at_call 287;refine (Qai _ _).mono ?_;rintro e w' ⟨rfl,rfl⟩) | (go_at_call 288;refine (Qam _ _).mono ?_;rintro e w' ⟨rfl,rfl⟩) | (go_at_call 118;refine (QaB _ _ _).mono ?_;rintro e w' ⟨rfl,rfl⟩))
       exact ⟨rfl,Qav.err HE2.out (((Below.refl _ w).alloc (Nat.le_refl _) _).alloc (by simp) _) (Qa5 2 at_ (by simp) (by simp))⟩
     ·rw [Qa6 (Or.inl hl)] at HE2
      rw [if_pos rfl] at HE2
      go_wp2_with (first | (go_at_call 287;refine (Qai _ _).mono ?_;rintro e w' ⟨rfl,rfl⟩) | (go_at_call 288;refine (Qam _ _).mono ?_;rintro e w' ⟨rfl,rfl⟩) | (go_at_call 118;refine (QaB _ _ _).mono ?_;rintro e w' ⟨rfl,rfl⟩))
      exact ⟨rfl,Qav.err HE2.out (((Below.refl _ w).alloc (Nat.le_refl _) _).alloc (by simp) _) (Qa5 2 at_ (by simp) (by simp))⟩
   ·clear HG
    go_wp2_with (go_at_call 288;refine (Qam _ _).mono ?_;rintro e w' ⟨rfl,rfl⟩)
    refine (Qch s _ _ (by unfold maxLen;omega) (by omega)).mono ?_
    rintro e w1 ⟨rfl,rfl⟩
    have HC1:=Qab (QbJ s at_ j (↑at_+↑j) (by omega))
    generalize byteOf s (↑at_+↑j)=c1 at HC1
    rcases five_ways c1 with h77 | ⟨h77,h109⟩ | ⟨h77,h109,h75⟩ | ⟨h77,h109,h75,h107⟩ | ⟨h77,h109,h75,h107⟩
    ·have HE:Hid (∀ c2,byteOf s (↑at_+↑j+1)=c2→scanNumL (s.data.toList.drop at_) at_=if Qbg c2 then .error ⟨2,at_⟩ else if 2147483647 < v*1048576 then .error ⟨3,at_⟩ else .ok (⟨4,at_,[],[],v*1048576⟩,at_+(j+1))):=fun c2 h2=>
      Qb1 _ at_ v j (v*1048576) (j+1) c1 c2 HN'.out HD'.out HC1.out (by rw [Qhj (Or.inl h77)];rfl) (by rw [Qhj (Or.inl h77)];rfl) (by rw [QbJ s at_ (j+1) (↑at_+↑j+1) (by omega)];exact h2)
     clear HC1
     go_wp2_with fail
     refine (Qch s _ _ (by unfold maxLen;omega) (by omega)).mono ?_
     rintro e w1 ⟨rfl,rfl⟩
     have HE2:=Qab (HE.out _ rfl)
     clear HE
     generalize byteOf s (↑at_+↑j+1)=c2 at HE2
     cases hl:Qa7 (c2.toNat:Int)
     ·cases hdd:QaF (c2.toNat:Int)
      ·rw [QbM hl hdd] at HE2
       by_cases hbig:2147483647 < v*1048576
       ·rw [if_neg (by decide),if_pos hbig] at HE2
        have hbig':(2147483647:Int) < (v:Int)*1024*1024:=by omega
        go_wp2_with (first | (go_at_call 287;refine (Qai _ _).mono ?_;rintro e w' ⟨rfl,rfl⟩) | (go_at_call 288;refine (Qam _ _).mono ?_;rintro e w' ⟨rfl,rfl⟩) | (go_at_call 118;refine (QaB _ _ _).mono ?_;rintro e w' ⟨rfl,rfl⟩))
        exact ⟨rfl,Qav.err HE2.out (((Below.refl _ w).alloc (Nat.le_refl _) _).alloc (by simp) _) (Qa5 3 at_ (by simp) (by simp))⟩
       ·rw [if_neg (by decide),if_neg hbig] at HE2
        go_wp2_with (first | (go_at_call 287;refine (Qai _ _).mono ?_;rintro e w' ⟨rfl,rfl⟩) | (go_at_call 288;refine (Qam _ _).mono ?_;rintro e w' ⟨rfl,rfl⟩) | (go_at_call 118;refine (QaB _ _ _).mono ?_;rintro e w' ⟨rfl,rfl⟩))
        refine bodyPost_ret (v:=.tuple #[.agg #[.int .i64 4,.int .i64 at_,.string ⟨#[]⟩,.string ⟨#[]⟩,.int .i64 ((v:Int)*1024*1024)],.int .i64 (↑at_+↑j+1)]) (by simp [results,Tryz.results310,go_sem]) rfl (Qav.ok HE2.out ((Below.refl _ w).alloc (Nat.le_refl _) _) ?_ ?_)
        ·simp [wdV];try omega
        ·simp;try omega
      ·rw [Qa6 (Or.inr hdd)] at HE2
       rw [if_pos rfl] at HE2
       go_wp2_with (first | (go_at_call 287;refine (Qai _ _).mono ?_;rintro e w' ⟨rfl,rfl⟩) | (go_at_call 288;refine (Qam _ _).mono ?_;rintro e w' ⟨rfl,rfl⟩) | (go_at_call 118;refine (QaB _ _ _).mono ?_;rintro e w' ⟨rfl,rfl⟩))
       exact ⟨rfl,Qav.err HE2.out (((Below.refl _ w).alloc (Nat.le_refl _) _).alloc (by simp) _) (Qa5 2 at_ (by simp) (by simp))⟩
     ·rw [Qa6 (Or.inl hl)] at HE2
      rw [if_pos rfl] at HE2
      go_wp2_with (first | (go_at_call 287;refine (Qai _ _).mono ?_;rintro e w' ⟨rfl,rfl⟩) | (go_at_call 288;refine (Qam _ _).mono ?_;rintro e w' ⟨rfl,rfl⟩) | (go_at_call 118;refine (QaB _ _ _).mono ?_;rintro e w' ⟨rfl,rfl⟩))
      exact ⟨rfl,Qav.err HE2.out (((Below.refl _ w).alloc (Nat.le_refl _) _).alloc (by simp) _) (Qa5 2 at_ (by simp) (by simp))⟩
    ·have HE:Hid (∀ c2,byteOf s (↑at_+↑j+1)=c2→scanNumL (s.data.toList.drop at_) at_=if Qbg c2 then .error ⟨2,at_⟩ else if 2147483647 < v*1048576 then .error ⟨3,at_⟩ else .ok (⟨4,at_,[],[],v*1048576⟩,at_+(j+1))):=fun c2 h2=>
      Qb1 _ at_ v j (v*1048576) (j+1) c1 c2 HN'.out HD'.out HC1.out (by rw [Qhj (Or.inr h109)];rfl) (by rw [Qhj (Or.inr h109)];rfl) (by rw [QbJ s at_ (j+1) (↑at_+↑j+1) (by omega)];exact h2)
     clear HC1
     go_wp2_with fail
     refine (Qch s _ _ (by unfold maxLen;omega) (by omega)).mono ?_
     rintro e w1 ⟨rfl,rfl⟩
     have HE2:=Qab (HE.out _ rfl)
     clear HE
     generalize byteOf s (↑at_+↑j+1)=c2 at HE2
     cases hl:Qa7 (c2.toNat:Int)
     ·cases hdd:QaF (c2.toNat:Int)
      ·rw [QbM hl hdd] at HE2
       by_cases hbig:2147483647 < v*1048576
       ·rw [if_neg (by decide),if_pos hbig] at HE2
        have hbig':(2147483647:Int) < (v:Int)*1024*1024:=by omega
        go_wp2_with (first | (go_at_call 287;refine (Qai _ _).mono ?_;rintro e w' ⟨rfl,rfl⟩) | (go_at_call 288;refine (Qam _ _).mono ?_;rintro e w' ⟨rfl,rfl⟩) | (go_at_call 118;refine (QaB _ _ _).mono ?_;rintro e w' ⟨rfl,rfl⟩))
        exact ⟨rfl,Qav.err HE2.out (((Below.refl _ w).alloc (Nat.le_refl _) _).alloc (by simp) _) (Qa5 3 at_ (by simp) (by simp))⟩
       ·rw [if_neg (by decide),if_neg hbig] at HE2
        go_wp2_with (first | (go_at_call 287;refine (Qai _ _).mono ?_;rintro e w' ⟨rfl,rfl⟩) | (go_at_call 288;refine (Qam _ _).mono ?_;rintro e w' ⟨rfl,rfl⟩) | (go_at_call 118;refine (QaB _ _ _).mono ?_;rintro e w' ⟨rfl,rfl⟩))
        refine bodyPost_ret (v:=.tuple #[.agg #[.int .i64 4,.int .i64 at_,.string ⟨#[]⟩,.string ⟨#[]⟩,.int .i64 ((v:Int)*1024*1024)],.int .i64 (↑at_+↑j+1)]) (by simp [results,Tryz.results310,go_sem]) rfl (Qav.ok HE2.out ((Below.refl _ w).alloc (Nat.le_refl _) _) ?_ ?_)
        ·simp [wdV];try omega
        ·simp;try omega
      ·rw [Qa6 (Or.inr hdd)] at HE2
       rw [if_pos rfl] at HE2
       go_wp2_with (first | (go_at_call 287;refine (Qai _ _).mono ?_;rintro e w' ⟨rfl,rfl⟩) | (go_at_call 288;refine (Qam _ _).mono ?_;rintro e w' ⟨rfl,rfl⟩) | (go_at_call 118;refine (QaB _ _ _).mono ?_;rintro e w' ⟨rfl,rfl⟩))
       exact ⟨rfl,Qav.err HE2.out (((Below.refl _ w).alloc (Nat.le_refl _) _).alloc (by simp) _) (Qa5 2 at_ (by simp) (by simp))⟩
     ·rw [Qa6 (Or.inl hl)] at HE2
      rw [if_pos rfl] at HE2
      go_wp2_with (first | (go_at_call 287;refine (Qai _ _).mono ?_;rintro e w' ⟨rfl,rfl⟩) | (go_at_call 288;refine (Qam _ _).mono ?_;rintro e w' ⟨rfl,rfl⟩) | (go_at_call 118;refine (QaB _ _ _).mono ?_;rintro e w' ⟨rfl,rfl⟩))
      exact ⟨rfl,Qav.err HE2.out (((Below.refl _ w).alloc (Nat.le_refl _) _).alloc (by simp) _) (Qa5 2 at_ (by simp) (by simp))⟩
    ·have HE:Hid (∀ c2,byteOf s (↑at_+↑j+1)=c2→scanNumL (s.data.toList.drop at_) at_=if Qbg c2 then .error ⟨2,at_⟩ else if 2147483647 < v*1024 then .error ⟨3,at_⟩ else .ok (⟨4,at_,[],[],v*1024⟩,at_+(j+1))):=fun c2 h2=>
      Qb1 _ at_ v j (v*1024) (j+1) c1 c2 HN'.out HD'.out HC1.out (by rw [Qds h77 h109,Qhn (Or.inl h75)];rfl) (by rw [Qds h77 h109,Qhn (Or.inl h75)];rfl) (by rw [QbJ s at_ (j+1) (↑at_+↑j+1) (by omega)];exact h2)
     clear HC1
     go_wp2_with fail
     refine (Qch s _ _ (by unfold maxLen;omega) (by omega)).mono ?_
     rintro e w1 ⟨rfl,rfl⟩
     have HE2:=Qab (HE.out _ rfl)
     clear HE
     generalize byteOf s (↑at_+↑j+1)=c2 at HE2
     cases hl:Qa7 (c2.toNat:Int)
     ·cases hdd:QaF (c2.toNat:Int)
      ·rw [QbM hl hdd] at HE2
       by_cases hbig:2147483647 < v*1024
       ·rw [if_neg (by decide),if_pos hbig] at HE2
        have hbig':(2147483647:Int) < (v:Int)*1024:=by omega
        go_wp2_with (first | (go_at_call 287;refine (Qai _ _).mono ?_;rintro e w' ⟨rfl,rfl⟩) | (go_at_call 288;refine (Qam _ _).mono ?_;rintro e w' ⟨rfl,rfl⟩) | (go_at_call 118;refine (QaB _ _ _).mono ?_;rintro e w' ⟨rfl,rfl⟩))
        exact ⟨rfl,Qav.err HE2.out (((Below.refl _ w).alloc (Nat.le_refl _) _).alloc (by simp) _) (Qa5 3 at_ (by simp) (by simp))⟩
       ·rw [if_neg (by decide),if_neg hbig] at HE2
        go_wp2_with (first | (go_at_call 287;refine (Qai _ _).mono ?_;rintro e w' ⟨rfl,rfl⟩) | (go_at_call 288;refine (Qam _ _).mono ?_;rintro e w' ⟨rfl,rfl⟩) | (go_at_call 118;refine (QaB _ _ _).mono ?_;rintro e w' ⟨rfl,rfl⟩))
        refine bodyPost_ret (v:=.tuple #[.agg #[.int .i64 4,.int .i64 at_,.string ⟨#[]⟩,.string ⟨#[]⟩,.int .i64 ((v:Int)*1024)],.int .i64 (↑at_+↑j+1)]) (by simp [results,Tryz.results310,go_sem]) rfl (Qav.ok HE2.out ((Below.refl _ w).alloc (Nat.le_refl _) _) ?_ ?_)
        ·simp [wdV];try omega
        ·simp;try omega
      ·rw [Qa6 (Or.inr hdd)] at HE2
       rw [if_pos rfl] at HE2
       go_wp2_with (first | (go_at_call 287;refine (Qai _ _).mono ?_;rintro e w' ⟨rfl,rfl⟩) | (go_at_call 288;refine (Qam _ _).mono ?_;rintro e w' ⟨rfl,rfl⟩) | (go_at_call 118;refine (QaB _ _ _).mono ?_;rintro e w' ⟨rfl,rfl⟩))
       exact ⟨rfl,Qav.err HE2.out (((Below.refl _ w).alloc (Nat.le_refl _) _).alloc (by simp) _) (Qa5 2 at_ (by simp) (by simp))⟩
     ·rw [Qa6 (Or.inl hl)] at HE2
      rw [if_pos rfl] at HE2
      go_wp2_with (first | (go_at_call 287;refine (Qai _ _).mono ?_;rintro e w' ⟨rfl,rfl⟩) | (go_at_call 288;refine (Qam _ _).mono ?_;rintro e w' ⟨rfl,rfl⟩) | (go_at_call 118;refine (QaB _ _ _).mono ?_;rintro e w' ⟨rfl,rfl⟩))
      exact ⟨rfl,Qav.err HE2.out (((Below.refl _ w).alloc (Nat.le_refl _) _).alloc (by simp) _) (Qa5 2 at_ (by simp) (by simp))⟩
    ·have HE:Hid (∀ c2,byteOf s (↑at_+↑j+1)=c2→scanNumL (s.data.toList.drop at_) at_=if Qbg c2 then .error ⟨2,at_⟩ else if 2147483647 < v*1024 then .error ⟨3,at_⟩ else .ok (⟨4,at_,[],[],v*1024⟩,at_+(j+1))):=fun c2 h2=>
      Qb1 _ at_ v j (v*1024) (j+1) c1 c2 HN'.out HD'.out HC1.out (by rw [Qds h77 h109,Qhn (Or.inr h107)];rfl) (by rw [Qds h77 h109,Qhn (Or.inr h107)];rfl) (by rw [QbJ s at_ (j+1) (↑at_+↑j+1) (by omega)];exact h2)
     clear HC1
     go_wp2_with fail
     refine (Qch s _ _ (by unfold maxLen;omega) (by omega)).mono ?_
     rintro e w1 ⟨rfl,rfl⟩
     have HE2:=Qab (HE.out _ rfl)
     clear HE
     generalize byteOf s (↑at_+↑j+1)=c2 at HE2
     cases hl:Qa7 (c2.toNat:Int)
     ·cases hdd:QaF (c2.toNat:Int)
      ·rw [QbM hl hdd] at HE2
       by_cases hbig:2147483647 < v*1024
       ·rw [if_neg (by decide),if_pos hbig] at HE2
        have hbig':(2147483647:Int) < (v:Int)*1024:=by omega
        go_wp2_with (first | (go_at_call 287;refine (Qai _ _).mono ?_;rintro e w' ⟨rfl,rfl⟩) | (go_at_call 288;refine (Qam _ _).mono ?_;rintro e w' ⟨rfl,rfl⟩) | (go_at_call 118;refine (QaB _ _ _).mono ?_;rintro e w' ⟨rfl,rfl⟩))
        exact ⟨rfl,Qav.err HE2.out (((Below.refl _ w).alloc (Nat.le_refl _) _).alloc (by simp) _) (Qa5 3 at_ (by simp) (by simp))⟩
       ·rw [if_neg (by decide),if_neg hbig] at HE2
        go_wp2_with (first | (go_at_call 287;refine (Qai _ _).mono ?_;rintro e w' ⟨rfl,rfl⟩) | (go_at_call 288;refine (Qam _ _).mono ?_;rintro e w' ⟨rfl,rfl⟩) | (go_at_call 118;refine (QaB _ _ _).mono ?_;rintro e w' ⟨rfl,rfl⟩))
        refine bodyPost_ret (v:=.tuple #[.agg #[.int .i64 4,.int .i64 at_,.string ⟨#[]⟩,.string ⟨#[]⟩,.int .i64 ((v:Int)*1024)],.int .i64 (↑at_+↑j+1)]) (by simp [results,Tryz.results310,go_sem]) rfl (Qav.ok HE2.out ((Below.refl _ w).alloc (Nat.le_refl _) _) ?_ ?_)
        ·simp [wdV];try omega
        ·simp;try omega
      ·rw [Qa6 (Or.inr hdd)] at HE2
       rw [if_pos rfl] at HE2
       go_wp2_with (first | (go_at_call 287;refine (Qai _ _).mono ?_;rintro e w' ⟨rfl,rfl⟩) | (go_at_call 288;refine (Qam _ _).mono ?_;rintro e w' ⟨rfl,rfl⟩) | (go_at_call 118;refine (QaB _ _ _).mono ?_;rintro e w' ⟨rfl,rfl⟩))
       exact ⟨rfl,Qav.err HE2.out (((Below.refl _ w).alloc (Nat.le_refl _) _).alloc (by simp) _) (Qa5 2 at_ (by simp) (by simp))⟩
     ·rw [Qa6 (Or.inl hl)] at HE2
      rw [if_pos rfl] at HE2
      go_wp2_with (first | (go_at_call 287;refine (Qai _ _).mono ?_;rintro e w' ⟨rfl,rfl⟩) | (go_at_call 288;refine (Qam _ _).mono ?_;rintro e w' ⟨rfl,rfl⟩) | (go_at_call 118;refine (QaB _ _ _).mono ?_;rintro e w' ⟨rfl,rfl⟩))
      exact ⟨rfl,Qav.err HE2.out (((Below.refl _ w).alloc (Nat.le_refl _) _).alloc (by simp) _) (Qa5 2 at_ (by simp) (by simp))⟩
    ·have HE:Hid (∀ c2,byteOf s (↑at_+↑j)=c2→scanNumL (s.data.toList.drop at_) at_=if Qbg c2 then .error ⟨2,at_⟩ else if 2147483647 < v then .error ⟨3,at_⟩ else .ok (⟨4,at_,[],[],v⟩,at_+(j))):=fun c2 h2=>
      Qb1 _ at_ v j (v) (j) c1 c2 HN'.out HD'.out HC1.out (by rw [Qds h77 h109,Qkp h75 h107];rfl) (by rw [Qds h77 h109,Qkp h75 h107];rfl) (by rw [QbJ s at_ (j) (↑at_+↑j) (by omega)];exact h2)
     clear HC1
     go_wp2_with fail
     refine (Qch s _ _ (by unfold maxLen;omega) (by omega)).mono ?_
     rintro e w1 ⟨rfl,rfl⟩
     have HE2:=Qab (HE.out _ rfl)
     clear HE
     generalize byteOf s (↑at_+↑j)=c2 at HE2
     cases hl:Qa7 (c2.toNat:Int)
     ·cases hdd:QaF (c2.toNat:Int)
      ·rw [QbM hl hdd] at HE2
       by_cases hbig:2147483647 < v
       ·rw [if_neg (by decide),if_pos hbig] at HE2
        have hbig':(2147483647:Int) < (v:Int):=by omega
        go_wp2_with (first | (go_at_call 287;refine (Qai _ _).mono ?_;rintro e w' ⟨rfl,rfl⟩) | (go_at_call 288;refine (Qam _ _).mono ?_;rintro e w' ⟨rfl,rfl⟩) | (go_at_call 118;refine (QaB _ _ _).mono ?_;rintro e w' ⟨rfl,rfl⟩))
        exact ⟨rfl,Qav.err HE2.out (((Below.refl _ w).alloc (Nat.le_refl _) _).alloc (by simp) _) (Qa5 3 at_ (by simp) (by simp))⟩
       ·rw [if_neg (by decide),if_neg hbig] at HE2
        go_wp2_with (first | (go_at_call 287;refine (Qai _ _).mono ?_;rintro e w' ⟨rfl,rfl⟩) | (go_at_call 288;refine (Qam _ _).mono ?_;rintro e w' ⟨rfl,rfl⟩) | (go_at_call 118;refine (QaB _ _ _).mono ?_;rintro e w' ⟨rfl,rfl⟩))
        refine bodyPost_ret (v:=.tuple #[.agg #[.int .i64 4,.int .i64 at_,.string ⟨#[]⟩,.string ⟨#[]⟩,.int .i64 ((v:Int))],.int .i64 (↑at_+↑j)]) (by simp [results,Tryz.results310,go_sem]) rfl (Qav.ok HE2.out ((Below.refl _ w).alloc (Nat.le_refl _) _) ?_ ?_)
        ·simp [wdV];try omega
        ·simp;try omega
      ·rw [Qa6 (Or.inr hdd)] at HE2
       rw [if_pos rfl] at HE2
       go_wp2_with (first | (go_at_call 287;refine (Qai _ _).mono ?_;rintro e w' ⟨rfl,rfl⟩) | (go_at_call 288;refine (Qam _ _).mono ?_;rintro e w' ⟨rfl,rfl⟩) | (go_at_call 118;refine (QaB _ _ _).mono ?_;rintro e w' ⟨rfl,rfl⟩))
       exact ⟨rfl,Qav.err HE2.out (((Below.refl _ w).alloc (Nat.le_refl _) _).alloc (by simp) _) (Qa5 2 at_ (by simp) (by simp))⟩
     ·rw [Qa6 (Or.inl hl)] at HE2
      rw [if_pos rfl] at HE2
      go_wp2_with (first | (go_at_call 287;refine (Qai _ _).mono ?_;rintro e w' ⟨rfl,rfl⟩) | (go_at_call 288;refine (Qam _ _).mono ?_;rintro e w' ⟨rfl,rfl⟩) | (go_at_call 118;refine (QaB _ _ _).mono ?_;rintro e w' ⟨rfl,rfl⟩))
      exact ⟨rfl,Qav.err HE2.out (((Below.refl _ w).alloc (Nat.le_refl _) _).alloc (by simp) _) (Qa5 2 at_ (by simp) (by simp))⟩
end
section
open Go.RowKit
theorem Qe9 (k:Int) (s:ByteArray) (at_ n:Nat) (x:Int) (w:World) (hx:x=n) (hs:s.size≤4294967280) (ha:at_+n≤s.size) :
 Calls Tryz.prog 308 #[.int .i64 k,.string s,.int .i64 at_,.int .i64 x] w fun e w'=>
  e=.returned (.tuple #[.agg #[.int .i64 k,.int .i64 at_,.string ⟨(smallL ((s.data.toList.drop at_).take n)).toArray⟩,.string ⟨#[]⟩,.int .i64 0],.int .i64 (at_+n:Nat)])∧Below w.heap.size w w':=by
 subst hx;exact QkG k s at_ n w hs ha
def Qpl:Obj:=.cells #[.int .i64 0,.int .i64 0,.string ⟨#[]⟩,.string ⟨#[]⟩,.int .i64 0] 256
theorem Qed {w w1:World} (h:Below (w.alloc Qpl).heap.size (w.alloc Qpl) w1) (a b c d e:Value) :
 Below w.heap.size w (((((w1.setCell ⟨w.heap.size,0,none⟩ a).setCell ⟨w.heap.size,1,none⟩ b).setCell ⟨w.heap.size,2,none⟩ c).setCell ⟨w.heap.size,3,none⟩ d).setCell ⟨w.heap.size,4,none⟩ e):=by
 have hb0:Below w.heap.size w w1:=((Below.refl _ w).alloc (Nat.le_refl _) _).trans (h.mono (by simp))
 exact ((((hb0.setCell (Nat.le_refl _) _).setCell (Nat.le_refl _) _).setCell (Nat.le_refl _) _).setCell (Nat.le_refl _) _).setCell (Nat.le_refl _) _
theorem Qc8 (c:UInt8) (r:List UInt8) (p:Nat):scanL (c :: r) p =
 if Qa7 c.toNat then .ok (QcQ 1 (c :: r) p (Qbc (c :: r)))
 else if c.toNat=58 then
  if Qbc r=0 then .error ⟨2,p⟩ else .ok (QcQ 2 (c :: r) p (1+Qbc r))
 else if QaF c.toNat then scanNumL (c :: r) p
 else if c.toNat=34 then quoteR r p
 else if Qii c then .ok (QcQ 3 (c :: r) p 1)
 else .error ⟨2,p⟩:=rfl
theorem QsY (s:ByteArray) (at_:Nat) (w:World) (ha:at_=s.size) :
 Calls Tryz.prog 259 #[.string s,.int .i64 at_] w (Qav (scanL (s.data.toList.drop at_) at_) w):=by
 have HE:Hid (scanL (s.data.toList.drop at_) at_=.ok (⟨0,at_,[],[],0⟩,at_)):=by
  show _=_
  rw [List.drop_of_length_le (by simp;omega)];rfl
 have ht:((at_:Int) == (s.size:Int))=true:=by simp;omega
 clear ha
 go_enter Tryz.func259,Tryz.ntmps259
 go_wp2
 refine bodyPost_ret (v:=.tuple #[.agg #[.int .i64 0,.int .i64 at_,.string ⟨#[]⟩,.string ⟨#[]⟩,.int .i64 0],.int .i64 at_]) (by simp [results,Tryz.results259,go_sem]) rfl (Qav.ok HE.out ?_ rfl rfl)
 exact (Below.refl _ _).alloc (Nat.le_refl _) _
theorem Qnx (s:ByteArray) (at_:Nat) (c:UInt8) (r:List UInt8) (w:World) (hs:s.size≤4294967280) (hd:s.data.toList.drop at_=c :: r) (hlt:at_ < s.size) (hc:s[at_]=c) (hl:Qa7 (c.toNat:Int)=true) :
 Calls Tryz.prog 259 #[.string s,.int .i64 at_] w (Qav (scanL (s.data.toList.drop at_) at_) w):=by
 have HE:Hid (scanL (s.data.toList.drop at_) at_=.ok (QcQ 1 (s.data.toList.drop at_) at_ (Qbc (s.data.toList.drop at_)))):=by
  show _=_
  rw [hd,Qc8,if_pos hl]
 obtain ⟨rs,hx⟩:∃ rs,s.extract at_ s.size=rs:=⟨_,rfl⟩
 have HL:Hid (rs.data.toList=s.data.toList.drop at_):=by rw [← hx];exact Qdg s at_
 have hz:rs.size≤s.size - at_:=by rw [← hx,Qd2];omega
 have hn:=QdE rs.data.toList
 rw [← Lib.size_eq] at hn
 have ht:((at_:Int) == (s.size:Int))=false:=by simp;omega
 have HD:=Qab hd
 clear hd
 go_enter Tryz.func259,Tryz.ntmps259
 go_wp2_with (first | (go_at_call 287;refine (Qai _ _).mono ?_;rintro e w' ⟨rfl,rfl⟩) | (go_at_call 309;refine (Qb3 _ _ (by unfold maxLen;omega)).mono ?_;rintro e w' ⟨rfl,rfl⟩))
 refine (Qe9 1 s at_ (Qbc rs.data.toList) _ _ rfl hs (by omega)).mono ?_
 rintro e w1 ⟨rfl,hb⟩
 obtain ⟨hcc,hf⟩:=QpZ hb
 have hz1:w.heap.size < w1.heap.size:=by have:=hb.size;simp at this;omega
 have HB:=Qab hb
 rw [HL.out]
 clear hb
 go_wp2
 refine bodyPost_ret (v:=.tuple #[.agg #[.int .i64 1,.int .i64 at_,.string ⟨(smallL ((s.data.toList.drop at_).take (Qbc (s.data.toList.drop at_)))).toArray⟩,.string ⟨#[]⟩,.int .i64 0],.int .i64 (at_+Qbc (s.data.toList.drop at_):Nat)]) (by simp [results,Tryz.results259,go_sem,hcc,hz1]) rfl (Qav.ok HE.out (Qed HB.out _ _ _ _ _) rfl rfl)
theorem Qte (s:ByteArray) (at_:Nat) (c:UInt8) (r:List UInt8) (w:World) (hs:s.size≤4294967280) (hd:s.data.toList.drop at_=c :: r) (hlt:at_ < s.size) (hc:s[at_]=c) (hl:Qa7 (c.toNat:Int)=false) (h58:(c.toNat:Int)=58) :
 Calls Tryz.prog 259 #[.string s,.int .i64 at_] w (Qav (scanL (s.data.toList.drop at_) at_) w):=by
 have HD:Hid (s.data.toList.drop (at_+1)=r):=by
  show _=_
  have:=Qbv s at_ hlt
  rw [hd] at this
  exact (List.cons.inj this).2.symm
 obtain ⟨rs,hx⟩:∃ rs,s.extract (at_+1) s.size=rs:=⟨_,rfl⟩
 have HL:Hid (rs.data.toList=r):=by show _=_;rw [← hx,Qdg];exact HD.out
 have hz:rs.size≤s.size - (at_+1):=by rw [← hx,Qd2];omega
 have hn:=QdE rs.data.toList
 rw [← Lib.size_eq] at hn
 have ht:((at_:Int) == (s.size:Int))=false:=by simp;omega
 have h58':((c.toNat:Int) == 58)=true:=by simpa using h58
 by_cases h0:Qbc rs.data.toList=0
 ·have HE:Hid (scanL (s.data.toList.drop at_) at_=.error ⟨2,at_⟩):=by
   show _=_
   rw [hd,Qc8,if_neg (by rw [hl];decide),if_pos (by omega),if_pos (by rw [← HL.out];exact h0)]
  have h0':((Qbc rs.data.toList:Int) == 0)=true:=by simpa using h0
  clear hd h58 h0
  go_enter Tryz.func259,Tryz.ntmps259
  go_wp2_with (first | (go_at_call 287;refine (Qai _ _).mono ?_;rintro e w' ⟨rfl,rfl⟩) | (go_at_call 309;refine (Qb3 _ _ (by unfold maxLen;omega)).mono ?_;rintro e w' ⟨rfl,rfl⟩) | (go_at_call 118;refine (QaB _ _ _).mono ?_;rintro e w' ⟨rfl,rfl⟩))
  exact ⟨rfl,Qav.err HE.out (((Below.refl _ w).alloc (Nat.le_refl _) _).alloc (by simp) _) (Qa5 2 at_ (by simp) (by simp))⟩
 ·have HE:Hid (scanL (s.data.toList.drop at_) at_=.ok (QcQ 2 (s.data.toList.drop at_) at_ (1+Qbc rs.data.toList))):=by
   show _=_
   rw [hd,Qc8,if_neg (by rw [hl];decide),if_pos (by omega),if_neg (by rw [← HL.out];exact h0),HL.out]
  have h0':((Qbc rs.data.toList:Int) == 0)=false:=by simpa using h0
  clear hd h58 h0
  go_enter Tryz.func259,Tryz.ntmps259
  go_wp2_with (first | (go_at_call 287;refine (Qai _ _).mono ?_;rintro e w' ⟨rfl,rfl⟩) | (go_at_call 309;refine (Qb3 _ _ (by unfold maxLen;omega)).mono ?_;rintro e w' ⟨rfl,rfl⟩) | (go_at_call 118;refine (QaB _ _ _).mono ?_;rintro e w' ⟨rfl,rfl⟩))
  refine (Qe9 2 s at_ (1+Qbc rs.data.toList) _ _ (by omega) hs (by omega)).mono ?_
  rintro e w1 ⟨rfl,hb⟩
  obtain ⟨hcc,hf⟩:=QpZ hb
  have hz1:w.heap.size < w1.heap.size:=by have:=hb.size;simp at this;omega
  have HB:=Qab hb
  generalize 1+Qbc rs.data.toList=n at HE
  clear hb
  go_wp2
  exact bodyPost_ret (v:=.tuple #[.agg #[.int .i64 2,.int .i64 at_,.string ⟨(smallL ((s.data.toList.drop at_).take n)).toArray⟩,.string ⟨#[]⟩,.int .i64 0],.int .i64 (at_+n:Nat)]) (by simp [results,Tryz.results259,go_sem,hcc,hz1]) rfl (Qav.ok HE.out (Qed HB.out _ _ _ _ _) rfl rfl)
theorem QnV (s:ByteArray) (at_:Nat) (c:UInt8) (r:List UInt8) (w:World) (hs:s.size≤4294967280) (hd:s.data.toList.drop at_=c :: r) (hlt:at_ < s.size) (hc:s[at_]=c) (hl:Qa7 (c.toNat:Int)=false) (h58:¬ (c.toNat:Int)=58) (hg:QaF (c.toNat:Int)=true) :
 Calls Tryz.prog 259 #[.string s,.int .i64 at_] w (Qav (scanL (s.data.toList.drop at_) at_) w):=by
 have HE:Hid (scanL (s.data.toList.drop at_) at_=scanNumL (s.data.toList.drop at_) at_):=by
  show _=_
  rw [hd,Qc8,if_neg (by rw [hl];decide),if_neg (by omega),if_pos hg]
 have ht:((at_:Int) == (s.size:Int))=false:=by simp;omega
 have h58':((c.toNat:Int) == 58)=false:=by simpa using h58
 have hcl:=Qab (fun W=>(Qjy s at_ W hs (by omega)))
 rw [HE.out]
 rw [HE.out] at HE
 generalize scanNumL (s.data.toList.drop at_) at_=R at hcl HE ⊢
 clear hd h58 HE
 go_enter Tryz.func259,Tryz.ntmps259
 go_wp2_with (first | (go_at_call 287;refine (Qai _ _).mono ?_;rintro e w' ⟨rfl,rfl⟩) | (go_at_call 288;refine (Qam _ _).mono ?_;rintro e w' ⟨rfl,rfl⟩))
 refine (hcl.out _).mono ?_
 rintro e w1 ⟨hb,h⟩
 have hz1:w.heap.size < w1.heap.size:=by have:=hb.size;simp at this;omega
 obtain ⟨hcc,hf⟩:=QpZ hb
 have HB:=Qab hb
 clear hb
 cases R with
 | error f=>
  have h':Qc6 f (w.alloc Qpl) e w1:=h
  obtain ⟨b,h1,rfl,h2⟩:=h'
  exact ⟨rfl,Qav.err rfl (((Below.refl _ w).alloc (Nat.le_refl _) _).trans (HB.out.mono (by simp))) ⟨b,by simp at h1;omega,rfl,h2⟩⟩
 | ok x=>
  have h':e=.returned (.tuple #[wdV x.1,.int .i64 x.2]):=h
  subst h'
  unfold wdV
  go_wp2
  exact bodyPost_ret (v:=.tuple #[.agg #[.int .i64 x.1.kind,.int .i64 x.1.pos,.string ⟨x.1.spelt.toArray⟩,.string ⟨x.1.said.toArray⟩,.int .i64 x.1.num],.int .i64 x.2]) (by simp [results,Tryz.results259,go_sem,hcc,hz1]) rfl (Qav.ok rfl (Qed HB.out _ _ _ _ _) rfl rfl)
theorem Qq0 (s:ByteArray) (at_:Nat) (c:UInt8) (r:List UInt8) (w:World) (hs:s.size≤4294967280) (hd:s.data.toList.drop at_=c :: r) (hlt:at_ < s.size) (hc:s[at_]=c) (hl:Qa7 (c.toNat:Int)=false) (h58:¬ (c.toNat:Int)=58) (hg:QaF (c.toNat:Int)=false) (h34:(c.toNat:Int)=34) :
 Calls Tryz.prog 259 #[.string s,.int .i64 at_] w (Qav (scanL (s.data.toList.drop at_) at_) w):=by
 have HD:Hid (s.data.toList.drop (at_+1)=r):=by
  show _=_
  have:=Qbv s at_ hlt
  rw [hd] at this
  exact (List.cons.inj this).2.symm
 have HE:Hid (scanL (s.data.toList.drop at_) at_=quoteR (s.data.toList.drop (at_+1)) at_):=by
  show _=_
  rw [hd,Qc8,if_neg (by rw [hl];decide),if_neg (by omega),if_neg (by rw [hg];decide),if_pos (by omega),HD.out]
 have ht:((at_:Int) == (s.size:Int))=false:=by simp;omega
 have h58':((c.toNat:Int) == 58)=false:=by simpa using h58
 have h34':((c.toNat:Int) == 34)=true:=by simpa using h34
 have hcl:=Qab (fun W=>(Qk1 s at_ W hs hlt))
 rw [HE.out]
 rw [HE.out] at HE
 generalize quoteR (s.data.toList.drop (at_+1)) at_=R at hcl HE ⊢
 clear hd h58 HE h34
 go_enter Tryz.func259,Tryz.ntmps259
 go_wp2_with (first | (go_at_call 287;refine (Qai _ _).mono ?_;rintro e w' ⟨rfl,rfl⟩) | (go_at_call 288;refine (Qam _ _).mono ?_;rintro e w' ⟨rfl,rfl⟩))
 refine (hcl.out _).mono ?_
 rintro e w1 ⟨hb,h⟩
 have hz1:w.heap.size < w1.heap.size:=by have:=hb.size;simp at this;omega
 obtain ⟨hcc,hf⟩:=QpZ hb
 have HB:=Qab hb
 clear hb
 cases R with
 | error f=>
  have h':Qc6 f (w.alloc Qpl) e w1:=h
  obtain ⟨b,h1,rfl,h2⟩:=h'
  exact ⟨rfl,Qav.err rfl (((Below.refl _ w).alloc (Nat.le_refl _) _).trans (HB.out.mono (by simp))) ⟨b,by simp at h1;omega,rfl,h2⟩⟩
 | ok x=>
  have h':e=.returned (.tuple #[wdV x.1,.int .i64 x.2]):=h
  subst h'
  unfold wdV
  go_wp2
  exact bodyPost_ret (v:=.tuple #[.agg #[.int .i64 x.1.kind,.int .i64 x.1.pos,.string ⟨x.1.spelt.toArray⟩,.string ⟨x.1.said.toArray⟩,.int .i64 x.1.num],.int .i64 x.2]) (by simp [results,Tryz.results259,go_sem,hcc,hz1]) rfl (Qav.ok rfl (Qed HB.out _ _ _ _ _) rfl rfl)
def Quw (c:UInt8):Int:=Lib.indexByte [59,44,40,41,123,125,91,93] c
theorem Qml (c:UInt8) (w:World) :
 Calls Tryz.prog 312 #[.string ⟨#[59,44,40,41,123,125,91,93]⟩,.int .u8 c.toNat] w fun e w'=>e=.returned (.int .i64 (Quw c))∧w'=w:=by
 have h:=Tryz.strings_IndexByte ⟨#[59,44,40,41,123,125,91,93]⟩ c.toNat w
 have e:((c.toNat:Int).toNat).toUInt8=c:=by simp
 rw [e] at h
 exact h
theorem QrA (s:ByteArray) (at_:Nat) (c:UInt8) (r:List UInt8) (w:World) (hs:s.size≤4294967280) (hd:s.data.toList.drop at_=c :: r) (hlt:at_ < s.size) (hc:s[at_]=c) (hl:Qa7 (c.toNat:Int)=false) (h58:¬ (c.toNat:Int)=58) (hg:QaF (c.toNat:Int)=false) (h34:¬ (c.toNat:Int)=34) (hsg:Qii c=true) :
 Calls Tryz.prog 259 #[.string s,.int .i64 at_] w (Qav (scanL (s.data.toList.drop at_) at_) w):=by
 have HE:Hid (scanL (s.data.toList.drop at_) at_=.ok (QcQ 3 (s.data.toList.drop at_) at_ 1)):=by
  show _=_
  rw [hd,Qc8,if_neg (by rw [hl];decide),if_neg (by omega),if_neg (by rw [hg];decide),if_neg (by omega),if_pos hsg]
 have hsg':0≤Quw c:=of_decide_eq_true hsg
 have ht:((at_:Int) == (s.size:Int))=false:=by simp;omega
 have h58':((c.toNat:Int) == 58)=false:=by simpa using h58
 have h34':((c.toNat:Int) == 34)=false:=by simpa using h34
 clear hd h58 h34 hsg
 go_enter Tryz.func259,Tryz.ntmps259
 go_wp2_with (first | (go_at_call 287;refine (Qai _ _).mono ?_;rintro e w' ⟨rfl,rfl⟩) | (go_at_call 288;refine (Qam _ _).mono ?_;rintro e w' ⟨rfl,rfl⟩) | (go_at_call 312;refine (Qml c _).mono ?_;rintro e w' ⟨rfl,rfl⟩))
 refine (Qe9 3 s at_ 1 _ _ rfl hs (by omega)).mono ?_
 rintro e w1 ⟨rfl,hb⟩
 obtain ⟨hcc,hf⟩:=QpZ hb
 have hz1:w.heap.size < w1.heap.size:=by have:=hb.size;simp at this;omega
 have HB:=Qab hb
 clear hb
 go_wp2
 exact bodyPost_ret (v:=.tuple #[.agg #[.int .i64 3,.int .i64 at_,.string ⟨(smallL ((s.data.toList.drop at_).take 1)).toArray⟩,.string ⟨#[]⟩,.int .i64 0],.int .i64 (at_+1:Nat)]) (by simp [results,Tryz.results259,go_sem,hcc,hz1]) rfl (Qav.ok HE.out (Qed HB.out _ _ _ _ _) rfl rfl)
theorem Qs8 (s:ByteArray) (at_:Nat) (c:UInt8) (r:List UInt8) (w:World) (hs:s.size≤4294967280) (hd:s.data.toList.drop at_=c :: r) (hlt:at_ < s.size) (hc:s[at_]=c) (hl:Qa7 (c.toNat:Int)=false) (h58:¬ (c.toNat:Int)=58) (hg:QaF (c.toNat:Int)=false) (h34:¬ (c.toNat:Int)=34) (hsg:Qii c=false) :
 Calls Tryz.prog 259 #[.string s,.int .i64 at_] w (Qav (scanL (s.data.toList.drop at_) at_) w):=by
 have HE:Hid (scanL (s.data.toList.drop at_) at_=.error ⟨2,at_⟩):=by
  show _=_
  rw [hd,Qc8,if_neg (by rw [hl];decide),if_neg (by omega),if_neg (by rw [hg];decide),if_neg (by omega),if_neg (by rw [hsg];decide)]
 have hsg':¬ 0≤Quw c:=of_decide_eq_false hsg
 have ht:((at_:Int) == (s.size:Int))=false:=by simp;omega
 have h58':((c.toNat:Int) == 58)=false:=by simpa using h58
 have h34':((c.toNat:Int) == 34)=false:=by simpa using h34
 clear hd h58 h34 hsg
 go_enter Tryz.func259,Tryz.ntmps259
 go_wp2_with (first | (go_at_call 287;refine (Qai _ _).mono ?_;rintro e w' ⟨rfl,rfl⟩) | (go_at_call 288;refine (Qam _ _).mono ?_;rintro e w' ⟨rfl,rfl⟩) | (go_at_call 312;refine (Qml c _).mono ?_;rintro e w' ⟨rfl,rfl⟩) | (go_at_call 118;refine (QaB _ _ _).mono ?_;rintro e w' ⟨rfl,rfl⟩))
 exact ⟨rfl,Qav.err HE.out (((Below.refl _ w).alloc (Nat.le_refl _) _).alloc (by simp) _) (Qa5 2 at_ (by simp) (by simp))⟩
theorem Qta (s:ByteArray) (at_:Nat) (w:World) (hs:s.size≤4294967280) (ha:at_≤s.size) :
 Calls Tryz.prog 259 #[.string s,.int .i64 at_] w (Qav (scanL (s.data.toList.drop at_) at_) w):=by
 by_cases h:at_=s.size
 ·exact QsY s at_ w h
 have hlt:at_ < s.size:=by omega
 have hd:=Qbv s at_ hlt
 cases hl:Qa7 (s[at_].toNat:Int)
 ·by_cases h58:(s[at_].toNat:Int)=58
  ·exact Qte s at_ _ _ w hs hd hlt rfl hl h58
  cases hg:QaF (s[at_].toNat:Int)
  ·by_cases h34:(s[at_].toNat:Int)=34
   ·exact Qq0 s at_ _ _ w hs hd hlt rfl hl h58 hg h34
   cases hsg:Qii s[at_]
   ·exact Qs8 s at_ _ _ w hs hd hlt rfl hl h58 hg h34 hsg
   ·exact QrA s at_ _ _ w hs hd hlt rfl hl h58 hg h34 hsg
  ·exact QnV s at_ _ _ w hs hd hlt rfl hl h58 hg
 ·exact Qnx s at_ _ _ w hs hd hlt rfl hl
end
section
open Go.RowKit
theorem Qat (x:List UInt8):(Qad x).size=x.length:=rfl
theorem Qa3 (x y:List UInt8):Qad x++Qad y=Qad (x++y):=by
 unfold Qad
 apply ByteArray.ext
 simp
theorem Qdc (x y:List UInt8):((Qad x).toList == y)=decide (x=y):=by
 rw [ByteArray.toList_eq,show (Qad x).data.toList=x from rfl,Bool.eq_iff_iff]
 simp
theorem Qax {w:World} {a:Addr} {v:Value} (h:w.cell? a=some v):a.block < w.heap.size:=by
 rcases Nat.lt_or_ge a.block w.heap.size with h' | h'
 ·exact h'
 ·unfold World.cell? at h;rw [Array.getElem?_eq_none h'] at h;cases h
def TxtAt (w:World) (g:Nat) (zs:List (List UInt8)):Prop:=
 ∀ j,j < zs.length→w.cell? ⟨g,j,none⟩=some (.string (Qad (zs.getD j [])))
theorem Qa4 {w w':World} (h:Below w.drew.heap.size w.drew w'):Below w.heap.size w w':=⟨h.os,h.tape,h.output,h.size,h.block⟩
theorem Qah (w:World) (b o:Nat) (v:Value) (cs:Array Value) (ty:TypeId) (h:w.heap[b]?=some (.cells cs ty)):(w.setCell ⟨b,o,none⟩ v).heap[b]?=some (.cells (cs.setIfInBounds o v) ty):=by
 simp only [World.setCell,Array.getElem?_modify]
 rw [if_pos trivial,h]
 rfl
theorem Qaa {w:World} {g:Nat} {cs:Array Value} {ty:TypeId} (h:w.heap[g]?=some (.cells cs ty)) (o:Nat):w.cell? ⟨g,o,none⟩=cs[o]?:=by
 unfold World.cell?;rw [h];rfl
theorem Qap {w:World} {g:Nat} {cs:Array Value} {ty:TypeId} (h:w.heap[g]?=some (.cells cs ty)) (o:Nat):w.frozen? ⟨g,o,none⟩=false:=by
 unfold World.frozen?;rw [h];simp
theorem QaH {w:World} {g:Nat} {o:Obj} (h:w.heap[g]?=some o):g < w.heap.size:=by
 rcases Nat.lt_or_ge g w.heap.size with h' | h'
 ·exact h'
 ·rw [Array.getElem?_eq_none h'] at h;cases h
theorem Qac {w:World} {g:Nat} {o o':Obj} (h:w.heap[g]?=some o):(w.alloc o').heap[g]?=some o:=by
 rw [Below.heap_alloc _ _ _ (QaH h)];exact h
theorem Qay (w:World) (o:Obj):(w.alloc o).heap[w.heap.size]?=some o:=by
 show (w.heap.push o)[w.heap.size]?=_
 simp
theorem QaD {w:World} {g:Nat} {o:Obj} (h:g=w.heap.size):(w.alloc o).heap[g]?=some o:=by subst h;exact Qay w o
theorem Qal {w w':World} {g:Nat} {o:Obj} (h:w.heap[g]?=some o) (hb:Below w.heap.size w w'):w'.heap[g]?=some o:=by
 rw [hb.block g (QaH h)];exact h
theorem Qb5 {P:World→Prop} {w W:World} {B:Nat} {o:Obj} (h1:Below B w W) (h2:W.heap[B]?=some o) (h3:∀ W',Below B w W'→W'.heap[B]?=some o→P W'):P W:=h3 W h1 h2
theorem Qba {w W:World} {B:Nat} (h:Below B w W) (hB:B≤w.heap.size) (o:Obj):Below B w (W.alloc o):=h.alloc (Nat.le_trans hB h.size) o
def QaN (zs:List (List UInt8)):List Value:=zs.map fun z=>Value.string (Qad z)
theorem Qcb (zs:List (List UInt8)) (z:List UInt8):QaN zs++[.string (Qad z)]=QaN (zs++[z]):=by simp [QaN]
theorem QkF (zs:List (List UInt8)):(QaN zs).length=zs.length:=by simp [QaN]
theorem Tryz.infoStr:(Tryz.prog.info? 9).map (fun i=>(i.zero,i.size,i.bytes))=some (some (.string ⟨#[]⟩),1,16):=by kernel_rfl
theorem TxtAt.of_owns {w:World} {base g n c:Nat} {xs:List (List UInt8)} (h:w.ownsRow base 9 1 (.slice (some ⟨g,0,none⟩) n c) n (QaN xs)):TxtAt w g xs:=fun j hj=>by
 have:=h.cells (g:=g) rfl j (.string (Qad (xs.getD j []))) (by simp [QaN,List.getElem?_eq_getElem hj,List.getD_eq_getElem?_getD])
 rw [Qcs] at this
 exact this
theorem Qa8 (w:World) (zs:List (List UInt8)) (cs:Array Value) (ty:TypeId) (h:cs=(QaN zs).toArray):TxtAt (w.alloc (.cells cs ty)) w.heap.size zs:=fun j hj=>by
 subst h
 have:(w.alloc (.cells (QaN zs).toArray ty)).heap[w.heap.size]?=some (.cells (QaN zs).toArray ty):=by
  show (w.heap.push _)[w.heap.size]?=_
  simp
 unfold World.cell?
 rw [this]
 simp [QaN,List.getD_eq_getElem?_getD,hj]
theorem QbK {w:World} {g:Nat} (zs:List (List UInt8)) (ty:TypeId) (h:g=w.heap.size):TxtAt (w.alloc (.cells (QaN zs).toArray ty)) g zs:=by subst h;exact Qa8 w zs _ ty rfl
end
section
open Go.RowKit
attribute [local go_sem ↓] Go.wp_at_zero Go.wp_at_succ
def QkR (t:ByteArray) (x:Wd) (p:Nat) (rv:Value) (mc mt:Nat):Array Value:=
 #[.string t,.int .i64 x.kind,.int .i64 x.pos,.string ⟨x.spelt.toArray⟩,.string ⟨x.said.toArray⟩,.int .i64 x.num,.int .i64 p,rv,.map (some mc),.map (some mt)]
def RAt (w:World) (b:Nat) (t:ByteArray) (x:Wd) (p:Nat) (rv:Value) (mc mt:Nat):Prop:=
 w.heap[b]?=some (.cells (QkR t x p rv mc mt) 260)
structure Mod (b:Nat) (w w':World):Prop where
 os:w'.os=w.os
 tape:w'.tape=w.tape
 output:w'.output=w.output
 size:w.heap.size≤w'.heap.size
 block:∀ k,k < w.heap.size→k≠b→w'.heap[k]?=w.heap[k]?
theorem Mod.refl (b:Nat) (w:World):Mod b w w:=⟨rfl,rfl,rfl,Nat.le_refl _,fun _ _ _=>rfl⟩
theorem Mod.trans {b:Nat} {u v w:World} (h:Mod b u v) (k:Mod b v w):Mod b u w:=
 ⟨k.os.trans h.os,k.tape.trans h.tape,k.output.trans h.output,Nat.le_trans h.size k.size,fun i hi hn=>(k.block i (Nat.lt_of_lt_of_le hi h.size) hn).trans (h.block i hi hn)⟩
theorem Mod.of_below {b:Nat} {w w':World} (h:Below w.heap.size w w'):Mod b w w':=
 ⟨h.os,h.tape,h.output,h.size,fun k hk _=>h.block k hk⟩
theorem Mod.below {b:Nat} {w w':World} (h:Mod b w w') {B:Nat} (hB:B≤b) (hb:b < w.heap.size):Below B w w':=
 ⟨h.os,h.tape,h.output,h.size,fun k hk=>h.block k (by omega) (by omega)⟩
theorem Mod.drew {b:Nat} {u w:World} (h:Mod b u w):Mod b u w.drew:=⟨h.os,h.tape,h.output,h.size,h.block⟩
theorem Mod.setCell {b:Nat} {u w:World} (h:Mod b u w) (o:Nat) (v:Value):Mod b u (w.setCell ⟨b,o,none⟩ v):=
 h.trans ⟨rfl,rfl,rfl,by simp [World.setCell],fun k hk hn=>Below.heap_setCell _ _ _ _ hn⟩
theorem Mod.alloc {b:Nat} {u w:World} (h:Mod b u w) (o:Obj):Mod b u (w.alloc o):=
 h.trans ⟨rfl,rfl,rfl,by simp,fun k hk _=>Below.heap_alloc _ _ _ hk⟩
theorem Mod.cell {b:Nat} {w w':World} (h:Mod b w w') {p:Addr} (hp:p.block < w.heap.size) (hn:p.block≠b):w'.cell? p=w.cell? p:=
 World.cell?_of_block (w:=w) (h.block p.block hp hn)
theorem RAt.lt {w:World} {b:Nat} {t:ByteArray} {x:Wd} {p:Nat} {rv:Value} {mc mt:Nat} (h:RAt w b t x p rv mc mt):b < w.heap.size:=by
 rcases Nat.lt_or_ge b w.heap.size with h' | h'
 ·exact h'
 ·unfold RAt at h;rw [Array.getElem?_eq_none h'] at h;cases h
theorem RAt.cell {w:World} {b:Nat} {t:ByteArray} {x:Wd} {p:Nat} {rv:Value} {mc mt:Nat} (h:RAt w b t x p rv mc mt) (o:Nat):w.cell? ⟨b,o,none⟩=(QkR t x p rv mc mt)[o]?:=by
 unfold World.cell?;rw [h];rfl
theorem RAt.frozen {w:World} {b:Nat} {t:ByteArray} {x:Wd} {p:Nat} {rv:Value} {mc mt:Nat} (h:RAt w b t x p rv mc mt) (o:Nat):w.frozen? ⟨b,o,none⟩=false:=by
 unfold World.frozen?;rw [h];simp
theorem RAt.mod {w w':World} {b:Nat} {t:ByteArray} {x:Wd} {p:Nat} {rv:Value} {mc mt:Nat} (h:RAt w b t x p rv mc mt) (hb:Below w.heap.size w w'):RAt w' b t x p rv mc mt:=by
 unfold RAt;rw [hb.block b h.lt];exact h
def Qc3 (r:Except Flt (Wd×Nat)) (b:Nat) (t:ByteArray) (rv:Value) (mc mt:Nat) (w:World) (e:Ending) (w':World):Prop:=
 Mod b w w'∧
 match r with
 | .ok y=>e=.returned (.tuple #[])∧RAt w' b t y.1 y.2 rv mc mt
 | .error f=>Qc6 f w e w'
theorem Qc3.err {r:Except Flt (Wd×Nat)} {b:Nat} {t:ByteArray} {rv:Value} {mc mt:Nat} {f:Flt} {w w':World} {e:Ending} (h:r=.error f) (hb:Mod b w w') (ht:Qc6 f w e w'):Qc3 r b t rv mc mt w e w':=by
 subst h;exact ⟨hb,ht⟩
theorem Qc3.ok {r:Except Flt (Wd×Nat)} {b:Nat} {t:ByteArray} {rv:Value} {mc mt:Nat} {y:Wd×Nat} {w w':World} (h:r=.ok y) (hb:Mod b w w') (ht:RAt w' b t y.1 y.2 rv mc mt):Qc3 r b t rv mc mt w (.returned (.tuple #[])) w':=by
 subst h;exact ⟨hb,rfl,ht⟩
theorem Qdd.cases {r:Except Flt Nat} {w w':World} {e:Ending} (h:Qdd r w e w') :
 (∃ n,r=.ok n∧e=.returned (.int .i64 n)∧w'=w)∨(∃ f,r=.error f∧Qc6 f w e w'∧Below w.heap.size w w'):=by
 cases r with
 | ok n=>exact Or.inl ⟨n,rfl,h⟩
 | error f=>exact Or.inr ⟨f,rfl,h⟩
theorem Qav.cases {r:Except Flt (Wd×Nat)} {w w':World} {e:Ending} (h:Qav r w e w') :
 (∃ y,r=.ok y∧e=.returned (.tuple #[wdV y.1,.int .i64 y.2])∧Below w.heap.size w w')∨(∃ f,r=.error f∧Qc6 f w e w'∧Below w.heap.size w w'):=by
 cases r with
 | ok n=>exact Or.inl ⟨n,rfl,h.2,h.1⟩
 | error f=>exact Or.inr ⟨f,rfl,h.2,h.1⟩
theorem Qlb {l:List UInt8} {p:Nat} {f:Flt} (h:Qb4 (l.length+1) (l.drop p) p=.error f):nextL l p=.error f:=by
 unfold nextL;rw [h]
theorem QgI {l:List UInt8} {p n:Nat} (h:Qb4 (l.length+1) (l.drop p) p=.ok n):nextL l p=scanL (l.drop n) n:=by
 unfold nextL;rw [h]
theorem RAt.put {w:World} {b:Nat} {t:ByteArray} {x:Wd} {p:Nat} {rv:Value} {mc mt:Nat} (h:RAt w b t x p rv mc mt) (y:Wd) (q:Nat) :
 RAt ((((((w.setCell ⟨b,1,none⟩ (.int .i64 y.kind)).setCell ⟨b,2,none⟩ (.int .i64 y.pos)).setCell ⟨b,3,none⟩ (.string ⟨y.spelt.toArray⟩)).setCell ⟨b,4,none⟩ (.string ⟨y.said.toArray⟩)).setCell ⟨b,5,none⟩ (.int .i64 y.num)).setCell ⟨b,6,none⟩ (.int .i64 q)) b t y q rv mc mt:=
 Qah _ _ _ _ _ _ (Qah _ _ _ _ _ _ (Qah _ _ _ _ _ _ (Qah _ _ _ _ _ _ (Qah _ _ _ _ _ _ (Qah _ _ _ _ _ _ h)))))
theorem Mod.six {b:Nat} {u w:World} (h:Mod b u w) (o1 o2 o3 o4 o5 o6:Nat) (v1 v2 v3 v4 v5 v6:Value) :
 Mod b u ((((((w.setCell ⟨b,o1,none⟩ v1).setCell ⟨b,o2,none⟩ v2).setCell ⟨b,o3,none⟩ v3).setCell ⟨b,o4,none⟩ v4).setCell ⟨b,o5,none⟩ v5).setCell ⟨b,o6,none⟩ v6):=
 (((((h.setCell _ _).setCell _ _).setCell _ _).setCell _ _).setCell _ _).setCell _ _
theorem QsM (b:Nat) (t:ByteArray) (x:Wd) (p:Nat) (rv:Value) (mc mt:Nat) (m:Int) (w:World) (hs:t.size≤4294967280) (hp:p≤t.size) (hr:RAt w b t x p rv mc mt) (hm:w.cell? ⟨1,0,none⟩=some (.int .i64 m)) :
 Calls Tryz.prog 172 #[.pointer (some ⟨b,0,none⟩)] w (Qc3 (nextL t.data.toList p) b t rv mc mt w):=by
 have hc:=hr.cell
 have hf:=hr.frozen
 have h0:w.cell? ⟨b,0,none⟩=some (.string t):=hc 0
 have h6:w.cell? ⟨b,6,none⟩=some (.int .i64 p):=hc 6
 have HS:=Qab hr
 clear hc hr
 go_enter Tryz.func172,Tryz.ntmps172
 go_wp2_with fail
 go_region_with (first | (go_at_call 260;refine (QsG t p (t.data.toList.length+1) m _ hs hp (by simp;omega) (by simpa using hm)).mono ?_;intro e w1 h1;rcases h1.cases with ⟨n,hn,rfl,rfl⟩ | ⟨f,hn,⟨bb,hz,rfl,hcc⟩,hb⟩;rotate_left;exact ⟨rfl,Qc3.err (Qlb hn) (Mod.of_below (Qa4 hb)) ⟨bb,hz,rfl,hcc⟩⟩;skip) | (go_at_call 259;refine (Qta t _ _ hs (by have:=(QdX _ _ _ _ (by simpa using hp) hn).2;simpa using this)).mono ?_;intro e w1 h2;rcases h2.cases with ⟨y,hy,rfl,hb⟩ | ⟨f,hy,⟨bb,hz,rfl,hcc⟩,hb⟩;rotate_left;exact ⟨rfl,Qc3.err ((QgI hn).trans hy) (Mod.of_below (Qa4 hb)) ⟨bb,hz,rfl,hcc⟩⟩;have hr1:=HS.out.mod (Qa4 hb);have c1:=hr1.cell 1;have c2:=hr1.cell 2;have c3:=hr1.cell 3;have c4:=hr1.cell 4;have c5:=hr1.cell 5;have c6:=hr1.cell 6;simp only [QkR] at c1 c2 c3 c4 c5 c6;have f1:=hr1.frozen;have HR1:=Qab hr1;clear hr1;unfold wdV;skip))
 all_goals
  go_end0
  first
   | exact Qc3.ok ((QgI hn).trans hy) ((Mod.of_below (Qa4 hb)).six _ _ _ _ _ _ _ _ _ _ _ _) (HR1.out.put _ _)
   | exact Qc3.ok ((QgI hn).trans hy) ((Mod.of_below (Qa4 hb)).six _ _ _ _ _ _ _ _ _ _ _ _) (HR1.out.put' _ _)
end
end Go.Proofs.YtbiclelojbfnbaaGreatDoor
