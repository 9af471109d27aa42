import Derived.Test.YtgnkjijocdmniaaGreatDoorZQLeaf
namespace Go.Proofs.YtgnkjijocdmniaaGreatDoor
set_option linter.unusedVariables false
set_option linter.unusedSimpArgs false
set_option maxRecDepth 100000
set_option maxHeartbeats 4000000
open Go.RowKit
def numFrom (v:Nat) (l:List UInt8):Nat:=(l.takeWhile fun c=>isDigitN c.toNat).foldl numStep v
theorem numVal_from (l:List UInt8):numVal l=numFrom 0 l:=rfl
theorem numFrom_nil (v:Nat):numFrom v []=v:=rfl
theorem numFrom_cons (v:Nat) (c:UInt8) (r:List UInt8) (h:isDigitN c.toNat=true):numFrom v (c :: r)=numFrom (numStep v c) r:=by
 simp [numFrom,List.takeWhile_cons,h]
theorem numFrom_stop (v:Nat) (c:UInt8) (r:List UInt8) (h:isDigitN c.toNat=false):numFrom v (c :: r)=v:=by
 simp [numFrom,List.takeWhile_cons,h]
theorem digLen_cons (c:UInt8) (r:List UInt8) (h:isDigitN c.toNat=true):digLen (c :: r)=1+digLen r:=by
 simp [digLen,List.takeWhile_cons,h];omega
theorem digLen_stop (c:UInt8) (r:List UInt8) (h:isDigitN c.toNat=false):digLen (c :: r)=0:=by
 simp [digLen,List.takeWhile_cons,h]
theorem digLen_nil:digLen []=0:=rfl
theorem numStep_le (v:Nat) (c:UInt8):numStep v c≤2147483648:=by unfold numStep;omega
theorem scanNumL_of (rest:List UInt8) (p v j v' n':Nat) (c1 c2:UInt8) (hv:numVal rest=v) (hj:digLen rest=j) (h1:rest.getD j 0=c1)
 (hv':v'=if isM c1 then v*1048576 else if isK c1 then v*1024 else v) (hn':n'=if isM c1 || isK c1 then j+1 else j) (h2:rest.getD n' 0=c2) :
 scanNumL rest p=if letdig c2 then .error ⟨2,p⟩ else if 2147483647 < v' then .error ⟨3,p⟩ else .ok (⟨4,p,[],[],v'⟩,p+n'):=by
 subst hv;subst hj;subst h1;subst hv';subst hn';subst h2
 rfl
theorem byteOf_drop (s:ByteArray) (a j:Nat) (x:Int) (h:x=(a+j:Nat)):(s.data.toList.drop a).getD j 0=byteOf s x:=by
 subst h
 unfold byteOf
 rw [List.getD_eq_getElem?_getD,List.getElem?_drop,Int.toNat_natCast,List.getD_eq_getElem?_getD]
theorem letdig_true {c:UInt8} (h:isLetN (c.toNat:Int)=true∨isDigitN (c.toNat:Int)=true):letdig c=true:=by
 unfold letdig;rcases h with h | h <;> simp [h]
theorem letdig_false {c:UInt8} (h:isLetN (c.toNat:Int)=false) (h':isDigitN (c.toNat:Int)=false):letdig c=false:=by
 unfold letdig;simp [h,h']
theorem five_ways (c:UInt8):((c.toNat:Int) == 77)=true∨(((c.toNat:Int) == 77)=false∧((c.toNat:Int) == 109)=true)∨
 (((c.toNat:Int) == 77)=false∧((c.toNat:Int) == 109)=false∧((c.toNat:Int) == 75)=true)∨
 (((c.toNat:Int) == 77)=false∧((c.toNat:Int) == 109)=false∧((c.toNat:Int) == 75)=false∧((c.toNat:Int) == 107)=true)∨
 (((c.toNat:Int) == 77)=false∧((c.toNat:Int) == 109)=false∧((c.toNat:Int) == 75)=false∧((c.toNat:Int) == 107)=false):=by
 cases ((c.toNat:Int) == 77) <;> cases ((c.toNat:Int) == 109) <;> cases ((c.toNat:Int) == 75) <;> cases ((c.toNat:Int) == 107) <;> simp
theorem isM_of {c:UInt8} (h:((c.toNat:Int) == 77)=true∨((c.toNat:Int) == 109)=true):isM c=true:=by
 unfold isM;simp at h ⊢;omega
theorem isM_not {c:UInt8} (h:((c.toNat:Int) == 77)=false) (h':((c.toNat:Int) == 109)=false):isM c=false:=by
 unfold isM;simp at h h' ⊢;omega
theorem isK_of {c:UInt8} (h:((c.toNat:Int) == 75)=true∨((c.toNat:Int) == 107)=true):isK c=true:=by
 unfold isK;simp at h ⊢;omega
theorem isK_not {c:UInt8} (h:((c.toNat:Int) == 75)=false) (h':((c.toNat:Int) == 107)=false):isK c=false:=by
 unfold isK;simp at h h' ⊢;omega
theorem scanNumber_any (s:ByteArray) (at_:Nat) (w:World) (hs:s.size≤4294967280) (ha:at_≤s.size) :
 Calls Tryz.prog 228 #[.string s,.int .i64 at_] w (ScanPost (scanNumL (s.data.toList.drop at_) at_) w):=by
 go_enter Tryz.func228,Tryz.ntmps228
 go_wp2_with fail
 go_loop [6,7] (fun a b=>∃ j v:Nat,at_+j≤s.size∧v≤2147483648∧a=.int .i64 v∧b=.int .i64 (at_+j:Nat)∧numVal (s.data.toList.drop at_)=numFrom v (s.data.toList.drop (at_+j))∧digLen (s.data.toList.drop at_)=j+digLen (s.data.toList.drop (at_+j))) (fun _ b=>s.size - (intOf b).toNat)
 case atStart=>exact ⟨0,0,by omega,by omega,rfl,by simp,by rw [numVal_from];rfl,by simp⟩
 case round=>
  obtain ⟨j,v,hj,hv,rfl,rfl,hN,hD⟩:=hrel
  have HN:=hide hN
  have HD:=hide hD
  clear hN hD
  by_cases hgo:∃ h:at_+j < s.size,isDigitN (s[at_+j].toNat:Int)=true
  ·obtain ⟨hlt,hdg⟩:=hgo
   have hd:=hide (drop_cons s (at_+j) hlt)
   obtain ⟨c,hc⟩:∃ c,s[at_+j]=c:=⟨_,rfl⟩
   rw [hc] at hdg hd
   have hdg':48≤(c.toNat:Int)∧(c.toNat:Int)≤57:=by unfold isDigitN at hdg;simpa using hdg
   obtain ⟨hd1,hd2⟩:=hdg'
   go_wp2_with (go_at_call 227;refine (isDigit_any _ _).mono ?_;rintro e w' ⟨rfl,rfl⟩)
   refine ⟨⟨j+1,numStep v c,by omega,numStep_le v c,?_,congrArg _ (by omega),?_,?_⟩,by simp [intOf];omega⟩
   ·refine congrArg _ ?_
    unfold numStep
    omega
   ·rw [HN.out,hd.out,numFrom_cons _ _ _ hdg];rfl
   ·rw [HD.out,hd.out,digLen_cons _ _ hdg,show at_+j+1=at_+(j+1) from rfl];omega
  ·have HN':Hid (numVal (s.data.toList.drop at_)=v):=by
    show _=_
    rw [HN.out]
    by_cases hlt:at_+j < s.size
    ·rw [drop_cons s _ hlt,numFrom_stop]
     cases h:isDigitN (s[at_+j].toNat:Int)
     ·rfl
     ·exact absurd ⟨hlt,h⟩ hgo
    ·rw [List.drop_of_length_le (by simp;omega),numFrom_nil]
   have HD':Hid (digLen (s.data.toList.drop at_)=j):=by
    show _=_
    rw [HD.out]
    by_cases hlt:at_+j < s.size
    ·rw [drop_cons s _ hlt,digLen_stop]
     ·rfl
     ·cases h:isDigitN (s[at_+j].toNat:Int)
      ·rfl
      ·exact absurd ⟨hlt,h⟩ hgo
    ·rw [List.drop_of_length_le (by simp;omega),digLen_nil];rfl
   clear HN HD
   have HG:=hide hgo
   clear hgo
   by_cases hlt:at_+j < s.size
   have hdg:isDigitN (s[at_+j].toNat:Int)=false:=by
    cases h:isDigitN (s[at_+j].toNat:Int)
    ·rfl
    ·exact absurd ⟨hlt,h⟩ HG.out
   obtain ⟨c,hc⟩:∃ c,s[at_+j]=c:=⟨_,rfl⟩
   rw [hc] at hdg
   clear HG
   go_wp2_with (go_at_call 227;refine (isDigit_any _ _).mono ?_;rintro e w' ⟨rfl,rfl⟩)
   clear hc hdg
   rotate_left
   clear HG
   go_wp2_with (go_at_call 227;refine (isDigit_any _ _).mono ?_;rintro e w' ⟨rfl,rfl⟩)
   all_goals
    refine (byteAt_of s _ _ (by unfold maxLen;omega) (by omega)).mono ?_
    rintro e w1 ⟨rfl,rfl⟩
    have HC1:=hide (byteOf_drop s at_ j (↑at_+↑j) (by omega))
    generalize byteOf s (↑at_+↑j)=c1 at HC1
    rcases five_ways c1 with h77 | ⟨h77,h109⟩ | ⟨h77,h109,h75⟩ | ⟨h77,h109,h75,h107⟩ | ⟨h77,h109,h75,h107⟩
    iterate 2
     ·have HE:Hid (∀ c2,byteOf s (↑at_+↑j+1)=c2→scanNumL (s.data.toList.drop at_) at_=if letdig c2 then .error ⟨2,at_⟩ else if 2147483647 < v*1048576 then .error ⟨3,at_⟩ else .ok (⟨4,at_,[],[],v*1048576⟩,at_+(j+1))):=fun c2 h2=>
       scanNumL_of _ at_ v j (v*1048576) (j+1) c1 c2 HN'.out HD'.out HC1.out (by first | (rw [isM_of (Or.inl h77)];rfl) | (rw [isM_of (Or.inr h109)];rfl)) (by first | (rw [isM_of (Or.inl h77)];rfl) | (rw [isM_of (Or.inr h109)];rfl)) (by rw [byteOf_drop s at_ (j+1) (↑at_+↑j+1) (by omega)];exact h2)
      clear HC1
      go_wp2_with fail
      refine (byteAt_of s _ _ (by unfold maxLen;omega) (by omega)).mono ?_
      rintro e w1 ⟨rfl,rfl⟩
      have HE2:=hide (HE.out _ rfl)
      clear HE
      generalize byteOf s (↑at_+↑j+1)=c2 at HE2
      cases hl:isLetN (c2.toNat:Int)
      ·cases hdd:isDigitN (c2.toNat:Int)
       ·rw [letdig_false hl hdd] at HE2
        by_cases hbig:2147483647 < v*1048576
        ·rw [if_neg (by decide),if_pos hbig] at HE2
         have hbig':(2147483647:Int) < (v:Int)*1024*1024:=by omega
         go_wp2_with (first | (go_at_call 224;refine (isLetter_any _ _).mono ?_;rintro e w' ⟨rfl,rfl⟩) | (go_at_call 227;refine (isDigit_any _ _).mono ?_;rintro e w' ⟨rfl,rfl⟩) | (go_at_call 103;refine (fault_any _ _ _).mono ?_;rintro e w' ⟨rfl,rfl⟩))
         exact ⟨rfl,ScanPost.err HE2.out (((Below.refl _ w).alloc (Nat.le_refl _) _).alloc (by simp) _) (threw_at 3 at_ (by simp) (by simp))⟩
        ·rw [if_neg (by decide),if_neg hbig] at HE2
         go_wp2_with (first | (go_at_call 224;refine (isLetter_any _ _).mono ?_;rintro e w' ⟨rfl,rfl⟩) | (go_at_call 227;refine (isDigit_any _ _).mono ?_;rintro e w' ⟨rfl,rfl⟩) | (go_at_call 103;refine (fault_any _ _ _).mono ?_;rintro e w' ⟨rfl,rfl⟩))
         refine bodyPost_ret (v:=.tuple #[.agg #[.int .i64 4,.int .i64 at_,.string ⟨#[]⟩,.string ⟨#[]⟩,.int .i64 ((v:Int)*1024*1024)],.int .i64 (↑at_+↑j+1)]) (by simp [results,Tryz.results228,go_sem]) rfl (ScanPost.ok HE2.out ((Below.refl _ w).alloc (Nat.le_refl _) _) ?_ ?_)
         ·simp [wdV];try omega
         ·simp;try omega
       ·rw [letdig_true (Or.inr hdd)] at HE2
        rw [if_pos rfl] at HE2
        go_wp2_with (first | (go_at_call 224;refine (isLetter_any _ _).mono ?_;rintro e w' ⟨rfl,rfl⟩) | (go_at_call 227;refine (isDigit_any _ _).mono ?_;rintro e w' ⟨rfl,rfl⟩) | (go_at_call 103;refine (fault_any _ _ _).mono ?_;rintro e w' ⟨rfl,rfl⟩))
        exact ⟨rfl,ScanPost.err HE2.out (((Below.refl _ w).alloc (Nat.le_refl _) _).alloc (by simp) _) (threw_at 2 at_ (by simp) (by simp))⟩
      ·rw [letdig_true (Or.inl hl)] at HE2
       rw [if_pos rfl] at HE2
       go_wp2_with (first | (go_at_call 224;refine (isLetter_any _ _).mono ?_;rintro e w' ⟨rfl,rfl⟩) | (go_at_call 227;refine (isDigit_any _ _).mono ?_;rintro e w' ⟨rfl,rfl⟩) | (go_at_call 103;refine (fault_any _ _ _).mono ?_;rintro e w' ⟨rfl,rfl⟩))
       exact ⟨rfl,ScanPost.err HE2.out (((Below.refl _ w).alloc (Nat.le_refl _) _).alloc (by simp) _) (threw_at 2 at_ (by simp) (by simp))⟩
    iterate 2
     ·have HE:Hid (∀ c2,byteOf s (↑at_+↑j+1)=c2→scanNumL (s.data.toList.drop at_) at_=if letdig c2 then .error ⟨2,at_⟩ else if 2147483647 < v*1024 then .error ⟨3,at_⟩ else .ok (⟨4,at_,[],[],v*1024⟩,at_+(j+1))):=fun c2 h2=>
       scanNumL_of _ at_ v j (v*1024) (j+1) c1 c2 HN'.out HD'.out HC1.out (by rw [isM_not h77 h109];first | (rw [isK_of (Or.inl h75)];rfl) | (rw [isK_of (Or.inr h107)];rfl)) (by rw [isM_not h77 h109];first | (rw [isK_of (Or.inl h75)];rfl) | (rw [isK_of (Or.inr h107)];rfl)) (by rw [byteOf_drop s at_ (j+1) (↑at_+↑j+1) (by omega)];exact h2)
      clear HC1
      go_wp2_with fail
      refine (byteAt_of s _ _ (by unfold maxLen;omega) (by omega)).mono ?_
      rintro e w1 ⟨rfl,rfl⟩
      have HE2:=hide (HE.out _ rfl)
      clear HE
      generalize byteOf s (↑at_+↑j+1)=c2 at HE2
      cases hl:isLetN (c2.toNat:Int)
      ·cases hdd:isDigitN (c2.toNat:Int)
       ·rw [letdig_false hl hdd] at HE2
        by_cases hbig:2147483647 < v*1024
        ·rw [if_neg (by decide),if_pos hbig] at HE2
         have hbig':(2147483647:Int) < (v:Int)*1024:=by omega
         go_wp2_with (first | (go_at_call 224;refine (isLetter_any _ _).mono ?_;rintro e w' ⟨rfl,rfl⟩) | (go_at_call 227;refine (isDigit_any _ _).mono ?_;rintro e w' ⟨rfl,rfl⟩) | (go_at_call 103;refine (fault_any _ _ _).mono ?_;rintro e w' ⟨rfl,rfl⟩))
         exact ⟨rfl,ScanPost.err HE2.out (((Below.refl _ w).alloc (Nat.le_refl _) _).alloc (by simp) _) (threw_at 3 at_ (by simp) (by simp))⟩
        ·rw [if_neg (by decide),if_neg hbig] at HE2
         go_wp2_with (first | (go_at_call 224;refine (isLetter_any _ _).mono ?_;rintro e w' ⟨rfl,rfl⟩) | (go_at_call 227;refine (isDigit_any _ _).mono ?_;rintro e w' ⟨rfl,rfl⟩) | (go_at_call 103;refine (fault_any _ _ _).mono ?_;rintro e w' ⟨rfl,rfl⟩))
         refine bodyPost_ret (v:=.tuple #[.agg #[.int .i64 4,.int .i64 at_,.string ⟨#[]⟩,.string ⟨#[]⟩,.int .i64 ((v:Int)*1024)],.int .i64 (↑at_+↑j+1)]) (by simp [results,Tryz.results228,go_sem]) rfl (ScanPost.ok HE2.out ((Below.refl _ w).alloc (Nat.le_refl _) _) ?_ ?_)
         ·simp [wdV];try omega
         ·simp;try omega
       ·rw [letdig_true (Or.inr hdd)] at HE2
        rw [if_pos rfl] at HE2
        go_wp2_with (first | (go_at_call 224;refine (isLetter_any _ _).mono ?_;rintro e w' ⟨rfl,rfl⟩) | (go_at_call 227;refine (isDigit_any _ _).mono ?_;rintro e w' ⟨rfl,rfl⟩) | (go_at_call 103;refine (fault_any _ _ _).mono ?_;rintro e w' ⟨rfl,rfl⟩))
        exact ⟨rfl,ScanPost.err HE2.out (((Below.refl _ w).alloc (Nat.le_refl _) _).alloc (by simp) _) (threw_at 2 at_ (by simp) (by simp))⟩
      ·rw [letdig_true (Or.inl hl)] at HE2
       rw [if_pos rfl] at HE2
       go_wp2_with (first | (go_at_call 224;refine (isLetter_any _ _).mono ?_;rintro e w' ⟨rfl,rfl⟩) | (go_at_call 227;refine (isDigit_any _ _).mono ?_;rintro e w' ⟨rfl,rfl⟩) | (go_at_call 103;refine (fault_any _ _ _).mono ?_;rintro e w' ⟨rfl,rfl⟩))
       exact ⟨rfl,ScanPost.err HE2.out (((Below.refl _ w).alloc (Nat.le_refl _) _).alloc (by simp) _) (threw_at 2 at_ (by simp) (by simp))⟩
    ·have HE:Hid (∀ c2,byteOf s (↑at_+↑j)=c2→scanNumL (s.data.toList.drop at_) at_=if letdig c2 then .error ⟨2,at_⟩ else if 2147483647 < v then .error ⟨3,at_⟩ else .ok (⟨4,at_,[],[],v⟩,at_+(j))):=fun c2 h2=>
      scanNumL_of _ at_ v j (v) (j) c1 c2 HN'.out HD'.out HC1.out (by rw [isM_not h77 h109,isK_not h75 h107];rfl) (by rw [isM_not h77 h109,isK_not h75 h107];rfl) (by rw [byteOf_drop s at_ (j) (↑at_+↑j) (by omega)];exact h2)
     clear HC1
     go_wp2_with fail
     refine (byteAt_of s _ _ (by unfold maxLen;omega) (by omega)).mono ?_
     rintro e w1 ⟨rfl,rfl⟩
     have HE2:=hide (HE.out _ rfl)
     clear HE
     generalize byteOf s (↑at_+↑j)=c2 at HE2
     cases hl:isLetN (c2.toNat:Int)
     ·cases hdd:isDigitN (c2.toNat:Int)
      ·rw [letdig_false hl hdd] at HE2
       by_cases hbig:2147483647 < v
       ·rw [if_neg (by decide),if_pos hbig] at HE2
        have hbig':(2147483647:Int) < (v:Int):=by omega
        go_wp2_with (first | (go_at_call 224;refine (isLetter_any _ _).mono ?_;rintro e w' ⟨rfl,rfl⟩) | (go_at_call 227;refine (isDigit_any _ _).mono ?_;rintro e w' ⟨rfl,rfl⟩) | (go_at_call 103;refine (fault_any _ _ _).mono ?_;rintro e w' ⟨rfl,rfl⟩))
        exact ⟨rfl,ScanPost.err HE2.out (((Below.refl _ w).alloc (Nat.le_refl _) _).alloc (by simp) _) (threw_at 3 at_ (by simp) (by simp))⟩
       ·rw [if_neg (by decide),if_neg hbig] at HE2
        go_wp2_with (first | (go_at_call 224;refine (isLetter_any _ _).mono ?_;rintro e w' ⟨rfl,rfl⟩) | (go_at_call 227;refine (isDigit_any _ _).mono ?_;rintro e w' ⟨rfl,rfl⟩) | (go_at_call 103;refine (fault_any _ _ _).mono ?_;rintro e w' ⟨rfl,rfl⟩))
        refine bodyPost_ret (v:=.tuple #[.agg #[.int .i64 4,.int .i64 at_,.string ⟨#[]⟩,.string ⟨#[]⟩,.int .i64 ((v:Int))],.int .i64 (↑at_+↑j)]) (by simp [results,Tryz.results228,go_sem]) rfl (ScanPost.ok HE2.out ((Below.refl _ w).alloc (Nat.le_refl _) _) ?_ ?_)
        ·simp [wdV];try omega
        ·simp;try omega
      ·rw [letdig_true (Or.inr hdd)] at HE2
       rw [if_pos rfl] at HE2
       go_wp2_with (first | (go_at_call 224;refine (isLetter_any _ _).mono ?_;rintro e w' ⟨rfl,rfl⟩) | (go_at_call 227;refine (isDigit_any _ _).mono ?_;rintro e w' ⟨rfl,rfl⟩) | (go_at_call 103;refine (fault_any _ _ _).mono ?_;rintro e w' ⟨rfl,rfl⟩))
       exact ⟨rfl,ScanPost.err HE2.out (((Below.refl _ w).alloc (Nat.le_refl _) _).alloc (by simp) _) (threw_at 2 at_ (by simp) (by simp))⟩
     ·rw [letdig_true (Or.inl hl)] at HE2
      rw [if_pos rfl] at HE2
      go_wp2_with (first | (go_at_call 224;refine (isLetter_any _ _).mono ?_;rintro e w' ⟨rfl,rfl⟩) | (go_at_call 227;refine (isDigit_any _ _).mono ?_;rintro e w' ⟨rfl,rfl⟩) | (go_at_call 103;refine (fault_any _ _ _).mono ?_;rintro e w' ⟨rfl,rfl⟩))
      exact ⟨rfl,ScanPost.err HE2.out (((Below.refl _ w).alloc (Nat.le_refl _) _).alloc (by simp) _) (threw_at 2 at_ (by simp) (by simp))⟩
end Go.Proofs.YtgnkjijocdmniaaGreatDoor
