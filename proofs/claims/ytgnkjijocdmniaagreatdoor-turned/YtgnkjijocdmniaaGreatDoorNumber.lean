import Derived.Test.YtgnkjijocdmniaaGreatDoorZWords
namespace Go.Proofs.YtgnkjijocdmniaaGreatDoor
set_option linter.unusedVariables false
set_option linter.unusedSimpArgs false
set_option maxRecDepth 100000
set_option maxHeartbeats 4000000
open Go.Proofs.Tryz
open Go.RowKit
def QfE (v:Nat) (l:L8):Nat:=(l.takeWhile fun c=>QaS c.toNat).foldl Qgy v
theorem Qp4(l:L8):Qdn l=QfE 0 l:=rfl
theorem Qqu(v:Nat):QfE v []=v:=rfl
theorem Qoc(v:Nat)(c:UInt8)(r:L8)(h:QaS c.toNat=true):QfE v (c::r)=QfE (Qgy v c) r:=by
 simp[QfE,List.takeWhile_cons,h]
theorem Qm5(v:Nat)(c:UInt8)(r:L8)(h:QaS c.toNat=false):QfE v (c::r)=v:=by
 simp[QfE,List.takeWhile_cons,h]
theorem Qpz(c:UInt8)(r:L8)(h:QaS c.toNat=true):Qa7 (c::r)=1+Qa7 r:=by
 simp[Qa7,List.takeWhile_cons,h];omega
theorem QpX(c:UInt8)(r:L8)(h:QaS c.toNat=false):Qa7 (c::r)=0:=by
 simp[Qa7,List.takeWhile_cons,h]
theorem QrV:Qa7 []=0:=rfl
theorem Qsw(v:Nat)(c:UInt8):Qgy v c<=2147483648:=by unfold Qgy;omega
theorem QgL(aa:L8)(p v j v' n':Nat)(c1 c2:UInt8)(hv:Qdn aa=v)(hj:Qa7 aa=j)(h1:aa.getD j 0=c1)
 (ac:v'=if isM c1 then v*1048576 else if isK c1 then v*1024 else v) (ab:n'=if isM c1 || isK c1 then j+1 else j) (h2:aa.getD n' 0=c2) :
 sNL aa p=if letdig c2 then .error ⟨2,p⟩else if 2147483647<v' then .error ⟨3,p⟩else .ok (⟨4,p,[],[],v'⟩,p+n'):=by
 subst hv;subst hj;subst h1;subst ac;subst ab;subst h2;rfl
theorem Qe7(s:ByteArray)(a j:Nat)(x:Int)(h:x=(a+j:Nat)):(s.data.toList.drop a).getD j 0=byteOf s x:=by
 subst h;unfold byteOf;rw[List.getD_eq_getElem?_getD,List.getElem?_drop,Int.toNat_natCast,List.getD_eq_getElem?_getD]
theorem Qdd{c:UInt8}(h:Qbs (c.toNat:Int)=true\/QaS (c.toNat:Int)=true):letdig c=true:=by
 unfold letdig;rcases h with h|h<;>simp[h]
theorem Qfn{c:UInt8}(h:Qbs (c.toNat:Int)=false)(h':QaS (c.toNat:Int)=false):letdig c=false:=by
 unfold letdig;simp[h,h']
theorem five_ways(c:UInt8):((c.toNat:Int)==77)=true\/(((c.toNat:Int)==77)=false/\((c.toNat:Int)==109)=true)\/
 (((c.toNat:Int)==77)=false/\((c.toNat:Int)==109)=false/\((c.toNat:Int)==75)=true)\/
 (((c.toNat:Int)==77)=false/\((c.toNat:Int)==109)=false/\((c.toNat:Int)==75)=false/\((c.toNat:Int)==107)=true)\/
 (((c.toNat:Int)==77)=false/\((c.toNat:Int)==109)=false/\((c.toNat:Int)==75)=false/\((c.toNat:Int)==107)=false):=by
 cases((c.toNat:Int)==77)<;>cases((c.toNat:Int)==109)<;>cases((c.toNat:Int)==75)<;>cases((c.toNat:Int)==107)<;>simp
theorem Qq7{c:UInt8}(h:((c.toNat:Int)==77)=true\/((c.toNat:Int)==109)=true):isM c=true:=by
 unfold isM;simp at h ⊢;omega
theorem Qml{c:UInt8}(h:((c.toNat:Int)==77)=false)(h':((c.toNat:Int)==109)=false):isM c=false:=by
 unfold isM;simp at h h' ⊢;omega
theorem QrE{c:UInt8}(h:((c.toNat:Int)==75)=true\/((c.toNat:Int)==107)=true):isK c=true:=by
 unfold isK;simp at h ⊢;omega
theorem Qtv{c:UInt8}(h:((c.toNat:Int)==75)=false)(h':((c.toNat:Int)==107)=false):isK c=false:=by
 unfold isK;simp at h h' ⊢;omega
theorem QkL(s:ByteArray)(aa:Nat)(w:World)(hs:s.size<=4294967280)(ha:aa<=s.size) :
 Calls Tryz.prog 228 #[.string s,.int .i64 aa] w (QaV (sNL (s.data.toList.drop aa) aa) w):=by
 go_enter func228,ntmps228;go_wp2_with fail
 go_loop [6,7] (fun a b=>∃ j v:Nat,aa+j<=s.size/\v<=2147483648/\a=.int .i64 v/\b=.int .i64 (aa+j:Nat)/\Qdn (s.data.toList.drop aa)=QfE v (s.data.toList.drop (aa+j))/\Qa7 (s.data.toList.drop aa)=j+Qa7 (s.data.toList.drop (aa+j))) (fun _ b=>s.size - (intOf b).toNat)
 case atStart=>exact⟨0,0,by omega,by omega,rfl,by simp,by rw[Qp4];rfl,by simp⟩
 case round=>
  obtain⟨j,v,hj,hv,rfl,rfl,hN,hD⟩:=hrel;have HN:=Qab hN;have HD:=Qab hD;clear hN hD;by_cases hgo:∃ h:aa+j<s.size,QaS (s[aa+j].toNat:Int)=true
  ·obtain⟨af,ah⟩:=hgo;have hd:=Qab (Qbv s (aa+j) af);obtain⟨c,hc⟩:∃ c,s[aa+j]=c:=⟨_,rfl⟩;rw[hc]at ah hd;have ap:48<=(c.toNat:Int)/\(c.toNat:Int)<=57:=by unfold QaS at ah;simpa using ah
   obtain⟨hd1,hd2⟩:=ap;go_wp2_with (go_at_call 227;refine(QaM _ _).mono ?_;rintro e w' ⟨rfl,rfl⟩);refine⟨⟨j+1,Qgy v c,by omega,Qsw v c,?_,congrArg _ (by omega),?_,?_⟩,by simp[intOf];omega⟩
   ·refine congrArg _ ?_;unfold Qgy;omega
   ·rw[HN.o,hd.o,Qoc _ _ _ ah];rfl
   ·rw[HD.o,hd.o,Qpz _ _ ah,show aa+j+1=aa+(j+1)from rfl];omega
  ·have ao:Hid (Qdn (s.data.toList.drop aa)=v):=by
    show _=_
    rw[HN.o];by_cases af:aa+j<s.size
    ·rw[Qbv s _ af,Qm5];cases h:QaS (s[aa+j].toNat:Int)
     ·rfl
     ·exact absurd ⟨af,h⟩ hgo
    ·rw[List.drop_of_length_le (by simp;omega),Qqu]
   have ak:Hid (Qa7 (s.data.toList.drop aa)=j):=by
    show _=_
    rw[HD.o];by_cases af:aa+j<s.size
    ·rw[Qbv s _ af,QpX]
     ·rfl
     ·cases h:QaS (s[aa+j].toNat:Int)
      ·rfl
      ·exact absurd ⟨af,h⟩ hgo
    ·rw[List.drop_of_length_le (by simp;omega),QrV];rfl
   clear HN HD;have HG:=Qab hgo;clear hgo;by_cases af:aa+j<s.size
   have ah:QaS (s[aa+j].toNat:Int)=false:=by
    cases h:QaS (s[aa+j].toNat:Int)
    ·rfl
    ·exact absurd ⟨af,h⟩ HG.o
   obtain⟨c,hc⟩:∃ c,s[aa+j]=c:=⟨_,rfl⟩;rw[hc]at ah;clear HG;go_wp2_with (go_at_call 227;refine(QaM _ _).mono ?_;rintro e w' ⟨rfl,rfl⟩);clear hc ah;rotate_left;clear HG;go_wp2_with (go_at_call 227;refine(QaM _ _).mono ?_;rintro e w' ⟨rfl,rfl⟩)
   all_goals
    refine(Qhx s _ _ (by unfold maxLen;omega) (by omega)).mono ?_;rintro e w1 ⟨rfl,rfl⟩;have ai:=Qab (Qe7 s aa j (↑aa+↑j) (by omega));generalize byteOf s (↑aa+↑j)=c1 at ai;rcases five_ways c1 with ae | ⟨ae,ac⟩ | ⟨ae,ac,aj⟩ | ⟨ae,ac,aj,ad⟩ | ⟨ae,ac,aj,ad⟩
    iterate 2
     ·have HE:Hid (∀ c2,byteOf s (↑aa+↑j+1)=c2->sNL (s.data.toList.drop aa) aa=if letdig c2 then .error ⟨2,aa⟩else if 2147483647<v*1048576 then .error ⟨3,aa⟩else .ok (⟨4,aa,[],[],v*1048576⟩,aa+(j+1))):=fun c2 h2=>
       QgL _ aa v j (v*1048576) (j+1) c1 c2 ao.o ak.o ai.o (by first|(rw[Qq7 (Or.inl ae)];rfl)|(rw[Qq7 (Or.inr ac)];rfl)) (by first|(rw[Qq7 (Or.inl ae)];rfl)|(rw[Qq7 (Or.inr ac)];rfl)) (by rw[Qe7 s aa (j+1) (↑aa+↑j+1) (by omega)];exact h2)
      clear ai;go_wp2_with fail;refine(Qhx s _ _ (by unfold maxLen;omega) (by omega)).mono ?_;rintro e w1 ⟨rfl,rfl⟩;have ab:=Qab (HE.o _ rfl);clear HE;generalize byteOf s (↑aa+↑j+1)=c2 at ab;cases hl:Qbs (c2.toNat:Int)
      ·cases hdd:QaS (c2.toNat:Int)
       ·rw[Qfn hl hdd]at ab;by_cases hbig:2147483647<v*1048576
        ·rw[if_neg (by decide),if_pos hbig]at ab;have ag:(2147483647:Int)<(v:Int)*1024*1024:=by omega
         go_wp2_with (first|(go_at_call 224;refine(QaK _ _).mono ?_;rintro e w' ⟨rfl,rfl⟩)|(go_at_call 227;refine(QaM _ _).mono ?_;rintro e w' ⟨rfl,rfl⟩)|(go_at_call 103;refine(Qbi _ _ _).mono ?_;rintro e w' ⟨rfl,rfl⟩));exact⟨rfl,QaV.err ab.o (((Below.refl _ w).alloc (Nat.le_refl _) _).alloc (by simp) _) (QcA 3 aa (by simp) (by simp))⟩
        ·rw[if_neg (by decide),if_neg hbig]at ab;go_wp2_with (first|(go_at_call 224;refine(QaK _ _).mono ?_;rintro e w' ⟨rfl,rfl⟩)|(go_at_call 227;refine(QaM _ _).mono ?_;rintro e w' ⟨rfl,rfl⟩)|(go_at_call 103;refine(Qbi _ _ _).mono ?_;rintro e w' ⟨rfl,rfl⟩));refine bodyPost_ret (v:=.tuple #[.agg #[.int .i64 4,.int .i64 aa,.string ⟨#[]⟩,.string ⟨#[]⟩,.int .i64 ((v:Int)*1024*1024)],.int .i64 (↑aa+↑j+1)]) (by simp[results,results228,go_sem]) rfl (QaV.ok ab.o ((Below.refl _ w).alloc (Nat.le_refl _) _) ?_ ?_)
         ·simp[wdV];try omega
         ·simp;try omega
       ·rw[Qdd (Or.inr hdd)]at ab;rw[if_pos rfl]at ab;go_wp2_with (first|(go_at_call 224;refine(QaK _ _).mono ?_;rintro e w' ⟨rfl,rfl⟩)|(go_at_call 227;refine(QaM _ _).mono ?_;rintro e w' ⟨rfl,rfl⟩)|(go_at_call 103;refine(Qbi _ _ _).mono ?_;rintro e w' ⟨rfl,rfl⟩));exact⟨rfl,QaV.err ab.o (((Below.refl _ w).alloc (Nat.le_refl _) _).alloc (by simp) _) (QcA 2 aa (by simp) (by simp))⟩
      ·rw[Qdd (Or.inl hl)]at ab;rw[if_pos rfl]at ab;go_wp2_with (first|(go_at_call 224;refine(QaK _ _).mono ?_;rintro e w' ⟨rfl,rfl⟩)|(go_at_call 227;refine(QaM _ _).mono ?_;rintro e w' ⟨rfl,rfl⟩)|(go_at_call 103;refine(Qbi _ _ _).mono ?_;rintro e w' ⟨rfl,rfl⟩));exact⟨rfl,QaV.err ab.o (((Below.refl _ w).alloc (Nat.le_refl _) _).alloc (by simp) _) (QcA 2 aa (by simp) (by simp))⟩
    iterate 2
     ·have HE:Hid (∀ c2,byteOf s (↑aa+↑j+1)=c2->sNL (s.data.toList.drop aa) aa=if letdig c2 then .error ⟨2,aa⟩else if 2147483647<v*1024 then .error ⟨3,aa⟩else .ok (⟨4,aa,[],[],v*1024⟩,aa+(j+1))):=fun c2 h2=>
       QgL _ aa v j (v*1024) (j+1) c1 c2 ao.o ak.o ai.o (by rw[Qml ae ac];first|(rw[QrE (Or.inl aj)];rfl)|(rw[QrE (Or.inr ad)];rfl)) (by rw[Qml ae ac];first|(rw[QrE (Or.inl aj)];rfl)|(rw[QrE (Or.inr ad)];rfl)) (by rw[Qe7 s aa (j+1) (↑aa+↑j+1) (by omega)];exact h2)
      clear ai;go_wp2_with fail;refine(Qhx s _ _ (by unfold maxLen;omega) (by omega)).mono ?_;rintro e w1 ⟨rfl,rfl⟩;have ab:=Qab (HE.o _ rfl);clear HE;generalize byteOf s (↑aa+↑j+1)=c2 at ab;cases hl:Qbs (c2.toNat:Int)
      ·cases hdd:QaS (c2.toNat:Int)
       ·rw[Qfn hl hdd]at ab;by_cases hbig:2147483647<v*1024
        ·rw[if_neg (by decide),if_pos hbig]at ab;have ag:(2147483647:Int)<(v:Int)*1024:=by omega
         go_wp2_with (first|(go_at_call 224;refine(QaK _ _).mono ?_;rintro e w' ⟨rfl,rfl⟩)|(go_at_call 227;refine(QaM _ _).mono ?_;rintro e w' ⟨rfl,rfl⟩)|(go_at_call 103;refine(Qbi _ _ _).mono ?_;rintro e w' ⟨rfl,rfl⟩));exact⟨rfl,QaV.err ab.o (((Below.refl _ w).alloc (Nat.le_refl _) _).alloc (by simp) _) (QcA 3 aa (by simp) (by simp))⟩
        ·rw[if_neg (by decide),if_neg hbig]at ab;go_wp2_with (first|(go_at_call 224;refine(QaK _ _).mono ?_;rintro e w' ⟨rfl,rfl⟩)|(go_at_call 227;refine(QaM _ _).mono ?_;rintro e w' ⟨rfl,rfl⟩)|(go_at_call 103;refine(Qbi _ _ _).mono ?_;rintro e w' ⟨rfl,rfl⟩));refine bodyPost_ret (v:=.tuple #[.agg #[.int .i64 4,.int .i64 aa,.string ⟨#[]⟩,.string ⟨#[]⟩,.int .i64 ((v:Int)*1024)],.int .i64 (↑aa+↑j+1)]) (by simp[results,results228,go_sem]) rfl (QaV.ok ab.o ((Below.refl _ w).alloc (Nat.le_refl _) _) ?_ ?_)
         ·simp[wdV];try omega
         ·simp;try omega
       ·rw[Qdd (Or.inr hdd)]at ab;rw[if_pos rfl]at ab;go_wp2_with (first|(go_at_call 224;refine(QaK _ _).mono ?_;rintro e w' ⟨rfl,rfl⟩)|(go_at_call 227;refine(QaM _ _).mono ?_;rintro e w' ⟨rfl,rfl⟩)|(go_at_call 103;refine(Qbi _ _ _).mono ?_;rintro e w' ⟨rfl,rfl⟩));exact⟨rfl,QaV.err ab.o (((Below.refl _ w).alloc (Nat.le_refl _) _).alloc (by simp) _) (QcA 2 aa (by simp) (by simp))⟩
      ·rw[Qdd (Or.inl hl)]at ab;rw[if_pos rfl]at ab;go_wp2_with (first|(go_at_call 224;refine(QaK _ _).mono ?_;rintro e w' ⟨rfl,rfl⟩)|(go_at_call 227;refine(QaM _ _).mono ?_;rintro e w' ⟨rfl,rfl⟩)|(go_at_call 103;refine(Qbi _ _ _).mono ?_;rintro e w' ⟨rfl,rfl⟩));exact⟨rfl,QaV.err ab.o (((Below.refl _ w).alloc (Nat.le_refl _) _).alloc (by simp) _) (QcA 2 aa (by simp) (by simp))⟩
    ·have HE:Hid (∀ c2,byteOf s (↑aa+↑j)=c2->sNL (s.data.toList.drop aa) aa=if letdig c2 then .error ⟨2,aa⟩else if 2147483647<v then .error ⟨3,aa⟩else .ok (⟨4,aa,[],[],v⟩,aa+(j))):=fun c2 h2=>
      QgL _ aa v j (v) (j) c1 c2 ao.o ak.o ai.o (by rw[Qml ae ac,Qtv aj ad];rfl) (by rw[Qml ae ac,Qtv aj ad];rfl) (by rw[Qe7 s aa (j) (↑aa+↑j) (by omega)];exact h2)
     clear ai;go_wp2_with fail;refine(Qhx s _ _ (by unfold maxLen;omega) (by omega)).mono ?_;rintro e w1 ⟨rfl,rfl⟩;have ab:=Qab (HE.o _ rfl);clear HE;generalize byteOf s (↑aa+↑j)=c2 at ab;cases hl:Qbs (c2.toNat:Int)
     ·cases hdd:QaS (c2.toNat:Int)
      ·rw[Qfn hl hdd]at ab;by_cases hbig:2147483647<v
       ·rw[if_neg (by decide),if_pos hbig]at ab;have ag:(2147483647:Int)<(v:Int):=by omega
        go_wp2_with (first|(go_at_call 224;refine(QaK _ _).mono ?_;rintro e w' ⟨rfl,rfl⟩)|(go_at_call 227;refine(QaM _ _).mono ?_;rintro e w' ⟨rfl,rfl⟩)|(go_at_call 103;refine(Qbi _ _ _).mono ?_;rintro e w' ⟨rfl,rfl⟩));exact⟨rfl,QaV.err ab.o (((Below.refl _ w).alloc (Nat.le_refl _) _).alloc (by simp) _) (QcA 3 aa (by simp) (by simp))⟩
       ·rw[if_neg (by decide),if_neg hbig]at ab;go_wp2_with (first|(go_at_call 224;refine(QaK _ _).mono ?_;rintro e w' ⟨rfl,rfl⟩)|(go_at_call 227;refine(QaM _ _).mono ?_;rintro e w' ⟨rfl,rfl⟩)|(go_at_call 103;refine(Qbi _ _ _).mono ?_;rintro e w' ⟨rfl,rfl⟩));refine bodyPost_ret (v:=.tuple #[.agg #[.int .i64 4,.int .i64 aa,.string ⟨#[]⟩,.string ⟨#[]⟩,.int .i64 ((v:Int))],.int .i64 (↑aa+↑j)]) (by simp[results,results228,go_sem]) rfl (QaV.ok ab.o ((Below.refl _ w).alloc (Nat.le_refl _) _) ?_ ?_)
        ·simp[wdV];try omega
        ·simp;try omega
      ·rw[Qdd (Or.inr hdd)]at ab;rw[if_pos rfl]at ab;go_wp2_with (first|(go_at_call 224;refine(QaK _ _).mono ?_;rintro e w' ⟨rfl,rfl⟩)|(go_at_call 227;refine(QaM _ _).mono ?_;rintro e w' ⟨rfl,rfl⟩)|(go_at_call 103;refine(Qbi _ _ _).mono ?_;rintro e w' ⟨rfl,rfl⟩));exact⟨rfl,QaV.err ab.o (((Below.refl _ w).alloc (Nat.le_refl _) _).alloc (by simp) _) (QcA 2 aa (by simp) (by simp))⟩
     ·rw[Qdd (Or.inl hl)]at ab;rw[if_pos rfl]at ab;go_wp2_with (first|(go_at_call 224;refine(QaK _ _).mono ?_;rintro e w' ⟨rfl,rfl⟩)|(go_at_call 227;refine(QaM _ _).mono ?_;rintro e w' ⟨rfl,rfl⟩)|(go_at_call 103;refine(Qbi _ _ _).mono ?_;rintro e w' ⟨rfl,rfl⟩));exact⟨rfl,QaV.err ab.o (((Below.refl _ w).alloc (Nat.le_refl _) _).alloc (by simp) _) (QcA 2 aa (by simp) (by simp))⟩
end Go.Proofs.YtgnkjijocdmniaaGreatDoor
