import Derived.Test.YtgnkjijocdmniaaGreatDoorZPlainSem3
namespace Go.Proofs.YtgnkjijocdmniaaGreatDoor
set_option linter.unusedVariables false
set_option linter.unusedSimpArgs false
set_option maxRecDepth 100000
set_option maxHeartbeats 4000000
def globL(b a:L8):Bool:=QH (pcL b) a
variable{a r:L8}{c:UInt8}
theorem BL(r:L8):pcL (42::r)=(2,0)::pcL r:=by
 cases r with
 |nil=>rfl
 |cons d r=>rw[pcL,if_pos rfl]
theorem B5(r:L8):pcL (63::r)=(1,0)::pcL r:=by
 cases r with
 |nil=>rfl
 |cons d r=>rw[pcL,if_neg (by decide),if_pos rfl]
theorem Ab(d:UInt8)(r:L8):pcL (92::d::r)=(0,d)::pcL r:=by
 rw[pcL,if_neg (by decide),if_neg (by decide),if_pos rfl]
theorem Ah(a:c≠42)(b:c≠63)(f:c=92->r=[]):pcL (c::r)=(0,c)::pcL r:=by
 cases r with
 |nil=>show [if c=42 then(2,0)else if c=63 then(1,0)else(0,c)]=[(0,c)];rw[if_neg a,if_neg b]
 |cons d r=>rw[pcL,if_neg a,if_neg b,if_neg (fun e=>by cases f e)]
theorem Sz(a:L8):globL [] a=a.isEmpty:=by
 unfold globL;rw[show pcL []=[] by rw[pcL],QH]
theorem CT(r:L8):globL (42::r) []=globL r []:=by
 unfold globL;rw[BL,QH];rfl
theorem CK(r:L8)(x:UInt8)(a:L8):globL (42::r) (x::a)=(globL r (x::a) || globL (42::r) a):=by
 unfold globL;rw[BL,QH,if_pos rfl]
theorem Dh(r:L8):globL (63::r) []=false:=by
 unfold globL;rw[B5,QH];rfl
theorem DO(r:L8)(x:UInt8)(a:L8):globL (63::r) (x::a)=globL r a:=by
 unfold globL;rw[B5,QH,if_neg (by decide)];rfl
theorem C7(d:UInt8)(r:L8):globL (92::d::r) []=false:=by
 unfold globL;rw[Ab,QH];rfl
theorem Ap(d:UInt8)(r:L8)(x:UInt8)(a:L8):globL (92::d::r) (x::a)=(decide (x=d)&&globL r a):=by
 unfold globL;rw[Ab,QH,if_neg (show ¬(0:Nat)=2 by decide)];show((false || (true&&(d==x)))&&_)=_
 rw[Bool.false_or,Bool.true_and];congr 1;rw[Zo,beq_iff_eq,decide_eq_true_iff];exact⟨fun h=>h.symm,fun h=>h.symm⟩
theorem DD(a:c≠42)(b:c≠63)(d:c=92->r=[]):globL (c::r) []=false:=by
 unfold globL;rw[Ah a b d,QH];rfl
theorem As(b:c≠42)(d:c≠63)(e:c=92->r=[])(x:UInt8)(a:L8):globL (c::r) (x::a)=(decide (x=c)&&globL r a):=by
 unfold globL;rw[Ah b d e,QH,if_neg (show ¬(0:Nat)=2 by decide)];show((false || (true&&(c==x)))&&_)=_
 rw[Bool.false_or,Bool.true_and];congr 1;rw[Zo,beq_iff_eq,decide_eq_true_iff];exact⟨fun h=>h.symm,fun h=>h.symm⟩
def Y0:List (Nat×UInt8)->L8->L8->Qa
 | [],_,_=>[]
 |p::k,v,a=>if p.1=2 then v.take (Xa k a)::Y0 k (v.drop (Xa k a)) (a.drop (Xa k a))else(if p.1=0 then []else [v.take 1])++Y0 k (v.drop 1) (a.drop 1)
def UI(v:L8)(key:List (Nat×UInt8))(pl:List Nat)(n:Nat):Qa:=if(key.getD n (0,0)).1=0 then []else [(v.drop (pl.getD n 0)).take (pl.getD (n+1) 0 - pl.getD n 0)]
theorem Dv(v:L8)(a:List (Nat×UInt8))(b:List Nat):∀ n,toldTo v a b n=v::(List.range n).flatMap (UI v a b)
 |0=>rfl
 |n+1=>by
  rw[toldTo,Dv v a b n,List.range_succ,List.flatMap_append,List.cons_append];simp[UI]
theorem BK(k:List (Nat×UInt8))(a:L8)(o:Nat):(plL k a o).getD 0 0=o:=by
 cases k<;>simp[plL]
theorem AD(v:L8):∀(b:List (Nat×UInt8)) (a:L8) (o:Nat),(List.range b.length).flatMap (UI v b (plL b a o))=Y0 b (v.drop o) a
 | [],a,o=>rfl
 |p::k,a,o=>by
  rw[ZN,List.range_succ_eq_map,List.flatMap_cons,List.flatMap_map];by_cases h2:p.1=2
  ·have e:plL (p::k) a o=o::plL k (a.drop (Xa k a)) (o+Xa k a):=by rw[plL,if_pos h2]
   rw[Y0,if_pos h2,List.drop_drop,<-AD v k (a.drop (Xa k a)) (o+Xa k a),e]
   have c:UI v (p::k) (o::plL k (a.drop (Xa k a)) (o+Xa k a)) 0=[(v.drop o).take (Xa k a)]:=by
    unfold UI;rw[List.getD_cons_zero,if_neg (by omega),List.getD_cons_zero,List.getD_cons_succ,BK];congr 2;omega
   rw[c];rfl
  ·have e:plL (p::k) a o=o::plL k (a.drop 1) (o+1):=by rw[plL,if_neg h2]
   rw[Y0,if_neg h2,List.drop_drop,<-AD v k (a.drop 1) (o+1),e]
   have c:UI v (p::k) (o::plL k (a.drop 1) (o+1)) 0=if p.1=0 then []else [(v.drop o).take 1]:=by
    unfold UI;rw[List.getD_cons_zero,List.getD_cons_zero,List.getD_cons_succ,BK];rw[show o+1 - o=1 by omega]
   rw[c];rfl
theorem Ro(v a:L8)(b:List (Nat×UInt8)):toldTo v b (plL b a 0) b.length=v::Y0 b v a:=by
 rw[Dv,AD,List.drop_zero]
theorem Cr(k:List (Nat×UInt8)):∀(v:L8) (j:Nat),j<Xa k v->QH k (v.drop j)=false
 | [],j,h=>by cases h
 |c::v,j,h=>by
  rw[Xa]at h;by_cases e:QH k (c::v)=true
  ·rw[if_pos e]at h;cases h
  ·rw[if_neg e]at h
   cases j with
   |zero=>simpa using e
   |succ j=>
    rw[List.drop_succ_cons];exact Cr k v j (Nat.lt_of_succ_lt_succ h)
def starQ(r a:L8):Nat:=Xa (pcL r) a
theorem Hb(h:globL (42::r) a=true):starQ r a<=a.length/\globL r (a.drop (starQ r a))=true/\∀ j,j<starQ r a->globL r (a.drop j)=false:=by
 unfold globL at h;rw[B8]at h;obtain⟨b,c⟩:=Da 0 (pcL r) a h;exact⟨b,c,Cr (pcL r) a⟩
def Zy(b v a:L8):Qa:=Y0 (pcL b) v a
theorem RV(v a:L8):Zy [] v a=[]:=by unfold Zy;rw[show pcL []=[] by rw[pcL]];rfl
theorem PA(r v a:L8):Zy (42::r) v a=v.take (starQ r a)::Zy r (v.drop (starQ r a)) (a.drop (starQ r a)):=by
 unfold Zy;rw[B8,Y0,if_pos rfl];rfl
theorem RD(r v a:L8):Zy (63::r) v a=v.take 1::Zy r (v.drop 1) (a.drop 1):=by
 unfold Zy;rw[MA,Y0,if_neg (by decide),if_neg (by decide)];rfl
theorem SF(d:UInt8)(r v a:L8):Zy (92::d::r) v a=Zy r (v.drop 1) (a.drop 1):=by
 unfold Zy;rw[Ab,Y0,if_neg (show ¬(0:Nat)=2 by decide),if_pos rfl];rfl
theorem Ea(b:c≠42)(d:c≠63)(e:c=92->r=[])(v a:L8):Zy (c::r) v a=Zy r (v.drop 1) (a.drop 1):=by
 unfold Zy;rw[Ah b d e,Y0,if_neg (show ¬(0:Nat)=2 by decide),if_pos rfl];rfl
theorem Hy(h:globL (63::r) a=true):1<=a.length/\globL r (a.drop 1)=true:=by
 cases a with
 |nil=>rw[Dh]at h;cases h
 |cons x a=>rw[DO]at h;exact⟨Nat.succ_le_succ QE,h⟩
theorem F1{d:UInt8}(h:globL (92::d::r) a=true):1<=a.length/\globL r (a.drop 1)=true:=by
 cases a with
 |nil=>rw[C7]at h;cases h
 |cons x a=>rw[Ap,Bool.and_eq_true]at h;exact⟨Nat.succ_le_succ QE,h.2⟩
theorem Bv{c:UInt8}(b:c≠42)(d:c≠63)(e:c=92->r=[])(h:globL (c::r) a=true):1<=a.length/\globL r (a.drop 1)=true:=by
 cases a with
 |nil=>rw[DD b d e]at h;cases h
 |cons x a=>rw[As b d e,Bool.and_eq_true]at h;exact⟨Nat.succ_le_succ QE,h.2⟩
end Go.Proofs.YtgnkjijocdmniaaGreatDoor
