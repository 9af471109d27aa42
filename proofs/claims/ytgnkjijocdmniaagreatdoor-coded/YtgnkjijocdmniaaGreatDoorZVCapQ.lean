import Derived.Test.YtgnkjijocdmniaaGreatDoorZPlainSem3
namespace Go.Proofs.YtgnkjijocdmniaaGreatDoor
set_option linter.unusedVariables false
set_option linter.unusedSimpArgs false
set_option maxRecDepth 100000
set_option maxHeartbeats 4000000
def globL(b a:L8):Bool:=Xn (Z2 b) a
variable{a r:L8}{c:UInt8}
theorem Cv(d:UInt8)(r:L8):Z2 (92::d::r)=(0,d)::Z2 r:=by
 rw[Z2,if_neg (by decide),if_neg (by decide),if_pos rfl]
theorem Cw(a:c≠42)(b:c≠63)(f:c=92->r=[]):Z2 (c::r)=(0,c)::Z2 r:=by
 cases r with
 |nil=>show [if c=42 then(2,0)else if c=63 then(1,0)else(0,c)]=[(0,c)];rw[if_neg a,if_neg b]
 |cons d r=>rw[Z2,if_neg a,if_neg b,if_neg (fun e=>by cases f e)]
theorem QwJ(a:L8):globL [] a=a.isEmpty:=by
 unfold globL;rw[show Z2 []=[] by rw[Z2],Xn]
theorem Ih(r:L8):globL (42::r) []=globL r []:=by
 unfold globL;rw[NV,Xn];rfl
theorem Ie(r:L8)(x:UInt8)(a:L8):globL (42::r) (x::a)=(globL r (x::a) || globL (42::r) a):=by
 unfold globL;rw[NV,Xn,if_pos rfl]
theorem Ii(r:L8):globL (63::r) []=false:=by
 unfold globL;rw[Bn,Xn];rfl
theorem If(r:L8)(x:UInt8)(a:L8):globL (63::r) (x::a)=globL r a:=by
 unfold globL;rw[Bn,Xn,if_neg (by decide)];rfl
theorem Ig(d:UInt8)(r:L8):globL (92::d::r) []=false:=by
 unfold globL;rw[Cv,Xn];rfl
theorem Cs(d:UInt8)(r:L8)(x:UInt8)(a:L8):globL (92::d::r) (x::a)=(decide (x=d)&&globL r a):=by
 unfold globL;rw[Cv,Xn,if_neg (show ¬(0:Nat)=2 by decide)];show((false || (true&&(d==x)))&&_)=_
 rw[Bool.false_or,Bool.true_and];congr 1;rw[Zh,beq_iff_eq,decide_eq_true_iff];exact⟨fun h=>h.symm,fun h=>h.symm⟩
theorem Cu(a:c≠42)(b:c≠63)(d:c=92->r=[]):globL (c::r) []=false:=by
 unfold globL;rw[Cw a b d,Xn];rfl
theorem Nj(b:c≠42)(d:c≠63)(e:c=92->r=[])(x:UInt8)(a:L8):globL (c::r) (x::a)=(decide (x=c)&&globL r a):=by
 unfold globL;rw[Cw b d e,Xn,if_neg (show ¬(0:Nat)=2 by decide)];show((false || (true&&(c==x)))&&_)=_
 rw[Bool.false_or,Bool.true_and];congr 1;rw[Zh,beq_iff_eq,decide_eq_true_iff];exact⟨fun h=>h.symm,fun h=>h.symm⟩
def JQ:List (Nat×UInt8)->L8->L8->Qa
 | [],_,_=>[]
 |p::k,v,a=>if p.1=2 then v.take (Ya k a)::JQ k (v.drop (Ya k a)) (a.drop (Ya k a))else(if p.1=0 then []else [v.take 1])++JQ k (v.drop 1) (a.drop 1)
def Vt(v:L8)(key:List (Nat×UInt8))(pl:List Nat)(n:Nat):Qa:=if(key.getD n (0,0)).1=0 then []else [(v.drop (pl.getD n 0)).take (pl.getD (n+1) 0 - pl.getD n 0)]
theorem Ij(v:L8)(a:List (Nat×UInt8))(b:List Nat):∀ n,toldTo v a b n=v::(List.range n).flatMap (Vt v a b)
 |0=>rfl
 |n+1=>by
  rw[toldTo,Ij v a b n,List.range_succ,List.flatMap_append,List.cons_append];simp[Vt]
theorem Ik(k:List (Nat×UInt8))(a:L8)(o:Nat):(Jb k a o).getD 0 0=o:=by
 cases k<;>simp[Jb]
theorem Cx(v:L8):∀(b:List (Nat×UInt8)) (a:L8) (o:Nat),(List.range b.length).flatMap (Vt v b (Jb b a o))=JQ b (v.drop o) a
 | [],a,o=>rfl
 |p::k,a,o=>by
  rw[QD,List.range_succ_eq_map,List.flatMap_cons,List.flatMap_map];by_cases h2:p.1=2
  ·have e:Jb (p::k) a o=o::Jb k (a.drop (Ya k a)) (o+Ya k a):=by rw[Jb,if_pos h2]
   rw[JQ,if_pos h2,List.drop_drop,<-Cx v k (a.drop (Ya k a)) (o+Ya k a),e]
   have c:Vt v (p::k) (o::Jb k (a.drop (Ya k a)) (o+Ya k a)) 0=[(v.drop o).take (Ya k a)]:=by
    unfold Vt;rw[List.getD_cons_zero,if_neg (by omega),List.getD_cons_zero,List.getD_cons_succ,Ik];congr 2;omega
   rw[c];rfl
  ·have e:Jb (p::k) a o=o::Jb k (a.drop 1) (o+1):=by rw[Jb,if_neg h2]
   rw[JQ,if_neg h2,List.drop_drop,<-Cx v k (a.drop 1) (o+1),e]
   have c:Vt v (p::k) (o::Jb k (a.drop 1) (o+1)) 0=if p.1=0 then []else [(v.drop o).take 1]:=by
    unfold Vt;rw[List.getD_cons_zero,List.getD_cons_zero,List.getD_cons_succ,Ik];rw[show o+1 - o=1 by omega]
   rw[c];rfl
theorem WB(v a:L8)(b:List (Nat×UInt8)):toldTo v b (Jb b a 0) b.length=v::JQ b v a:=by
 rw[Ij,Cx,List.drop_zero]
theorem Il(k:List (Nat×UInt8)):∀(v:L8) (j:Nat),j<Ya k v->Xn k (v.drop j)=false
 | [],j,h=>by cases h
 |c::v,j,h=>by
  rw[Ya]at h;by_cases e:Xn k (c::v)=true
  ·rw[if_pos e]at h;cases h
  ·rw[if_neg e]at h
   cases j with
   |zero=>simpa using e
   |succ j=>
    rw[List.drop_succ_cons];exact Il k v j (Nat.lt_of_succ_lt_succ h)
def starQ(r a:L8):Nat:=Ya (Z2 r) a
theorem Wq(h:globL (42::r) a=true):starQ r a<=a.length/\globL r (a.drop (starQ r a))=true/\∀ j,j<starQ r a->globL r (a.drop j)=false:=by
 unfold globL at h;rw[NV]at h;obtain⟨b,c⟩:=Pe 0 (Z2 r) a h;exact⟨b,c,Il (Z2 r) a⟩
def ZM(b v a:L8):Qa:=JQ (Z2 b) v a
theorem Ww(v a:L8):ZM [] v a=[]:=by unfold ZM;rw[show Z2 []=[] by rw[Z2]];rfl
theorem Wr(r v a:L8):ZM (42::r) v a=v.take (starQ r a)::ZM r (v.drop (starQ r a)) (a.drop (starQ r a)):=by
 unfold ZM;rw[NV,JQ,if_pos rfl];rfl
theorem Wt(r v a:L8):ZM (63::r) v a=v.take 1::ZM r (v.drop 1) (a.drop 1):=by
 unfold ZM;rw[Bn,JQ,if_neg (by decide),if_neg (by decide)];rfl
theorem Wv(d:UInt8)(r v a:L8):ZM (92::d::r) v a=ZM r (v.drop 1) (a.drop 1):=by
 unfold ZM;rw[Cv,JQ,if_neg (show ¬(0:Nat)=2 by decide),if_pos rfl];rfl
theorem F6(b:c≠42)(d:c≠63)(e:c=92->r=[])(v a:L8):ZM (c::r) v a=ZM r (v.drop 1) (a.drop 1):=by
 unfold ZM;rw[Cw b d e,JQ,if_neg (show ¬(0:Nat)=2 by decide),if_pos rfl];rfl
theorem Ws(h:globL (63::r) a=true):1<=a.length/\globL r (a.drop 1)=true:=by
 cases a with
 |nil=>rw[Ii]at h;cases h
 |cons x a=>rw[If]at h;exact⟨Nat.succ_le_succ QC,h⟩
theorem Wu{d:UInt8}(h:globL (92::d::r) a=true):1<=a.length/\globL r (a.drop 1)=true:=by
 cases a with
 |nil=>rw[Ig]at h;cases h
 |cons x a=>rw[Cs,Bool.and_eq_true]at h;exact⟨Nat.succ_le_succ QC,h.2⟩
theorem F5{c:UInt8}(b:c≠42)(d:c≠63)(e:c=92->r=[])(h:globL (c::r) a=true):1<=a.length/\globL r (a.drop 1)=true:=by
 cases a with
 |nil=>rw[Cu b d e]at h;cases h
 |cons x a=>rw[Nj b d e,Bool.and_eq_true]at h;exact⟨Nat.succ_le_succ QC,h.2⟩
end Go.Proofs.YtgnkjijocdmniaaGreatDoor
