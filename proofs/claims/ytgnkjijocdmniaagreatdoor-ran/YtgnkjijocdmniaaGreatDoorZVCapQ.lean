import Derived.Test.YtgnkjijocdmniaaGreatDoorZPlainCodeLen
namespace Go.Proofs.YtgnkjijocdmniaaGreatDoor
set_option linter.all false
set_option maxRecDepth 100000
set_option maxHeartbeats 4000000
def globL(b a:L8):Bool:=Q6 (pcL b) a
variable{a r v:L8}{c d x:UInt8}
theorem FU:pcL (42::r)=(2,0)::pcL r:=by
 cases r with
 |nil=>rfl
 |cons d r=>rw[pcL,Qi rfl]
theorem H0:pcL (63::r)=(1,0)::pcL r:=by
 cases r with
 |nil=>rfl
 |cons d r=>rw[pcL,Qg Qb,Qi rfl]
theorem Dx:pcL (92::d::r)=(0,d)::pcL r:=by
 rw[pcL,Qg Qb,Qg Qb,Qi rfl]
theorem Do(a:c≠42)(b:c≠63)(f:c=92->r=[]):pcL (c::r)=(0,c)::pcL r:=by
 cases r with
 |nil=>show [if c=42 then(2,0)else if c=63 then(1,0)else(0,c)]=[(0,c)];rw[Qg a,Qg b]
 |cons d r=>rw[pcL,Qg a,Qg b,Qg (fun e=>by cases f e)]
theorem Qym:globL [] a=a.isEmpty:=by
 unfold globL;rw[show pcL []=[] by rw[pcL],Q6]
theorem HN:globL (42::r) []=globL r []:=by
 unfold globL;rw[FU,Q6];rfl
theorem Ie:globL (42::r) (x::a)=(globL r (x::a) || globL (42::r) a):=by
 unfold globL;rw[FU,Q6,Qi rfl]
theorem Le:globL (63::r) []=false:=by
 unfold globL;rw[H0,Q6];rfl
theorem I0:globL (63::r) (x::a)=globL r a:=by
 unfold globL;rw[H0,Q6,Qg Qb];rfl
theorem Ln:globL (92::d::r) []=false:=by
 unfold globL;rw[Dx,Q6];rfl
theorem DF:globL (92::d::r) (x::a)=(decide (x=d)&&globL r a):=by
 unfold globL;rw[Dx,Q6,Qg (show ¬(0:Nat)=2 by decide)];show((false || (true&&(d==x)))&&_)=_
 rw[Bool.false_or,KE];congr 1;rw[Xb,beq_iff_eq,decide_eq_true_iff];exact⟨fun h=>h.symm,fun h=>h.symm⟩
theorem Lu(a:c≠42)(b:c≠63)(d:c=92->r=[]):globL (c::r) []=false:=by
 unfold globL;rw[Do a b d,Q6];rfl
theorem DR(b:c≠42)(d:c≠63)(e:c=92->r=[]):globL (c::r) (x::a)=(decide (x=c)&&globL r a):=by
 unfold globL;rw[Do b d e,Q6,Qg (show ¬(0:Nat)=2 by decide)];show((false || (true&&(c==x)))&&_)=_
 rw[Bool.false_or,KE];congr 1;rw[Xb,beq_iff_eq,decide_eq_true_iff];exact⟨fun h=>h.symm,fun h=>h.symm⟩
def KY:List (Nat×UInt8)->L8->L8->Qn
 | [],_,_=>[]
 |p::k,v,a=>if p.1=2 then v.take (X' k a)::KY k (v.drop (X' k a)) (a.drop (X' k a))else(if p.1=0 then []else [v.take 1])++KY k (v.drop 1) (a.drop 1)
def Nc(v:L8)(key:List (Nat×UInt8))(pl:List Nat)(n:Nat):Qn:=if(key.getD n (0,0)).1=0 then []else [(v.drop (pl.getD n 0)).take (pl.getD (n+1) 0-pl.getD n 0)]
theorem LK(v:L8)(a:List (Nat×UInt8))(b:List Nat):∀n,toldTo v a b n=v::(List.range n).flatMap (Nc v a b)
 |0=>rfl
 |n+1=>by
  rw[toldTo,LK v a b n,List.range_succ,List.flatMap_append,K6];simp[Nc]
theorem FN{k:List (Nat×UInt8)}{o:Nat}:(plL k a o).getD 0 0=o:=by
 cases k<;>simp[plL]
theorem Ea(v:L8):∀(b:List (Nat×UInt8)) (a:L8) (o:Nat),(List.range b.length).flatMap (Nc v b (plL b a o))=KY b (v.drop o) a
 | [],a,o=>rfl
 |p::k,a,o=>by
  rw[Q1,List.range_succ_eq_map,YS,List.flatMap_map];by_cases h2:p.1=2
  .have e:plL (p::k) a o=o::plL k (a.drop (X' k a)) (o+X' k a):=by rw[plL,Qi h2]
   rw[KY,Qi h2,XN,<-Ea v k (a.drop (X' k a)) (o+X' k a),e]
   have c:Nc v (p::k) (o::plL k (a.drop (X' k a)) (o+X' k a)) 0=[(v.drop o).take (X' k a)]:=by
    unfold Nc;rw[List.getD_cons_zero,Q8,List.getD_cons_zero,List.getD_cons_succ,FN];congr 2;omega
   rw[c];rfl
  .have e:plL (p::k) a o=o::plL k (a.drop 1) (o+1):=by rw[plL,Qg h2]
   rw[KY,Qg h2,XN,<-Ea v k (a.drop 1) (o+1),e]
   have c:Nc v (p::k) (o::plL k (a.drop 1) (o+1)) 0=if p.1=0 then []else [(v.drop o).take 1]:=by
    unfold Nc;rw[List.getD_cons_zero,List.getD_cons_zero,List.getD_cons_succ,FN];rw[show o+1-o=1 by omega]
   rw[c];rfl
theorem QyC{b:List (Nat×UInt8)}:toldTo v b (plL b a 0) b.length=v::KY b v a:=by
 rw[LK,Ea,Jm]
theorem HV{k:List (Nat×UInt8)}:∀(v:L8) (j:Nat),j<X' k v->Q6 k (v.drop j)=false
 | [],j,h=>by cases h
 |c::v,j,h=>by
  rw[X']at h;by_cases e:Q6 k (c::v)=true
  .rw[Qi e]at h;cases h
  .rw[Qg e]at h
   cases j with
   |zero=>simpa using e
   |succ j=>
    rw[V1];exact HV v j (Nat.lt_of_succ_lt_succ h)
def starQ(r a:L8):Nat:=X' (pcL r) a
theorem Sq(h:globL (42::r) a=true):starQ r a<=a.length/\globL r (a.drop (starQ r a))=true/\∀j,j<starQ r a->globL r (a.drop j)=false:=by
 unfold globL at h;rw[Hm]at h;obtain⟨b,c⟩:=LH 0 (pcL r) h;exact⟨b,c,HV (k:=pcL r) a⟩
def Xh(b v a:L8):Qn:=KY (pcL b) v a
theorem QyS:Xh [] v a=[]:=by unfold Xh;rw[show pcL []=[] by rw[pcL]];rfl
theorem QuK:Xh (42::r) v a=v.take (starQ r a)::Xh r (v.drop (starQ r a)) (a.drop (starQ r a)):=by
 unfold Xh;rw[Hm,KY,Qi rfl];rfl
theorem QxG:Xh (63::r) v a=v.take 1::Xh r (v.drop 1) (a.drop 1):=by
 unfold Xh;rw[QtR,KY,Qg Qb,Qg Qb];rfl
theorem Qy2:Xh (92::d::r) v a=Xh r (v.drop 1) (a.drop 1):=by
 unfold Xh;rw[Dx,KY,Qg (show ¬(0:Nat)=2 by decide),Qi rfl];rfl
theorem L6(b:c≠42)(d:c≠63)(e:c=92->r=[]):Xh (c::r) v a=Xh r (v.drop 1) (a.drop 1):=by
 unfold Xh;rw[Do b d e,KY,Qg (show ¬(0:Nat)=2 by decide),Qi rfl];rfl
theorem SK(h:globL (63::r) a=true):1<=a.length/\globL r (a.drop 1)=true:=by
 cases a with
 |nil=>rw[Le]at h;cases h
 |cons x a=>rw[I0]at h;exact⟨Nat.succ_le_succ QR,h⟩
theorem RW(h:globL (92::d::r) a=true):1<=a.length/\globL r (a.drop 1)=true:=by
 cases a with
 |nil=>rw[Ln]at h;cases h
 |cons x a=>rw[DF,Jl]at h;exact⟨Nat.succ_le_succ QR,h.2⟩
theorem FH{c:UInt8}(b:c≠42)(d:c≠63)(e:c=92->r=[])(h:globL (c::r) a=true):1<=a.length/\globL r (a.drop 1)=true:=by
 cases a with
 |nil=>rw[Lu b d e]at h;cases h
 |cons x a=>rw[DR b d e,Jl]at h;exact⟨Nat.succ_le_succ QR,h.2⟩
end Go.Proofs.YtgnkjijocdmniaaGreatDoor
