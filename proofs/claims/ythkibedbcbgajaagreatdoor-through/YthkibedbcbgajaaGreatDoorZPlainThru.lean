import Derived.Lib.Atoi
import Derived.Test.YthkibedbcbgajaaGreatDoorZEDeliver
namespace Go.Proofs.YthkibedbcbgajaaGreatDoor
set_option linter.unusedVariables false
set_option linter.unusedSimpArgs false
set_option maxRecDepth 100000
set_option maxHeartbeats 4000000
theorem Qmr(l:L8)(b:UInt8)(d:Nat)(hd:Lib.digitVal b=some d):∀ acc n,Lib.decFrom acc l=some n->Lib.decFrom acc (l++[b])=some (n*10+d):=by
 induction l with
 |nil=>intro acc n h;cases h;simp[Lib.decFrom,hd]
 |cons a r ih=>
  intro acc n h;rw[List.cons_append];unfold Lib.decFrom at h ⊢
  cases ha:Lib.digitVal a with
  |none=>rw[ha]at h;cases h
  |some x=>rw[ha]at h;exact ih _ _ h
theorem Qm3(d:Nat)(h:d<10):Lib.digitVal (UInt8.ofNat (48+d))=some d:=by
 unfold Lib.digitVal;have:(UInt8.ofNat (48+d)).toNat=48+d:=by simp;omega
 rw[this,if_pos (by omega)];simp
theorem Qk6:∀ n:Nat,Lib.decFrom 0 (iL n)=some n:=by
 intro n
 induction n using Nat.strongRecOn with
 |_ n ih=>
  unfold iL Lib.decDigits;split
  ·rename_i h
   show (match Lib.digitVal (UInt8.ofNat (48+n)) with
    |some d=>Lib.decFrom (0*10+d) []
    | none=>none)=some n
   rw[Qm3 n h];show some (0*10+n)=some n
   rw[Nat.zero_mul,Nat.zero_add]
  ·rename_i h;have:=Qmr (Lib.decDigits (n / 10)) (UInt8.ofNat (48+n % 10)) (n % 10) (Qm3 _ (by omega)) 0 (n / 10) (ih (n / 10) (by omega));rw[this];congr 1;omega
def QlT (b:UInt8):Prop:=48≤b.toNat∧b.toNat≤57
theorem Qgk:∀ n:Nat,∀ b∈iL n,QlT b:=by
 intro n
 induction n using Nat.strongRecOn with
 |_ n ih=>
  unfold iL Lib.decDigits;intro b hb
  have hd:∀ d,d<10->QlT (UInt8.ofNat (48+d)):=fun d h=>by
   have:(UInt8.ofNat (48+d)).toNat=48+d:=by simp;omega
   unfold QlT;omega
  split at hb
  ·rename_i h;rw[List.mem_singleton.1 hb];exact hd n h
  ·rename_i h;rcases List.mem_append.1 hb with hb|hb
   ·exact ih (n / 10) (by omega) b hb
   ·rw[List.mem_singleton.1 hb];exact hd _ (by omega)
theorem QwS(n:Nat):iL n≠[]:=by
 unfold iL Lib.decDigits;split<;>simp
theorem Qgb(n:Nat):Lib.atoi (iL n)=some (n:Int):=by
 have h1:=Qk6 n;have h2:=Qgk n;have h3:=QwS n;generalize iL n=l at *
 cases l with
 |nil=>exact absurd rfl h3
 |cons b r=>
  have hb:=h2 b (by simp);unfold QlT at hb
  have e1:(b==45)=false:=by
   rw[beq_eq_false_iff_ne];intro e;subst e;exact absurd hb (by decide)
  have e2:(b==43)=false:=by
   rw[beq_eq_false_iff_ne];intro e;subst e;exact absurd hb (by decide)
  show(if(b==45)=true then(Lib.decNat r).map (fun(m:Nat)=>-(m:Int))else if(b==43)=true then(Lib.decNat r).map (fun(m:Nat)=>(m:Int))else(Lib.decNat (b::r)).map (fun(m:Nat)=>(m:Int)))=some (n:Int)
  rw[e1,e2];simp[Lib.decNat,h1]
theorem QsG{b:UInt8}(h:QlT b){c:UInt8}(hc:¬ QlT c):b≠c:=fun e=>hc (e ▸ h)
theorem QpD(c:UInt8)(y:L8):∀ x:L8,(∀ b∈x,b≠c)->Lib.indexByte (x++c::y) c=(x.length:Int)
 | [],_=>by simp[Lib.indexByte]
 |a::r,h=>by
  have ha:(a==c)=false:=by simpa using h a (by simp)
  have ih:=QpD c y r (fun b hb=>h b (by simp[hb]));rw[List.cons_append];unfold Lib.indexByte;rw[ha,ih];have:((r.length:Int) == -1)=false:=by rw[beq_eq_false_iff_ne];omega
  rw[this];simp
theorem Qj5(c:UInt8):∀ x:L8,(∀ b∈x,b≠c)->Lib.indexByte x c = -1
 | [],_=>rfl
 |a::r,h=>by
  have ha:(a==c)=false:=by simpa using h a (by simp)
  have ih:=Qj5 c r (fun b hb=>h b (by simp[hb]));unfold Lib.indexByte;rw[ha,ih];rfl
theorem Qpt(m:Nat):QtT m≠10/\QtT m≠32:=by
 have aa:∀ k,digs.data.toList.getD k 0≠10/\digs.data.toList.getD k 0≠32:=fun k=>by
  by_cases hk:k<36
  ·have:∀ k,k<36->digs.data.toList.getD k 0≠10/\digs.data.toList.getD k 0≠32:=by decide
   exact this k hk
  ·rw[List.getD_eq_getElem?_getD,List.getElem?_eq_none (by show 36<=k;omega)];decide
 exact aa _
theorem QtB:∀(k m:Nat),∀ b∈Qqb k m,b≠10
 |0,m,b,hb=>by rw[Qqb]at hb;rw[List.mem_singleton.1 hb];exact(Qpt m).1
 |k+1,m,b,hb=>by
  rw[Qqb]at hb
  split at hb
  ·rcases List.mem_append.1 hb with hb|hb
   ·exact QtB k _ b hb
   ·rw[List.mem_singleton.1 hb];exact(Qpt m).1
  ·rw[List.mem_singleton.1 hb];exact(Qpt m).1
def Qdn (name body:L8):L8:=iL body.length++[32]++hexL (fnvL [name,[10],body])
theorem Qds(ab aa:L8):QbK ab aa=Qdn ab aa++10::aa:=by
 unfold QbK Qdn;simp
theorem Qiy(aa ab:L8):∀ b∈Qdn aa ab,b≠10:=by
 intro b hb;unfold Qdn at hb;rcases List.mem_append.1 hb with hb|hb
 ·rcases List.mem_append.1 hb with hb|hb
  ·exact QsG (Qgk _ b hb) (by unfold QlT;decide)
  ·rw[List.mem_singleton.1 hb];decide
 ·exact QtB _ _ b hb
theorem Qif(c:UInt8):∀(x x' y y':L8),(∀ b∈x,b≠c)->(∀ b∈x',b≠c)->x++c::y=x'++c::y'->x=x'/\y=y'
 | [],[],y,y',_,_,h=>⟨rfl,by injection h⟩
 | [],a::r,y,y',_,h2,h=>by injection h with h3 _;exact absurd h3.symm (h2 a (by simp))
 |a::r,[],y,y',h1,_,h=>by injection h with h3 _;exact absurd h3 (h1 a (by simp))
 |a::r,a'::r',y,y',h1,h2,h=>by
  injection h with h3 h4
  obtain⟨h5,h6⟩:=Qif c r r' y y' (fun b hb=>h1 b (by simp[hb])) (fun b hb=>h2 b (by simp[hb])) h4;exact⟨by rw[h3,h5],h6⟩
theorem torn_head(ab aa:L8)(k:Nat)(hk:k<(QbK ab aa).length) :
 (∀ b∈(QbK ab aa).take k,b≠10)\/∃ z,(QbK ab aa).take k=Qdn ab aa++10::z/\z.length<aa.length/\QbK ab z≠(QbK ab aa).take k:=by
 rw[Qds]at hk ⊢;by_cases h:k<=(Qdn ab aa).length
 ·refine Or.inl (fun b hb=>Qiy ab aa b ?_);rw[List.take_append_of_le_length h]at hb;exact List.mem_of_mem_take hb
 ·have ac:k=(Qdn ab aa).length+(k - (Qdn ab aa).length):=by omega
  obtain⟨j,hj⟩:∃ j,k - (Qdn ab aa).length=j+1:=⟨k - (Qdn ab aa).length - 1,by omega⟩;have hl:(Qdn ab aa++10::aa).length=(Qdn ab aa).length+(aa.length+1):=by simp
  have ht:(Qdn ab aa++10::aa).take k=Qdn ab aa++10::aa.take j:=by
   rw[ac,List.take_length_add_append,hj,List.take_succ_cons]
  refine Or.inr ⟨aa.take j,ht,by rw[List.length_take];omega,fun e=>?_⟩;rw[ht,Qds]at e;obtain⟨e1,_⟩:=Qif 10 _ _ _ _ (Qiy ab _) (Qiy ab _) e;unfold Qdn at e1;rw[List.append_assoc,List.append_assoc]at e1;have hd:∀ n,∀ b∈iL n,b≠32:=fun n b hb=>QsG (Qgk n b hb) (by unfold QlT;decide)
  obtain⟨e2,_⟩:=Qif 32 _ _ _ _ (hd _) (hd _) e1
  have e3:((aa.take j).length)=aa.length:=by
   have h1:=Qk6 (aa.take j).length;rw[e2,Qk6]at h1;injection h1 with h1
   omega
  rw[List.length_take]at e3;omega
abbrev FlP:=L8×L8
def QmT (f:FlP):List FlP→List FlP
 | []=>[f]
 | g :: r=>if g.1 < f.1 then g :: QmT f r else if g.1=f.1 then f :: r else f :: g :: r
def Qu7 (l more:List FlP):List FlP:=more.foldl (fun a f=>QmT f a) l
theorem mem_insL{f x:FlP}:∀ {l:List FlP},x∈QmT f l->x=f\/x∈l
 | [],h=>Or.inl (by simpa[QmT]using h)
 |g::r,h=>by
  rw[QmT]at h
  split at h
  ·rcases List.mem_cons.1 h with h|h
   ·exact Or.inr (by simp[h])
   ·rcases mem_insL h with h|h
    ·exact Or.inl h
    ·exact Or.inr (by simp[h])
  ·split at h
   ·rcases List.mem_cons.1 h with h|h
    ·exact Or.inl h
    ·exact Or.inr (by simp[h])
   ·rcases List.mem_cons.1 h with h|h
    ·exact Or.inl h
    ·exact Or.inr h
theorem Qhj{f:FlP}{x:L8}{s:L8}:∀ {l:List FlP},l.Pairwise (fun a b=>a.1<b.1)->((x,s)∈QmT f l↔(x,s)=f\/((x,s)∈l/\x≠f.1))
 | [],_=>by simp[QmT]
 |g::r,h=>by
  obtain⟨h1,h2⟩:=List.pairwise_cons.1 h;rw[QmT];split
  ·rename_i hlt;rw[List.mem_cons,Qhj h2,List.mem_cons];constructor
   ·rintro(e|e | ⟨e1,e2⟩)
    ·refine Or.inr ⟨Or.inl e,fun e'=>?_⟩;have:g.1=f.1:=by rw[<-e,<-e']
     rw[this]at hlt;exact List.lt_irrefl _ hlt
    ·exact Or.inl e
    ·exact Or.inr ⟨Or.inr e1,e2⟩
   ·rintro(e | ⟨e|e,e2⟩)
    ·exact Or.inr (Or.inl e)
    ·exact Or.inl e
    ·exact Or.inr (Or.inr ⟨e,e2⟩)
  ·rename_i hlt;split
   ·rename_i he;rw[List.mem_cons,List.mem_cons];constructor
    ·rintro(e|e)
     ·exact Or.inl e
     ·refine Or.inr ⟨Or.inr e,fun e'=>?_⟩;have:=h1 _ e;rw[he,<-e']at this;exact List.lt_irrefl _ this
    ·rintro(e | ⟨e|e,e2⟩)
     ·exact Or.inl e
     ·exact absurd (by rw[<-he,<-e]) e2
     ·exact Or.inr e
   ·rename_i he;rw[List.mem_cons];constructor
    ·rintro(e|e)
     ·exact Or.inl e
     ·refine Or.inr ⟨e,fun e'=>?_⟩;rcases List.mem_cons.1 e with e|e
      ·exact he (by rw[<-e,<-e'])
      ·have h3:=h1 _ e;rw[show(x,s).1=f.1 from e']at h3;exact hlt h3
    ·rintro(e | ⟨e,_⟩)
     ·exact Or.inl e
     ·exact Or.inr e
theorem QtK{f:FlP}:∀ {l:List FlP},l.Pairwise (fun a b=>a.1<b.1)->(QmT f l).Pairwise (fun a b=>a.1<b.1)
 | [],_=>by simp[QmT]
 |g::r,h=>by
  obtain⟨h1,h2⟩:=List.pairwise_cons.1 h;rw[QmT];split
  ·rename_i hlt;refine List.pairwise_cons.2 ⟨fun x hx=>?_,QtK h2⟩;rcases mem_insL hx with rfl|hx
   ·exact hlt
   ·exact h1 x hx
  ·rename_i hlt;split
   ·rename_i he;exact List.pairwise_cons.2 ⟨fun x hx=>by rw[<-he];exact h1 x hx,h2⟩
   ·rename_i he;have aa:f.1<g.1:=Qnp hlt (fun e=>he e.symm);refine List.pairwise_cons.2 ⟨fun x hx=>?_,h⟩;rcases List.mem_cons.1 hx with rfl|hx
    ·exact aa
    ·exact List.lt_trans aa (h1 x hx)
theorem Qsp{F:Fs}{l:List FlP}(h:Lists F l)(f:FlP):Lists (Que F f) (QmT f l):=by
 refine⟨QtK h.1,fun x s=>?_⟩;rw[Qhj h.1,h.2];show _↔(if x=f.1 then some f.2 else F x)=some s
 by_cases e:x=f.1
 ·rw[if_pos e];constructor
  ·rintro(h | ⟨_,h⟩)
   ·rw[<-h]
   ·exact absurd e h
  ·intro h;injection h with h;exact Or.inl (by rw[e,<-h])
 ·rw[if_neg e];constructor
  ·rintro(h | ⟨h,_⟩)
   ·exact absurd (by rw[<-h]) e
   ·exact h
  ·intro h;exact Or.inr ⟨h,e⟩
theorem QtC(fs:List FlP):∀ {F:Fs} {l:List FlP},Lists F l->Lists (Qbo F fs) (Qu7 l fs):=by
 induction fs with
 |nil=>intro F l h;exact h
 |cons f r ih=>intro F l h;exact ih (Qsp h f)
theorem QrI:Lists noF []:=⟨List.Pairwise.nil,fun x s=>⟨fun h=>(by cases h),fun h=>(by cases h)⟩⟩
def Qq4 (a:Int×L8):Prop:=(a.1=1∧a.2=[])∨(a.1=2∧Qbp a.2=true)∨(a.1=3∧a.2.length≤32)∨(a.1=4∧a.2.length≤48)
def QeK (l:List (Int×L8)):Prop:=l.length≤6∧l.Nodup∧∀ a∈l,Qq4 a
theorem Qh7:QeK [(1,[])]:=⟨by decide,by simp,fun a ha=>by rw[List.mem_singleton.1 ha];exact Or.inl ⟨rfl,rfl⟩⟩
theorem Quk(s:SS):expL s []=[]:=by
 unfold expL;split
 ·unfold Qqm;rw[if_neg (by rintro⟨h,_⟩;exact h rfl)]
 ·rfl
theorem Qwm{met:List (Int×L8)}{kind:Int}{arg:L8}(h:QeK met)(hk:(kind=1/\arg=[])\/(2<=kind/\kind<=4))(h0:(addL met kind arg).1=0):QeK (addL met kind arg).2:=by
 unfold addL at h0 ⊢;by_cases c1:kind=2/\Qbp arg=false
 ·rw[if_pos c1]at h0;dsimp only at h0;omega
 rw[if_neg c1]at h0 ⊢;by_cases c2:kind=3/\QbN arg=false
 ·rw[if_pos c2]at h0;dsimp only at h0;omega
 rw[if_neg c2]at h0 ⊢;by_cases c3:(kind,cutArg kind arg)∈met
 ·rw[if_pos c3];exact h
 rw[if_neg c3]at h0 ⊢;by_cases c4:met≠[]/\(kind=4\/(met.headD (0,[])).1=4)
 ·rw[if_pos c4]at h0;dsimp only at h0;omega
 rw[if_neg c4]at h0 ⊢;by_cases c5:met.length=6
 ·rw[if_pos c5]at h0;dsimp only at h0;omega
 rw[if_neg c5];obtain⟨a1,a2,a3⟩:=h;refine⟨by simp only[List.length_append,List.length_singleton];omega,?_,fun a ha=>?_⟩
 ·rw[List.nodup_append];refine⟨a2,by simp,fun a ha b hb=>?_⟩;rw[List.mem_singleton.1 hb];exact fun e=>c3 (e ▸ ha)
 ·rcases List.mem_append.1 ha with ha|ha
  ·exact a3 a ha
  ·rw[List.mem_singleton.1 ha];have aa:kind≠4->cutArg kind arg=arg:=fun h=>by unfold cutArg;rw[if_neg h]
   rcases hk with⟨rfl,rfl⟩|hk
   ·exact Or.inl ⟨rfl,by rw[aa (by decide)]⟩
   ·by_cases e2:kind=2
    ·refine Or.inr (Or.inl ⟨e2,?_⟩);rw[aa (by omega)]
     cases hb:Qbp arg with
     |true=>rfl
     |false=>exact absurd ⟨e2,hb⟩ c1
    ·by_cases e3:kind=3
     ·refine Or.inr (Or.inr (Or.inl ⟨e3,?_⟩));rw[aa (by omega)]
      cases hb:QbN arg with
      |false=>exact absurd ⟨e3,hb⟩ c2
      |true=>
       unfold QbN at hb;simp only[Bool.and_eq_true,decide_eq_true_eq]at hb;exact hb.2.1
     ·have e4:kind=4:=by omega
      refine Or.inr (Or.inr (Or.inr ⟨e4,?_⟩));unfold cutArg;rw[if_pos e4,List.length_take];omega
theorem Qu2{v:Bool}{m m':MS}(h:Qjz v m=.ok m'):m'.st=m.st:=by
 unfold Qjz at h
 split at h
 ·cases h;rfl
 ·cases h
theorem QtP{i:Ins}{m m':MS}{x:L8}(hm:QeK m.st.met)(hk:(i.tag=1/\x=[])\/(2<=i.tag/\i.tag<=4))(h:QvY i m x=.ok m'):QeK m'.st.met:=by
 unfold QvY at h
 split at h
 ·next h0=>
  cases h;refine Qwm hm ?_ h0;rcases hk with⟨h1,rfl⟩|hk
  ·exact Or.inl ⟨h1,Quk _⟩
  ·exact Or.inr hk
 ·cases h
theorem QuD(s:SS)(tag:Int)(oct:Bool)(vals keys:List (L8)):(askL s tag oct vals keys).2.met=s.met:=by
 unfold askL;split
 ·rfl
 ·dsimp only;split<;>rfl
theorem Qto{M:Msg}{aa:Nat}{i:Ins}{m m':MS}(hm:QeK m.st.met)(h:Qk9 M aa i m=.ok m'):QeK m'.st.met:=by
 have ab:m'.st.met=m.st.met->QeK m'.st.met:=fun e=>by rw[e];exact hm
 have hp:∀ {v:Bool} {m0:MS},m0.st.met=m.st.met->Qjz v m0=.ok m'->QeK m'.st.met:=fun e h=>ab (by rw[Qu2 h,e])
 have hc:∀ tk,doCond tk aa i m=.ok m'->QeK m'.st.met:=fun tk h=>by
  unfold doCond Qb1 at h
  split at h
  ·split at h
   ·cases h
   ·cases h;refine ab ?_;split<;>rfl
  ·cases h
 have ha:∀ vals,doAsk vals i m=.ok m'->QeK m'.st.met:=fun vals h=>by
  unfold doAsk QpL Qb1 at h
  split at h
  ·exact hp (m0:=stL m _) (by show(askL m.st i.tag i.oct vals i.b).2.met=_;exact QuD _ _ _ _ _) h
  ·cases h
 unfold Qk9 at h;by_cases c:i.op=1
 ·rw[if_pos c]at h;unfold Qgo Qb1 at h
  split at h
  ·exact hp rfl h
  ·cases h
 rw[if_neg c]at h;clear c;by_cases c:i.op=2
 ·rw[if_pos c]at h;unfold QlC Qb1 at h
  split at h
  ·cases h
  ·exact hp (m0:=QoD m) rfl h
 rw[if_neg c]at h;clear c;by_cases c:i.op=3
 ·rw[if_pos c]at h;unfold QgA Qb1 at h
  split at h
  ·cases h;exact ab rfl
  ·cases h
 rw[if_neg c]at h;clear c;by_cases c:i.op=4
 ·rw[if_pos c]at h;exact hc _ h
 rw[if_neg c]at h;clear c;by_cases c:i.op=5
 ·rw[if_pos c]at h;exact hc _ h
 rw[if_neg c]at h;clear c;by_cases c:i.op=6
 ·rw[if_pos c]at h;exact ha _ h
 rw[if_neg c]at h;clear c;by_cases c:i.op=7
 ·rw[if_pos c]at h;exact ha _ h
 rw[if_neg c]at h;clear c;by_cases c:i.op=8
 ·rw[if_pos c]at h;exact ha _ h
 rw[if_neg c]at h;clear c;by_cases c:i.op=9
 ·rw[if_pos c]at h;exact hp rfl h
 rw[if_neg c]at h;clear c;by_cases c:i.op=10
 ·rw[if_pos c]at h;unfold Qf1 Qb1 at h
  split at h
  ·exact hp rfl h
  ·cases h
 rw[if_neg c]at h;clear c;by_cases c:i.op=11
 ·rw[if_pos c]at h;unfold QgK Qb1 at h
  split at h
  ·next h1=>exact QtP hm (Or.inl ⟨h1,rfl⟩) h
  ·split at h
   ·next h1=>exact QtP hm (Or.inr ⟨h1.1,h1.2.1⟩) h
   ·cases h
 rw[if_neg c]at h;clear c;by_cases c:i.op=12
 ·rw[if_pos c]at h;unfold QkB Qb1 at h
  split at h
  ·cases h;exact ab rfl
  ·cases h
 rw[if_neg c]at h;clear c;by_cases c:i.op=13
 ·rw[if_pos c]at h;cases h;exact ab rfl
 rw[if_neg c]at h;clear c;by_cases c:i.op=14
 ·rw[if_pos c]at h;cases h;exact ab rfl
 rw[if_neg c]at h;clear c;cases h
theorem QmR{M:Msg}{aa:List Ins}:∀(f:Nat) (m:MS) (d:Nat) (m':MS) (d':Nat),QeK m.st.met->QfL M aa f m d=(.ok m',d')->QeK m'.st.met
 |0,m,d,m',d',hm,h=>by
  rw[QfL]at h;injection h with h _
  injection h with h
  rw[<-h];exact hm
 |f+1,m,d,m',d',hm,h=>by
  rw[QfL]at h
  split at h
  ·split at h
   ·injection h with h _;cases h
   ·next m1 h1=>exact QmR f m1 (d+1) m' d' (Qto (m:=atL m) hm h1) h
  ·injection h with h _
   injection h with h
   rw[<-h];exact hm
theorem Qt2(v:Bool)(aa:List Ins)(M:Msg):QeK (execL v aa M).1:=by
 unfold execL;split
 ·exact Qh7
 ·split
  ·exact Qh7
  ·next m d h=>
   have hm:=QmR _ _ _ _ _ (show QeK (ms0 v).st.met from⟨Nat.zero_le _,List.nodup_nil,fun a ha=>by cases ha⟩) h;show QeK (Qwn m.st)
   unfold Qwn;split
   ·exact Qh7
   ·exact hm
theorem Qrp{id text:L8}(n:Nat){a:Int×L8}(h:Qq4 a):∃ f,fileL id text n a=.ok f:=by
 unfold fileL;rcases h with⟨e,_⟩ | ⟨e,hb⟩ | ⟨e,_⟩ | ⟨e,_⟩
 ·rw[if_pos e];exact⟨_,rfl⟩
 ·rw[if_neg (by omega),if_pos e,if_pos hb];exact⟨_,rfl⟩
 ·rw[if_neg (by omega),if_neg (by omega),if_pos e];exact⟨_,rfl⟩
 ·rw[if_neg (by omega),if_neg (by omega),if_neg (by omega),if_pos e];exact⟨_,rfl⟩
theorem Qhk{id text:L8}:∀(r:List (Int×L8)) (n:Nat),(∀ a∈r,Qq4 a)->∃ fs,fTo id text n r=.ok fs
 | [],n,_=>⟨[],rfl⟩
 |a::r,n,h=>by
  obtain⟨f,hf⟩:=Qrp (id:=id) (text:=text) n (h a List.mem_cons_self);obtain⟨fs,aa⟩:=Qhk r (n+1) (fun b hb=>h b (List.mem_cons_of_mem _ hb));exact⟨f::fs,by rw[fTo,hf];dsimp only;rw[aa]⟩
theorem Qhr{id text:L8}:∀(r:List (Int×L8)) (n:Nat) (fs:List (L8×L8)),fTo id text n r=.ok fs->∀ f∈fs,∃ i a,n<=i/\a∈r/\fileL id text i a=.ok f
 | [],n,fs,h,f,hf=>by rw[fTo]at h;cases h;cases hf
 |a::r,n,fs,h,f,hf=>by
  rw[fTo]at h
  cases h1:fileL id text n a with
  |error e=>rw[h1]at h;cases h
  |ok g=>
   rw[h1]at h;dsimp only at h
   cases h2:fTo id text (n+1) r with
   |error e=>rw[h2]at h;cases h
   |ok l=>
    rw[h2]at h;cases h;rcases List.mem_cons.1 hf with rfl|hf
    ·exact⟨n,a,Nat.le_refl _,List.mem_cons_self,h1⟩
    ·obtain⟨i,b,hi,hb,hh⟩:=Qhr r (n+1) l h2 f hf;exact⟨i,b,by omega,List.mem_cons_of_mem _ hb,hh⟩
theorem Qs9{i j:Nat}(h:iL i=iL j):i=j:=by
 have h1:=Qgb i;rw[h,Qgb j]at h1;injection h1 with h1
 omega
def QsS (id:L8) (n:Nat) (a:Int×L8):L8:=
 if a.1=1 then Qh5++id else if a.1=2 then Qvf++a.2++[47]++id else QxV++id++[46]++iL n
theorem Qj3{id text:L8}{n:Nat}{a:Int×L8}{f:L8×L8}(h:fileL id text n a=.ok f):f.1=QsS id n a:=by
 unfold fileL at h;unfold QsS
 split at h
 ·next e=>cases h;rw[if_pos e]
 next e1=>
 rw[if_neg e1]
 split at h
 ·next e=>
  rw[if_pos e]
  split at h
  ·cases h;rfl
  ·cases h
 next e2=>
 rw[if_neg e2]
 split at h
 ·cases h;rfl
 ·split at h
  ·cases h;rfl
  ·cases h
theorem QvG{id:L8}{i j:Nat}{a b:Int×L8}(ha:Qq4 a)(hb:Qq4 b)(ab:i≠j)(aa:a≠b):QsS id i a≠QsS id j b:=by
 intro h;unfold QsS at h;by_cases a1:a.1=1
 ·rw[if_pos a1]at h;by_cases b1:b.1=1
  ·rcases ha with⟨_,e1⟩ | ⟨e,_⟩ | ⟨e,_⟩ | ⟨e,_⟩
   ·rcases hb with⟨_,e2⟩ | ⟨e,_⟩ | ⟨e,_⟩ | ⟨e,_⟩
    ·exact aa (Prod.ext (a1.trans b1.symm) (e1.trans e2.symm))
    all_goals omega
   all_goals omega
  ·rw[if_neg b1]at h
   split at h
   ·injection h with h _;cases h
   ·injection h with h _;cases h
 rw[if_neg a1]at h;by_cases a2:a.1=2
 ·rw[if_pos a2]at h;by_cases b1:b.1=1
  ·rw[if_pos b1]at h;injection h with h _;cases h
  rw[if_neg b1]at h;by_cases b2:b.1=2
  ·rw[if_pos b2]at h;have h1:Qvf++a.2=Qvf++b.2:=List.append_cancel_right (List.append_cancel_right h);exact aa (Prod.ext (a2.trans b2.symm) (List.append_cancel_left h1))
  ·rw[if_neg b2]at h;injection h with h _;cases h
 rw[if_neg a2]at h;by_cases b1:b.1=1
 ·rw[if_pos b1]at h;injection h with h _;cases h
 rw[if_neg b1]at h;by_cases b2:b.1=2
 ·rw[if_pos b2]at h;injection h with h _;cases h
 rw[if_neg b2]at h;exact ab (Qs9 (List.append_cancel_left h))
theorem Qgq{id text:L8}:∀(r:List (Int×L8)) (n:Nat) (fs:List (L8×L8)),fTo id text n r=.ok fs->r.Nodup->(∀ a∈r,Qq4 a)->fs.Pairwise (fun f g=>f.1≠g.1)
 | [],n,fs,h,_,_=>by rw[fTo]at h;cases h;exact List.Pairwise.nil
 |a::r,n,fs,h,hnd,hok=>by
  rw[fTo]at h
  cases h1:fileL id text n a with
  |error e=>rw[h1]at h;cases h
  |ok g=>
   rw[h1]at h;dsimp only at h
   cases h2:fTo id text (n+1) r with
   |error e=>rw[h2]at h;cases h
   |ok l=>
    rw[h2]at h;cases h;obtain⟨n1,n2⟩:=List.nodup_cons.1 hnd;refine List.Pairwise.cons (fun f hf=>?_) (Qgq r (n+1) l h2 n2 (fun b hb=>hok b (List.mem_cons_of_mem _ hb)));obtain⟨i,b,hi,hb,hh⟩:=Qhr r (n+1) l h2 f hf;rw[Qj3 h1,Qj3 hh];exact QvG (hok a List.mem_cons_self) (hok b (List.mem_cons_of_mem _ hb)) (by omega) (fun e=>n1 (e ▸ hb))
theorem Qp9{f:FlP}:∀ {l:List FlP},(∀ g∈l,g.1≠f.1)->(QmT f l).length=l.length+1
 | [],_=>by simp[QmT]
 |g::r,h=>by
  rw[QmT];split
  ·simp[Qp9 (l:=r) (fun x hx=>h x (List.mem_cons_of_mem _ hx))]
  ·split
   ·next e=>exact absurd e (h g List.mem_cons_self)
   ·simp
theorem Qm9:∀(fs l:List FlP),fs.Pairwise (fun f g=>f.1≠g.1)->(∀ f∈fs,∀ g∈l,g.1≠f.1)->(Qu7 l fs).length=l.length+fs.length
 | [],l,_,_=>by simp[Qu7]
 |f::r,l,hp,h=>by
  show(Qu7 (QmT f l) r).length=_
  obtain⟨p1,p2⟩:=List.pairwise_cons.1 hp;rw[Qm9 r (QmT f l) p2 (fun g hg x hx=>?_),Qp9 (h f List.mem_cons_self)]
  ·simp only[List.length_cons];omega
  ·rcases mem_insL hx with rfl|hx
   ·exact p1 g hg
   ·exact h g (List.mem_cons_of_mem _ hg) x hx
theorem QrP{id text:L8}{aa:List (Int×L8)}(hi:Qeu id=true)(h:QeK aa):∃ fs,filesL id aa text=.ok fs/\fs.length=aa.length/\∀ l,Lists (Qbo noF fs) l->l.length=aa.length:=by
 obtain⟨h6,ad,ac⟩:=h;obtain⟨fs,ab⟩:=Qhk (id:=id) (text:=text) aa 0 ac;have hl:=QfB _ _ _ ab;refine⟨fs,by unfold filesL;rw[if_pos hi,if_neg (by omega),ab],hl,fun l hll=>?_⟩;have h1:=QtL hll (QtC fs QrI);rw[h1,Qm9 fs [] (Qgq aa 0 fs ab ad ac) (fun f _ g hg=>by cases hg)];simp only[List.length_nil];omega
end Go.Proofs.YthkibedbcbgajaaGreatDoor
