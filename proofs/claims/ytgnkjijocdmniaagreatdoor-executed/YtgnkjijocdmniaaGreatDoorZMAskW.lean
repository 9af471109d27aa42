import Derived.Test.YtgnkjijocdmniaaGreatDoorZLMarksA
namespace Go.Proofs.YtgnkjijocdmniaaGreatDoor
set_option linter.unusedVariables false
set_option linter.unusedSimpArgs false
set_option maxRecDepth 100000
set_option maxHeartbeats 4000000
open Go.Proofs.Tryz
open Go.RowKit
attribute [local go_sem ↓] Go.wp_at_zero Go.wp_at_succ
variable{B count sb xb:Nat}{M:Msg}{a:Array Value}{e:Ending}{f:Nat×Nat}{m:MS}{o:Obj}{s:SS}{t:TypeId}{w w':World}
theorem VD{m k:Nat}(h:k≠m):({ w with heap:=w.heap.setIfInBounds m o }:World).heap[k]?=w.heap[k]?:=by
 show(w.heap.setIfInBounds m o)[k]?=_
 rw[Array.getElem?_setIfInBounds_ne (Ne.symm h)]
theorem Fy{m:Nat}{o':Obj}(h:w.heap[m]?=some o'):({ w with heap:=w.heap.setIfInBounds m o }:World).heap[m]?=some o:=by
 show(w.heap.setIfInBounds m o)[m]?=_
 exact(MapKept.heap_set h).1
theorem SI.setMap{A:Value}{i:Nat}{D C:Value}(h:SI w B sb M s A i D C)(z:L8->Option (L8))(j:Array MapEntry)(c':Nat)(N:Kg j (Kh ⟨s.vs,z,s.told,s.met,s.disc⟩))(l:∀ x t,z x=some t->t.length<=48) :
 SI { w with heap:=w.heap.setIfInBounds i (.map j c') } B sb M ⟨s.vs,z,s.told,s.met,s.disc⟩ A i D C/\Fr (PSt B) w { w with heap:=w.heap.setIfInBounds i (.map j c') }:=by
 obtain⟨P,c,y,Q⟩:=h.mp
 have p:∀(k:Nat) (o:Obj),w.heap[k]?=some o->(∀ d t f,o=.cells d t f->({ w with heap:=w.heap.setIfInBounds i (.map j c') }:World).heap[k]?=some o):=fun k o b d t f L=>by
  rw[VD (fun e=>by subst e;rw[y]at b;cases b;cases L)];exact b
 obtain⟨m,H⟩:=h.m1;refine⟨⟨h.bs,h.bm,h.b1,⟨m,?_⟩,p _ _ h.blk _ _ _ rfl,?_,⟨j,c',Fy y,N⟩,?_,?_,h.mn,⟨h.bd.fr,h.bd.tu,h.bd.hl,h.bd.hd,h.bd.told,h.bd.tl,l,h.bd.met⟩⟩,⟨rfl,rfl,rfl,by simp,fun k o b hn=>?_⟩⟩
 ·have:(1:Nat)≠i:=by have:=h.b1;have:=h.bm;omega
  rw[ZA (a:=⟨1,0,none⟩) (w:=w) (VD this)];exact H
 ·rcases h.hd with q | ⟨g,c,d,n,l,v⟩
  ·exact Qd q
  ·exact Qc ⟨g,c,d,n,p _ _ l _ _ _ rfl,v⟩
 ·rcases h.told with q | ⟨g,c,n,d,l,v⟩
  ·exact Qd q
  ·exact Qc ⟨g,c,n,d,p _ _ l _ _ _ rfl,v⟩
 ·obtain⟨G,u⟩:=h.met;refine⟨G,?_⟩;rcases u with u | ⟨g,E,F,n,J,K,r⟩
  ·exact Qd u
  ·exact Qc ⟨g,E,F,n,J,p _ _ K _ _ _ rfl,r⟩
 ·rw [VD (fun e=>by
   subst e;rw[y]at b;cases b
   exact hn ⟨h.bm,rfl⟩)]
  exact b
theorem SK(x:L8)(w:World)(h:x.length<=1000000):Calls prog 253 #[.string (sA x)] w fun e w'=>e=.returned (.string (sA (capL x)))/\Below w.heap.size w w':=
 I9 (sA x) w (by rw[QN];omega)
theorem TF(s:SS)(name:L8)(tag:Int)(said:L8):KQ s name tag said=⟨s.vs,fun x=>if x=name then some ((turnL tag (expL s said)).take 48)else s.vals x,s.told,s.met,s.disc⟩:=rfl
theorem Wc:∀ n:Nat,n<=1000000->(Lib.decDigits n).length<=1000000:=fun n hn=>by
 rw[Lib.decDigits_length];have:=Lib.nDigits_le20 n (by omega);omega
theorem Wt(B sb:Nat)(M:Msg)(s:SS)(r:L8)(tag:Int)(u:L8)(w:World)(h:SAt w B sb M s)(Z:Tab w)(Y:u.length<=1000000) :
 Calls prog 211 #[.pointer (some ⟨sb,0,none⟩),.string (sA r),.int .i64 tag,.string (sA u)] w (Ge (.ok (KQ s r tag u)) B sb M w):=by
 have S:=I h;have aa:=I Z;have i:=I (TF s r tag u);have U:=Ya tag 1;have V:=Ya tag 2;have W:=Ya tag 3;have C:=AQ s u 1000000 Y (by decide);go_enter func211,ntmps211;go_wp2_with fail;refine(AJ B sb M s u w h Y).mono ?_;rintro e k ⟨rfl,X⟩;obtain⟨x,p⟩:=Qe (expL s u);rw[p]at i C;rw[p];have l:=I X;clear p X h Z;by_cases t1:tag=1
 case' pos=>
  rw[Qw t1]at U;subst t1;go_wp2_with fail;refine(VK x k C).mono ?_;rintro e f ⟨rfl,v⟩;have m:=I (l.o.trans (v.mono l.o.size));obtain⟨y,d⟩:=Qe (zL x);have K:y.length<=1000000:=by rw[<-d];simp[zL];omega
  rw[show turnL 1 x=y from d]at i
 case' neg=>
  rw[Qh t1]at U;by_cases t2:tag=2
  case' pos=>
   rw[Qw t2]at V;subst t2;go_wp2_with fail;refine(SK x k C).mono ?_;rintro e f ⟨rfl,v⟩;have m:=I (l.o.trans (v.mono l.o.size));obtain⟨y,d⟩:=Qe (capL x);have K:y.length<=1000000:=by rw[<-d];simp[capL];omega
   rw[show turnL 2 x=y from d]at i
  case' neg=>
   rw[Qh t2]at V;by_cases t3:tag=3
   case' pos=>
    rw[Qw t3]at W;subst t3;have ag:=QN x;go_wp2_with fail;refine(Rm x.length (by omega) k (aa.o.below l.o)).mono ?_;rintro e f ⟨rfl,v⟩;have m:=I (l.o.trans (v.mono l.o.size));obtain⟨y,d⟩:=Qe (iL x.length);have K:y.length<=1000000:=by rw[<-d];exact Wc _ C
    rw[show turnL 3 x=y from d]at i
   case' neg=>
    rw[Qh t3]at W;rw[show turnL tag x=x by unfold turnL;rw[if_neg t1,if_neg t2,if_neg t3]]at i;obtain⟨y,d⟩:=Qe (x);subst d;obtain⟨f,ae⟩:=Qe (k);subst ae;have m:=l;have K:=C;clear t1 t2 t3;go_wp2_with fail;obtain⟨z,j⟩:=Qe (x.take 48);have L:z.length<=48:=by rw[<-j,List.length_take];omega
    obtain⟨q,D⟩:∃ q:Nat,q=min x.length 48:=⟨_,rfl⟩;have hq:min (x.length:Int) 48=(q:Int):=by omega
    have ad:(q:Int)<=(x.length:Int):=by omega
    have ab:(sA x).extract 0 q=sA z:=by
     rw[U1,<-j,D];rcases Nat.le_total x.length 48 with hh|hh
     ·rw[Nat.min_eq_left hh,List.take_of_length_le Ql,List.take_of_length_le hh]
     ·rw[Nat.min_eq_right hh]
    have af:=QN x;obtain⟨J,c,Q,P,b⟩:=S.o.below (Zq m.o);have HSI:=I b;obtain⟨es,mc,n,E⟩:=b.mp;have N:k.cell? ⟨sb,5,none⟩=some (.map (some c)):=b.cell 5;rw[j]at i;obtain⟨es',c',ac,F⟩:=Ek (T:=270) (g:=Kh ⟨s.vs,fun x=>if x=r then some z else s.vals x,s.told,s.met,s.disc⟩) underlying270 underlying9 n E r (.agg #[.string (sA z)]) (by unfold Kh;simp) (fun x p=>by unfold Kh;simp[p]);have HU:=I F;have HBD:=I b.bd;have H:sb≠c:=fun e=>by have A:=b.blk;rw[e,n]at A;cases A
    have G:Hid (({ k.drew with heap:=k.drew.heap.setIfInBounds c (.map es' c') }:World).cell? ⟨sb,5,none⟩=some (.map (some c))):=(ZA (a:=⟨sb,5,none⟩) (w:=k) (VD (w:=k.drew) H)).trans N;clear b n E F j D;go_region_held3 (fun R=>R.cell? ⟨sb,5,none⟩=some (.map (some c))) (first|go_keep|exact G.o) (fail)
    all_goals go_wp2
    all_goals go_end0
    all_goals have hfin:=HSI.o.setMap _ es' c' HU.o (fun a t hat=>by
     split at hat
     ·cases hat;exact L
     ·exact HBD.o.vals a t hat)
    all_goals refine⟨(Fr.of_below (Zq m.o)).trans hfin.2,?_⟩
    all_goals rw[i.o]
    all_goals exact⟨rfl,J,c,Q,P,hfin.1⟩
 all_goals
  rw[d];clear d v;go_wp2_with fail;obtain⟨z,j⟩:=Qe (y.take 48);have L:z.length<=48:=by rw[<-j,List.length_take];omega
  obtain⟨q,D⟩:∃ q:Nat,q=min y.length 48:=⟨_,rfl⟩;have hq:min (y.length:Int) 48=(q:Int):=by omega
  have ad:(q:Int)<=(y.length:Int):=by omega
  have ab:(sA y).extract 0 q=sA z:=by
   rw[U1,<-j,D];rcases Nat.le_total y.length 48 with hh|hh
   ·rw[Nat.min_eq_left hh,List.take_of_length_le Ql,List.take_of_length_le hh]
   ·rw[Nat.min_eq_right hh]
  have af:=QN y;obtain⟨J,c,Q,P,b⟩:=S.o.below (Zq m.o);have HSI:=I b;obtain⟨es,mc,n,E⟩:=b.mp;have N:f.cell? ⟨sb,5,none⟩=some (.map (some c)):=b.cell 5;rw[j]at i;obtain⟨es',c',ac,F⟩:=Ek (T:=270) (g:=Kh ⟨s.vs,fun x=>if x=r then some z else s.vals x,s.told,s.met,s.disc⟩) underlying270 underlying9 n E r (.agg #[.string (sA z)]) (by unfold Kh;simp) (fun x p=>by unfold Kh;simp[p]);have HU:=I F;have HBD:=I b.bd;have H:sb≠c:=fun e=>by have A:=b.blk;rw[e,n]at A;cases A
  have G:Hid (({ f.drew with heap:=f.drew.heap.setIfInBounds c (.map es' c') }:World).cell? ⟨sb,5,none⟩=some (.map (some c))):=(ZA (a:=⟨sb,5,none⟩) (w:=f) (VD (w:=f.drew) H)).trans N;clear b n E F j D;go_region_held3 (fun R=>R.cell? ⟨sb,5,none⟩=some (.map (some c))) (first|go_keep|exact G.o) (fail)
  all_goals go_wp2
  all_goals go_end0
  all_goals have hfin:=HSI.o.setMap _ es' c' HU.o (fun a t hat=>by
   split at hat
   ·cases hat;exact L
   ·exact HBD.o.vals a t hat)
  all_goals refine⟨(Fr.of_below (Zq m.o)).trans hfin.2,?_⟩
  all_goals rw[i.o]
  all_goals exact⟨rfl,J,c,Q,P,hfin.1⟩
theorem Tryz.infoBool:(prog.info? 4).map (fun i=>(i.zero,i.size,i.bytes))=some (some (.bool false),1,1):=by kernel_rfl
def Ja(l:List Bool):List Value:=l.map Value.bool
theorem IA(l:List Bool)(b:Bool):Ja l++[.bool b]=Ja (l++[b]):=by simp[Ja]
def Ko(sb:Nat)(kv:Value)(now next count:Nat):Array Value:=#[.pointer (some ⟨sb,0,none⟩),kv,.int .i64 (now:Int),.int .i64 (next:Int),.int .i64 (count:Int)]
def kO(late:Bool):Obj->Bool
 | .cells _ t _=>t==188 || (t==4&&late)
 |_=>false
def PK(B xb k:Nat)(o:Obj):Prop:=B<=k/\kO (decide (xb+7<=k)) o=true
def PMc(B xb k:Nat)(o:Obj):Prop:=B<=k/\(kO (decide (xb+7<=k)) o || stO o)=true
theorem PMc.st{B xb k:Nat}(h:PSt B k o):PMc B xb k o:=⟨h.1,by rw[h.2,Bool.or_true]⟩
theorem PMc.k{B xb k:Nat}{o:Obj}(h:PK B xb k o):PMc B xb k o:=⟨h.1,by rw[h.2,Bool.true_or]⟩
theorem PK.not{B xb k:Nat}(b:t≠188)(c:t≠4):¬ PK B xb k (.cells a t f):=fun h=>by
 have:=h.2;unfold kO at this;simp at this;rcases this with h|h
 ·exact b h
 ·exact c h.1
theorem PMc.not{B xb k:Nat}(b:t≠188)(c:t≠4)(d:t≠274)(e:t≠52):¬ PMc B xb k (.cells a t f):=fun h=>by
 have:=h.2;unfold kO stO at this;simp at this;rcases this with(h|h)|(h|h)
 ·exact b h
 ·exact c h.1
 ·exact d h
 ·exact e h
theorem SlT.pm{v:Value}{zs:Qa}(h:SlT w v zs)(hf:Fr (PMc B xb) w w'):SlT w' v zs:=h.fr hf (fun _ _=>PMc.not (by decide) (by decide) (by decide) (by decide))
structure MI (w:World) (B xb sb:Nat) (M:Msg) (m:MS) (count:Nat) (kv:Value):Prop where
 bx:B<=xb
 blk:w.heap[xb]?=some (.cells (Ko sb kv m.now m.next count) 188)
 st:SAt w B sb M m.st
 stack:w.ownsRow (xb+7) 4 1 kv m.stack.length (Ja m.stack)
 sl:m.stack.length<=8
 nw:m.now<=400
 nx:m.next<=count
 cl:count<=400
 kz:xb+7<=w.heap.size
def MAt(w:World)(B xb sb:Nat)(M:Msg)(m:MS)(count:Nat):Prop:=∃ kv,MI w B xb sb M m count kv
theorem MI.below{w w':World}{B xb sb:Nat}{M:Msg}{m:MS}{count:Nat}{kv:Value}(h:MI w B xb sb M m count kv)(hb:Below w.heap.size w w'):MI w' B xb sb M m count kv:=
 ⟨h.bx,QP h.blk hb,h.st.below hb,Xe (P:=fun _ _=>False) h.stack (Fr.of_below hb) (fun _ _ h=>h),h.sl,h.nw,h.nx,h.cl,Qs h.kz hb.size⟩
theorem MAt.below{w w':World}{B xb sb:Nat}{M:Msg}{m:MS}{a:Nat}(h:MAt w B xb sb M m a)(b:Below w.heap.size w w'):MAt w' B xb sb M m a:=by
 obtain⟨c,h⟩:=h;exact⟨c,h.below b⟩
theorem MI.st'{kv:Value}(h:MI w B xb sb M m count kv)(hs:SAt w' B sb M s)(hf:Fr (PSt B) w w'):MI w' B xb sb M (stL m s) count kv:=
 ⟨h.bx,hf.block _ _ h.blk (PSt.not (by decide) (by decide)),hs,Xe h.stack hf (fun _ _=>PSt.not (by decide) (by decide)),h.sl,h.nw,h.nx,h.cl,Qs h.kz hf.size⟩
theorem SAt.pk(h:SAt w B sb M s)(b:Fr (PK B xb) w w'):SAt w' B sb M s:=by
 obtain⟨c,d,f,e,h⟩:=h;exact⟨c,d,f,e,h.fr b (fun _ _=>PK.not (by decide) (by decide)) (fun _ _=>PK.not (by decide) (by decide)) (fun _ _=>PK.not (by decide) (by decide)) (fun _ _=>PK.not (by decide) (by decide)) (fun _ _ _ h=>Bool.false_ne_true h.2) (fun _ a=>by have:=a.1;have:=h.b1;omega)⟩
theorem MI.set{w:World}{B xb sb:Nat}{M:Msg}{m:MS}{b:Nat}{e:Value}(h:MI w B xb sb M m b e)(o:Nat)(v:Value)(a:MS)(d:Value)(f:(Ko sb e m.now m.next b).setIfInBounds o v=Ko sb d a.now a.next b)(k:a.st=m.st)(g:(w.setCell ⟨xb,o,none⟩ v).ownsRow (xb+7) 4 1 d a.stack.length (Ja a.stack))(i:a.stack.length<=8)(j:a.now<=400)(l:a.next<=b):MI (w.setCell ⟨xb,o,none⟩ v) B xb sb M a b d/\Fr (PK B xb) w (w.setCell ⟨xb,o,none⟩ v):=by
 have c:Fr (PK B xb) w (w.setCell ⟨xb,o,none⟩ v):=(Fr.refl _ w).set h.blk ⟨h.bx,rfl⟩ o v;refine⟨⟨h.bx,?_,?_,g,i,j,l,h.cl,Qs h.kz c.size⟩,c⟩
 ·rw[<-f];exact Qt _ _ _ _ _ _ h.blk
 ·rw[k];exact h.st.pk c
theorem MI.row{b:Nat}{a:Value}(h:MI w B xb sb M m b a):a.ownBlock≠some xb:=fun e=>by
 obtain⟨_,d,c⟩:=Y7 h.stack xb _ e h.blk;injection c with e1 e2
 exact absurd e2 (by decide)
theorem MH{base:Nat}{e:TypeId}{g n c:Nat}{xs:List Value}(h:w.ownsRow base e 1 (.slice (some ⟨g,0,none⟩) (n+1) c) (n+1) xs):w.ownsRow base e 1 (.slice (some ⟨g,0,none⟩) n c) n xs.dropLast:=by
 obtain⟨p,a⟩:=h;rcases a with⟨a,_⟩ | ⟨i,b,d,o,j,k,q,l,f,m⟩
 ·injection a with a;cases a
 ·injection o with hv1 hv2 hv3
  refine⟨by rw[List.length_dropLast];omega,Qc ⟨i,b,d,?_,j,k,by omega,l,f,?_⟩⟩
  ·rw[hv1,hv3]
  ·rw[<-m,List.dropLast_eq_take,List.length_take,List.take_take];congr 1;have:d.toList.length=b*1:=by simpa using f
   omega
theorem L7(l:List Bool):(Ja l).dropLast=Ja l.dropLast:=by simp[Ja,List.map_dropLast]
def QB(r:Except FZ MS)(B xb sb:Nat)(M:Msg)(count:Nat)(w:World)(e:Ending)(w':World):Prop:=
 Fr (PMc B xb) w w'/\
 match r with
 | .ok m=>e=.returned (.tuple #[])/\MAt w' B xb sb M m count
 | .error f=>YU f w e w'
theorem QB.ok{r:Except FZ MS}{B xb sb:Nat}{M:Msg}{a:Nat}{m:MS}{w w':World}(h:r=.ok m)(b:Fr (PMc B xb) w w')(c:MAt w' B xb sb M m a):QB r B xb sb M a w (.returned (.tuple #[])) w':=by
 subst h;exact⟨b,rfl,c⟩
theorem QB.err{r:Except FZ MS}{a:Nat}{f:FZ}(h:r=.error f)(b:Fr (PMc B xb) w w')(c:YU f w e w'):QB r B xb sb M a w e w':=by
 subst h;exact⟨b,c⟩
theorem QB.cases{r:Except FZ MS}{B xb sb:Nat}{M:Msg}{a:Nat}{w w':World}{e:Ending}(h:QB r B xb sb M a w e w'):Fr (PMc B xb) w w'/\((∃ m,r=.ok m/\e=.returned (.tuple #[])/\MAt w' B xb sb M m a)\/∃ f,r=.error f/\YU f w e w'):=by
 obtain⟨b,h⟩:=h
 cases r with
 |ok m=>exact⟨b,Qd ⟨m,rfl,h⟩⟩
 |error f=>exact⟨b,Qc ⟨f,rfl,h⟩⟩
theorem YU.from{f:FZ}{u:World}(h:YU f w e w')(g:u.heap.size<=w.heap.size):YU f u e w':=by
 obtain⟨b,d,a,c⟩:=h;exact⟨b,by omega,a,c⟩
theorem QB.from{r:Except FZ MS}{B xb sb:Nat}{M:Msg}{a:Nat}{u w w':World}{e:Ending}(h:QB r B xb sb M a w e w')(b:Fr (PMc B xb) u w):QB r B xb sb M a u e w':=by
 obtain⟨c,h⟩:=h;refine⟨b.trans c,?_⟩
 cases r with
 |ok m=>exact h
 |error f=>exact h.from b.size
theorem N5(er at_:Int)(w:World):YU (er,at_) w (.panicked [{ v:=.iface 125 (.pointer (some ⟨w.heap.size,0,none⟩)),recovered:=false }]) (w.alloc (.cells #[.int .i64 er,.int .i64 at_] 130)):=
 ⟨w.heap.size,Nat.le_refl _,rfl,QC _ _⟩
theorem Y4(xb:Nat)(w:World):Calls prog 168 #[.pointer (some ⟨xb,0,none⟩),.bool true] w fun e w'=>e=.returned (.tuple #[])/\w'=w:=by
 go_enter func168,ntmps168;go_wp2;go_end0;exact⟨rfl,rfl⟩
theorem Ac(xb:Nat)(a:Int)(w:World)(b:w.cell? ⟨xb,2,none⟩=some (.int .i64 a)):Calls prog 168 #[.pointer (some ⟨xb,0,none⟩),.bool false] w fun e w'=>e=.panicked [{ v:=.iface 125 (.pointer (some ⟨w.heap.size,0,none⟩)),recovered:=false }]/\w'=w.alloc (.cells #[.int .i64 12,.int .i64 a] 130):=by
 go_enter func168,ntmps168;go_wp2_with (go_at_call 103;refine(Xn _ _ _).mono ?_;rintro e c ⟨rfl,rfl⟩);exact⟨rfl,rfl,rfl⟩
def ActsV(w:World)(B:Nat)(v:Value)(l:List (Int×L8)):Prop:=
 w.ownsRow B 52 2 v l.length (QZ l)/\(l=[]->v=.slice none 0 0)
theorem Eh(w:World):Calls prog 102 #[] w fun e w'=>∃ v,e=.returned v/\ActsV w' w.heap.size v [(1,[])]/\Below w.heap.size w w':=by
 go_enter func102,ntmps102;go_wp2;go_ret;refine⟨_,rfl,⟨?_,fun h=>by cases h⟩,Qp _⟩;exact World.ownsRow_lit (e:=52) (size:=2) w #[.int .i64 1,.string (sA [])] 1 Ql (by unfold maxLen;omega) rfl
theorem Ta(W:World):(binOp .eql 32 (.slice none 0 0) (.slice none 0 0)).run prog W=.ok (.bool true) W:=by kernel_rfl
theorem RI(W:World)(a:Addr)(n c:Nat):(binOp .eql 32 (.slice (some a) n c) (.slice none 0 0)).run prog W=.ok (.bool false) W:=by kernel_rfl
theorem M4(l:List (Int×L8)):∀ u∈QZ l,u.oneCell'=true:=by
 intro u c;unfold QZ at c;obtain⟨a,_,b⟩:=List.mem_flatMap.1 c;simp at b;rcases b with rfl|rfl<;>rfl
theorem Is(base:Nat)(met:List (Int×L8))(d:Value)(w:World)(l:w.ownsRow base 52 2 d met.length (QZ met))(i:met=[]->d=.slice none 0 0)(J:met.length<=6) :
 Calls prog 212 #[d] w fun e w'=>∃ v,e=.returned v/\ActsV w' w.heap.size v met/\Below w.heap.size w w':=by
 obtain⟨F,s,C,D,E⟩:=info_parts Tryz.infoAction;have L:=Ta;have M:=RI;by_cases h0:met=[]
 ·subst h0;have y:=i rfl;subst y;go_enter func212,ntmps212;go_wp2;go_ret;exact⟨_,rfl,⟨Zj,fun _=>rfl⟩,Below.refl _ _⟩
 ·have z:=List.length_pos_iff.2 h0;obtain⟨g,c,A,H,r,hcells⟩:=Xo l z;subst A;have n:=I hcells;clear hcells l i;go_enter func212,ntmps212
  have p:Hid (∀ j u,(QZ met)[j]?=some u->(w.alloc (.cells #[] 52)).cell? ((⟨g,0,none⟩:Addr).add j)=some u):=fun j u t=>by
   rw[Ys,ZA (a:=⟨g,j,none⟩) (w:=w) (Below.heap_alloc _ _ _ r)];exact n.o j u t
  go_wp2_with (at_builtin;refine wpList_append_own _ rfl _ _ 32 rfl w.heap.size 52 F _ 2 24 underlying32 s C D E rfl (by decide) _ _ _ rfl (World.ownsRow_made w #[] 0 Ql QE rfl) ⟨g,0,none⟩ met.length c (QZ met) rfl (NP met) p.o (M4 met) (by unfold maxLen;omega) (by omega) (by simp) ?_;intro N P b f _;obtain⟨G,K,B⟩:=QQ b;subst B;have q:=I b;have m:=I (NR (Qp _) f (by simp) (fun k x=>((World.ownsRow_made (e:=52) (size:=2) w #[] 0 Ql QE rfl).lt k x).1));clear b f);go_ret;refine⟨_,rfl,⟨?_,fun h=>absurd h h0⟩,m.o⟩;have:=q.o;rw[Nat.zero_add,List.nil_append]at this;exact this
theorem Rj(B sb:Nat)(M:Msg)(s:SS)(n:Bool)(w:World)(h:SAt w B sb M s)(j:n=s.disc) :
 Calls prog 169 #[.pointer (some ⟨sb,7,none⟩),.bool n] w fun e w'=>∃ v,e=.returned v/\ActsV w' w.heap.size v (YX s)/\Below w.heap.size w w':=by
 obtain⟨E,F,G,A,g⟩:=h;have C:w.cell? ⟨sb,7,none⟩=some A:=g.cell 7;have k:=g.mn;have q:=g.met;have y:=g.bd.met;obtain⟨la,z,x⟩:=QQ q;subst x;have d:Hid (YX s=if s.met=[]/\s.disc=false then [(1,[])]else s.met):=rfl;clear g;by_cases h0:s.met=[]/\s.disc=false
 ·rw[if_pos h0]at d;rw[h0.2]at j;subst j;have p:((s.met.length:Int)==0)=true:=by rw[h0.1];rfl
  have D:s.met.length=0:=by rw[h0.1];rfl
  go_enter func169,ntmps169;go_wp2_with (go_at_call 102;refine(Eh _).mono ?_;rintro e t ⟨v,rfl,a,b⟩;obtain⟨m,r,i⟩:=QQ a.1;subst i;have f:=I a;have c:=I b;clear a b);go_ret;exact⟨_,rfl,by rw[d.o];exact f.o,c.o⟩
 ·rw[if_neg h0]at d;have l:=I (Is B s.met (.slice la s.met.length z) w q k y);by_cases hl:s.met=[]
  ·have u:s.disc=true:=by cases hh:s.disc with|true=>rfl|false=>exact absurd ⟨hl,hh⟩ h0
   rw[u]at j;subst j;have p:((s.met.length:Int)==0)=true:=by rw[hl];rfl
   clear h0 k hl;go_enter func169,ntmps169;go_wp2_with (go_at_call 212;refine l.o.mono ?_;rintro e t ⟨v,rfl,a,b⟩;obtain⟨m,r,i⟩:=QQ a.1;subst i;have f:=I a;have c:=I b;clear a b);go_ret;exact⟨_,rfl,by rw[d.o];exact f.o,c.o⟩
  ·have p:((s.met.length:Int)==0)=false:=by have:=List.length_pos_iff.2 hl;simp;omega
   clear h0 k;go_enter func169,ntmps169;go_wp2_with (go_at_call 212;refine l.o.mono ?_;rintro e t ⟨v,rfl,a,b⟩;obtain⟨m,r,i⟩:=QQ a.1;subst i;have f:=I a;have c:=I b;clear a b);go_ret;exact⟨_,rfl,by rw[d.o];exact f.o,c.o⟩
theorem Tryz.infoActs:(prog.info? 80).map (fun i=>(i.zero,i.size,i.bytes))=some (some (.agg #[.slice none 0 0,.slice none 0 0]),2,48):=by kernel_rfl
theorem Tryz.infoActQ:(prog.info? 52).map (fun i=>(i.zero,i.size,i.bytes))=some (some (.agg #[.int .i64 0,.string ⟨#[]⟩]),2,24):=by kernel_rfl
theorem IJ(l:List (Int×L8)):∀ u∈QZ l,u.oneCell'=true:=by
 intro u b;unfold QZ at b;obtain⟨a,_,h⟩:=List.mem_flatMap.1 b;simp at h;rcases h with rfl|rfl<;>rfl
theorem Iw{r:Array Oper}{t:List Oper}{o:Oper}{a:Act}{Q:Exit->Act->World->Prop}(d:o.guard=none)(s x:Operand)
 (m:o.op=.call { callee:=.builtin .append,args:=#[s,x],argTypes:=#[32,32] }) (l:List (Int×L8)) (sv:Value) (B:Nat) (n:a.eval s=.slice none 0 0) (p:a.eval x=sv) (h:w.ownsRow B 52 2 sv l.length (QZ l)) (N:l.length<=1000000)
 (K:∀ a' k' w',w'.ownsRow w.heap.size 52 2 (.slice a' l.length k') l.length (QZ l)->Below w.heap.size w w'->wpList prog r Q t (a.put o.dst (.slice a' l.length k')) w'):wpList prog r Q (o::t) a w:=by
 obtain⟨q,f,E,F,G⟩:=info_parts Tryz.infoActQ;rcases h.2 with⟨rfl,y⟩ | ⟨g,v,J,rfl,_⟩
 ·have D:l=[]:=Xz y;subst D;exact wpList_append_own_none d s x _ m w.heap.size 52 q 2 underlying32 f (.slice none 0 0) 0 [] n (Zj) p (K none 0 w (Zj) (Below.refl _ _))
 ·refine wpList_append_own _ d s x _ m w.heap.size 52 q _ 2 24 underlying32 f E F G rfl (by decide) (.slice none 0 0) 0 [] n (Zj) ⟨g,0,none⟩ l.length v (QZ l) p (by rw[NP]) (fun j u i=>?_) (IJ l) (by unfold maxLen;omega) (by omega) Ql (fun P w' b A _=>?_)
  ·have M:j<l.length*2:=by rw[<-NP];exact(List.getElem?_eq_some_iff.1 i).1
   obtain⟨L,H,c,_,_,z⟩:=Xo h (by omega);injection c with e
   injection e with e
   injection e with e
   subst e;rw[Ys];exact z j u i
  ·rw[Nat.zero_add,List.nil_append]at b;obtain⟨a',k',c⟩:=QQ b;subst c;exact K a' k' w' b (NJ (Below.refl _ _) A Ql (fun k C=>nomatch C))
theorem Se(w:World)(r t:Value)(b:TypeId):∀ j u,[r,t][j]?=some u->(w.alloc (.cells #[r,t] b)).cell? ((⟨w.heap.size,0,none⟩:Addr).add j)=some u:=by
 intro j u a
 match j,a with
 |0,a=>simp at a;subst a;simp[Addr.add]
 |1,a=>simp at a;subst a;simp[Addr.add]
def Gj(f:Option FZ):FZ:=f.getD (0,-1)
theorem PR(a:Nat)(u i w:World)(N:Nat)(aD:Nat->Nat)(xv mv cv:Value)(Q:List J8)(aW aX:List Value)(g:List YM)(F:WldA a u i aD xv mv cv Q Q aW aX g)(V:Below i.heap.size i w)(aU:∀ y∈Q,∃ t:L8,t.length<=600/\prL t=.ok y)(bx:Q.length<=N)(bp:g.length<=N)(hN:N<=1100000000000)
 (l:List (Int×L8)) (f:Option FZ) (lv rv:Value) (hl:w.ownsRow i.heap.size 52 2 lv l.length (QZ l)) (M:l=[]->lv=.slice none 0 0) (hr:w.ownsRow i.heap.size 52 2 rv l.length (QZ l)) (h7:l.length<=7) :
 Calls prog 30 #[.pointer (some ⟨a,0,none⟩),lv,.int .i64 (Gj f).1,.int .i64 (Gj f).2,Yp rv f] w fun e w'=>e=.returned (.bool true)/\XZ a u (N+1) w':=by
 obtain⟨la,q,ap⟩:=QQ hl;obtain⟨s,v,ax⟩:=QQ hr
 obtain⟨U,D,x,tp,aI,aJ,aT,ad,bb⟩:∃ U D x tp:Int,(f.getD (0,0)).1=U/\(f.getD (0,0)).2=D/\(Gj f).1=x/\(Gj f).2=tp/\x=U/\(¬ U=0->tp=D):=by
  cases f with
  |none=>exact⟨0,0,0,-1,rfl,rfl,rfl,rfl,rfl,fun h=>absurd rfl h⟩
  |some p=>exact⟨p.1,p.2,p.1,p.2,rfl,rfl,rfl,rfl,rfl,fun _=>rfl⟩
 obtain⟨bc,aH⟩:=bb;subst bc;unfold Yp;rw[aI,aJ,aT,ad,ax,ap];rw[ap]at hl M;rw[ax]at hr;have bh:=F.below V;obtain⟨m,Z⟩:=QF (w.alloc (.cells #[.slice s l.length v,.int .i64 x,.int .i64 D] 70));have X:Below w.heap.size w m:=by rw[Z];exact Qp _
 have aR:m.heap[w.heap.size]?=some (.cells #[.slice s l.length v,.int .i64 x,.int .i64 D] 70):=by rw[Z];exact QC _ _
 have Y:Below i.heap.size i m:=V.trans (X.mono V.size);have aA:=I (Xt hl X);have aC:=I (Xt hr X);have J:=I F;have aY:=I Y;have a7:=I Z;have S:=I aR;have a9:=I aU;have aZ:=I aH;have a3:=I M;obtain⟨j,av⟩:=Qe (w.heap.size);rw[av]at S;have a5:=I av;have e0:=Qk S.o;have bv:j<m.heap.size:=Qg S.o;have aV:i.heap.size<=m.heap.size:=Y.size;obtain⟨pc,cc,ao⟩:=QQ F.o4;have R:=I ao;have c2:m.cell? ⟨a,2,none⟩=some (.slice pc g.length cc):=by rw[<-ao];exact Qi (F.below Y).nd 2
 have ay:a<i.heap.size:=Qg F.nd;have bi:a<m.heap.size:=Zs ay aV;obtain⟨i0,bd,bj,bk,bl⟩:=info_parts Tryz.infoActs;clear F bh V aU hl hr M Z X aR Y av ap ax aI aJ aT ad aH ao;go_enter func30,ntmps30;go_wp2_with (at_builtin;rw[<-a7.o,a5.o];refine Iw rfl _ _ rfl l (.slice s l.length v) i.heap.size rfl rfl aC.o (by omega) ?_);intro z A B aS ai;have n2:B.cell? ⟨a,2,none⟩=some (.slice pc g.length cc):=by rw[ai.cell (p:=⟨a,2,none⟩) bi];exact c2
 have aB:=I aS;have G:=I ai;clear aS ai;have aE:=aY.o.trans (G.o.mono aV);have bz:=G.o.size;have ah:=Xt aA.o G.o;have aF:=Xt aC.o G.o;obtain⟨T,ak⟩:∃ T:Nat->Nat,T=fun k=>if(Value.slice la l.length q).ownBlock=some k then 2+2*g.length else if(Value.slice z l.length A).ownBlock=some k then 3+2*g.length else 1:=⟨_,rfl⟩
 have P:=(J.o.below aE).paint (s0:=i.heap.size) T (fun k d=>J.o.cu k (Qd d)) ay (fun k d=>(J.o.o1.lt k d).2) (fun k d=>(J.o.o2.lt k d).2) (fun k d=>(J.o.o4.lt k d).2);obtain⟨C,aa⟩:=Qe (fun k=>if i.heap.size<=k/\k<B.heap.size then T k else aD k);rw[aa]at P
 have aN:∀ k,(Value.slice la l.length q).ownBlock=some k->C k=2+2*g.length:=fun k d=>by
  have b:=ah.lt k d;rw[<-aa];show(if _ then _ else _)=_
  rw[if_pos ⟨b.1,b.2⟩,ak];exact if_pos d
 have aO:∀ k,(Value.slice z l.length A).ownBlock=some k->C k=3+2*g.length:=fun k d=>by
  have b:=aB.o.lt k d;have h2:(Value.slice la l.length q).ownBlock≠some k:=fun e=>by have:=(aA.o.lt k e).2;omega
  rw[<-aa];show(if _ then _ else _)=_
  rw[if_pos ⟨by omega,b.2⟩,ak];show(if _ then _ else _)=_
  rw[if_neg h2,if_pos d]
 have aL:UU C B g.length ⟨.slice la l.length q,.slice z l.length A,l⟩:=⟨⟨K5 ah QE,aN⟩,⟨K5 aB.o QE,aO⟩,by show l.length<=_;omega⟩;have E:=P.o4;rw[R.o]at E;have bg:a<B.heap.size:=Qg P.nd;have H:=I (QP S.o G.o);have az:=I (Se B (.slice la l.length q) (.slice z l.length A) 80);have a0:=I aL;have ag:=I P;have a4:=I aF;clear aE ah aF ak P aa aN aO aL;go_wp2_with (at_builtin;refine wpList_append_own_at _ rfl _ _ 41 rfl (a+1) 80 i0 (.agg #[.slice none 0 0,.slice none 0 0]) 2 48 underlying41 bd bj bk bl rfl (by decide) _ _ _ rfl (E.alloc _) ⟨B.heap.size,0,none⟩ 1 1 [.slice la l.length q,.slice z l.length A] rfl rfl ?c1 ?c2 ?c3 ?c4 ?c5 ?_)
 case c1=>exact az.o
 case c2=>intro u hu;simp at hu;rcases hu with rfl|rfl<;>rfl
 case c3=>unfold maxLen;omega
 case c4=>omega
 case c5=>simp;omega
 intro v' w5 ar L _ aG;have aP:=Cz E bg L;have ac:=(aP a (Nat.lt_succ_self _)).trans ag.o.nd;obtain⟨p5,m5,c5,rfl⟩:=Ay ar;obtain⟨n,K⟩:=QF (w5.setCell ⟨a,2,none⟩ (.slice p5 m5 c5));have a8:=I K;have aK:(B.alloc (.cells #[.slice la l.length q,.slice z l.length A] 80)).grownBy w5 cv.ownBlock:=by rw[R.o];exact L
 have ae:=ag.o.app3 (c:=⟨.slice la l.length q,.slice z l.length A,l⟩) a0.o aK ar (by rw[R.o];exact aG);rw[<-K]at ae;have aw:B.ownsRow (a+1) 52 2 (.slice s l.length v) l.length (QZ l):=K5 a4.o ay
 have au:n.ownsRow (a+1) 52 2 (.slice s l.length v) l.length (QZ l):=by
  rw[K];refine YR ((aw.alloc _).kept L ?_) (Nat.lt_succ_self _)
  cases hb:(Value.slice s l.length v).ownBlock with
  |none=>exact Qd rfl
  |some k=>exact Qc (fun e2=>Ku aw E (by decide) k hb e2.symm)
 have aQ:j≠a:=by
  intro e;have b:=H.o;rw[e,ag.o.nd]at b;injection b with b
  injection b with _ b
  exact absurd b (by decide)
 have ab:n.heap[j]?=some (.cells #[.slice s l.length v,.int .i64 x,.int .i64 D] 70):=by
  rw[K,QK aQ,L.block j (by simp;have:=Qg H.o;omega) (fun e=>ZF E H.o (by decide) e.symm),Below.heap_alloc _ _ _ (Qg H.o)];exact H.o
 have aM:UU C n g.length ⟨.slice la l.length q,.slice z l.length A,l⟩:=by
  have:=ae.kc g.length (by simp);rw[List.getElem_append_right Ql]at this;simpa using this
 have a6:=I (BD l (.slice la l.length q) (.slice s l.length v) n (JA.of_owns aM.r.row) (JA.of_owns au) (D8 au));have ba:Hid (∀ W,Below n.heap.size n W->XZ a u (N+1) W):=fun W hW=>⟨C,xv,mv,_,Q,aW,aX,_,ae.below hW,a9.o,by omega,by simp;omega⟩
 have a2:=I ab;have bm:=Qk ab;have bu:j<n.heap.size:=Qg ab;have f5:=fun o=>Qu ac o
 have t5:w5.cell? ⟨a,2,none⟩=some (.slice pc g.length cc):=by rw[<-R.o];exact Qi ac 2
 have br:a<w5.heap.size:=Qg ac;clear ar L aK E aG aP ac K ae aw au ab aM az n2 aQ c2 e0;go_wp2_with (rw[<-a8.o]);refine a6.o.mono ?_;rintro e w7 ⟨rfl,aj⟩;have aq:=QP a2.o aj;have bn:=Qr aq;have bo:=QJ aq;have af:=I (ba.o w7 aj);clear aj aq;by_cases ht0:x=0
 ·subst ht0;by_cases hl0:l=[]
  ·have M:=a3.o hl0;subst hl0;injection M with b h2 h3
   subst b h3;clear h2;have bt:∀ W,(binOp .eql 32 (.slice none 0 0) (.slice none 0 0)).run prog W=.ok (.bool true) W:=fun W=>by kernel_rfl
   go_wp2;go_ret;exact⟨rfl,af.o⟩
  ·have bs:(0:Int)<(l.length:Int):=by have:=List.length_pos_iff.2 hl0;omega
   have bf:¬ l.length=0:=fun e=>hl0 (Xz e)
   have bq:0<l.length:=Nat.pos_of_ne_zero bf;clear hl0;go_wp2;go_ret;refine⟨?_,af.o⟩
   first|rfl|simp|(trace_state;rfl)
 ·have bw:(x==0)=false:=by simpa using ht0
  have ad:=aZ.o ht0;subst ad;clear ht0;go_wp2;go_ret;refine⟨?_,af.o⟩
  first|rfl|simp|(trace_state;rfl)
theorem YE(xb:Nat)(a:Int)(w:World)(b:w.cell? ⟨xb,2,none⟩=some (.int .i64 a)):Calls prog 168 #[.pointer (some ⟨xb,0,none⟩),.bool false] w fun e w'=>YU (12,a) w e w'/\Below w.heap.size w w':=
 (Ac xb a w b).mono fun e w' h=>by
   obtain⟨rfl,rfl⟩:=h;exact⟨N5 _ _ _,Qp _⟩
theorem S9(x:Bool):∀ u∈[Value.bool x],u.oneCell'=true:=by
 intro u a;simp at a;subst a;rfl
theorem Vc(v:Bool)(B xb sb:Nat)(M:Msg)(m:MS)(p:Nat)(w:World)(h:MAt w B xb sb M m p) :
 Calls prog 199 #[.pointer (some ⟨xb,0,none⟩),.bool v] w (QB (Xl v m) B xb sb M p w):=by
 obtain⟨Z,c⟩:=h;have b:=I c;obtain⟨t,u,J⟩:=QQ c.stack;subst J;have E:=Qr c.blk;have F:=QJ c.blk;have C:=Qg c.blk;have Y:=c.sl;have g:=c.bx;have K:=c.kz;obtain⟨S,H,P,Q,R⟩:=info_parts Tryz.infoBool;clear c;by_cases hlt:m.stack.length<8
 ·have L:(m.stack.length:Int)<8:=by omega
  have l:Hid (Xl v m=.ok ⟨m.st,m.stack++[v],m.now,m.next⟩):=by show _=_;unfold Xl;rw[if_pos hlt]
  have y:=b.o.row;have n:=I y;clear y;go_enter func199,ntmps199;go_wp2_with (first|(go_at_call 168;refine(Y4 _ _).mono ?_;rintro e U ⟨rfl,A⟩;rw[A];clear A)|(at_builtin;refine wpList_append_own _ rfl _ _ 106 rfl (xb+7) 4 S _ 1 1 underlying106 H P Q R rfl (by decide) _ _ _ rfl (b.o.stack.alloc _) ⟨w.heap.size,0,none⟩ 1 1 [.bool v] rfl rfl (cell_one_new _ _ _) (S9 _) (by unfold maxLen;omega) (by omega) (by simp;omega) ?_;intro d w5 r i _;obtain⟨D,T,s⟩:=QQ r;subst s;have x:=I r;have HG5:=I i;have V:w5.cell? ⟨xb,1,none⟩=some (.slice t m.stack.length u):=i.cell (a:=⟨xb,1,none⟩) ((ZA (a:=⟨xb,1,none⟩) (w:=w) (Below.heap_alloc _ _ _ C)).trans E) (fun e=>n.o e.symm);have X:∀ j,w5.frozen? ⟨xb,j,none⟩=false:=fun j=>(World.frozen?_of_block (a:=⟨xb,j,none⟩) (w:=w) ((i.block xb (by simp;omega) (fun e=>n.o e.symm)).trans (Below.heap_alloc _ _ _ C))).trans (Qu b.o.blk j);clear r i));go_end0
  have hf5:Fr (PK B xb) w w5:=((Fr.refl _ w).alloc _).grown HG5.o (fun k o e ho=>by
   obtain⟨W,G,q⟩:=Y7 (b.o.stack.alloc _) k o e ho;subst q
   exact ⟨by omega,by unfold kO;simp;omega⟩)
  have f:w5.heap[xb]?=some (.cells (Ko sb (.slice t m.stack.length u) m.now m.next p) 188):=by
   rw[HG5.o.block xb (by simp;omega) (fun e=>n.o e.symm)];exact Qn b.o.blk
  obtain⟨d,N⟩:=QF (Value.slice D (m.stack.length+1) T);rw[<-N]at x ⊢;have z:w5.ownsRow (xb+7) 4 1 d (m.stack++[v]).length (Ja (m.stack++[v])):=by rw[Ze,<-IA];exact x.o
  have s:d.ownBlock≠some xb:=fun e=>by
   obtain⟨_,G,q⟩:=Y7 z xb _ e f;injection q with e1 e2
   exact absurd e2 (by decide)
  refine QB.ok l.o ((hf5.mono (fun _ _=>PMc.k)).set f (PMc.k ⟨g,rfl⟩) 1 _) ⟨d,g,?_,?_,Ur z s _ _,by simp;omega,b.o.nw,b.o.nx,b.o.cl,Qs K ((hf5.set f ⟨g,rfl⟩ 1 d).size)⟩
  ·exact Qt _ _ _ _ _ _ f
  ·exact b.o.st.pk (hf5.set f ⟨g,rfl⟩ 1 _)
 ·have L:¬(m.stack.length:Int)<8:=by omega
  have l:Hid (Xl v m=.error (12,(m.now:Int))):=by show _=_;unfold Xl;rw[if_neg hlt]
  go_enter func199,ntmps199;go_wp2_with (first|(go_at_call 168;refine(Ac _ _ _ F).mono ?_;rintro e U ⟨rfl,rfl⟩));exact⟨rfl,QB.err l.o ((Fr.refl _ _).alloc _) (N5 _ _ _)⟩
theorem CZ(B xb sb:Nat)(M:Msg)(m:MS)(d:Nat)(w:World)(h:MAt w B xb sb M m d)(f:m.stack=[]) :
 Calls prog 200 #[.pointer (some ⟨xb,0,none⟩)] w fun e w'=>YU (12,(m.now:Int)) w e w'/\Below w.heap.size w w':=by
 obtain⟨k,a⟩:=h;obtain⟨i,j,g⟩:=QQ a.stack;subst g;have b:=Qr a.blk;have c:=QJ a.blk;rw[f]at b;clear a;go_enter func200,ntmps200;go_wp2_with (first|(go_at_call 168;refine(Ac _ _ _ c).mono ?_;rintro e w' ⟨rfl,rfl⟩));exact⟨rfl,N5 _ _ _,Qp _⟩
theorem De(B xb sb:Nat)(M:Msg)(m:MS)(j:Nat)(w:World)(h:MAt w B xb sb M m j)(r:m.stack≠[]) :
 Calls prog 200 #[.pointer (some ⟨xb,0,none⟩)] w fun e w'=>e=.returned (.bool (topL m))/\MAt w' B xb sb M (YO m) j/\Fr (PMc B xb) w w':=by
 obtain⟨R,a⟩:=h;have f:=I a;have P:=List.length_pos_iff.2 r;obtain⟨n,i⟩:∃ n,m.stack.length=n+1:=⟨m.stack.length - 1,by omega⟩;have d:=a.stack;rw[i]at d;obtain⟨g,b,s,C,H,hcells⟩:=Xo d (by omega);subst s;have v:=Qr a.blk
 have ht:w.cell? ⟨g,n,none⟩=some (.bool (topL m)):=hcells n _ (by
  unfold Ja topL;rw[List.getElem?_map,List.getLastD_eq_getLast?,List.getLast?_eq_getElem?,i,Nat.add_sub_cancel];rw[List.getElem?_eq_getElem (show n<m.stack.length by omega)]
  rfl)
 have G:=Qu a.blk;have Q:=a.sl;have D:=a.bx;have q:=I d;have N:n+1<=8:=by omega
 have E:n+1<=b:=by
  rcases d.2 with⟨c,_⟩ | ⟨z,x,y,c,_,_,A,_⟩
  ·injection c with c;cases c
  ·injection c with h3 h4 h5;omega
 have F:(n:Int)<=(b:Int):=by omega
 have J:(0:Int)<=(n:Int):=by omega
 have K:(n:Int)<(n:Int)+1:=by omega
 have L:(0:Int)<(n:Int)+1:=by omega
 clear a d hcells;go_enter func200,ntmps200;go_wp2_with (first|(go_at_call 168;refine(Y4 _ _).mono ?_;rintro e w' ⟨rfl,p⟩;rw[p];clear p));go_ret
 have u:w.ownsRow (xb+7) 4 1 (.slice (some ⟨g,0,none⟩) n b) (YO m).stack.length (Ja (YO m).stack):=by
  have:=MH q.o;rw[L7]at this;show w.ownsRow (xb+7) 4 1 _ m.stack.dropLast.length (Ja m.stack.dropLast)
  rw[List.length_dropLast,i,Nat.add_sub_cancel];exact this
 have t:(Value.slice (some ⟨g,0,none⟩) n b).ownBlock≠some xb:=f.o.row;have l:=f.o.set 1 (.slice (some ⟨g,0,none⟩) n b) (YO m) (.slice (some ⟨g,0,none⟩) n b) rfl rfl (Ur u t _ _) (by show m.stack.dropLast.length<=8;rw[List.length_dropLast];omega) f.o.nw f.o.nx;exact⟨rfl,⟨_,l.1⟩,l.2.mono (fun _ _=>PMc.k)⟩
theorem RK(B xb sb:Nat)(M:Msg)(m:MS)(a:Nat)(w:World)(h:MAt w B xb sb M m a) :
 Calls prog 200 #[.pointer (some ⟨xb,0,none⟩)] w fun e w'=>(m.stack=[]/\YU (12,(m.now:Int)) w e w'/\Below w.heap.size w w')\/(m.stack≠[]/\e=.returned (.bool (topL m))/\MAt w' B xb sb M (YO m) a/\Fr (PMc B xb) w w'):=by
 by_cases h0:m.stack=[]
 ·exact(CZ B xb sb M m a w h h0).mono fun e w' h=>Qd ⟨h0,h⟩
 ·exact(De B xb sb M m a w h h0).mono fun e w' h=>Qc ⟨h0,h⟩
theorem Gx(n:Int)(B xb sb:Nat)(M:Msg)(m:MS)(a:Nat)(w:World)(h:MAt w B xb sb M m a) :
 Calls prog 201 #[.pointer (some ⟨xb,0,none⟩),.int .i64 n] w fun e w'=>e=.returned (.bool (YG a m n))/\Below w.heap.size w w':=by
 obtain⟨l,c⟩:=h;have f:=QR c.blk;have g:=QV c.blk;have k:=c.nx;have i:=c.cl;have b:Hid (YG a m n=(decide (0<=n)&&decide (n<=(a:Int) - m.next))):=rfl;have j:IntKind.i64.wrap ((a:Int) - (m.next:Int))=(a:Int) - (m.next:Int):=by rw[IntKind.wrap_i64];omega
 clear c;by_cases h0:0<=n
 ·have d:decide (0<=n)=true:=Qw h0;rw[d]at b;by_cases h1:n<=(a:Int) - m.next
  ·rw[Qw h1]at b;go_enter func201,ntmps201;go_wp2_with fail;go_quiet (fail)
   all_goals go_wp2
   all_goals go_ret
   all_goals exact⟨QS (by rw[b.o];simp[h1]),KV (Below.refl _ _)⟩
  ·rw[Qh h1]at b;go_enter func201,ntmps201;go_wp2_with fail;go_quiet (fail)
   all_goals go_wp2
   all_goals go_ret
   all_goals exact⟨QS (by rw[b.o];simp[h1]),KV (Below.refl _ _)⟩
 ·have d:decide (0<=n)=false:=Qh h0;rw[d]at b;go_enter func201,ntmps201;go_wp2_with fail;go_quiet (fail)
  all_goals go_wp2
  all_goals go_ret
  all_goals exact⟨QS (by rw[b.o];rfl),KV (Below.refl _ _)⟩
theorem MAt.box(h:MAt w B xb sb M m count)(o:Obj):MAt (w.alloc o) B xb sb M m count:=h.below (Qp _)
theorem MAt.now{w:World}{B xb sb:Nat}{M:Msg}{m:MS}{a:Nat}(h:MAt w B xb sb M m a):w.cell? ⟨xb,2,none⟩=some (.int .i64 (m.now:Int)):=by
 obtain⟨b,h⟩:=h;exact Qi h.blk 2
theorem Yh{P:Nat->Obj->Prop}(w:World)(o:Obj):Fr P w (w.alloc o):=(Fr.refl _ w).alloc o
theorem Rr(i:Ins)(y z:Value)(B xb sb:Nat)(M:Msg)(m:MS)(g:Nat)(w:World)(h:MAt w B xb sb M m g)(t:ZT w i y z) :
 Calls prog 153 #[.pointer (some ⟨xb,0,none⟩),Zh i y z] w (QB (J1 i m) B xb sb M g w):=by
 have x:=I h;obtain⟨E,F,rfl⟩:=t.a.len;obtain⟨G,H,rfl⟩:=t.b.len;have N:xb<w.heap.size:=Qq h.now;have C:=(h.box (.cells (Ei i (.slice E i.a.length F) (.slice G i.b.length H)) 63)).now;unfold Ei at C;have l:=Ya i.n 0;have p:=Ya i.n 1;clear h t;unfold Zh;by_cases h01:i.n=0\/i.n=1
 ·have c:Hid (J1 i m=Xl (decide (i.n=1)) m):=by show _=_;unfold J1;rw[if_pos h01]
  rcases h01 with A|h1
  ·rw[Qw A]at l;rw[Qh (by omega)]at p c;clear A;go_enter func153,ntmps153;go_wp2_with (go_at_call 168;refine(Y4 _ _).mono ?_;rintro e D ⟨rfl,d⟩;rw[d];clear d);refine(Vc false B xb sb M m g _ (x.o.box _)).mono ?_;intro e L h1;rcases h1.cases with⟨r,⟨K,u,rfl,s⟩ | ⟨f,u,k,v,rfl,q⟩⟩
   ·have j:=I h1;clear s r h1;go_wp2;go_end0;rw[c.o];exact j.o.from (Yh _ _)
   ·exact⟨rfl,by rw[c.o];exact QB.from h1 (Yh _ _)⟩
  ·rw[Qw h1]at p c;rw[Qh (by omega)]at l;clear h1;go_enter func153,ntmps153;go_wp2_with (go_at_call 168;refine(Y4 _ _).mono ?_;rintro e D ⟨rfl,d⟩;rw[d];clear d);refine(Vc true B xb sb M m g _ (x.o.box _)).mono ?_;intro e L h1;rcases h1.cases with⟨r,⟨K,u,rfl,s⟩ | ⟨f,u,k,v,rfl,q⟩⟩
   ·have j:=I h1;clear s r h1;go_wp2;go_end0;rw[c.o];exact j.o.from (Yh _ _)
   ·exact⟨rfl,by rw[c.o];exact QB.from h1 (Yh _ _)⟩
 ·have c:Hid (J1 i m=.error (12,(m.now:Int))):=by show _=_;unfold J1 ZI;rw[if_neg h01]
  rw[Qh (by omega)]at l;rw[Qh (by omega)]at p;clear h01;go_enter func153,ntmps153;go_wp2_with (go_at_call 168;refine(YE _ _ _ C).mono ?_;rintro e D ⟨⟨k,v,rfl,q⟩,J⟩);exact⟨rfl,by rw[c.o];exact QB.from (QB.err rfl (Fr.of_below J) ⟨k,v,rfl,q⟩) (Yh _ _)⟩
theorem RH(i:Ins)(n q:Value)(B xb sb:Nat)(M:Msg)(m:MS)(c:Nat)(w:World)(h:MAt w B xb sb M m c)(j:ZT w i n q) :
 Calls prog 154 #[.pointer (some ⟨xb,0,none⟩),Zh i n q] w (QB (J9 m) B xb sb M c w):=by
 have l:=I h;obtain⟨E,F,rfl⟩:=j.a.len;obtain⟨G,H,rfl⟩:=j.b.len;clear h j;unfold Zh;by_cases h0:m.stack=[]
 ·have d:Hid (J9 m=.error (12,(m.now:Int))):=by show _=_;unfold J9 ZI;rw[if_pos h0]
  go_enter func154,ntmps154;go_wp2_with fail;refine(CZ B xb sb M m c _ (l.o.box _) h0).mono ?_;rintro e D ⟨⟨p,u,rfl,r⟩,y⟩;refine⟨rfl,?_⟩;rw[d.o];exact QB.from (QB.err rfl (Fr.of_below y) ⟨p,u,rfl,r⟩) (Yh _ _)
 ·have d:Hid (J9 m=Xl (!topL m) (YO m)):=by show _=_;unfold J9;rw[if_neg h0]
  go_enter func154,ntmps154;go_wp2_with fail;refine(De B xb sb M m c _ (l.o.box _) h0).mono ?_;rintro e D ⟨rfl,t,s⟩;have x:=I t;have k:=I ((Yh _ _).trans s);clear t s;go_wp2_with fail;refine(Vc (!topL m) B xb sb M (YO m) c _ x.o).mono ?_;intro e K g;rcases g.cases with⟨z,⟨J,C,rfl,A⟩ | ⟨f,C,p,u,rfl,r⟩⟩
  ·have v:=I g;clear A z g;go_wp2;go_end0;rw[d.o];exact v.o.from k.o
  ·exact⟨rfl,by rw[d.o];exact QB.from g k.o⟩
theorem MI.go{a:Nat}{c:Value}(h:MI w B xb sb M m a c)(k:Nat)(d:k<=a):MAt (w.setCell ⟨xb,3,none⟩ (.int .i64 (k:Int))) B xb sb M (goL m k) a/\Fr (PMc B xb) w (w.setCell ⟨xb,3,none⟩ (.int .i64 (k:Int))):=by
 have b:=h.set 3 (.int .i64 (k:Int)) (goL m k) c rfl rfl (Ur h.stack h.row _ _) h.sl h.nw d;exact⟨⟨_,b.1⟩,b.2.mono (fun _ _=>PMc.k)⟩
theorem R4(i:Ins)(u v:Value)(B xb sb:Nat)(M:Msg)(m:MS)(c:Nat)(w:World)(h:MAt w B xb sb M m c)(q:ZT w i u v) :
 Calls prog 155 #[.pointer (some ⟨xb,0,none⟩),Zh i u v] w (QB (J3 c i m) B xb sb M c w):=by
 obtain⟨C,D,rfl⟩:=q.a.len;obtain⟨E,G,rfl⟩:=q.b.len;have l:=I h;have Z:xb<w.heap.size:=Qq h.now;clear q;unfold Zh;cases hmay:YG c m i.n
 ·have g:Hid (J3 c i m=.error (12,(m.now:Int))):=by show _=_;unfold J3 ZI;rw[hmay];rfl
  clear h;go_enter func155,ntmps155;go_wp2_with fail;refine(Gx i.n B xb sb M m c _ (l.o.box _)).mono ?_;rintro e r ⟨rfl,k⟩;rw[hmay];have f:=I (((Below.refl w.heap.size w).alloc Ql _).trans (k.mono (by simp)));have L:=(l.o.below f.o).now;clear k;go_wp2_with (go_at_call 168;refine(YE _ _ _ L).mono ?_;rintro e R ⟨⟨F,N,rfl,J⟩,H⟩);exact⟨rfl,by rw[g.o];exact QB.from (QB.err rfl (Fr.of_below H) ⟨F,N,rfl,J⟩) (Fr.of_below f.o)⟩
 ·have p:=Nm hmay;have g:Hid (J3 c i m=.ok (goL m (m.next+i.n.toNat))):=by show _=_;unfold J3;rw[hmay];rfl
  have K:0<=i.n:=by unfold YG at hmay;simp at hmay;exact hmay.1
  obtain⟨P,x⟩:=h;have V:=x.cl;clear x;go_enter func155,ntmps155;go_wp2_with fail;refine(Gx i.n B xb sb M m c _ (l.o.box _)).mono ?_;rintro e r ⟨rfl,k⟩;rw[hmay];have f:=I (((Below.refl w.heap.size w).alloc Ql _).trans (k.mono (by simp)));obtain⟨P,j⟩:=l.o.below f.o;have y:=QP (QC w (.cells #[.int .i64 i.op,.int .i64 i.n,.int .i64 i.tag,.bool i.oct,.slice C i.a.length D,.slice E i.b.length G,.int .i64 i.at_] 63)) k;have Q:=Qr y;have T:=QR j.blk;have U:=Qu j.blk;obtain⟨d,z⟩:∃ d:Nat,i.n=(d:Int):=⟨i.n.toNat,by omega⟩;rw[z]at Q g p;rw[Int.toNat_natCast]at g p;have Y:IntKind.i64.wrap ((m.next:Int)+(d:Int))=(m.next:Int)+(d:Int):=by rw[IntKind.wrap_i64];omega
  have S:=I j;have W:¬ w.heap.size=xb:=by omega
  have X:¬ xb=w.heap.size:=by omega
  have s:=I (j.go (m.next+d) p);have t:=I ((j.below (Zq (Below.refl _ _))).go (m.next+d) p);clear k j y z K hmay;go_wp2_with (go_at_call 168;refine(Y4 _ _).mono ?_;rintro e R ⟨rfl,A⟩;rw[A];clear A);go_region
  all_goals go_wp2
  all_goals go_end0
  all_goals first
   |exact QB.from (QB.ok g.o s.o.2.drew (s.o.1.below (Zq (Below.refl _ _)))) (Fr.of_below f.o)
   |exact QB.from (QB.ok g.o ((Fr.of_below (Zq (Below.refl _ _))).trans t.o.2) t.o.1) (Fr.of_below f.o)
theorem Cg(taken:Bool)(p:Nat)(i:Ins)(N P:Value)(B xb sb:Nat)(M:Msg)(m:MS)(f:Nat)(w:World)(h:MAt w B xb sb M m f)(G:ZT w i N P)(H:w.heap[p]?=some (.cells #[.bool taken] 4))(aj:p<xb+7) :
 Calls prog 202 #[.pointer (some ⟨xb,0,none⟩),Zh i N P,.pointer (some ⟨p,0,none⟩)] w (QB (doCond taken f i m) B xb sb M f w):=by
 obtain⟨V,W,rfl⟩:=G.a.len;obtain⟨X,Y,rfl⟩:=G.b.len;have y:=I h;have ap:xb<w.heap.size:=Qq h.now;have HP:=I H;have ak:=Qg H;clear G H;unfold Zh;cases hmay:YG f m i.n
 ·have k:Hid (doCond taken f i m=.error (12,(m.now:Int))):=by show _=_;unfold doCond ZI;rw[hmay];rfl
  clear h;go_enter func202,ntmps202;go_wp2_with fail;refine(Gx i.n B xb sb M m f _ (y.o.box _)).mono ?_;rintro e u ⟨rfl,l⟩;rw[hmay];have HB1:=I (((Below.refl w.heap.size w).alloc Ql _).trans (l.mono (by simp)));have af:=(y.o.below HB1.o).now;clear l;go_wp2_with (go_at_call 168;refine(YE _ _ _ af).mono ?_;rintro e w' ⟨⟨q,t,rfl,s⟩,r⟩);exact⟨rfl,by rw[k.o];exact QB.from (QB.err rfl (Fr.of_below r) ⟨q,t,rfl,s⟩) (Fr.of_below HB1.o)⟩
 have A:=Nm hmay;have ae:0<=i.n:=by unfold YG at hmay;simp at hmay;exact hmay.1
 have ag:f<=400:=by obtain⟨T,ab⟩:=h;exact ab.cl
 clear h;have L:Hid (m.stack=[]->doCond taken f i m=.error (12,(m.now:Int))):=fun c=>by unfold doCond ZI;rw[hmay,if_pos rfl,if_pos c]
 have k:Hid (m.stack≠[]->doCond taken f i m=.ok (if topL m=taken then goL (YO m) (m.next+i.n.toNat)else YO m)):=fun c=>by unfold doCond;rw[hmay,if_pos rfl,if_neg c]
 go_enter func202,ntmps202;go_wp2_with fail;refine(Gx i.n B xb sb M m f _ (y.o.box _)).mono ?_;rintro e u ⟨rfl,l⟩;rw[hmay];have HB1:=I (((Below.refl w.heap.size w).alloc Ql _).trans (l.mono (by simp)));have p1:=Qk (w:=u) (QP HP.o HB1.o);have Q:=QP (QC w (.cells #[.int .i64 i.op,.int .i64 i.n,.int .i64 i.tag,.bool i.oct,.slice V i.a.length W,.slice X i.b.length Y,.int .i64 i.at_] 63)) l;have U:=I Q;have E:=I (RK B xb sb M m f u.drew ((y.o.below HB1.o).below (Zq (Below.refl _ _))));obtain⟨d,F⟩:∃ d:Nat,i.n=(d:Int):=⟨i.n.toNat,by omega⟩;rw[F]at k A;rw[Int.toNat_natCast]at k A
 have v:Hid (∀ w2:World,Fr (PMc B xb) u.drew w2->w2.cell? ⟨p,0,none⟩=some (.bool taken)/\w2.cell? ⟨w.heap.size,1,none⟩=some (.int .i64 (d:Int))):=fun w2 hf=>by
  have h1:w2.heap[p]?=some (.cells #[.bool taken] 4):=hf.block p _ (QP HP.o (Zq HB1.o)) (fun hh=>by
   have:=hh.2;unfold kO stO at this;simp at this
   omega)
  have h2:=hf.block w.heap.size _ (show u.drew.heap[w.heap.size]?=_ from U.o) (PMc.not (by decide) (by decide) (by decide) (by decide));refine⟨Qi h1 0,?_⟩;rw[Qi h2,<-F];rfl
 clear l Q hmay ae F;obtain⟨j,R⟩:=Qe (topL m);rw[R]at k E;clear R;go_wp2_with (go_at_call 168;refine(Y4 _ _).mono ?_;rintro e w' ⟨rfl,S⟩;rw[S];clear S);have ao:IntKind.i64.wrap ((m.next:Int)+(d:Int))=(m.next:Int)+(d:Int):=by rw[IntKind.wrap_i64];omega
 have ah:¬ w.heap.size=xb:=by omega
 have ai:¬ xb=w.heap.size:=by omega
 by_cases hte:j=taken
 ·subst hte;have D:Hid (m.stack≠[]->doCond j f i m=.ok (goL (YO m) (m.next+d))):=fun c=>by rw[k.o c,if_pos rfl]
  have ad:(j==j)=true:=by cases j<;>rfl
  go_region_with (first|(go_at_call 200;refine E.o.mono ?_;rintro e w2 (⟨c,⟨q,t,rfl,s⟩,r⟩ | ⟨c,rfl,hm2,hf2⟩);exact⟨rfl,by rw[L.o c];exact QB.from (QB.err rfl (Fr.of_below r) ⟨q,t,rfl,s⟩) (Fr.of_below (Zq HB1.o))⟩;obtain⟨T,g⟩:=hm2;have p2:=(v.o w2 hf2).1;have q2:=(v.o w2 hf2).2;have Z:w2.cell? ⟨xb,3,none⟩=some (.int .i64 (m.next:Int)):=QR g.blk;have f3:=Qu g.blk;have z:=I g;have x:=I hf2;have C:=I c;clear g hf2 c;skip))
  all_goals go_wp2_with fail
  all_goals go_region
  all_goals go_wp2
  all_goals go_end0
  all_goals rw[D.o C.o]
  all_goals have J:=z.o.go (m.next+d) A
  all_goals have K:=(z.o.below (Zq (Below.refl _ _))).go (m.next+d) A
  all_goals first
   |exact QB.from (QB.ok rfl (x.o.trans J.2.drew) (J.1.below (Zq (Below.refl _ _)))) (Fr.of_below (Zq HB1.o))
   |exact QB.from (QB.ok rfl ((x.o.drew).trans K.2) K.1) (Fr.of_below (Zq HB1.o))
 ·have D:Hid (m.stack≠[]->doCond taken f i m=.ok (YO m)):=fun c=>by rw[k.o c,if_neg hte]
  have ad:(j==taken)=false:=by cases j<;>cases taken<;>first|rfl|exact absurd rfl hte
  clear hte;go_region_with (first|(go_at_call 200;refine E.o.mono ?_;rintro e w2 (⟨c,⟨q,t,rfl,s⟩,r⟩ | ⟨c,rfl,hm2,hf2⟩);exact⟨rfl,by rw[L.o c];exact QB.from (QB.err rfl (Fr.of_below r) ⟨q,t,rfl,s⟩) (Fr.of_below (Zq HB1.o))⟩;obtain⟨T,g⟩:=hm2;have p2:=(v.o w2 hf2).1;have q2:=(v.o w2 hf2).2;have Z:w2.cell? ⟨xb,3,none⟩=some (.int .i64 (m.next:Int)):=QR g.blk;have f3:=Qu g.blk;have z:=I g;have x:=I hf2;have C:=I c;clear g hf2 c;skip))
  all_goals go_wp2
  all_goals go_end0
  all_goals rw[D.o C.o]
  all_goals exact QB.from (QB.ok rfl x.o ⟨_,z.o⟩) (Fr.of_below (Zq HB1.o))
theorem Ww(W:World):(binOp .neq 321 .nilFunc .nilFunc).run prog W=.ok (.bool false) W:=by kernel_rfl
theorem Wl(W:World)(f:Fn)(a b:Array Value):(binOp .neq 321 (.func f a b) .nilFunc).run prog W=.ok (.bool true) W:=by kernel_rfl
theorem TG(tag:Int)(oct:Bool)(w:World) :
 Calls prog 204 #[.int .i64 tag,.bool oct] w fun e w'=>(∃ wv,e=.returned wv/\((1<=tag/\tag<=3/\WayV w' tag oct wv)\/(¬(1<=tag/\tag<=3)/\wv=.nilFunc)))/\Below w.heap.size w w':=by
 cases oct
 ·exact ET false _ rfl tag w
 ·exact ET true _ rfl tag w
theorem MAt.pt{a:Nat}(h:MAt w B xb sb M m a):w.cell? ⟨xb,0,none⟩=some (.pointer (some ⟨sb,0,none⟩)):=by
 obtain⟨b,h⟩:=h;exact Qi h.blk 0
theorem MAt.sat{a:Nat}(h:MAt w B xb sb M m a):SAt w B sb M m.st:=by
 obtain⟨b,h⟩:=h;exact h.st
theorem MAt.st'{w w':World}{B xb sb:Nat}{M:Msg}{m:MS}{a:Nat}(h:MAt w B xb sb M m a){s:SS}(c:SAt w' B sb M s)(b:Fr (PSt B) w w'):MAt w' B xb sb M (stL m s) a:=by
 obtain⟨d,h⟩:=h;exact⟨d,h.st' c b⟩
theorem A6(s:FuncId)(vals:Qa)(p:Nat)(i:Ins)(A C:Value)(B xb sb:Nat)(M:Msg)(m:MS)(R:Nat)(w:World)(h:MAt w B xb sb M m R)(L:ZT w i A C)(T:w.heap[p]?=some (.cells #[.func (.func s) #[] #[]] 280))(ax:∀ args W,(callFunc s args).run prog W=.ok (.enter s args) W)(ab:∀ wv A C W,WayV W i.tag i.oct wv->SAt W B sb M m.st->ZT W i A C->Calls prog s #[.pointer (some ⟨sb,0,none⟩),wv,A,C] W fun e w'=>e=.returned (.bool (askL m.st i.tag i.oct vals i.b).1)/\SAt w' B sb M (askL m.st i.tag i.oct vals i.b).2/\Fr (PSt B) W w') :
 Calls prog 203 #[.pointer (some ⟨xb,0,none⟩),Zh i A C,.pointer (some ⟨p,0,none⟩)] w (QB (doAsk vals i m) B xb sb M R w):=by
 obtain⟨u,v,aj⟩:=L.a.len;obtain⟨x,y,ak⟩:=L.b.len;subst aj ak;have z:=I h;have HO:=I L;have HP:=I T;have aB:xb<w.heap.size:=Qq h.now;have aA:=Qg T;have Z:Hid (¬(1<=i.tag/\i.tag<=3)->doAsk vals i m=.error (12,(m.now:Int))):=fun h=>by unfold doAsk ZI;rw[if_neg h]
 have Y:Hid ((1<=i.tag/\i.tag<=3)->doAsk vals i m=Xl (askL m.st i.tag i.oct vals i.b).1 (stL m (askL m.st i.tag i.oct vals i.b).2)):=fun h=>by unfold doAsk Nn;rw[if_pos h]
 have az:=Ww;have ay:=Wl;clear h L T;unfold Zh;go_enter func203,ntmps203;go_wp2_with fail;refine(TG i.tag i.oct _).mono ?_;rintro e t ⟨⟨wv,rfl,ao⟩,J⟩;have d:=I (((Below.refl w.heap.size w).alloc Ql _).trans (J.mono (by simp)));have D:=QP (QC w (.cells #[.int .i64 i.op,.int .i64 i.n,.int .i64 i.tag,.bool i.oct,.slice u i.a.length v,.slice x i.b.length y,.int .i64 i.at_] 63)) J;rcases ao with⟨au,aw,U⟩ | ⟨ht,rfl⟩
 rotate_left
 ·have aq:=(z.o.below d.o).now;have HT:=I ht;clear J D ht;go_wp2_with (go_at_call 168;refine(YE _ _ _ aq).mono ?_;rintro e w' ⟨⟨bb,hz,rfl,ad⟩,hb⟩);exact⟨rfl,by rw[Z.o HT.o];exact QB.from (QB.err rfl (Fr.of_below hb) ⟨bb,hz,rfl,ad⟩) (Fr.of_below d.o)⟩
 have Q:=I (Y.o ⟨au,aw⟩);have HW:=I U;obtain⟨F,fb,ap⟩:=U.fn;subst ap;have p1:=Qk (w:=t) (QP HP.o d.o);have q4:=QV D;have q5:=Q9 D;have x0:=(z.o.below d.o).pt;have ar:=z.o.below d.o;obtain⟨aC,ai⟩:=ar
 have P:Hid (∀ W:World,Fr (PMc B xb) t.drew W->W.cell? ⟨xb,0,none⟩=some (.pointer (some ⟨sb,0,none⟩))->W.cell? ⟨p,0,none⟩=some (.func (.func s) #[] #[])/\W.cell? ⟨xb,0,none⟩=some (.pointer (some ⟨sb,0,none⟩))/\W.cell? ⟨w.heap.size,4,none⟩=some (.slice u i.a.length v)/\W.cell? ⟨w.heap.size,5,none⟩=some (.slice x i.b.length y)):=fun W E hx=>by
  have h1:=E.block p _ (QP HP.o (Zq d.o)) (PMc.not (by decide) (by decide) (by decide) (by decide));have h2:=E.block w.heap.size _ (show t.drew.heap[w.heap.size]?=_ from D) (PMc.not (by decide) (by decide) (by decide) (by decide));exact⟨Qi h1 0,hx,Qi h2 4,Qi h2 5⟩
 clear ai;have V:=I (ab (.func (.func F) #[] fb) (.slice u i.a.length v) (.slice x i.b.length y) t.drew (HW.o.below (Zq (Below.refl _ _))) ((z.o.below (Zq d.o)).sat) (HO.o.below (Zq d.o)));generalize askL m.st i.tag i.oct vals i.b=r at *;obtain⟨rb,rs⟩:=r;dsimp only at Q V;clear J D U Y Z ab;go_wp2_with (go_at_call 168;refine(Y4 _ _).mono ?_;rintro e w' ⟨rfl,af⟩;rw[af];clear af);refine wp_region_held (S:=fun w'=>w'.cell? ⟨p,0,none⟩=some (.func (.func s) #[] #[])/\w'.cell? ⟨xb,0,none⟩=some (.pointer (some ⟨sb,0,none⟩))/\w'.cell? ⟨w.heap.size,4,none⟩=some (.slice u i.a.length v)/\w'.cell? ⟨w.heap.size,5,none⟩=some (.slice x i.b.length y)) (by kernel_rfl) ?_;have c:=P.o t.drew (Fr.refl _ _) x0;refine Qx 0 15 (.pointer (some ⟨xb,0,none⟩)) rfl c (fun w' ⟨g,k,l,q⟩=>by go_simp) ?_;simp only[pt,sz,sc];refine Qx 1 16 (.func (.func s) #[] #[]) rfl c (fun w' ⟨g,k,l,q⟩=>by go_simp) ?_;simp only[pt,sz,sc];refine Qx 2 17 (.pointer (some ⟨xb,0,none⟩)) rfl c (fun w' ⟨g,k,l,q⟩=>by go_simp) ?_;simp only[pt,sz,sc];refine Qx 3 18 (.pointer (some ⟨xb,0,none⟩)) rfl c (fun w' ⟨g,k,l,q⟩=>by go_simp) ?_;simp only[pt,sz,sc];refine Qx 4 19 (.pointer (some ⟨xb,0,none⟩)) rfl c (fun w' ⟨g,k,l,q⟩=>by go_simp) ?_;simp only[pt,sz,sc];refine Qx 5 20 (.pointer (some ⟨sb,0,none⟩)) rfl c (fun w' ⟨g,k,l,q⟩=>by go_simp) ?_;simp only[pt,sz,sc];refine Qx 6 21 (.func (.func F) #[] fb) rfl c (fun w' ⟨g,k,l,q⟩=>by go_simp) ?_;simp only[pt,sz,sc];refine Qx 7 22 (.pointer (some ⟨w.heap.size,4,none⟩)) rfl c (fun w' ⟨g,k,l,q⟩=>by go_simp) ?_;simp only[pt,sz,sc];refine Qx 8 23 (.slice u i.a.length v) rfl c (fun w' ⟨g,k,l,q⟩=>by go_simp) ?_;simp only[pt,sz,sc];refine Qx 9 24 (.pointer (some ⟨w.heap.size,5,none⟩)) rfl c (fun w' ⟨g,k,l,q⟩=>by go_simp) ?_;simp only[pt,sz,sc];refine Qx 10 25 (.slice x i.b.length y) rfl c (fun w' ⟨g,k,l,q⟩=>by go_simp) ?_;simp only[pt,sz,sc];refine wpAnyH_all (rs:=[11]) (by kernel_rfl) (by decide) (fun j G=>?_);simp only[List.mem_singleton]at G;subst G;refine QW rfl (by rfl) ?_;clear c;go_simp;refine V.o.mono ?_;rintro e w2 ⟨rfl,ae,K⟩;have X:=I ((z.o.below (Zq d.o)).st' ae K);have N:=I K;have ag:=I (P.o w2 (K.mono (fun _ _=>PMc.st)) X.o.pt);clear ae K;refine⟨ag.o,?_⟩
 try simp only[Act.put,List.setIfInBounds_toArray,List.set_cons_zero,List.set_cons_succ]
 refine wpAnyH_all (rs:=[12]) (by kernel_rfl) (by decide) (fun j G=>?_);simp only[List.mem_singleton]at G;subst G;refine QW rfl (by rfl) ?_;go_simp;refine(Vc rb B xb sb M (stL m rs) R w2 X.o).mono ?_;intro e w3 H;rcases H.cases with⟨E,⟨m',hr,rfl,hm⟩ | ⟨f,hr,bb,hz,rfl,ad⟩⟩
 rotate_left
 ·exact⟨rfl,by rw[Q.o];exact QB.from H ((Fr.of_below (Zq d.o)).trans (N.o.mono (fun _ _=>PMc.st)))⟩
 have H3:=I H;have ah:=I (P.o w3 ((N.o.mono (fun _ _=>PMc.st)).trans E) hm.pt);clear hm E H;refine⟨ah.o,wpAnyH_done (by kernel_rfl) ?_ _⟩
 try simp only[Act.put,List.setIfInBounds_toArray,List.set_cons_zero,List.set_cons_succ]
 go_wp2;go_end0;rw[Q.o];exact QB.from H3.o ((Fr.of_below (Zq d.o)).trans (N.o.mono (fun _ _=>PMc.st)))
theorem ME(p:Nat)(i:Ins)(d e:Value)(B xb sb:Nat)(M:Msg)(m:MS)(f:Nat)(w:World)(h:MAt w B xb sb M m f)(g:ZT w i d e)(j:w.heap[p]?=some (.cells #[.func (.func 158) #[] #[]] 280)) :
 Calls prog 203 #[.pointer (some ⟨xb,0,none⟩),Zh i d e,.pointer (some ⟨p,0,none⟩)] w (QB (doAsk (fieldsL M (i.a.map (expL m.st))) i m) B xb sb M f w):=
 A6 158 (fieldsL M (i.a.map (expL m.st))) p i d e B xb sb M m f w h g j (fun _ _=>by kernel_rfl) (fun n d e W l k c=>Mm i.tag i.oct B sb M m.st i.a i.b n d e W l k c.a c.b c.al c.bl c.an c.bn)
theorem F8(p:Nat)(i:Ins)(d e:Value)(B xb sb:Nat)(M:Msg)(m:MS)(f:Nat)(w:World)(h:MAt w B xb sb M m f)(g:ZT w i d e)(j:w.heap[p]?=some (.cells #[.func (.func 159) #[] #[]] 280)) :
 Calls prog 203 #[.pointer (some ⟨xb,0,none⟩),Zh i d e,.pointer (some ⟨p,0,none⟩)] w (QB (doAsk (envL M i.a) i m) B xb sb M f w):=
 A6 159 (envL M i.a) p i d e B xb sb M m f w h g j (fun _ _=>by kernel_rfl) (fun n d e W l k c=>IS i.tag i.oct B sb M m.st i.a i.b n d e W l k c.a c.b c.al c.bl c.an c.bn)
theorem IM(p:Nat)(i:Ins)(d e:Value)(B xb sb:Nat)(M:Msg)(m:MS)(f:Nat)(w:World)(h:MAt w B xb sb M m f)(g:ZT w i d e)(j:w.heap[p]?=some (.cells #[.func (.func 160) #[] #[]] 280)) :
 Calls prog 203 #[.pointer (some ⟨xb,0,none⟩),Zh i d e,.pointer (some ⟨p,0,none⟩)] w (QB (doAsk (i.a.map (expL m.st)) i m) B xb sb M f w):=
 A6 160 (i.a.map (expL m.st)) p i d e B xb sb M m f w h g j (fun _ _=>by kernel_rfl) (fun n d e W l k c=>Lo i.tag i.oct B sb M m.st i.a i.b n d e W l k c.a c.b c.al c.bl c.an c.bn)
end Go.Proofs.YtgnkjijocdmniaaGreatDoor
