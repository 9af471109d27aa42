import Derived.Test.YthkibedbcbgajaaGreatDoorZCCode
import Derived.Test.YthkibedbcbgajaaGreatDoorZMExec
import Derived.Test.YthkibedbcbgajaaGreatDoorPlainNever
import Derived.Test.YthkibedbcbgajaaGreatDoorPlainTwice
namespace Go.Proofs.YthkibedbcbgajaaGreatDoor
set_option linter.unusedVariables false
set_option linter.unusedSimpArgs false
set_option maxRecDepth 100000
set_option maxHeartbeats 4000000
open Go.Proofs.Tryz
section
open Go.RowKit
attribute [local go_sem ↓] Go.wp_at_zero Go.wp_at_succ
structure Env (w:World):Prop where
 m1:∃ m,w.cell? ⟨1,0,none⟩=some (.int .i64 m)
 et:Qfv w
 tab:Tab w
theorem Env.below{w w':World}(h:Env w)(hb:Below w.heap.size w w'):Env w':=by
 obtain⟨m,hm⟩:=h.m1;exact⟨⟨m,by rw[hb.cell (p:=⟨1,0,none⟩) (Qau hm)];exact hm⟩,h.et.below hb,h.tab.below hb⟩
def exT1:L8:=[105,102,32,104,101,97,100,101,114,32,34,83,117,98,106,101,99,116,34,32,34,120,34,32,123,32,100,105,115,99,97,114,100,59,32,125,32,101,108,115,101,32,123,32,107,101,101,112,59,32,125]
def Qxz:L8:=[107,101,101,112,59,32,105,102,32,123,32,125]
def QyH {α:Type} (r:Except Flt α):Bool:=match r with | .ok _=>true | .error _=>false
def Qyr {α:Type} (r:Except Flt α) (n p:Nat):Bool:=match r with | .ok _=>false | .error f=>f.err == n && f.pos == p
theorem Qx3:QyH (prL exT1)=true:=by kernel_rfl
theorem QsM:Qyr (prL Qxz) 4 9=true:=by kernel_rfl
theorem ex1:∃ y,prL exT1=.ok y:=by
 cases h:prL exT1 with
 |ok y=>exact⟨y,rfl⟩
 |error f=>have:=Qx3;rw[h]at this;cases this
theorem ex2:prL Qxz=.error ⟨4,9⟩:=by
 cases h:prL Qxz with
 |ok y=>have:=QsM;rw[h]at this;cases this
 |error f=>
  have:=QsM;rw[h]at this;have h2:(f.err==4&&f.pos==9)=true:=this;simp at h2;cases f;simp at h2;rw[h2.1,h2.2]
theorem Qrt(w:World)(he:Env w):Calls Tryz.prog 16 #[] w fun e w'=>e=.returned (.bool true)/\Below w.heap.size w w':=by
 have HE:=Qab he;clear he;go_enter func16,ntmps16;go_wp2_with fail;refine(Qfj ⟨exT1.toArray⟩ w HE.o.m1 HE.o.et).mono ?_;rintro e w1 ⟨hB,⟨aa,_⟩ | ⟨_,y,g,rv,lv,hy,rfl,hz,_⟩ | ⟨_,f,hf,_⟩⟩
 ·exact absurd aa (by decide)
 ·have HB:=Qab hB;have hs:=hB.size;clear hB hy;go_wp2_with fail;refine(Qfj ⟨Qxz.toArray⟩ w1 (HE.o.below HB.o).m1 (HE.o.below HB.o).et).mono ?_;rintro e w2 ⟨ab,⟨aa,_⟩ | ⟨_,y2,g2,rv2,lv2,ac,_⟩ | ⟨_,f,hf,rfl⟩⟩
  ·exact absurd aa (by decide)
  ·have h2:prL Qxz=.ok y2:=ac;rw[ex2]at h2;cases h2
  ·have h2:prL Qxz=.error f:=hf;rw[ex2]at h2;cases h2;have ad:=Qab (HB.o.trans (ab.mono hs));clear ab hf;go_wp2;go_ret;exact⟨rfl,ad.o⟩
 ·obtain⟨y,hy⟩:=ex1;have h2:prL exT1=.error f:=hf;rw[hy]at h2;cases h2
end
section
open Go.RowKit
structure Qxs (w:World):Prop where
 tab:Tab w
 tz:Tz w
 err:Qfv w
theorem Qxs.below{w w':World}(h:Qxs w)(hb:Below w.heap.size w w'):Qxs w':=
 ⟨h.tab.below hb,h.tz.below hb,(hb.cell (p:=⟨0,0,none⟩) (Qau (a:=⟨0,0,none⟩) h.err)).trans h.err⟩
theorem Fr.lowB{B:Nat}{u w w':World}(h:Below u.heap.size u w)(hf:Fr (PDk B) w w')(hB:u.heap.size<=B):Below u.heap.size u w':=
 h.trans (hf.below (fun _ _ hp=>Nat.le_trans hB hp.1) h.size)
theorem QxJ{F:Fs}{id:L8}{aa:List (Int×L8)}{text:L8}{fs:List Fl}(hr:filesL id aa text=.ok fs)(h1:id.length<=65536)(h2:text.length<=65536)(h3:∀ a∈aa,a.2.length<=65536)(hF:∀ x,(F x).isSome=true->Lib.hasPrefix x [46]=false):QnI F id aa text fs:=by
 obtain⟨a1,a2,a3,a4⟩:=Qkq 65536 hr h3;refine⟨hr,by omega,by omega,fun a h=>by have:=h3 a h;omega,hF,?_,by omega,a2,fun f hf=>⟨(a3 f hf).1,by have:=(a3 f hf).2;omega⟩,a4⟩;have hs:=Qka id text aa (by omega) (by omega) (fun a h=>⟨by have:=h3 a h;omega,a4 a h⟩);have hj:=QgQ (Qbn id text aa) (fun p hp=>by have:=Qn7 p hp;omega);omega
def Qrg (L:List (L8)) (fs:List Fl):List (L8):=L++fs.map (·.1)
theorem Qqu{F:Fs}{fs:List Fl}{L:List (L8)}(h:∀ x,(F x).isSome=true->x∈L)(hj:kJ∈L):Qdp F fs (Qrg L fs):=
 ⟨fun x hx=>List.mem_append_left _ (h x hx),List.mem_append_left _ hj,fun f hf=>List.mem_append_right _ (List.mem_map_of_mem hf)⟩
theorem QsX(L:List (L8))(fs:List Fl):(Qrg L fs).length=L.length+fs.length:=by
 unfold Qrg;rw[List.length_append,List.length_map]
theorem QtI{F:Fs}{id:L8}{aa:List (Int×L8)}{text:L8}{fs:List Fl}(hv:QnI F id aa text fs)(x:L8)(hx:(Qbo F fs x).isSome=true):Lib.hasPrefix x [46]=false:=by
 rcases putFs_somG x fs F hx with hx | ⟨f,hf,e⟩
 ·exact hv.dot x hx
 ·rw[<-e];exact QpS (hv.nm f hf).1
theorem Ql7{F:Fs}{id:L8}{aa:List (Int×L8)}{text:L8}{fs:List Fl}(B bb db bd:Nat)(L:List (L8))(av:Value)(l f kp pt:Int)(w:World)(hv:QnI F id aa text fs)(hL:Qdp F fs L)(hb:w.heap[bb]?=some (.cells #[.pointer (some ⟨db,0,none⟩)] 55))(h:Quf w B db bd L.length (fun M=>M=F))(hB:6<B)(ab:B<=w.heap.size)(ht:Tab w)(hz:Tz w)(hg:Qfv w)(ha:∀ w',Fr (PDk B) w w'->QjB w' av aa)(hn:L.length<=450000)(ac:-9223372036854775808<=pt)(ad:pt<=9223372036854775807) :
 Calls Tryz.prog 10 #[.pointer (some ⟨bb,0,none⟩),.string (sA id),av,.string (sA text),.int .i64 l,.int .i64 f,.int .i64 kp,.int .i64 pt] w fun e w'=>∃ k:Nat,e=.returned (.int .i64 (k:Int))/\Fr (PDk B) w w'/\((k=0/\Quf w' B db bd L.length (fun M=>M=Qbo F fs))\/((k=15\/k=16)/\Qx9 w' B db bd L.length F (QeX id text aa) fs)):=by
 by_cases hne:fs=[]
 ·obtain⟨bn,M,rfl,hA⟩:=h
  have hR:Qfo ⟨M,M,[],⟨l,f,false⟩⟩ id aa text=(0,⟨M,M,[],⟨l,f,false⟩⟩):=by
   unfold Qfo;rw[hv.ok];dsimp only;rw[if_pos hne]
  refine(Qdf B bb db bd bn L.length M id text aa av l f kp pt _ w hb hA ht hz hg ha (by have:=hv.li;omega) (by have:=hv.lt;omega) (fun a h=>by have:=hv.la a h;omega) (by have:=hv.a6;omega) hv.fj hn (fun _ _=>by have:=Qhc hv;omega) hB ab hR.symm (by simp) (by intro o ho;cases ho) (by intro o ho;cases ho) ac ad).mono ?_;rintro e w' ⟨he,hf,ae,D',N',p',af,ag⟩;refine⟨0,he,hf,Or.inl ⟨rfl,?_⟩⟩;rcases af with⟨_,rfl,rfl,rfl⟩ | ⟨hd,_⟩
  ·exact⟨ae,_,by rw[hne];rfl,ag.tight L hL.f hL.f⟩
  ·cases hd
 ·refine(Qs7 B bb db bd L av l f kp pt w hv hne hL hb h hB ab ht hz hg ha hn ac ad).mono ?_;rintro e w' ⟨k,he,hf,⟨h0,bn,M,hM,hA⟩|hG⟩
  ·exact⟨k,he,hf,Or.inl ⟨h0,bn,M,funext hM,hA⟩⟩
  ·exact⟨k,he,hf,Or.inr hG⟩
theorem QiN{F:Fs}{id:L8}{aa:List (Int×L8)}{text:L8}{fs:List Fl}(B bb db bd:Nat)(L:List (L8))(av:Value)(kp pt:Int)(w:World)(hv:QnI F id aa text fs)(hL:Qdp F fs L)(hb:w.heap[bb]?=some (.cells #[.pointer (some ⟨db,0,none⟩)] 55))(h:Quf w B db bd L.length (fun M=>M=F))(hB:6<B)(af:B<=w.heap.size)(ht:Tab w)(hz:Tz w)(hg:Qfv w)(ha:∀ w',Fr (PDk B) w w'->QjB w' av aa)(hn:L.length<=450000)(ag:-9223372036854775808<=pt)(ae:pt<=9223372036854775807) :
 Calls Tryz.prog 10 #[.pointer (some ⟨bb,0,none⟩),.string (sA id),av,.string (sA text),.int .i64 (-1),.int .i64 (-1),.int .i64 kp,.int .i64 pt] w fun e w'=>e=.returned (.int .i64 0)/\Fr (PDk B) w w'/\Quf w' B db bd L.length (fun M=>M=Qbo F fs):=by
 obtain⟨bn,M,rfl,hA⟩:=h;by_cases hne:fs=[]
 ·have hR:Qfo ⟨M,M,[],⟨-1,-1,false⟩⟩ id aa text=(0,⟨M,M,[],⟨-1,-1,false⟩⟩):=by
   unfold Qfo;rw[hv.ok];dsimp only;rw[if_pos hne]
  refine(Qdf B bb db bd bn L.length M id text aa av (-1) (-1) kp pt _ w hb hA ht hz hg ha (by have:=hv.li;omega) (by have:=hv.lt;omega) (fun a h=>by have:=hv.la a h;omega) (by have:=hv.a6;omega) hv.fj hn (fun _ _=>by have:=Qhc hv;omega) hB af hR.symm (by simp) (by intro o ho;cases ho) (by intro o ho;cases ho) ag ae).mono ?_;rintro e w' ⟨he,hf,ad,D',N',p',ab,ac⟩;refine⟨he,hf,?_⟩;rcases ab with⟨_,rfl,rfl,rfl⟩ | ⟨hd,_⟩
  ·exact⟨ad,_,by rw[hne];rfl,ac.tight L hL.f hL.f⟩
  ·cases hd
 ·have hR:Qfo ⟨M,M,[],⟨-1,-1,false⟩⟩ id aa text=Qa1 (Qbg (QeX id text aa) fs) ⟨M,M,[],⟨-1,-1,false⟩⟩:=by
   unfold Qfo;rw[hv.ok];dsimp only;rw[if_neg hne]
  have h0:(Qfo ⟨M,M,[],⟨-1,-1,false⟩⟩ id aa text).1=0:=by
   rw[hR];refine QgH _ _ 0 ?_ rfl;have:=hv.f10;unfold Qbg;simp;omega
  have hE:Qr9 M (QeX id text aa) fs (Qfo ⟨M,M,[],⟨-1,-1,false⟩⟩ id aa text) (Nxt M fs):=by rw[hR];exact Qns _ hv.fj hv.nj
  obtain⟨p1,p2,p3⟩:=Qh1 hv hE;refine(Qdf B bb db bd bn L.length M id text aa av (-1) (-1) kp pt _ w hb hA ht hz hg ha (by have:=hv.li;omega) (by have:=hv.lt;omega) (fun a h=>by have:=hv.la a h;omega) (by have:=hv.a6;omega) hv.fj hn (fun _ _=>by have:=Qhc hv;omega) hB af rfl (by omega) p2 p3 ag ae).mono ?_;rintro e w' ⟨he,hf,ad,D',N',p',ab,ac⟩;have hP:=Qoi hL hv.fj hv.nj hE (fun M' hM x hx=>hL.next x (by rw[<-hM x];exact hx)) he hf ab ac;obtain⟨k,hk,hf',hh⟩:=hP;rw[he,h0]at hk
  have hk0:k=0:=by
   injection hk with hk
   injection hk with _ hk
   omega
  rcases hh with⟨_,ah,M2,ai,aj⟩ | ⟨hh,_⟩
  ·exact⟨by rw[he,h0];rfl,hf,ah,M2,funext ai,aj⟩
  ·omega
theorem Qjn{F:Fs}(B bb db bd:Nat)(L:List (L8))(kp pt:Int)(w:World)(hF:∀ x,(F x).isSome=true->Lib.hasPrefix x [46]=false)(hL:∀ x,(F x).isSome=true->x∈L)(hj:kJ∈L)(hb:w.heap[bb]?=some (.cells #[.pointer (some ⟨db,0,none⟩)] 55))(h:Quf w B db bd L.length (fun M=>M=F))(hB:6<B)(ht:Tab w)(hz:Tz w)(hg:Qfv w)(hn:L.length<=450000)(aa:-9223372036854775808<=pt)(ab:pt<=9223372036854775807) :
 Calls Tryz.prog 12 #[.pointer (some ⟨bb,0,none⟩),.int .i64 (-1),.int .i64 (-1),.int .i64 kp,.int .i64 pt] w fun e w'=>e=.returned (.int .i64 0)/\Fr (PDk B) w w'/\Quf w' B db bd L.length (fun M=>M=F):=by
 have hv:QnI F [97] [] [] []:=QxJ rfl (by decide) (by decide) (fun a h=>by cases h) hF
 have hG:Qx9 w B db bd L.length F (QeX [97] [] []) []:=by
  obtain⟨bn,M,rfl,hA⟩:=h;exact⟨bn,_,_,[],hA,Or.inl ⟨fun _=>rfl,Or.inl rfl⟩,rfl⟩
 refine(QeB B bb db bd L kp pt w hv ⟨hL,hj,fun f hf=>by cases hf⟩ hb hG hB ht hz hg hn aa ab).mono ?_;rintro e w' ⟨he,hf,bn,M,hM,hA⟩;refine⟨he,hf,bn,M,?_,hA⟩;rcases hM with hM|hM
 ·exact funext hM
 ·exact funext hM
end
section
open Go.RowKit
attribute [local go_sem ↓] Go.wp_at_zero Go.wp_at_succ
theorem QwD{v:Bool}{aa:List Ins}{M:Msg}{w w5:World}{lv x0 y0:Value}{l:List (Int×L8)}{d B:Nat}(hx:execL v aa M=(l,d,none))(hB:Below w.heap.size w w5)(hv:ActsV w5 B lv l)(c0:w5.cell? ⟨w.heap.size+1,0,none⟩=some x0)(c1:w5.cell? ⟨w.heap.size+1+1,0,none⟩=some y0)(ac:w.heap.size+1+1<B) :
 ∃ W,W=(w5.setCell ⟨w.heap.size+1,0,none⟩ lv).setCell ⟨w.heap.size+1+1,0,none⟩ .nilIface/\W.cell? ⟨w.heap.size+1,0,none⟩=some lv/\W.cell? ⟨w.heap.size+1+1,0,none⟩=some .nilIface/\Hid (Qr8 (execL v aa M) w (.returned (.tuple #[lv,.int .i64 (d:Int),.nilIface])) W):=by
 refine⟨_,rfl,?_,?_,?_⟩
 ·rw[World.cell?_setCell_other _ _ _ _ (by simp),World.cell?_setCell_same _ _ _ c0]
 ·have ab:(w5.setCell ⟨w.heap.size+1,0,none⟩ lv).cell? ⟨w.heap.size+1+1,0,none⟩=some y0:=by rw[World.cell?_setCell_other _ _ _ _ (by simp)];exact c1
  exact World.cell?_setCell_same _ _ _ ab
 ·rw[hx];exact⟨(hB.setCell (show w.heap.size<=w.heap.size+1 by omega) _).setCell (show w.heap.size<=w.heap.size+1+1 by omega) _,Or.inl ⟨lv,rfl,rfl,((hv.set (by omega) _ _).set ac _ _).lo (by omega)⟩⟩
theorem MI.atNext{w:World}{B xb sb:Nat}{M:Msg}{m:MS}{aa:Nat}{kv:Value}(h:MI w B xb sb M m aa kv)(hlt:m.next<aa):MAt ((w.setCell ⟨xb,2,none⟩ (.int .i64 (m.next:Int))).setCell ⟨xb,3,none⟩ (.int .i64 ((m.next:Int)+1))).drew.drew B xb sb M (atL m) aa/\Fr (PMc B xb) w ((w.setCell ⟨xb,2,none⟩ (.int .i64 (m.next:Int))).setCell ⟨xb,3,none⟩ (.int .i64 ((m.next:Int)+1))).drew.drew:=by
 have hcl:=h.cl;have f1:=h.set 2 (.int .i64 (m.next:Int)) ⟨m.st,m.stack,m.next,m.next⟩ kv rfl rfl (QbU h.stack h.row _ _) h.sl (show m.next<=400 by omega) h.nx;have f2:=f1.1.set 3 (.int .i64 ((m.next:Int)+1)) (atL m) kv rfl rfl (QbU f1.1.stack f1.1.row _ _) h.sl (show m.next<=400 by omega) (show m.next+1<=aa by omega);obtain⟨X,hX⟩:∃ X,X=(w.setCell ⟨xb,2,none⟩ (.int .i64 (m.next:Int))).setCell ⟨xb,3,none⟩ (.int .i64 ((m.next:Int)+1)):=⟨_,rfl⟩;rw[<-hX]at f2 ⊢;have hb:Below X.heap.size X X.drew.drew:=Qas (Qas (Below.refl X.heap.size X));exact⟨⟨_,f2.1.below hb⟩,((f1.2.trans f2.2).mono (fun _ _=>PMc.k)).trans (Fr.of_below hb)⟩
theorem Qr3(v:Bool)(cv hv:Value)(aa:List Ins)(M:Msg)(w:World)(hc:QeM w cv aa)(hh:QjG w hv M.hdrs)(hb:SBd M (ss0 v))(h1:1<w.heap.size)(hm:∃ m,w.cell? ⟨1,0,none⟩=some (.int .i64 m))(ht:Tab w)(hn:aa.length<=1000000)(hlong:¬ 400<aa.length) :
 Calls Tryz.prog 39 #[.bool v,cv,QfV M hv] w (Qr8 (execL v aa M) w):=by
 have hmf:∀(fn:Fn) (first cap:Array Value) (w:World),(Instr.makeFunc fn first cap).run Tryz.prog w=.ok (.func fn first cap) w:=fun _ _ _ _=>rfl
 obtain⟨ca,cc,bq⟩:=hc.len;subst bq;obtain⟨ha,aK,bn⟩:=hh.len;subst bn;unfold QfV;have hlong':¬(400:Int)<(aa.length:Int):=by omega
 have HC:=Qab hc;have HH:=Qab hh;have bi:=Qab hb;have HT:=Qab ht;have a8:=Qab hm;clear hc hh hb ht hm;go_enter_defers func39,ntmps39;go_wp2_with fail;obtain⟨V,hV⟩:∃ V,V=((w.alloc (.cells #[.string (sA M.fr),.string (sA M.to),.int .i64 M.size,.slice ha M.hdrs.length aK] 28)).alloc (.cells #[.slice none 0 0] 29)).alloc (.cells #[.nilIface] 61):=⟨_,rfl⟩;have hzV:V.heap.size=w.heap.size+3:=by rw[hV];simp
 have hP:V.heap[w.heap.size+1]?=some (.cells #[.slice none 0 0] 29):=by rw[hV];exact Qac (Qaq (by simp))
 have hQ:V.heap[w.heap.size+1+1]?=some (.cells #[.nilIface] 61):=by rw[hV];exact Qaq (by simp)
 have ay:Below w.heap.size w V:=by rw[hV];exact(((Below.refl _ _).alloc (Nat.le_refl _) _).alloc (by simp) _).alloc (by simp;omega) _
 rw[<-hV];clear hV;have aX:=Qab ay;have HP:=Qab hP;have HQ:=Qab hQ;refine(Qw0 v M (.slice ha M.hdrs.length aK) V (HH.o.fr (P:=fun _ _=>False) (Fr.of_below ay) (fun _ _ h=>h)) bi.o (by omega) (by obtain⟨m,hm⟩:=a8.o;exact⟨m,(ay.cell (p:=⟨1,0,none⟩) (Qau hm)).trans hm⟩)).mono ?_;rintro e w1 ⟨sb,rfl,hs,aE⟩;have HS:=Qab hs;have aW:=Qab aE;have aV:=aE.size;clear ay hP hQ hs aE;go_wp2_with fail;refine(QsC _).mono ?_;rintro e w2 ⟨rfl,aN,aT,aO⟩;obtain⟨xb,ah⟩:∃ xb,xb=w1.heap.size:=⟨_,rfl⟩;have aJ:w2.heap.size=xb+7:=by rw[aO,ah];simp
 have aM:(w1.alloc (.cells (Qem sb (.slice none 0 0) 0 0 aa.length) 142)).heap.size=xb+1:=by rw[ah];simp
 have aj:Qeo w2 (xb+1):=by rw[<-aM];exact aN
 have af:Below (w1.alloc (.cells (Qem sb (.slice none 0 0) 0 0 aa.length) 142)).heap.size (w1.alloc (.cells (Qem sb (.slice none 0 0) 0 0 aa.length) 142)) w2:=aT;have ao:w2.heap[xb]?=some (.cells (Qem sb (.slice none 0 0) 0 0 aa.length) 142):=by rw[ah];exact Qai (Qam _ _) af
 have bm:aa.length<=400:=by omega
 have ad:Below w1.heap.size w1 w2:=((Below.refl _ _).alloc (Nat.le_refl _) _).trans (af.mono (by simp));have bf:Hid (MAt w2 V.heap.size xb sb M (ms0 v) aa.length):=⟨.slice none 0 0,by omega,ao,HS.o.below ad,World.ownsRow_nil _ _ _ _,Nat.zero_le _,Nat.zero_le _,Nat.zero_le _,bm,by omega⟩;have bd:=Qab aj;have ag:=Qab (aX.o.trans ((aW.o.trans (ad.mono aV)).mono (by omega)));have ab:=Qab (aW.o.trans (ad.mono aV));have bo:w1.heap.size+6=xb+6:=by omega
 have bj:w1.heap.size+1+5=xb+6:=by omega
 have aI:∀ o:Obj,(w1.alloc o).heap.size=xb+1:=fun o=>by rw[ah];simp
 rw[aI,<-ah];clear aN aT af ao ad aj aM aO;have hxbV:V.heap.size<=xb:=by omega
 have hx2l:xb+7<=w2.heap.size:=by omega
 clear ah bo bj aJ;go_wp2_with fail
 go_loopw [7] (fun dn wr=>∃(m:MS) (d:Nat),dn=.int .i64 (d:Int)/\MAt wr V.heap.size xb sb M m aa.length/\Fr (PMc V.heap.size xb) w2 wr/\d<=m.next/\∃ F,aa.length - m.next<=F/\QfL M aa aa.length (ms0 v) 0=QfL M aa F m d) (fun dn _=>aa.length - (intOf dn).toNat)
 case atStart=>exact⟨ms0 v,0,rfl,bf.o,Fr.refl _ _,Nat.le_refl _,aa.length,Nat.sub_le _ _,rfl⟩
 case round=>
  obtain⟨m,d,rfl,aY,aP,hdm,F,hF,ae⟩:=hrel;obtain⟨kv,ai⟩:=aY;have ar:=Qab ai;have ak:=Qab aP;have aC:=Qab ae;have c0:wr.cell? ⟨xb,0,none⟩=some (.pointer (some ⟨sb,0,none⟩)):=Qaa ai.blk 0;have c3:wr.cell? ⟨xb,3,none⟩=some (.int .i64 (m.next:Int)):=Qaa ai.blk 3;have c4:wr.cell? ⟨xb,4,none⟩=some (.int .i64 (aa.length:Int)):=Qaa ai.blk 4;have hnx:=ai.nx;clear ai aP ae;by_cases hlt:m.next<aa.length;rotate_left
  ·have aD:¬(m.next:Int)<(aa.length:Int):=by omega
   have HL:Hid (QfL M aa aa.length (ms0 v) 0=(.ok m,d)):=by
    show _=_
    rw[aC.o]
    cases F with
    |zero=>rfl
    |succ F=>unfold QfL;rw[if_neg hlt]
   have HX:=Qab (Quo (v:=v) hlong HL.o);go_wp2_with fail;go_region_held3 (fun w'=>w'.cell? ⟨xb,3,none⟩=some (.int .i64 (m.next:Int))/\w'.cell? ⟨xb,4,none⟩=some (.int .i64 (aa.length:Int))) (first|go_keep) (fail)
   all_goals go_wp2_with fail
   all_goals refine(Qn5 V.heap.size sb M m.st _ ((ar.o.st).below (Qas (Below.refl _ _)))).mono ?_
   all_goals rintro e w5 ⟨lv,rfl,aA,ax⟩
   all_goals obtain⟨a5,k5,aH⟩:=Qat aA.1
   all_goals subst aH
   all_goals have aF:w5.heap[w.heap.size+1]?=some (.cells #[.slice none 0 0] 29):=Qai (show wr.drew.heap[w.heap.size+1]?=_ from ak.o.block _ _ (Qai HP.o ab.o) (PMc.not (by decide) (by decide) (by decide) (by decide))) ax
   all_goals have aB:w5.heap[w.heap.size+1+1]?=some (.cells #[.nilIface] 61):=Qai (show wr.drew.heap[w.heap.size+1+1]?=_ from ak.o.block _ _ (Qai HQ.o ab.o) (PMc.not (by decide) (by decide) (by decide) (by decide))) ax
   all_goals have x1:w5.cell? ⟨w.heap.size+1,0,none⟩=some (.slice none 0 0):=Qaa aF 0
   all_goals have x2:w5.cell? ⟨w.heap.size+1+1,0,none⟩=some .nilIface:=Qaa aB 0
   all_goals have z1:=Qah aF
   all_goals have z2:=Qah aB
   all_goals have hwr:w.heap.size+3<=wr.heap.size:=by have h1:=ak.o.size;have h2:=ab.o.size;omega
   all_goals have aR:Below w.heap.size w w5:=(ag.o.trans ((ak.o.below (B:=w.heap.size) (fun k o h=>by have:=h.1;omega) ag.o.size).trans (((Qas (Below.refl wr.heap.size wr)).trans (ax.mono (Nat.le_refl _))).mono (by omega))))
   all_goals have bg:=Qab aR
   all_goals have br:=Qab aA
   all_goals clear aR aA aF aB ax
   all_goals go_wp2
   all_goals refine leaves_cons (f:=62) (args:=#[.pointer (some ⟨w.heap.size+1,0,none⟩),.pointer (some ⟨w.heap.size+1+1,0,none⟩)]) (by simp) (by simp[go_sem]) ?_
   all_goals refine(Qoo ⟨w.heap.size+1,0,none⟩ ⟨w.heap.size+1+1,0,none⟩ _).mono ?_
   all_goals rintro e u' bc ⟨rfl,rfl,rfl⟩
   all_goals obtain⟨W,hW,e0,e1,ac⟩:=QwD HX.o bg.o br.o x1 x2 (show w.heap.size+1+1<wr.drew.heap.size from by show _<wr.heap.size;omega)
   all_goals rw[<-hW]
   all_goals clear hW
   all_goals simp[Leaves,settle,results,results39,go_sem,e0,e1]
   all_goals exact ac.o
  ·have aD:(m.next:Int)<(aa.length:Int):=by omega
   have z0:=Qah ar.o.blk;go_wp2_with fail;go_region_held3 (fun w'=>w'.cell? ⟨xb,3,none⟩=some (.int .i64 (m.next:Int))/\w'.cell? ⟨xb,4,none⟩=some (.int .i64 (aa.length:Int))) (first|go_keep) (fail)
   all_goals go_wp2_with fail
   all_goals have c2:wr.cell? ⟨xb,2,none⟩=some (.int .i64 (m.now:Int)):=Qaa ar.o.blk 2
   all_goals have hnx8:(m.next:Int)<400:=by omega
   all_goals have hnx0:(0:Int)<=(m.next:Int):=by omega
   all_goals refine wp_region_noPanic ?_
   all_goals go_region
   all_goals refine NoPanic.normal ?_
   all_goals obtain⟨aw,aG⟩:=ar.o.atNext hlt
   all_goals obtain⟨W,hW⟩:∃ W,W=((wr.setCell ⟨xb,2,none⟩ (.int .i64 (m.next:Int))).setCell ⟨xb,3,none⟩ (.int .i64 ((m.next:Int)+1))).drew.drew:=⟨_,rfl⟩
   all_goals rw[<-hW]at aw aG
   all_goals rw[<-hW]
   all_goals clear hW
   all_goals have au:Fr (PMc V.heap.size xb) w2 W:=ak.o.trans aG
   all_goals obtain⟨g,cs,bl,hg,av,bv,a1,a2,a3,a4,a5,a6,a7,ho⟩:=((HC.o.below ag.o).pm au).get' m.next hlt
   all_goals subst bl
   all_goals have e0:W.cell? ⟨g,m.next*7,none⟩=some (.int .i64 aa[m.next].op):=(Qaa hg _).trans a1
   all_goals have e1:W.cell? ⟨g,m.next*7+1,none⟩=some (.int .i64 aa[m.next].n):=(Qaa hg _).trans a2
   all_goals have e2:W.cell? ⟨g,m.next*7+2,none⟩=some (.int .i64 aa[m.next].tag):=(Qaa hg _).trans a3
   all_goals have e3:W.cell? ⟨g,m.next*7+3,none⟩=some (.bool aa[m.next].oct):=(Qaa hg _).trans a4
   all_goals have e4:W.cell? ⟨g,m.next*7+4,none⟩=some av:=(Qaa hg _).trans a5
   all_goals have e5:W.cell? ⟨g,m.next*7+5,none⟩=some bv:=(Qaa hg _).trans a6
   all_goals have e6:W.cell? ⟨g,m.next*7+6,none⟩=some (.int .i64 aa[m.next].at_):=(Qaa hg _).trans a7
   all_goals have en:W.cell? ⟨xb,2,none⟩=some (.int .i64 (m.next:Int)):=aw.now
   all_goals have bk:=Qab aw
   all_goals have aq:=Qab au
   all_goals have HO:=Qab ho
   all_goals have aZ:=Qab (ag.o.trans (au.below (B:=w.heap.size) (fun k o h=>by have:=h.1;omega) ag.o.size))
   all_goals clear aw aG au hg a1 a2 a3 a4 a5 a6 a7 c0 c2 c3 c4 z0
   all_goals go_wp2_with fail
   all_goals refine(Qx6 aa[m.next] av bv V.heap.size xb sb M (atL m) aa.length W bk.o HO.o (bd.o.fr aq.o) (HT.o.below aZ.o)).mono ?_
   all_goals rintro e w6 ⟨ap,h6⟩
   all_goals have hgd:aa.getD m.next QyE=aa[m.next]:=by simp[List.getD,hlt]
   all_goals cases hr:Qk9 M aa.length aa[m.next] (atL m)with
   |ok m'=>
    rw[hr]at h6;obtain⟨rfl,aL⟩:=h6;have aQ:=QqL hr (show m.next+1<=aa.length by omega);have hn1:m.next+1<=m'.next:=aQ.1
    have ac:Hid (∃ F,aa.length - m'.next<=F/\QfL M aa aa.length (ms0 v) 0=QfL M aa F m' (d+1)):=by
     show ∃ F,_
     rw[aC.o]
     cases F with
     |zero=>omega
     |succ F=>exact⟨F,by omega,by rw[QfL,if_pos hlt,hgd,hr]⟩
    have bt:=Qab aL;have bs:=Qab (aq.o.trans ap);clear aL ap aQ hr;go_wp2_with fail;refine⟨⟨m',d+1,rfl,bt.o,bs.o,by omega,ac.o⟩,?_⟩;simp[intOf];omega
   |error f=>
    rw[hr]at h6;obtain⟨bb,hbb,rfl,a0⟩:=h6;have az:Fr (PMc V.heap.size xb) w2 w6:=aq.o.trans ap;have hWz:w.heap.size+3<=W.heap.size:=by have h1:=aq.o.size;have h2:=ab.o.size;omega
    have hW6:W.heap.size<=w6.heap.size:=ap.size;have aU:w6.heap[w.heap.size+1]?=some (.cells #[.slice none 0 0] 29):=az.block _ _ (Qai HP.o ab.o) (PMc.not (by decide) (by decide) (by decide) (by decide));have aS:w6.heap[w.heap.size+1+1]?=some (.cells #[.nilIface] 61):=az.block _ _ (Qai HQ.o ab.o) (PMc.not (by decide) (by decide) (by decide) (by decide));have a9:Below w.heap.size w w6:=ag.o.trans (az.below (B:=w.heap.size) (fun k o h=>by have:=h.1;omega) ag.o.size)
    have HR:=Qab (QsP (v:=v) (f:=f) (d:=d+1) hlong (by
     rw[aC.o]
     cases F with
     |zero=>omega
     | succ F=>rw [QfL,if_pos hlt,hgd,hr]))
    have x1:w6.cell? ⟨w.heap.size+1,0,none⟩=some (.slice none 0 0):=Qaa aU 0;have x2:w6.cell? ⟨w.heap.size+1+1,0,none⟩=some .nilIface:=Qaa aS 0;have z1:=Qah aU;have z2:=Qah aS;refine leaves_cons (f:=62) (args:=#[.pointer (some ⟨w.heap.size+1,0,none⟩),.pointer (some ⟨w.heap.size+1+1,0,none⟩)]) (by simp) (by simp[go_sem]) ?_;refine(Qer (w.heap.size+1) (w.heap.size+1+1) _ _ ⟨bb,0,none⟩ [] _ x1 x2 z1 z2 (by omega)).mono ?_;rintro e u' bc ⟨rfl,rfl,lv,w7,bp,ba,rfl⟩;obtain⟨X,hX,y0,y1,hB,hA,bh⟩:=Qkm (f:=f) (bb:=bb) (P:=w.heap.size+1) a9 (by omega) (by omega) bp ba (by omega) (by omega) (by omega) a0 _ _ x1 x2;rw[<-hX]
    have ac:Hid (Qr8 (execL v aa M) w (.returned (.tuple #[lv,.int .i64 ((d:Int)+1),.iface 76 (.pointer (some ⟨bb,0,none⟩))])) X):=by
     rw[HR.o];exact⟨hB,Or.inr ⟨lv,f,_,rfl,rfl,hA,by omega,bh⟩⟩
    obtain⟨la,lk,aH⟩:=Qat hA.1;subst aH;simp[Leaves,settle,results,results39,go_sem,y0,y1];exact ac.o
theorem Qun(v:Bool)(cv hv:Value)(aa:List Ins)(M:Msg)(w:World)(hc:QeM w cv aa)(hh:QjG w hv M.hdrs)(hb:SBd M (ss0 v))(h1:1<w.heap.size)(hm:∃ m,w.cell? ⟨1,0,none⟩=some (.int .i64 m))(ht:Tab w)(hn:aa.length<=1000000) :
 Calls Tryz.prog 39 #[.bool v,cv,QfV M hv] w (Qr8 (execL v aa M) w):=by
 by_cases hl:400<aa.length
 ·exact QsO v cv hv aa M w hc hh hb h1 hm ht hn hl
 ·exact Qr3 v cv hv aa M w hc hh hb h1 hm ht hn hl
theorem QqN.codeV{w:World}{B:Nat}{cv:Value}{ab:List Ins}(h:QqN w B cv ab):QeM w cv ab:=by
 obtain⟨ps,rfl,ho,hk,hn⟩:=h;by_cases h0:ps=[]
 ·subst h0;exact Or.inl ⟨hn rfl,rfl⟩
 ·rcases ho.2 with⟨_,h2⟩ | ⟨g,ad,ac,hv,hg,hb,hc,_,hs,ht⟩
  ·exact absurd (List.eq_nil_of_length_eq_zero h2) h0
  ·refine Or.inr ⟨g,ad,ac,by rw[List.length_map];exact hv,hb,fun j hj=>?_⟩;rw[List.length_map]at hj
   have aa:∀ k,k<7->ac[j*7+k]?=(QgP ps[j])[k]?:=fun k hk=>by
    rw[<-Qiz ps j hj k hk,<-ht,List.getElem?_take_of_lt (by omega)];simp
   have hi:(ps.map Prod.fst)[j]'(by simpa using hj)=ps[j].1:=by simp
   rw[hi];exact⟨ps[j].2.1,ps[j].2.2,aa 0 (by omega),aa 1 (by omega),aa 2 (by omega),aa 3 (by omega),aa 4 (by omega),aa 5 (by omega),aa 6 (by omega),hk _ (List.getElem_mem hj)⟩
theorem Qtj(g:Nat)(y:List (L8)×List (QdT 7))(rv lv:Value)(w:World)(X:Nat->Prop)(h:w.heap[g]?=some (.cells #[rv,lv] 96))(hr:QlU X y.1 w rv)(hb:blX X (Qji 7) y.2 w lv)(ha:∀ c∈y.2,QnQ (WfT y.1) (WfC y.1) 7 c)(hl:(QhD y).length<=100000) :
 Calls Tryz.prog 40 #[.pointer (some ⟨g,0,none⟩)] w fun e w'=>∃ cv,e=.returned cv/\QqN w' w.heap.size cv (QeF y.2)/\Below w.heap.size w w':=by
 obtain⟨a1,n1,c1,rfl⟩:∃ a n c,rv=.slice a n c:=by
  rcases hr with⟨_,rfl⟩ | ⟨g',c',rfl,_⟩
  ·exact⟨_,_,_,rfl⟩
  ·exact⟨_,_,_,rfl⟩
 obtain⟨a2,n2,c2,rfl⟩:=hb.form;have H:=Qab h;have aj:=Qab hb;clear h hr hb;go_enter func40,ntmps40;go_wp2_with fail;refine(QpH g a1 a2 n1 c1 n2 c2 w H.o).mono ?_;rintro e w1 ⟨rfl,aa⟩;have ah:=Qab aa;have ae:=aa.size;have ab:=Qab (aj.o.keep (QaV 7) (fun k _ hk=>aa.block k hk));clear aa;go_wp2_with fail;refine(Qx1 y _ _ X _ ⟨_,_,_,rfl⟩ ab.o ha hl).mono ?_;rintro e w2 ⟨cv,rfl,ac,ad⟩;have ai:=Qab (ah.o.trans (ad.mono ae));obtain⟨a5,k5,ag⟩:=ac.len;subst ag;have af:=Qab ac;clear ad ac;go_wp2;go_ret;obtain⟨ps,e1,e2,e3,e4⟩:=af.o;exact⟨_,rfl,⟨ps,e1,Qig e2 ae,e3,e4⟩,ai.o⟩
def varsB (req:List (L8)):Bool:=Lib.containsS (req.map sA) (sA Qbm)
theorem QtV(a b:Value)(W:World):(Instr.field 92 (.agg #[a,b]) 0).run Tryz.prog W=.ok a W:=by kernel_rfl
def Qou (r:List (Int×L8)×Nat×Option FZ) (w:World) (e:Ending) (w':World):Prop:=
 Below w.heap.size w w'∧((∃ lv,r.2.2=none∧e=.returned (.tuple #[lv,.nilIface])∧ActsV w' w.heap.size lv r.1)∨
  (∃ lv f bb,r.2.2=some f∧e=.returned (.tuple #[lv,.iface 76 (.pointer (some ⟨bb,0,none⟩))])∧ActsV w' w.heap.size lv r.1∧w.heap.size≤bb∧w'.heap[bb]?=some (.cells #[.int .i64 f.1,.int .i64 f.2] 81)))
theorem QkD(X:Nat->Prop)(req:List (L8))(rv:Value)(w:World)(hr:QlU X req w rv)(hl:req.length<=1000000) :
 Calls Tryz.prog 37 #[rv,.string (sA Qbm)] w fun e w'=>e=.returned (.bool (varsB req))/\w'=w:=by
 rcases hr with⟨h0,rfl⟩ | ⟨g,c,rfl,_,ht,hne⟩
 ·subst h0;exact Tryz.slices_Contains_string_empty none 0 (sA Qbm) w
 ·have:=Tryz.slices_Contains_string g 0 req.length c (req.map sA) (sA Qbm) w (by simp) (by omega) (fun j hj=>by
   rw[List.length_map]at hj;rw[Nat.zero_add,ht j hj,List.getD_eq_getElem?_getD,List.getD_eq_getElem?_getD,List.getElem?_map,List.getElem?_eq_getElem hj]
   rfl)
  rw[List.take_of_length_le (by simp)]at this;exact this
theorem QuL(g:Nat)(y:List (L8)×List (QdT 7))(rv lv hv:Value)(M:Msg)(w:World)(X:Nat->Prop)(h:w.heap[g]?=some (.cells #[rv,lv] 96))(hr:QlU X y.1 w rv)(hb:blX X (Qji 7) y.2 w lv)(ha:∀ c∈y.2,QnQ (WfT y.1) (WfC y.1) 7 c)(hl:(QhD y).length<=100000)(av:y.1.length<=1000000)
 (hh:QjG w hv M.hdrs) (ao:∀ v,SBd M (ss0 v)) (h1:1<w.heap.size) (hm:∃ m,w.cell? ⟨1,0,none⟩=some (.int .i64 m)) (ht:Tab w) :
 Calls Tryz.prog 25 #[.pointer (some ⟨g,0,none⟩),QfV M hv] w (Qou (execL (varsB y.1) (QeF y.2) M) w):=by
 obtain⟨a1,n1,c1,rfl⟩:∃ a n c,rv=.slice a n c:=by
  rcases hr with⟨_,rfl⟩ | ⟨g',c',rfl,_⟩
  ·exact⟨_,_,_,rfl⟩
  ·exact⟨_,_,_,rfl⟩
 obtain⟨a2,n2,c2,rfl⟩:=hb.form;obtain⟨ah,ch,rfl⟩:=hh.len;have aj:(QeF y.2).length<=1000000:=by have:=QpB ha;omega
 have H:=Qab h;have HR:=Qab hr;have aA:=Qab hb;have HHD:=Qab hh;have HT:=Qab ht;have HM:=Qab hm;have HBD:=Qab ao;have HCL:=Qab aj;clear h hr hb hh ht hm ao aj;unfold QfV;have hft:=QtV;go_enter func25,ntmps25;obtain⟨W0,ac⟩:∃ W0,W0=w.alloc (.cells #[.string (sA M.fr),.string (sA M.to),.int .i64 M.size,.slice ah M.hdrs.length ch] 28):=⟨_,rfl⟩;have ae:Hid (Below w.heap.size w W0):=by show Below _ _ _;rw[ac];exact(Below.refl _ _).alloc (Nat.le_refl _) _
 have az:Hid (W0.heap[w.heap.size]?=some (.cells #[.string (sA M.fr),.string (sA M.to),.int .i64 M.size,.slice ah M.hdrs.length ch] 28)):=by show _=_;rw[ac];exact Qam _ _
 have ar:=ae.o.size;have ak:=Qab ac;clear ac;go_wp2_with (first|(go_at_call 37;refine(QkD X y.1 _ _ aw.o av).mono ?_;rintro e w2 ⟨rfl,ap⟩;rw[ap];clear ap;skip)|(go_at_call 38;rw[<-ak.o];refine(QpH g a1 a2 n1 c1 n2 c2 W0 (Qai H.o ae.o)).mono ?_;rintro e w1 ⟨rfl,af⟩;have ab:=Qab (ae.o.trans (af.mono ar));have aa:=Qab (Qai az.o af);have aw:=Qab (HR.o.keep (w':=w1) (fun k _ hk=>ab.o.block k hk));clear af;skip));have c0:w1.cell? ⟨w.heap.size,0,none⟩=some (.string (sA M.fr)):=Qaa aa.o 0;have c1:w1.cell? ⟨w.heap.size,1,none⟩=some (.string (sA M.to)):=Qaa aa.o 1;have c2:w1.cell? ⟨w.heap.size,2,none⟩=some (.int .i64 M.size):=Qaa aa.o 2;have c3:w1.cell? ⟨w.heap.size,3,none⟩=some (.slice ah M.hdrs.length ch):=Qaa aa.o 3;have h1l:=Qar aa.o;have aq:=ab.o.size;obtain⟨vb,ad⟩:∃ vb,varsB y.1=vb:=⟨_,rfl⟩;rw[ad];have au:=Qab ad;clear ad ak
 go_region_held3 (fun w'=>w'.cell? ⟨w.heap.size,0,none⟩=some (.string (sA M.fr))∧w'.cell? ⟨w.heap.size,1,none⟩=some (.string (sA M.to))∧w'.cell? ⟨w.heap.size,2,none⟩=some (.int .i64 M.size)∧w'.cell? ⟨w.heap.size,3,none⟩=some (.slice ah M.hdrs.length ch)) (first | go_keep | exact ⟨Qaa HM3.o 0,Qaa HM3.o 1,Qaa HM3.o 2,Qaa HM3.o 3⟩) (first
  |(go_at_call 40;refine(Qtj g y _ _ _ X (Qai (w:=w) (w':=w1.drew) H.o ab.o.drew) (HR.o.keep (w':=w1.drew) (fun k _ hk=>ab.o.block k hk)) (aA.o.keep (QaV 7) (w':=w1.drew) (fun k _ hk=>ab.o.block k hk)) ha hl).mono ?_;rintro e w2 ⟨cv,rfl,ai,ag⟩;obtain⟨a5,k5,ay⟩:=ai.len;subst ay;have HC2:=Qab ai;have HB2:=Qab (ab.o.drew.trans (ag.mono aq));have HM2:=Qab (Qai (w:=w1.drew) aa.o ag);have d0:w2.cell? ⟨w.heap.size,0,none⟩=some (.string (sA M.fr)):=Qaa HM2.o 0;have d1:w2.cell? ⟨w.heap.size,1,none⟩=some (.string (sA M.to)):=Qaa HM2.o 1;have d2:w2.cell? ⟨w.heap.size,2,none⟩=some (.int .i64 M.size):=Qaa HM2.o 2;have d3:w2.cell? ⟨w.heap.size,3,none⟩=some (.slice ah M.hdrs.length ch):=Qaa HM2.o 3;have h2s:=HB2.o.size;clear ai ag;skip)
  | (go_at_call 39;refine (Qun vb _ _ (QeF y.2) M w2 HC2.o.codeV (HHD.o.fr (P:=fun _ _=>False) (Fr.of_below HB2.o) (fun _ _ h=>h)) (HBD.o _) (by omega) (by obtain ⟨m,hm⟩:=HM.o;exact ⟨m,(HB2.o.cell (p:=⟨1,0,none⟩) h1).trans hm⟩) (HT.o.below HB2.o) HCL.o).mono ?_;rintro e w3 ⟨hB3,hX⟩;have HB3:=Qab (HB2.o.trans (hB3.mono h2s));have HM3:=Qab (Qai HM2.o hB3);clear hB3;have hX':∃ lv' ev',e=.returned (.tuple #[lv',.int .i64 ((execL vb (QeF y.2) M).2.1:Int),ev']):=(by rcases hX with ⟨lv,_,he,_⟩ | ⟨lv,f,bb,_,he,_⟩ <;> exact ⟨_,_,he⟩);have HX:=Qab hX;obtain ⟨lv',ev',he⟩:=hX';subst he;clear hX;skip))
 all_goals (
  have HFIN:Hid (Qou (execL vb (QeF y.2) M) w (.returned (.tuple #[lv',ev'])) w3):=by
   refine⟨HB3.o,?_⟩;rcases HX.o with⟨lv,h1,he,h3⟩ | ⟨lv,f,bb,h1,he,h3,h4,h5⟩
   ·injection he with he
    injection he with he
    simp at he;obtain⟨rfl,rfl⟩:=he;exact Or.inl ⟨_,h1,rfl,h3.lo h2s⟩
   ·injection he with he
    injection he with he
    simp at he;obtain⟨rfl,rfl⟩:=he;exact Or.inr ⟨_,f,bb,h1,rfl,h3.lo h2s,Nat.le_trans h2s h4,h5⟩
  obtain⟨la3,lc3,ax⟩:∃ a c,lv'=.slice a (execL vb (QeF y.2) M).1.length c:=by
   rcases HX.o with⟨lv,h1,he,h3⟩ | ⟨lv,f,bb,h1,he,h3,h4,h5⟩
   ·injection he with he
    injection he with he
    simp at he;obtain⟨rfl,rfl⟩:=he;exact Qat h3.1
   ·injection he with he
    injection he with he
    simp at he;obtain⟨rfl,rfl⟩:=he;exact Qat h3.1
  clear HX;subst ax;go_wp2;refine bodyPost_ret (v:=.tuple #[_,ev']) (by simp[results,results25,go_sem];rfl) rfl ?_;rw[au.o]
  exact HFIN.o)
def hcells (l:List (L8×L8)):List Value:=l.flatMap fun a=>[.string (sA a.1),.string (sA a.2)]
theorem QgC(l:List (L8×L8)):(hcells l).length=l.length*2:=by
 induction l with
 |nil=>rfl
 |cons p r ih=>simp only[hcells,List.flatMap_cons,List.length_append,List.length_cons,List.length_nil]at ih ⊢;omega
theorem Qm0(l:List (L8×L8))(j:Nat)(hj:j<l.length):(hcells l)[j*2]?=some (.string (sA l[j].1))/\(hcells l)[j*2+1]?=some (.string (sA l[j].2)):=by
 induction l generalizing j with
 |nil=>exact absurd hj (Nat.not_lt_zero _)
 |cons p r ih=>
  cases j with
  |zero=>exact⟨rfl,rfl⟩
  |succ j=>
   have:=ih j (by simpa using hj);have e:hcells (p::r)=.string (sA p.1) :: .string (sA p.2)::hcells r:=rfl;have e1:(j+1)*2=j*2+1+1:=by omega
   have e2:(j+1)*2+1=(j*2+1)+1+1:=by omega
   rw[e,e1,List.getElem?_cons_succ,List.getElem?_cons_succ,List.getElem?_cons_succ,List.getElem?_cons_succ];exact this
theorem QrG(l:List (L8×L8)):∀ u∈hcells l,u.oneCell'=true:=by
 intro u hu;unfold hcells at hu;obtain⟨a,_,ha⟩:=List.mem_flatMap.1 hu;simp at ha;rcases ha with rfl|rfl<;>rfl
theorem QrZ{l:List (L8×L8)}{j:Nat}{u:Value}(h:(hcells l)[j]?=some u):∃ k,∃ hk:k<l.length,(j=k*2/\u=.string (sA l[k].1))\/(j=k*2+1/\u=.string (sA l[k].2)):=by
 have hj:j<l.length*2:=by
  rw[<-QgC];exact(List.getElem?_eq_some_iff.1 h).1
 have hk:j / 2<l.length:=by omega
 have:=Qm0 l (j / 2) hk;by_cases e:j % 2=0
 ·have e1:j=j / 2*2:=by omega
  refine⟨j / 2,hk,Or.inl ⟨e1,?_⟩⟩;rw[e1,this.1]at h;exact(Option.some.inj h).symm
 ·have e1:j=j / 2*2+1:=by omega
  refine⟨j / 2,hk,Or.inr ⟨e1,?_⟩⟩;rw[e1,this.2]at h;exact(Option.some.inj h).symm
theorem Tryz.infoHeader:(Tryz.prog.info? 25).map (fun i=>(i.zero,i.size,i.bytes))=some (some (.agg #[.string ⟨#[]⟩,.string ⟨#[]⟩]),2,32):=by kernel_rfl
def Qth (w:World) (B:Nat) (hv:Value) (hs:List (L8×L8)):Prop:=w.ownsRow B 25 2 hv hs.length (hcells hs)
theorem Qth.hdrV{w:World}{B:Nat}{hv:Value}{hs:List (L8×L8)}(h:Qth w B hv hs):QjG w hv hs:=by
 rcases h.2 with⟨h1,h2⟩ | ⟨g,aa,ac,ab,hg,hb,hc,_,hs',ht⟩
 ·exact Or.inl ⟨h1,List.eq_nil_of_length_eq_zero h2⟩
 ·refine Or.inr ⟨g,aa,ac,ab,hb,fun j hj=>?_⟩;obtain⟨a1,a2⟩:=Qm0 hs j hj;rw[<-ht,List.getElem?_take_of_lt (by omega)]at a1 a2;exact⟨by rw[<-a1];simp,by rw[<-a2];simp⟩
def Qq5 (w:World) (v:Value) (hs:List (L8×L8)):Prop:=
 ∃ a c,v=.slice a hs.length c∧(hs≠[]→∃ b off,a=some ⟨b,off,none⟩∧∀ j (hj:j < hs.length),w.cell? ⟨b,off+j*2,none⟩=some (.string (sA hs[j].1))∧w.cell? ⟨b,off+j*2+1,none⟩=some (.string (sA hs[j].2)))
theorem Qq5.len{w:World}{v:Value}{hs:List (L8×L8)}(h:Qq5 w v hs):∃ a c,v=.slice a hs.length c:=by
 obtain⟨a,c,h,_⟩:=h;exact⟨a,c,h⟩
theorem Qq5.below{w w':World}{v:Value}{hs:List (L8×L8)}(h:Qq5 w v hs)(hb:Below w.heap.size w w'):Qq5 w' v hs:=by
 obtain⟨a,c,h,hc⟩:=h;refine⟨a,c,h,fun hne=>?_⟩;obtain⟨b,aa,rfl,ab⟩:=hc hne;refine⟨b,aa,rfl,fun j hj=>?_⟩;obtain⟨h1,h2⟩:=ab j hj;exact⟨(hb.cell (Qau h1)).trans h1,(hb.cell (Qau h2)).trans h2⟩
theorem QjG.g{w:World}{v:Value}{hs:List (L8×L8)}(h:QjG w v hs):Qq5 w v hs:=by
 obtain⟨a,c,rfl⟩:=h.len;refine⟨a,c,rfl,fun hne=>?_⟩;obtain⟨g,c',hv,_⟩:=h.cells 0 (List.length_pos_iff.2 hne);injection hv with hv
 refine⟨g,0,hv,fun j hj=>?_⟩;obtain⟨g2,c2,aa,_,h1,h2⟩:=h.cells j hj;injection aa with aa
 rw[hv]at aa;injection aa with aa
 injection aa with aa
 subst aa;rw[Nat.zero_add];exact⟨h1,h2⟩
theorem Qpk(M:Msg)(g aa c:Nat)(w:World)(hh:∀ j (hj:j<M.hdrs.length),w.cell? ⟨g,aa+j*2,none⟩=some (.string (sA M.hdrs[j].1))/\w.cell? ⟨g,aa+j*2+1,none⟩=some (.string (sA M.hdrs[j].2)))(ap:M.hdrs≠[])(hl:M.hdrs.length<=100000) :
 Calls Tryz.prog 24 #[QfV M (.slice (some ⟨g,aa,none⟩) M.hdrs.length c)] w fun e w'=>∃ a k,e=.returned (QfV M (.slice a M.hdrs.length k))/\Qth w' w.heap.size (.slice a M.hdrs.length k) M.hdrs/\Below w.heap.size w w':=by
 obtain⟨i0,hi,ao,ak,aj⟩:=info_parts Tryz.infoHeader;have ai:g<w.heap.size:=Qau (hh 0 (List.length_pos_iff.2 ap)).1
 have HC:Hid (∀ j u,(hcells M.hdrs)[j]?=some u->w.cell? ⟨g,aa+j,none⟩=some u):=fun j u hj=>by
  obtain⟨k,hk,⟨rfl,rfl⟩ | ⟨rfl,rfl⟩⟩:=QrZ hj
  ·exact(hh k hk).1
  ·exact(hh k hk).2
 clear hh
 have HW:Hid (∀ j u,(hcells M.hdrs)[j]?=some u->((w.alloc (.cells #[.string (sA M.fr),.string (sA M.to),.int .i64 M.size,.slice (some ⟨g,aa,none⟩) M.hdrs.length c] 28)).alloc (.cells #[.string ⟨#[]⟩,.string ⟨#[]⟩,.int .i64 0,.slice none 0 0] 28)).cell? ((⟨g,aa,none⟩:Addr).add j)=some u):=fun j u hj=>by
  rw[Addr.add_lit,World.cell?_of_block (a:=⟨g,aa+j,none⟩) (w:=w) ((Below.heap_alloc _ _ _ (by simp;omega)).trans (Below.heap_alloc _ _ _ ai))];exact HC.o j u hj
 have HP:Hid (((w.alloc (.cells #[.string (sA M.fr),.string (sA M.to),.int .i64 M.size,.slice (some ⟨g,aa,none⟩) M.hdrs.length c] 28)).alloc (.cells #[.string ⟨#[]⟩,.string ⟨#[]⟩,.int .i64 0,.slice none 0 0] 28)).heap[w.heap.size]?=some (.cells #[.string (sA M.fr),.string (sA M.to),.int .i64 M.size,.slice (some ⟨g,aa,none⟩) M.hdrs.length c] 28)):=Qac (Qam _ _);have HQ:Hid (((w.alloc (.cells #[.string (sA M.fr),.string (sA M.to),.int .i64 M.size,.slice (some ⟨g,aa,none⟩) M.hdrs.length c] 28)).alloc (.cells #[.string ⟨#[]⟩,.string ⟨#[]⟩,.int .i64 0,.slice none 0 0] 28)).heap[w.heap.size+1]?=some (.cells #[.string ⟨#[]⟩,.string ⟨#[]⟩,.int .i64 0,.slice none 0 0] 28)):=Qaq (by simp);unfold QfV;go_enter func24,ntmps24;go_wp2_with (at_builtin;refine wpList_append_own _ rfl _ _ 26 rfl (w.heap.size+2) 25 i0 _ 2 32 underlying26 hi ao ak aj rfl (by decide) _ _ _ rfl (World.ownsRow_nil _ _ _ _) ⟨g,aa,none⟩ M.hdrs.length c (hcells M.hdrs) rfl (QgC _) HW.o (QrG _) (by unfold maxLen;omega) (by omega) (by simp) ?_;intro v5 w5 af ae _;obtain⟨a5,k5,ag⟩:=Qat af;subst ag;have ac:=(ae.block w.heap.size (by simp;omega) (fun e=>nomatch e)).trans HP.o;have ab:=(ae.block (w.heap.size+1) (by simp) (fun e=>nomatch e)).trans HQ.o;have aq:=Qab af;have ah:=Qab (Qe5 (((Below.refl w.heap.size w).alloc (Nat.le_refl _) (.cells #[.string (sA M.fr),.string (sA M.to),.int .i64 M.size,.slice (some ⟨g,aa,none⟩) M.hdrs.length c] 28)).alloc (by simp) (.cells #[.string ⟨#[]⟩,.string ⟨#[]⟩,.int .i64 0,.slice none 0 0] 28)) ae (by simp;omega) (fun k hk=>nomatch hk));have HP5:=Qab ac;have HQ5:=Qab ab;have pf:=Qah ac;have qf:=Qah ab;have p0:w5.cell? ⟨w.heap.size,0,none⟩=some (.string (sA M.fr)):=Qaa ac 0;have p1:w5.cell? ⟨w.heap.size,1,none⟩=some (.string (sA M.to)):=Qaa ac 1;have p2:w5.cell? ⟨w.heap.size,2,none⟩=some (.int .i64 M.size):=Qaa ac 2;have p3:w5.cell? ⟨w.heap.size,3,none⟩=some (.slice (some ⟨g,aa,none⟩) M.hdrs.length c):=Qaa ac 3;have z0:w5.cell? ⟨w.heap.size+1,0,none⟩=some (.string ⟨#[]⟩):=Qaa ab 0;have z1:w5.cell? ⟨w.heap.size+1,1,none⟩=some (.string ⟨#[]⟩):=Qaa ab 1;have z2:w5.cell? ⟨w.heap.size+1,2,none⟩=some (.int .i64 0):=Qaa ab 2;have z3:w5.cell? ⟨w.heap.size+1,3,none⟩=some (.slice none 0 0):=Qaa ab 3;clear af ae ac ab);refine bodyPost_ret (v:=.agg #[.string (sA M.fr),.string (sA M.to),.int .i64 M.size,.slice a5 M.hdrs.length k5]) (by simp[results,results24,go_sem,z0,z1,z2,z3]) rfl ?_
 have ho:w5.ownsRow (w.heap.size+2) 25 2 (.slice a5 M.hdrs.length k5) M.hdrs.length (hcells M.hdrs):=by
  have:=aq.o;rw[Nat.zero_add,List.nil_append]at this;exact this
 have ad:∀ b,b<w.heap.size+2->(Value.slice a5 M.hdrs.length k5).ownBlock≠some b:=fun b hb e=>by have:=(ho.lt b e).1;omega
 refine⟨a5,k5,rfl,Qig (QcU (QcU (QcU (QcU (QcU ho (ad _ (by omega)) _ _) (ad _ (by omega)) _ _) (ad _ (by omega)) _ _) (ad _ (by omega)) _ _) (ad _ (by omega)) _ _) (by omega),?_⟩;exact((((ah.o.setCell (show w.heap.size<=w.heap.size from Nat.le_refl _) _).setCell (show w.heap.size<=w.heap.size+1 by omega) _).setCell (show w.heap.size<=w.heap.size+1 by omega) _).setCell (show w.heap.size<=w.heap.size+1 by omega) _).setCell (show w.heap.size<=w.heap.size+1 by omega) _
theorem Qr6(M:Msg)(a:Option Addr)(c:Nat)(w:World)(h0:M.hdrs=[]) :
 Calls Tryz.prog 24 #[QfV M (.slice a 0 c)] w fun e w'=>∃ a k,e=.returned (QfV M (.slice a M.hdrs.length k))/\Qth w' w.heap.size (.slice a M.hdrs.length k) M.hdrs/\Below w.heap.size w w':=by
 have HR:Hid (M.hdrs.length=0):=by show _=_;rw[h0];rfl
 have H0:=Qab h0;clear h0;unfold QfV
 cases a with
 |none=>
  go_enter func24,ntmps24;go_wp2;refine bodyPost_ret (v:=.agg #[.string (sA M.fr),.string (sA M.to),.int .i64 M.size,.slice none 0 0]) (by simp[results,results24,go_sem]) rfl ?_;refine⟨none,0,by rw[HR.o],?_,?_⟩
  ·unfold Qth;rw[H0.o];exact World.ownsRow_nil _ _ _ _
  ·exact((Below.refl _ _).alloc (Nat.le_refl _) _).alloc (by simp) _
 |some a=>
  go_enter func24,ntmps24;go_wp2;refine bodyPost_ret (v:=.agg #[.string (sA M.fr),.string (sA M.to),.int .i64 M.size,.slice none 0 0]) (by simp[results,results24,go_sem]) rfl ?_;refine⟨none,0,by rw[HR.o],?_,?_⟩
  ·unfold Qth;rw[H0.o];exact World.ownsRow_nil _ _ _ _
  ·exact((Below.refl _ _).alloc (Nat.le_refl _) _).alloc (by simp) _
theorem Qr7(M:Msg)(hv:Value)(w:World)(hh:Qq5 w hv M.hdrs)(hl:M.hdrs.length<=100000) :
 Calls Tryz.prog 24 #[QfV M hv] w fun e w'=>∃ a k,e=.returned (QfV M (.slice a M.hdrs.length k))/\Qth w' w.heap.size (.slice a M.hdrs.length k) M.hdrs/\Below w.heap.size w w':=by
 obtain⟨a,c,rfl,hc⟩:=hh;by_cases h0:M.hdrs=[]
 ·have e:M.hdrs.length=0:=by rw[h0];rfl
  rw[e];have:=Qr6 M a c w h0;rw[e]at this;exact this
 ·obtain⟨b,aa,rfl,ab⟩:=hc h0;exact Qpk M b aa c w ab h0 hl
theorem QpF(M:Msg)(a:Option Addr)(k B:Nat)(w:World)(hh:Qth w B (.slice a M.hdrs.length k) M.hdrs)(hl:M.hdrs.length<=100000) :
 Calls Tryz.prog 26 #[QfV M (.slice a M.hdrs.length k)] w fun e w'=>e=.returned (.tuple #[])/\Fr (fun k o=>B<=k/\∃ cs,o=.cells cs 25) w w':=by
 obtain⟨W0,ac⟩:∃ W0,W0=w.alloc (.cells #[.string (sA M.fr),.string (sA M.to),.int .i64 M.size,.slice a M.hdrs.length k] 28):=⟨_,rfl⟩;have ai:Hid (Below w.heap.size w W0):=by show Below _ _ _;rw[ac];exact(Below.refl _ _).alloc (Nat.le_refl _) _
 have af:Hid (W0.heap[w.heap.size]?=some (.cells #[.string (sA M.fr),.string (sA M.to),.int .i64 M.size,.slice a M.hdrs.length k] 28)):=by show _=_;rw[ac];exact Qam _ _
 have ag:Hid (W0.ownsRow B 25 2 (.slice a M.hdrs.length k) M.hdrs.length (hcells M.hdrs)):=by show World.ownsRow _ _ _ _ _ _ _;rw[ac];exact World.ownsRow.alloc hh _
 have ae:=Qab ac;generalize hn:M.hdrs.length=n at *;clear hh ac;unfold QfV;go_enter func26,ntmps26;go_wp2_with fail;rw[<-ae.o]
 go_loopw [2,6] (fun _ i wr=>∃(j:Nat) (xs:List Value),j<=n/\i=.int .i64 (j:Int)/\wr.ownsRow B 25 2 (.slice a n k) n xs/\Fr (fun k o=>B<=k/\∃ cs,o=.cells cs 25) W0 wr) (fun _ i _=>n - (intOf i).toNat)
 case atStart=>exact⟨0,_,Nat.zero_le _,by go_num,ag.o,Fr.refl _ _⟩
 case round=>
  obtain⟨j,xs,hj,rfl,aa,hF⟩:=hrel;have hM:=hF.block _ _ af.o (fun h=>by obtain⟨_,cs,e⟩:=h;injection e with _ e;exact absurd e (by decide));have c3:wr.cell? ⟨w.heap.size,3,none⟩=some (.slice a n k):=Qaa hM 3;by_cases hlt:j<n
  ·obtain⟨g,c,hv,hbg,hgl,hcells⟩:=Qcq aa (by omega);injection hv with hv1 hv2 hv3
   subst hv1 hv3;have ad:=aa.1;obtain⟨u1,hu1⟩:∃ u,wr.cell? ⟨g,j*2,none⟩=some u:=⟨xs[j*2]'(by omega),hcells _ _ (List.getElem?_eq_getElem (by omega))⟩;obtain⟨u2,hu2⟩:∃ u,wr.cell? ⟨g,j*2+1,none⟩=some u:=⟨xs[j*2+1]'(by omega),hcells _ _ (List.getElem?_eq_getElem (by omega))⟩;have hfz:∀ o,wr.frozen? ⟨g,o,none⟩=false:=aa.frozenAt;have hP:∀ W:World,W.ownsRow B 25 2 (.slice (some ⟨g,0,none⟩) n k) n xs->True:=fun _ _=>trivial
   obtain⟨s1,g1⟩:=aa.stored (j*2) (.string ⟨#[109,105,110,101]⟩);obtain⟨s2,g2⟩:=s1.stored (j*2+1) (.string ⟨#[109,105,110,101]⟩);have ab:∀(u v:World) (ys:List Value),u.ownsRow B 25 2 (.slice (some ⟨g,0,none⟩) n k) n ys->u.grownBy v (some g)->Fr (fun k o=>B<=k/\∃ cs,o=.cells cs 25) u v:=fun u v ys ho hg=>(Fr.refl _ u).grown hg (fun k' o e ho'=>Qbb ho k' o e ho')
   have HS:=Qab (And.intro s2 ((hF.trans (ab _ _ _ aa g1)).trans (ab _ _ _ s1 g2)));clear hP ab s1 s2 g1 g2 aa hF hM hcells ad;go_wp2;go_roundw
   case rel=>exact⟨j+1,_,by omega,by go_num,HS.o.1,HS.o.2⟩
   case measure=>simp[intOf];omega
  ·have HF:=Qab hF;have ah:j=n:=by omega
   subst ah;clear hF hM aa;go_wp2;go_end0;exact⟨rfl,(Fr.of_below ai.o).trans HF.o⟩
def toldZ (f:Option FZ):FZ:=f.getD (0,-1)
def QxC (r:List (Int×L8)×Nat×Option FZ) (w:World) (e:Ending) (w':World):Prop:=
 Below w.heap.size w w'∧∃ lv,e=.returned (.tuple #[lv,.int .i64 (toldZ r.2.2).1,.int .i64 (toldZ r.2.2).2])∧ActsV w' w.heap.size lv r.1
theorem ActsV.fr{P:Nat->Obj->Prop}{w w':World}{B:Nat}{v:Value}{l:List (Int×L8)}(h:ActsV w B v l)(hf:Fr P w w')(hp:∀ k cs,¬ P k (.cells cs 34)):ActsV w' B v l:=⟨QaR h.1 hf hp,h.2⟩
theorem ActsV.below{w w':World}{B:Nat}{v:Value}{l:List (Int×L8)}(h:ActsV w B v l)(hb:Below w.heap.size w w'):ActsV w' B v l:=h.fr (P:=fun _ _=>False) (Fr.of_below hb) (fun _ _ h=>h)
theorem Qth.below{w w':World}{B:Nat}{v:Value}{l:List (L8×L8)}(h:Qth w B v l)(hb:Below w.heap.size w w'):Qth w' B v l:=QaR h (P:=fun _ _=>False) (Fr.of_below hb) (fun _ _ h=>h)
theorem QpA(g:Nat)(y:List (L8)×List (QdT 7))(rv lv hv:Value)(M:Msg)(w:World)(X:Nat->Prop)(he:Env w)(h:w.heap[g]?=some (.cells #[rv,lv] 96))(hr:QlU X y.1 w rv)(hb:blX X (Qji 7) y.2 w lv)(ha:∀ c∈y.2,QnQ (WfT y.1) (WfC y.1) 7 c)(hl:(QhD y).length<=100000)(aM:y.1.length<=1000000)
 (hh:Qq5 w hv M.hdrs) (aE:∀ v,SBd M (ss0 v)) :
 Calls Tryz.prog 15 #[.pointer (some ⟨g,0,none⟩),QfV M hv] w (QxC (execL (varsB y.1) (QeF y.2) M) w):=by
 have aq:=(aE true).hl;obtain⟨ah,ch,rfl⟩:=hh.len;have H:=Qab h;have HR:=Qab hr;have a2:=Qab hb;have aX:=Qab hh;have HE:=Qab he;have aU:=Qab aE;have HW:=Qab (And.intro ha (And.intro hl aM));obtain⟨r,aH⟩:∃ r,execL (varsB y.1) (QeF y.2) M=r:=⟨_,rfl⟩;rw[aH];have aS:=Qab aH;obtain⟨m1,aN⟩:=he.m1;have hw1:1<w.heap.size:=Qau aN;clear h hr hb hh he aE ha hl aM aH aN m1;have aC:∀(a:Option Addr) (n c:Nat),QfV M (.slice a n c)=.agg #[.string (sA M.fr),.string (sA M.to),.int .i64 M.size,.slice a n c]:=fun _ _ _=>rfl
 rw[aC];have ab:=Qab aC;clear aC;go_enter func15,ntmps15;go_wp2_with fail;obtain⟨W0,aB⟩:∃ W0,W0=w.alloc (.cells #[.string (sA M.fr),.string (sA M.to),.int .i64 M.size,.slice ah M.hdrs.length ch] 28):=⟨_,rfl⟩;rw[<-aB];have ak:Below w.heap.size w W0:=by rw[aB];exact(Below.refl _ _).alloc (Nat.le_refl _) _
 have ap:=ak.size;clear aB;rw[<-ab.o];refine(Qr7 M _ W0 (aX.o.below ak) aq).mono ?_;rintro e w1 ⟨a1,k1,rfl,aL,ai⟩;have ay:Below w.heap.size w w1:=ak.trans (ai.mono ap);have aZ:=Qab aL;have a0:=Qab ay;have aR:=ay.size;clear aL ay ai ak;rw[ab.o];go_wp2_with fail;obtain⟨V1,ao⟩:∃ V1,V1=w1.alloc (.cells #[.string (sA M.fr),.string (sA M.to),.int .i64 M.size,.slice a1 M.hdrs.length k1] 28):=⟨_,rfl⟩;rw[<-ao];have aw:Below w1.heap.size w1 V1:=by rw[ao];exact(Below.refl _ _).alloc (Nat.le_refl _) _
 have aK:V1.heap[w1.heap.size]?=some (.cells #[.string (sA M.fr),.string (sA M.to),.int .i64 M.size,.slice a1 M.hdrs.length k1] 28):=by rw[ao];exact Qam _ _
 have aa:=a0.o.trans (aw.mono aR);have aO:=Qab (aZ.o.below aw);have aG:=Qab (HE.o.below aa);have aV:=Qab aa;have aW:=Qab aK;have aA:=aa.size
 have af:Hid (Calls Tryz.prog 25 #[.pointer (some ⟨g,0,none⟩),QfV M (.slice a1 M.hdrs.length k1)] V1 (Qou r V1)):=by
  show Calls _ _ _ _ _
  rw[<-aS.o];exact QuL g y rv lv _ M V1 X (Qai H.o aa) (HR.o.keep (fun k _ hk=>aa.block k hk)) (a2.o.keep (QaV 7) (fun k _ hk=>aa.block k hk)) HW.o.1 HW.o.2.1 HW.o.2.2 aO.o.hdrV aU.o (by omega) aG.o.m1 aG.o.tab
 clear aw aK ao aa;rw[<-ab.o];refine af.o.mono ?_;rintro e w2 ⟨ag,hX⟩;have ar:=Qab (aV.o.trans (ag.mono aA));have HE2:=Qab (aG.o.below ag);have aP:=Qab (aO.o.below ag);have aj:=Qab (Qai aW.o ag);have m0:w2.cell? ⟨w1.heap.size,0,none⟩=some (.string (sA M.fr)):=Qaa aj.o 0;have m1:w2.cell? ⟨w1.heap.size,1,none⟩=some (.string (sA M.to)):=Qaa aj.o 1;have m2:w2.cell? ⟨w1.heap.size,2,none⟩=some (.int .i64 M.size):=Qaa aj.o 2;have m3:w2.cell? ⟨w1.heap.size,3,none⟩=some (.slice a1 M.hdrs.length k1):=Qaa aj.o 3;have aJ:=ar.o.size;clear ag af;rcases hX with⟨aY,h1,rfl,hA⟩ | ⟨aY,f,bb,h1,rfl,hA,hbb,hF⟩
 ·have hT:toldZ r.2.2=(0,-1):=by rw[h1];rfl
  have az:=Qab hT;have HA:=Qab hA;obtain⟨la,lc,ax⟩:=Qat hA.1;subst ax;clear hA hT;rw[ab.o];go_wp2_with fail;rw[<-ab.o];refine(QpF M a1 k1 w.heap.size w2 (Qig aP.o ap) aq).mono ?_;rintro e w3 ⟨rfl,ac⟩;have ae:=Qab (ar.o.trans (ac.below (fun k o h=>h.1) aJ));have au:=Qab (HA.o.fr ac (fun k cs h=>by obtain⟨_,aI,e⟩:=h;injection e with _ e;exact absurd e (by decide)));have av:=ae.o.size;clear ac;rw[ab.o];go_wp2_with fail;refine(QlD w3).mono ?_;rintro e w4 ⟨rfl,ad⟩;have aD:=Qab (ae.o.trans (ad.mono av));have aF:=Qab (au.o.below ad);clear ad;go_wp2;refine bodyPost_ret (v:=.tuple #[.slice la r.1.length lc,.int .i64 0,.int .i64 (-1)]) (by simp[results,results15,go_sem]) rfl ?_;exact⟨aD.o,_,by rw[az.o],aF.o.lo aA⟩
 ·have hT:toldZ r.2.2=f:=by rw[h1];rfl
  have az:=Qab hT;have HA:=Qab hA;have aT:=Qab hF;obtain⟨la,lc,ax⟩:=Qat hA.1;subst ax;clear hA hT hF;rw[ab.o];go_wp2_with fail;rw[<-ab.o];refine(QpF M a1 k1 w.heap.size w2 (Qig aP.o ap) aq).mono ?_;rintro e w3 ⟨rfl,ac⟩;have ae:=Qab (ar.o.trans (ac.below (fun k o h=>h.1) aJ));have au:=Qab (HA.o.fr ac (fun k cs h=>by obtain⟨_,aI,e⟩:=h;injection e with _ e;exact absurd e (by decide)));have aQ:=Qab (ac.block _ _ aT.o (fun h=>by obtain⟨_,aI,e⟩:=h;injection e with _ e;exact absurd e (by decide)));have av:=ae.o.size;clear ac;rw[ab.o];go_wp2_with fail;refine(Qj0 bb f.1 f.2 w3 ((HE.o.below ae.o).et) (Qaa aQ.o 0) (Qaa aQ.o 1)).mono ?_;rintro e w4 ⟨rfl,ad⟩;have aD:=Qab (ae.o.trans (ad.mono av));have aF:=Qab (au.o.below ad);clear ad;go_wp2;refine bodyPost_ret (v:=.tuple #[.slice la r.1.length lc,.int .i64 f.1,.int .i64 f.2]) (by simp[results,results15,go_sem]) rfl ?_;exact⟨aD.o,_,by rw[az.o],aF.o.lo aA⟩
def QnP (l:List (L8×L8)):Nat:=(l.map fun h=>h.1.length+h.2.length).sum
def Qwf (M:Msg):Nat:=M.fr.length+M.to.length+M.hdrs.length+QnP M.hdrs
theorem Qsh(l:List (L8×L8))(k:Nat)(h:k<l.length):QnP (l.take (k+1))=QnP (l.take k)+(l[k].1.length+l[k].2.length):=by
 unfold QnP;rw[List.take_add_one,List.getElem?_eq_getElem h,List.map_append,List.sum_append];rfl
theorem Qsi(l:List (L8×L8))(k:Nat):QnP (l.take k)<=QnP l:=by
 have:QnP l=QnP (l.take k)+QnP (l.drop k):=by
  unfold QnP;rw[<-List.sum_append,<-List.map_append,List.take_append_drop]
 omega
theorem QvI{l:List (L8×L8)}{h:L8×L8}(hm:h∈l):h.1.length+h.2.length<=QnP l:=by
 induction l with
 |nil=>cases hm
 |cons x r ih=>
  have e:QnP (x::r)=x.1.length+x.2.length+QnP r:=by simp[QnP]
  rcases List.mem_cons.1 hm with rfl|hm
  ·omega
  ·have:=ih hm;omega
structure Qyc (M:Msg):Prop where
 fr:M.fr.length≤140737488355328
 tt:M.to.length≤140737488355328
 hl:M.hdrs.length≤140737488355328
 hd:∀ h∈M.hdrs,h.1.length≤140737488355328∧h.2.length≤140737488355328
theorem QnD{M:Msg}(h:Qwf M<=16384)(v:Bool):SBd M (ss0 v):=by
 unfold Qwf at h;refine⟨by omega,by omega,by omega,fun x hx=>?_,fun t ht=>(by cases ht),Nat.zero_le _,fun x t ht=>(by cases ht),Nat.zero_le _⟩;have:=QvI hx;omega
theorem Qqx(M:Msg)(hv:Value)(w:World)(hh:Qq5 w hv M.hdrs)(hb:Qyc M) :
 Calls Tryz.prog 13 #[QfV M hv] w fun e w'=>e=.returned (.bool (decide (Qwf M<=16384)))/\Below w.heap.size w w':=by
 have HH:=Qab hh;obtain⟨a,c,rfl⟩:=hh.len;have hb1:=hb.fr;have hb2:=hb.tt;have hb3:=hb.hl;have HB:=Qab hb.hd;have hs1:=Qal M.fr;have hs2:=Qal M.to;clear hh hb;unfold QfV;obtain⟨W0,ab⟩:∃ W0,W0=w.alloc (.cells #[.string (sA M.fr),.string (sA M.to),.int .i64 M.size,.slice a M.hdrs.length c] 28):=⟨_,rfl⟩;have au:Hid (Below w.heap.size w W0):=by show Below _ _ _;rw[ab];exact(Below.refl _ _).alloc (Nat.le_refl _) _
 have ax:Hid (W0.heap[w.heap.size]?=some (.cells #[.string (sA M.fr),.string (sA M.to),.int .i64 M.size,.slice a M.hdrs.length c] 28)):=by show _=_;rw[ab];exact Qam _ _
 have aq:=Qab ab;clear ab;obtain⟨T,hT⟩:∃ T,M.fr.length+M.to.length+M.hdrs.length=T:=⟨_,rfl⟩;have hTb:T<=422212465065984:=by omega
 have ai:Hid (Qwf M=T+QnP M.hdrs):=by show _=_;rw[<-hT];rfl
 have av:=Qab hT;clear hT;go_enter func13,ntmps13;go_wp2_with fail;rw[<-aq.o]
 go_loopw [3,4] (fun v i wr=>∃(k t:Nat),k<=M.hdrs.length/\i=.int .i64 (k:Int)/\v=.int .i64 (t:Int)/\t=T+QnP (M.hdrs.take k)/\t<=703687441776640/\Below w.heap.size w wr/\wr.heap[w.heap.size]?=some (.cells #[.string (sA M.fr),.string (sA M.to),.int .i64 M.size,.slice a M.hdrs.length c] 28)) (fun _ i _=>M.hdrs.length - (intOf i).toNat)
 case atStart=>exact⟨0,T,Nat.zero_le _,by go_num,(by congr 1;have:=av.o;omega),rfl,by omega,au.o,ax.o⟩
 case round=>
  obtain⟨k,t,hk,rfl,rfl,ht,htb,hB,hM⟩:=hrel;have aa:=Qab hB;have ap:=Qab hM;have hwl:=Qar hM;have c3:wr.cell? ⟨w.heap.size,3,none⟩=some (.slice a M.hdrs.length c):=Qaa hM 3;have HT:=Qab ht;clear hB hM ht;by_cases hlt:k<M.hdrs.length
  ·have af:(k:Int)<(M.hdrs.length:Int):=by omega
   by_cases hle:t<=16384
   ·have ad:(t:Int)<=16384:=by omega
    obtain⟨a',c',hv,aj⟩:=HH.o;injection hv with hv1 hv2 hv3
    subst hv1;obtain⟨g,ac,ay,ah⟩:=aj (List.ne_nil_of_length_pos (by omega));subst ay;obtain⟨ae,ak⟩:=ah k hlt;have ag:g<w.heap.size:=Qau ae;have d1:wr.cell? ⟨g,ac+k*2,none⟩=some (.string (sA M.hdrs[k].1)):=by rw[aa.o.cell (p:=⟨g,ac+k*2,none⟩) ag];exact ae
    have d2:wr.cell? ⟨g,ac+k*2+1,none⟩=some (.string (sA M.hdrs[k].2)):=by rw[aa.o.cell (p:=⟨g,ac+k*2+1,none⟩) ag];exact ak
    have ao:=HB.o _ (List.getElem_mem hlt);have HS:=Qab (Qsh M.hdrs k hlt);obtain⟨x,hx⟩:∃ x,M.hdrs[k]=x:=⟨_,rfl⟩;rw[hx]at d1 d2 ao HS;have hs3:=Qal x.1;have hs4:=Qal x.2;obtain⟨hk1,hk2⟩:=ao;clear ae ak hx hv3 aj ah;go_wp2_with fail;go_quiet (fail)
    all_goals go_wp2
    go_roundw
    case rel=>exact⟨k+1,t+x.1.length+x.2.length,by omega,by go_num,by go_num,by rw[HS.o,HT.o];omega,by omega,QbF aa.o,ap.o⟩
    case measure=>simp[intOf];omega
   ·have ad:¬(t:Int)<=16384:=by omega
    have hlex:16384<t:=by omega
    have HS:=Qab (Qsi M.hdrs k);go_wp2;go_ret;refine⟨QaF ?_,aa.o⟩;have h1:=ai.o;have h2:=HT.o;have h3:=HS.o;exact(decide_eq_false (by omega)).symm
  ·have af:¬(k:Int)<(M.hdrs.length:Int):=by omega
   have aw:k=M.hdrs.length:=by omega
   subst aw
   have ar:Hid (t=Qwf M):=by
    show _=_
    have h2:=HT.o;rw[List.take_length]at h2;rw[ai.o,h2]
   clear HT;go_wp2;go_ret;refine⟨QaF ?_,aa.o⟩;rw[<-ar.o];by_cases hle:t<=16384
   ·simp[hle];try omega
   ·simp[hle];try omega
def sayL (y:List (L8)×List (QdT 7)) (M:Msg):List (Int×L8)×Nat×Option FZ:=execL (varsB y.1) (QeF y.2) M
theorem Qst(y:List (L8)×List (QdT 7)):y.1.length<=(QhD y).length+1:=by
 by_cases h:y.1=[]
 ·rw[h];exact Nat.zero_le _
 ·have h1:=(Qfa y.1).2;unfold QhD QdM;rw[if_neg h];simp only[List.length_append];omega
theorem QtX(s:ByteArray)(y:List (L8)×List (QdT 7))(hv:Value)(M:Msg)(w:World)(he:Env w)(hs:s.size<=600)(hy:prL s.data.toList=.ok y)(hh:Qq5 w hv M.hdrs)(aq:∀ v,SBd M (ss0 v)) :
 Calls Tryz.prog 8 #[.string s,QfV M hv] w fun e w'=>Below w.heap.size w w'/\∃ lv,e=.returned (.tuple #[lv,.int .i64 (toldZ (sayL y M).2.2).1,.bool true])/\ActsV w' w.heap.size lv (sayL y M).1:=by
 obtain⟨ah,ch,rfl⟩:=hh.len;have HY:=Qab hy;have HE:=Qab he;have aG:=Qab hh;have aC:=Qab aq;have aw:=Qab (QpR hy);have av:=Qnc hy;have aD:s.data.toList.length=s.size:=by simp
 have ai:Hid ((QhD y).length<=100000):=by show _<=_;omega
 have aF:Hid (y.1.length<=1000000):=by show _<=_;have:=Qst y;have:=ai.o;omega
 obtain⟨r,hr⟩:∃ r,sayL y M=r:=⟨_,rfl⟩;rw[hr];have HR:=Qab hr;clear hy he hh aq av aD hr;have af:∀(a:Option Addr) (n c:Nat),QfV M (.slice a n c)=.agg #[.string (sA M.fr),.string (sA M.to),.int .i64 M.size,.slice a n c]:=fun _ _ _=>rfl
 rw[af];have aH:=Qab af;clear af;obtain⟨W0,ae⟩:∃ W0,W0=w.alloc (.cells #[.string (sA M.fr),.string (sA M.to),.int .i64 M.size,.slice ah M.hdrs.length ch] 28):=⟨_,rfl⟩;have ad:Hid (Below w.heap.size w W0):=by show Below _ _ _;rw[ae];exact(Below.refl _ _).alloc (Nat.le_refl _) _
 have aI:Hid (W0.heap[w.heap.size]?=some (.cells #[.string (sA M.fr),.string (sA M.to),.int .i64 M.size,.slice ah M.hdrs.length ch] 28)):=by show _=_;rw[ae];exact Qam _ _
 have ax:=ad.o.size;have aA:=Qab ae;clear ae;go_enter func8,ntmps8;go_wp2_with fail;rw[<-aA.o];refine(Qfj s W0 (HE.o.below ad.o).m1 (HE.o.below ad.o).et).mono ?_;rintro e w1 ⟨aa,⟨hbig,_⟩ | ⟨_,y1,g,rv,lv,ap,rfl,hz,hc,ag,ak⟩ | ⟨_,f,hf,_⟩⟩
 ·omega
 ·have aB:y1=y:=by have:=HY.o;rw[ap]at this;exact Except.ok.inj this
  subst aB;have ac:Below w.heap.size w w1:=ad.o.trans (aa.mono ax);have ar:=Qab ac;have au:=Qab (HE.o.below ac);have ab:=Qab (Qai aI.o aa);have HC:=Qab hc;have aJ:=Qab ag;have ay:=Qab ak;have m0:w1.cell? ⟨w.heap.size,0,none⟩=some (.string (sA M.fr)):=Qaa ab.o 0;have m1:w1.cell? ⟨w.heap.size,1,none⟩=some (.string (sA M.to)):=Qaa ab.o 1;have m2:w1.cell? ⟨w.heap.size,2,none⟩=some (.int .i64 M.size):=Qaa ab.o 2;have m3:w1.cell? ⟨w.heap.size,3,none⟩=some (.slice ah M.hdrs.length ch):=Qaa ab.o 3;have aj:=ac.size;clear ac aa hc ag ak ap;go_wp2_with fail;rw[<-aH.o];refine(QpA g y1 rv lv _ M w1 _ au.o HC.o aJ.o ay.o aw.o.2 ai.o aF.o (aG.o.below ar.o) aC.o).mono ?_;rintro e w2 ⟨ao,lv2,rfl,hA⟩;rw[show execL (varsB y1.1) (QeF y1.2) M=r from HR.o]at hA ⊢;have az:=Qab (ar.o.trans (ao.mono aj));have HA:=Qab hA;obtain⟨la,lc,aE⟩:=Qat hA.1;subst aE;clear hA ao;go_wp2;refine bodyPost_ret (v:=.tuple #[.slice la r.1.length lc,.int .i64 (toldZ r.2.2).1,.bool true]) (by simp[results,results8,go_sem]) rfl ?_;exact⟨az.o,_,rfl,HA.o.lo aj⟩
 ·have:=HY.o;rw[hf]at this;cases this
def QyB:L8:=[105,102,32,104,101,97,100,101,114,32,58,99,111,109,112,97,114,97,116,111,114,32,34,105,59,111,99,116,101,116,34,32,34,83,117,98,106,101,99,116,34,32,34,120,34,32,123,32,100,105,115,99,97,114,100,59,32,125,32,101,108,115,101,32,123,32,114,101,100,105,114,101,99,116,32,34,97,64,98,34,59,32,125]
def exM:Msg:=⟨[],[],0,[([115,117,98,106,101,99,116],[88])]⟩
def Qya (t:L8) (M:Msg):Option (List (Int×L8)×FZ):=
 match prL t with
 | .ok y=>some ((sayL y M).1,toldZ (sayL y M).2.2)
 | .error _=>none
theorem QyK:Qya exT1 exM=some ([],(0,-1)):=by kernel_rfl
theorem QyI:Qya QyB exM=some ([(3,[97,64,98])],(0,-1)):=by kernel_rfl
theorem Qt8{t:L8}{M:Msg}{l:List (Int×L8)}{f:FZ}(h:Qya t M=some (l,f)):∃ y,prL t=.ok y/\(sayL y M).1=l/\toldZ (sayL y M).2.2=f:=by
 unfold Qya at h
 cases hp:prL t with
 |error e=>rw[hp]at h;cases h
 |ok y=>
  rw[hp]at h;simp at h;exact⟨y,rfl,h.1,h.2⟩
theorem QvH(w:World)(he:Env w):Calls Tryz.prog 6 #[] w fun e w'=>e=.returned (.bool true)/\Below w.heap.size w w':=by
 have HE:=Qab he;clear he;go_enter func6,ntmps6;go_wp2_with fail;refine(Qrt w HE.o).mono ?_;rintro e w1 ⟨rfl,ai⟩;have aI:=Qab ai;have aB:=ai.size;clear ai;obtain⟨y1,ay,aq,ao⟩:=Qt8 QyK;obtain⟨y3,ap,av,az⟩:=Qt8 QyI;obtain⟨V,hV⟩:∃ V,V=(w1.alloc (.cells #[.string ⟨#[115,117,98,106,101,99,116]⟩,.string ⟨#[88]⟩] 25)).alloc (.cells #[.string ⟨#[]⟩,.string ⟨#[]⟩,.int .i64 0,.slice (some ⟨w1.heap.size,0,none⟩) 1 1] 28):=⟨_,rfl⟩;have aD:=Qab hV;have ar:Below w1.heap.size w1 V:=by rw[hV];exact((Below.refl _ _).alloc (Nat.le_refl _) _).alloc (by simp) _
 have hVh:V.heap[w1.heap.size]?=some (.cells #[.string ⟨#[115,117,98,106,101,99,116]⟩,.string ⟨#[88]⟩] 25):=by rw[hV];exact Qac (Qam _ _)
 have ax:V.heap[w1.heap.size+1]?=some (.cells #[.string ⟨#[]⟩,.string ⟨#[]⟩,.int .i64 0,.slice (some ⟨w1.heap.size,0,none⟩) 1 1] 28):=by rw[hV];exact Qaq (by simp)
 have aa:=aI.o.trans (ar.mono aB);have aw:=Qab aa;have aG:=Qab ax
 have HHD:Hid (QjG V (.slice (some ⟨w1.heap.size,0,none⟩) 1 1) exM.hdrs):=Or.inr ⟨w1.heap.size,1,_,rfl,hVh,fun j hj=>by
  have:j=0:=by have:j<1:=hj;omega
  subst this
  exact ⟨rfl,rfl⟩⟩
 have au:Hid (∀ v,SBd exM (ss0 v)):=fun v=>QnD (by decide) v
 have aF:=aa.size;have ag:=Qab (And.intro ay (And.intro aq ao));have ad:=Qab (And.intro ap (And.intro av az));clear hV ar hVh ax aa ay aq ao ap av az;go_wp2_with fail;rw[show(w1.alloc _).alloc _=V from aD.o.symm];refine(QtX ⟨exT1.toArray⟩ y1 (.slice (some ⟨w1.heap.size,0,none⟩) 1 1) exM V (HE.o.below aw.o) (by decide) ag.o.1 HHD.o.g au.o).mono ?_;rintro e w2 ⟨ab,lv2,rfl,ak⟩;rw[ag.o.2.1]at ak;rw[ag.o.2.2];have af:=ak.2 rfl;subst af;have ae:=Qab (aw.o.trans (ab.mono aF));have ac:=Qab (Qai aG.o ab);have ah:=Qab (HHD.o.fr (P:=fun _ _=>False) (Fr.of_below ab) (fun _ _ h=>h));have m0:w2.cell? ⟨w1.heap.size+1,0,none⟩=some (.string ⟨#[]⟩):=Qaa ac.o 0;have m1:w2.cell? ⟨w1.heap.size+1,1,none⟩=some (.string ⟨#[]⟩):=Qaa ac.o 1;have m2:w2.cell? ⟨w1.heap.size+1,2,none⟩=some (.int .i64 0):=Qaa ac.o 2;have m3:w2.cell? ⟨w1.heap.size+1,3,none⟩=some (.slice (some ⟨w1.heap.size,0,none⟩) 1 1):=Qaa ac.o 3;have aC:=ae.o.size;clear ab ak;go_wp2_with fail;refine(QtX ⟨QyB.toArray⟩ y3 (.slice (some ⟨w1.heap.size,0,none⟩) 1 1) exM w2 (HE.o.below ae.o) (by decide) ad.o.1 ah.o.g au.o).mono ?_;rintro e w3 ⟨aA,lv3,rfl,aj⟩;rw[ad.o.2.1]at aj;rw[ad.o.2.2];have aE:=Qab (ae.o.trans (aA.mono aC));obtain⟨g3,c3,aH,_,hg3,hcells⟩:=Qcq aj.1 (by decide);subst aH;have d0:w3.cell? ⟨g3,0,none⟩=some (.int .i64 3):=hcells 0 _ rfl;have d1:w3.cell? ⟨g3,1,none⟩=some (.string ⟨#[97,64,98]⟩):=hcells 1 _ rfl;have heq:∀ W,(binOp .eql 34 (.agg #[.int .i64 3,.string ⟨#[97,64,98]⟩]) (.agg #[.int .i64 3,.string ⟨#[97,64,98]⟩])).run Tryz.prog W=.ok (.bool true) W:=fun W=>(Qwp (3,[97,64,98]) (3,[97,64,98]) W).trans (by simp)
 clear hcells aj aA;go_wp2;go_ret;exact⟨rfl,aE.o⟩
theorem QtJ(k N:Int)(w:World)(h0:-9223372036854775808<=k)(hk:k<0)(hN:1<=N)(hN2:N<=1000):Calls Tryz.prog 7 #[.int .i64 k,.int .i64 N] w fun e w'=>e=.returned (.int .i64 ((-(k+1)) % N))/\w'=w:=by
 have he:-(k+1).tmod N=(-(k+1)) % N:=by rw[<-Int.neg_tmod,Int.tmod_eq_emod_of_nonneg (by omega)]
 have hz:¬ N=0:=by omega
 have aa:0<=(-(k+1)) % N:=Int.emod_nonneg _ hz;have ab:(-(k+1)) % N<N:=Int.emod_lt_of_pos _ (by omega);rw[<-he]at aa ab;have HE:=Qab he;clear he;go_enter func7,ntmps7;go_wp2;go_ret;refine⟨?_,rfl⟩;show Ending.returned (Value.int IntKind.i64 (-(k+1).tmod N))=_
 rw[HE.o]
theorem Qt9(k N:Int)(w:World)(h1:k<=9223372036854775807)(hk:0<=k)(hN:1<=N)(hN2:N<=1000):Calls Tryz.prog 7 #[.int .i64 k,.int .i64 N] w fun e w'=>e=.returned (.int .i64 (k % N))/\w'=w:=by
 have hz:¬ N=0:=by omega
 have hr0:0<=k % N:=Int.emod_nonneg _ hz;have hr1:k % N<N:=Int.emod_lt_of_pos _ (by omega);go_enter func7,ntmps7;go_wp2;go_ret;exact⟨rfl,rfl⟩
theorem QwW(k N:Int)(h0:-9223372036854775808<=k)(h1:k<=9223372036854775807)(hN:1<=N)(aa:N<=1000):∃ m:Nat,(m:Int)<N/\∀ W,Calls Tryz.prog 7 #[.int .i64 k,.int .i64 N] W fun e w'=>e=.returned (.int .i64 (m:Int))/\w'=W:=by
 have hz:¬ N=0:=by omega
 by_cases hk:k<0
 ·have g0:0<=(-(k+1)) % N:=Int.emod_nonneg _ hz;have g1:(-(k+1)) % N<N:=Int.emod_lt_of_pos _ (by omega);refine⟨((-(k+1)) % N).toNat,by omega,fun W=>?_⟩;have e:(((-(k+1)) % N).toNat:Int)=(-(k+1)) % N:=by omega
  rw[e];exact QtJ k N W h0 hk hN aa
 ·have g0:0<=k % N:=Int.emod_nonneg _ hz;have g1:k % N<N:=Int.emod_lt_of_pos _ (by omega);refine⟨(k % N).toNat,by omega,fun W=>?_⟩;have e:((k % N).toNat:Int)=k % N:=by omega
  rw[e];exact Qt9 k N W h1 (by omega) hN aa
end
section
open Go.RowKit Go.Maps
attribute [local go_sem ↓] Go.wp_at_zero Go.wp_at_succ
def Qyq (w:World) (v:Value) (l:List Fl):Prop:=
 (v=.slice none 0 0∧l=[])∨∃ b off c cs,v=.slice (some ⟨b,off,none⟩) l.length c∧w.heap[b]?=some (.cells cs 39)∧∀ j (hj:j < l.length),w.cell? ⟨b,off+j*2,none⟩=some (.string (sA l[j].1))∧w.cell? ⟨b,off+j*2+1,none⟩=some (.string (sA l[j].2))
theorem Qye.toS{w:World}{v:Value}{l:List Fl}(h:Qye w v l):Qyq w v l:=by
 rcases h with⟨h1,h2⟩ | ⟨g,c,cs,hv,hb,hc⟩
 ·exact Or.inl ⟨h2,h1⟩
 ·refine Or.inr ⟨g,0,c,cs,hv,hb,fun j hj=>?_⟩;rw[Nat.zero_add];exact hc j hj
theorem Qyq.len{w:World}{v:Value}{l:List Fl}(h:Qyq w v l):∃ a c,v=.slice a l.length c:=by
 rcases h with⟨h1,h2⟩ | ⟨b,off,c,cs,hv,_⟩
 ·exact⟨none,0,by rw[h1,h2];rfl⟩
 ·exact⟨_,_,hv⟩
end
section
open Go.RowKit
attribute [local go_sem ↓] Go.wp_at_zero Go.wp_at_succ
theorem Qgx{id:L8}{acts:List (Int×L8)}{text:L8}{fs:List Fl}(hv:QnI noF id acts text fs):∀ x,(Qbo noF fs x).isSome=true->Lib.hasPrefix x [46]=false:=fun x hx=>QtI hv x hx
theorem Qjj(s:ByteArray)(M:Msg)(hv:Value)(aM ay ae:Int)(w:World)(he:Env w)(hd:Qxs w)(hs:s.size<=140737488355328)(hh:Qq5 w hv M.hdrs)(hb:Qyc M)(bh:-9223372036854775808<=aM/\aM<=9223372036854775807)(hp:-9223372036854775808<=ae/\ae<=9223372036854775807) :
 Calls Tryz.prog 5 #[.string s,QfV M hv,.int .i64 aM,.int .i64 ay,.int .i64 ae] w fun e w'=>e=.returned (.bool true)/\Below w.heap.size w w':=by
 obtain⟨ah,ch,rfl⟩:=hh.len;have HE:=Qab he;have b7:=Qab hd;have b6:=Qab hh;have bV:=Qab hb;have h6:6<w.heap.size:=Qau (a:=⟨6,15,none⟩) hd.tz;obtain⟨pk,_,bL⟩:=QwW aM 40 bh.1 bh.2 (by omega) (by omega);have ca:=Qab bL;clear he hh hb hd bL bh;have a6:∀(a:Option Addr) (n c:Nat),QfV M (.slice a n c)=.agg #[.string (sA M.fr),.string (sA M.to),.int .i64 M.size,.slice a n c]:=fun _ _ _=>rfl
 rw[a6];have bO:=Qab a6;clear a6;obtain⟨W0,aQ⟩:∃ W0,W0=w.alloc (.cells #[.string (sA M.fr),.string (sA M.to),.int .i64 M.size,.slice ah M.hdrs.length ch] 28):=⟨_,rfl⟩;have ba:Hid (Below w.heap.size w W0):=by show Below _ _ _;rw[aQ];exact(Below.refl _ _).alloc (Nat.le_refl _) _
 have bo:Hid (W0.heap[w.heap.size]?=some (.cells #[.string (sA M.fr),.string (sA M.to),.int .i64 M.size,.slice ah M.hdrs.length ch] 28)):=by show _=_;rw[aQ];exact Qam _ _
 have h0s:=ba.o.size;have h0l:=Qar bo.o;have b8:=Qab aQ
 have aa:Hid (∀ W:World,Below (w.heap.size+1) W0 W->Below w.heap.size w W/\Env W/\Qq5 W (.slice ah M.hdrs.length ch) M.hdrs/\w.heap.size<=W.heap.size/\w.heap.size+1<=W.heap.size/\W.cell? ⟨w.heap.size,0,none⟩=some (.string (sA M.fr))/\W.cell? ⟨w.heap.size,1,none⟩=some (.string (sA M.to))/\W.cell? ⟨w.heap.size,2,none⟩=some (.int .i64 M.size)/\W.cell? ⟨w.heap.size,3,none⟩=some (.slice ah M.hdrs.length ch)):=fun W hW=>by
  have a7:Below w.heap.size w W:=ba.o.trans (hW.mono (by omega));have aR:W.heap[w.heap.size]?=some _:=(hW.block w.heap.size (by omega)).trans bo.o;have h1:=hW.size;exact⟨a7,HE.o.below a7,b6.o.below a7,by omega,by omega,Qaa aR 0,Qaa aR 1,Qaa aR 2,Qaa aR 3⟩
 clear aQ;go_enter func5,ntmps5;go_wp2_with fail;rw[<-b8.o];refine(QvH W0 (HE.o.below ba.o)).mono ?_;rintro e w1 ⟨rfl,bt⟩;have a3:Below (w.heap.size+1) W0 w1:=bt.mono (by omega);have a4:=Qab a3;obtain⟨_,_,_,bQ,bq,m0,m1,m2,m3⟩:=aa.o w1 a3;clear bt a3;go_wp2_with fail;rw[<-bO.o];refine(Qqx M _ w1 (aa.o w1 a4.o).2.2.1 bV.o).mono ?_;rintro e w2 ⟨rfl,bl⟩;have aW:Below (w.heap.size+1) W0 w2:=a4.o.trans (bl.mono bq);have aE:=Qab aW;clear m0 m1 m2 m3;have bB:=(aa.o w2 aW).2.2.2.2.1;clear bl aW;by_cases hsm:Qwf M<=16384;rotate_left
 ·have hd:decide (Qwf M<=16384)=false:=decide_eq_false hsm;rw[hd];clear hd hsm;go_wp2;go_ret;exact⟨rfl,(aa.o w2 aE.o).1⟩
 have hd:decide (Qwf M<=16384)=true:=decide_eq_true hsm;rw[hd];have bY:=Qab (QnD hsm);clear hd hsm;go_wp2_with fail;refine(Qfj s w2 (aa.o w2 aE.o).2.1.m1 (aa.o w2 aE.o).2.1.et).mono ?_;rintro e w4 ⟨bM,hP⟩;have a0:Below (w.heap.size+1) W0 w4:=aE.o.trans (bM.mono bB);have ap:=Qab a0;obtain⟨_,_,_,bZ,bj,m0,m1,m2,m3⟩:=aa.o w4 a0;clear bM a0;rcases hP with⟨hl,rfl⟩ | ⟨bN,y,g,rv,lv,hy,rfl,hz,hc,hr,bu⟩ | ⟨bN,f,hf,rfl⟩
 ·go_wp2;go_ret;exact⟨rfl,(aa.o w4 ap.o).1⟩
 ·have bw:=QpR hy;have bP:=Qnc hy;have bT:s.data.toList.length=s.size:=by simp
  have av:(QhD y).length<=100000:=by omega
  have bJ:=Qab av;have bC:Hid (y.1.length<=1000000):=by show _<=_;have:=Qst y;omega
  have bx:=Qab bw;have HC:=Qab hc;have HR:=Qab hr;have bz:=Qab bu;have aS:=Qab (Qt2 (varsB y.1) (QeF y.2) M);obtain⟨r,bi⟩:∃ r,execL (varsB y.1) (QeF y.2) M=r:=⟨_,rfl⟩;have bK:=Qab bi;rw[bi]at aS;clear hy bw bP bT av hc hr bu bi bN;go_wp2_with fail;rw[<-bO.o];refine(QpA g y rv lv _ M w4 _ (aa.o w4 ap.o).2.1 HC.o HR.o bz.o bx.o.2 bJ.o bC.o (aa.o w4 ap.o).2.2.1 bY.o).mono ?_;rw[bK.o];rintro e w5 ⟨bk,lv5,rfl,a2⟩;have aT:Below (w.heap.size+1) W0 w5:=ap.o.trans (bk.mono bj);have bm:=Qab (aa.o w5 aT).1;have b3:=(aa.o w5 aT).2.2.2.1;obtain⟨la,lc,b9⟩:=Qat a2.1;subst b9;have b0:=Qab (QjB.of_owns a2.1);clear a2 bk aT m0 m1 m2 m3 bK bx HC HR bz bJ bC;generalize toldZ r.2.2=tz at *;generalize r.1=acts at *;obtain⟨fs,br,b2,bI⟩:=QrP (id:=[109]) (text:=[116,101,120,116]) (by decide) aS.o
  have bH:∀ a∈acts,a.2.length<=65536:=fun a ha=>by
   rcases aS.o.2.2 a ha with⟨_,h⟩ | ⟨_,h⟩ | ⟨_,h⟩ | ⟨_,h⟩
   ·rw[h];decide
   ·unfold Qbp at h;simp only[Bool.and_eq_true,decide_eq_true_eq]at h;omega
   ·omega
   ·omega
  have bv:Hid (∀ F:Fs,(∀ x,(F x).isSome=true->Lib.hasPrefix x [46]=false)->QnI F [109] acts [116,101,120,116] fs):=fun F hF=>QxJ br (by decide) (by decide) bH hF
  have bp:∀ x,((noF:Fs) x).isSome=true->Lib.hasPrefix x [46]=false:=fun x hx=>by cases hx
  have ar:=Qab (bv.o noF bp);have ab:Hid (Qdp noF fs (Qrg [kJ] fs)):=Qqu (fun x hx=>by cases hx) (List.mem_singleton.2 rfl);have bA:=Qab bI;have hfl6:=ar.o.f10;have b5:(Qrg [kJ] fs).length<=1+fs.length:=Nat.le_of_eq (QsX _ _);obtain⟨L,hL⟩:∃ L,L=Qrg [kJ] fs:=⟨_,rfl⟩;have hL1:1<=L.length:=List.length_pos_of_mem (hL ▸ ab.o.j);rw[<-hL]at b5 ab;clear hL br b2 bH bp bI;go_wp2_with fail;refine(QqM [] (.slice none 0 0) w5 ⟨none,0,rfl,fun h=>absurd rfl h⟩ (by simp) (by intro f hf;cases hf)).mono ?_;rintro e w6 ⟨aY,bb,bn,rfl,bG,ao⟩;have aH:=Qab aY;have bs:=Qab bG;have bE:=aY.size;have b1:Hid (Quf w6 w5.heap.size (w5.heap.size+1) w5.heap.size L.length (fun M=>M=noF)):=⟨bn,noF,rfl,AbsD.mono ⟨_,⟨ao.bb,ao.ne,ao.blk,ao.md,ao.mn,ao.row⟩⟩ (Nat.zero_le _)⟩;have a9:=Qab (b7.o.below bm.o);have ac:Hid (∀ W,Below w5.heap.size w5 W->Qxs W/\Below w.heap.size w W/\∀ w',Fr (PDk w5.heap.size) W w'->QjB w' (.slice la acts.length lc) acts):=fun W hW=>⟨a9.o.below hW,bm.o.trans (hW.mono b3),fun w' hf=>b0.o.below (Fr.lowB hW hf (Nat.le_refl _))⟩
  have aO:6<w5.heap.size:=by omega
  clear aY bG ao aa a4 aE ap bQ bq bB bZ bj;go_wp2_with fail;refine(ca.o w6).mono ?_;rintro e w7 ⟨rfl,rfl⟩;go_wp2_with fail;refine(Ql7 w5.heap.size bb (w5.heap.size+1) w5.heap.size L (.slice la acts.length lc) (pk:Int) (-1) ay ae w7 ar.o ab.o bs.o b1.o aO bE (ac.o w7 aH.o).1.tab (ac.o w7 aH.o).1.tz (ac.o w7 aH.o).1.err (ac.o w7 aH.o).2.2 (by omega) hp.1 hp.2).mono ?_;rintro e w8 ⟨k,rfl,aJ,bD⟩;have ai:=Qab (Fr.lowB aH.o aJ (Nat.le_refl _));have aN:=Qab (aJ.block _ _ bs.o PDk.notBox);have bF:w5.heap.size<=w8.heap.size:=Nat.le_trans bE aJ.size;have bf:=Qab bD;clear aJ bD;have ag:Hid (∀ W,Below w5.heap.size w5 W->Tab W/\Tz W/\Qfv W):=fun W hW=>⟨(ac.o W hW).1.tab,(ac.o W hW).1.tz,(ac.o W hW).1.err⟩
  rcases bf.o with⟨bU,hR⟩ | ⟨hk,hG⟩
  ·as_aux_lemma=>
    subst bU;have HR:=Qab hR;clear hR bf;go_wp2_with fail;refine(Qjn w5.heap.size bb (w5.heap.size+1) w5.heap.size L 0 0 w8 (Qgx ar.o) ab.o.next ab.o.j aN.o HR.o aO (ag.o w8 ai.o).1 (ag.o w8 ai.o).2.1 (ag.o w8 ai.o).2.2 (by omega) (by omega) (by omega)).mono ?_;rintro e w9 ⟨rfl,af,a8,M9,aP,aC⟩;subst aP;have ak:=Qab (Fr.lowB ai.o af (Nat.le_refl _));have aI:=Qab (af.block _ _ aN.o PDk.notBox);have aU:=Qab aC;have aL:w5.heap.size<=w9.heap.size:=Nat.le_trans bF af.size;clear af aC;go_wp2_with fail;refine(QiR w5.heap.size bb (w5.heap.size+1) w5.heap.size a8 L.length _ _ _ w9 aI.o aU.o (by omega)).mono ?_;rintro e aK ⟨ax,v10,bR,rfl,au,aB,a5⟩;obtain⟨a10,c10,az⟩:=au.toS.len;rw[bA.o bR aB]at az;subst az;have aj:=Qab (ac.o aK (ak.o.trans (ax.mono aL))).2.1;clear ax au aB a5;go_wp2;go_ret;exact⟨rfl,aj.o⟩
  ·as_aux_lemma=>
    have HG:=Qab hG;have hknz:¬((k:Nat):Int)=0:=by omega
    generalize ((k:Nat):Int)=kz at *;clear hG bf hk;go_wp2_with fail;refine(QeB w5.heap.size bb (w5.heap.size+1) w5.heap.size L 0 0 w8 ar.o ab.o aN.o HG.o aO (ag.o w8 ai.o).1 (ag.o w8 ai.o).2.1 (ag.o w8 ai.o).2.2 (by omega) (by omega) (by omega)).mono ?_;rintro e w9 ⟨rfl,af,a8,M9,aP,aC⟩
    have bc:Hid (Qbo M9 fs=Qbo noF fs/\(∀ x,(M9 x).isSome=true->Lib.hasPrefix x [46]=false)/\Qdp M9 fs L):=by
     rcases aP with h|h
     ·have e:M9=noF:=funext h;subst e;exact⟨rfl,(fun x hx=>by cases hx),ab.o⟩
     ·have e:M9=Qbo noF fs:=funext h;subst e;exact⟨QoG fs noF,Qgx ar.o,ab.o.next,ab.o.j,ab.o.n⟩
    have ak:=Qab (Fr.lowB ai.o af (Nat.le_refl _));have aI:=Qab (af.block _ _ aN.o PDk.notBox);have aU:=Qab aC;have aL:w5.heap.size<=w9.heap.size:=Nat.le_trans bF af.size;clear af aC aP;go_wp2_with fail;refine(QiN w5.heap.size bb (w5.heap.size+1) w5.heap.size L (.slice la acts.length lc) 0 0 w9 (bv.o M9 bc.o.2.1) bc.o.2.2 aI.o ⟨a8,M9,rfl,aU.o⟩ aO aL (ag.o w9 ak.o).1 (ag.o w9 ak.o).2.1 (ag.o w9 ak.o).2.2 (ac.o w9 ak.o).2.2 (by omega) (by omega) (by omega)).mono ?_;rintro e aK ⟨rfl,ad,a1,bX,aA,aD⟩;have b4:bX=Qbo noF fs:=aA.trans bc.o.1;subst b4;have aj:=Qab (Fr.lowB ak.o ad (Nat.le_refl _));have bd:=Qab (ad.block _ _ aI.o PDk.notBox);have aZ:=Qab aD;have aX:w5.heap.size<=aK.heap.size:=Nat.le_trans aL ad.size;clear ad aD aA;go_wp2_with fail;refine(QiR w5.heap.size bb (w5.heap.size+1) w5.heap.size a1 L.length _ _ _ aK bd.o aZ.o (by omega)).mono ?_;rintro e bW ⟨aw,v11,bS,rfl,aq,aG,aV⟩;obtain⟨a11,c11,aF⟩:=aq.toS.len;rw[bA.o bS aG]at aF;subst aF;have bg:=Qab (ac.o bW (aj.o.trans (aw.mono aX))).2.1;clear aw aq aG aV;go_wp2;go_ret;exact⟨rfl,bg.o⟩
 ·go_wp2;go_ret;exact⟨rfl,(aa.o w4 ap.o).1⟩
end
end Go.Proofs.YthkibedbcbgajaaGreatDoor
