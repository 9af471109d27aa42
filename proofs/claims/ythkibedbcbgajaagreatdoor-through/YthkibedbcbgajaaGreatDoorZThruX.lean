import Derived.Test.YthkibedbcbgajaaGreatDoorZCCode
import Derived.Test.YthkibedbcbgajaaGreatDoorZMExec
import Derived.Test.YthkibedbcbgajaaGreatDoorPlainNever
import Derived.Test.YthkibedbcbgajaaGreatDoorPlainTwice
namespace Go.Proofs.YthkibedbcbgajaaGreatDoor
set_option linter.unusedVariables false
set_option linter.unusedSimpArgs false
set_option maxRecDepth 100000
set_option maxHeartbeats 4000000
open Go.Proofs.Tryz
section
open Go.RowKit
attribute [local go_sem ↓] Go.wp_at_zero Go.wp_at_succ
structure Env (w:World):Prop where
 m1:∃ m,w.cell? ⟨1,0,none⟩=some (.int .i64 m)
 et:Qfv w
 tab:Tab w
theorem Env.below{w w':World}(h:Env w)(hb:Below w.heap.size w w'):Env w':=by
 obtain⟨m,hm⟩:=h.m1;exact⟨⟨m,by rw[hb.cell (p:=⟨1,0,none⟩) (Qau hm)];exact hm⟩,h.et.below hb,h.tab.below hb⟩
def exT1:L8:=[105,102,32,104,101,97,100,101,114,32,34,83,117,98,106,101,99,116,34,32,34,120,34,32,123,32,100,105,115,99,97,114,100,59,32,125,32,101,108,115,101,32,123,32,107,101,101,112,59,32,125]
def Qxz:L8:=[107,101,101,112,59,32,105,102,32,123,32,125]
def QyH {α:Type} (r:Except Flt α):Bool:=match r with | .ok _=>true | .error _=>false
def Qyr {α:Type} (r:Except Flt α) (n p:Nat):Bool:=match r with | .ok _=>false | .error f=>f.err == n && f.pos == p
theorem Qx3:QyH (prL exT1)=true:=by kernel_rfl
theorem QsM:Qyr (prL Qxz) 4 9=true:=by kernel_rfl
theorem ex1:∃ y,prL exT1=.ok y:=by
 cases h:prL exT1 with
 |ok y=>exact⟨y,rfl⟩
 |error f=>have:=Qx3;rw[h]at this;cases this
theorem ex2:prL Qxz=.error ⟨4,9⟩:=by
 cases h:prL Qxz with
 |ok y=>have:=QsM;rw[h]at this;cases this
 |error f=>
  have:=QsM;rw[h]at this;have h2:(f.err==4&&f.pos==9)=true:=this;simp at h2;cases f;simp at h2;rw[h2.1,h2.2]
theorem Qrt(w:World)(he:Env w):Calls Tryz.prog 16 #[] w fun e w'=>e=.returned (.bool true)/\Below w.heap.size w w':=by
 have HE:=Qab he;clear he;go_enter func16,ntmps16;go_wp2_with fail;refine(Qfj ⟨exT1.toArray⟩ w HE.o.m1 HE.o.et).mono ?_;rintro e w1 ⟨hB,⟨aa,_⟩ | ⟨_,y,g,rv,lv,hy,rfl,hz,_⟩ | ⟨_,f,hf,_⟩⟩
 ·exact absurd aa (by decide)
 ·have HB:=Qab hB;have hs:=hB.size;clear hB hy;go_wp2_with fail;refine(Qfj ⟨Qxz.toArray⟩ w1 (HE.o.below HB.o).m1 (HE.o.below HB.o).et).mono ?_;rintro e w2 ⟨ab,⟨aa,_⟩ | ⟨_,y2,g2,rv2,lv2,ac,_⟩ | ⟨_,f,hf,rfl⟩⟩
  ·exact absurd aa (by decide)
  ·have h2:prL Qxz=.ok y2:=ac;rw[ex2]at h2;cases h2
  ·have h2:prL Qxz=.error f:=hf;rw[ex2]at h2;cases h2;have ad:=Qab (HB.o.trans (ab.mono hs));clear ab hf;go_wp2;go_ret;exact⟨rfl,ad.o⟩
 ·obtain⟨y,hy⟩:=ex1;have h2:prL exT1=.error f:=hf;rw[hy]at h2;cases h2
end
section
open Go.RowKit
structure Qxs (w:World):Prop where
 tab:Tab w
 tz:Tz w
 err:Qfv w
theorem Qxs.below{w w':World}(h:Qxs w)(hb:Below w.heap.size w w'):Qxs w':=
 ⟨h.tab.below hb,h.tz.below hb,(hb.cell (p:=⟨0,0,none⟩) (Qau (a:=⟨0,0,none⟩) h.err)).trans h.err⟩
theorem Fr.lowB{B:Nat}{u w w':World}(h:Below u.heap.size u w)(hf:Fr (PDk B) w w')(hB:u.heap.size<=B):Below u.heap.size u w':=
 h.trans (hf.below (fun _ _ hp=>Nat.le_trans hB hp.1) h.size)
theorem QxJ{F:Fs}{id:L8}{aa:List (Int×L8)}{text:L8}{fs:List Fl}(hr:filesL id aa text=.ok fs)(h1:id.length<=65536)(h2:text.length<=65536)(h3:∀ a∈aa,a.2.length<=65536)(hF:∀ x,(F x).isSome=true->Lib.hasPrefix x [46]=false):QnI F id aa text fs:=by
 obtain⟨a1,a2,a3,a4⟩:=Qkq 65536 hr h3;refine⟨hr,by omega,by omega,fun a h=>by have:=h3 a h;omega,hF,?_,by omega,a2,fun f hf=>⟨(a3 f hf).1,by have:=(a3 f hf).2;omega⟩,a4⟩;have hs:=Qka id text aa (by omega) (by omega) (fun a h=>⟨by have:=h3 a h;omega,a4 a h⟩);have hj:=QgQ (Qbn id text aa) (fun p hp=>by have:=Qn7 p hp;omega);omega
def Qrg (L:List (L8)) (fs:List Fl):List (L8):=L++fs.map (·.1)
theorem Qqu{F:Fs}{fs:List Fl}{L:List (L8)}(h:∀ x,(F x).isSome=true->x∈L)(hj:kJ∈L):Qdp F fs (Qrg L fs):=
 ⟨fun x hx=>List.mem_append_left _ (h x hx),List.mem_append_left _ hj,fun f hf=>List.mem_append_right _ (List.mem_map_of_mem hf)⟩
theorem QsX(L:List (L8))(fs:List Fl):(Qrg L fs).length=L.length+fs.length:=by
 unfold Qrg;rw[List.length_append,List.length_map]
theorem QtI{F:Fs}{id:L8}{aa:List (Int×L8)}{text:L8}{fs:List Fl}(hv:QnI F id aa text fs)(x:L8)(hx:(Qbo F fs x).isSome=true):Lib.hasPrefix x [46]=false:=by
 rcases putFs_somG x fs F hx with hx | ⟨f,hf,e⟩
 ·exact hv.dot x hx
 ·rw[<-e];exact QpS (hv.nm f hf).1
theorem Ql7{F:Fs}{id:L8}{aa:List (Int×L8)}{text:L8}{fs:List Fl}(B bb db bd:Nat)(L:List (L8))(av:Value)(l f kp pt:Int)(w:World)(hv:QnI F id aa text fs)(hL:Qdp F fs L)(hb:w.heap[bb]?=some (.cells #[.pointer (some ⟨db,0,none⟩)] 55))(h:Quf w B db bd L.length (fun M=>M=F))(hB:6<B)(ab:B<=w.heap.size)(ht:Tab w)(hz:Tz w)(hg:Qfv w)(ha:∀ w',Fr (PDk B) w w'->QjB w' av aa)(hn:L.length<=450000)(ad:-9223372036854775808<=pt)(ac:pt<=9223372036854775807) :
 Calls Tryz.prog 10 #[.pointer (some ⟨bb,0,none⟩),.string (sA id),av,.string (sA text),.int .i64 l,.int .i64 f,.int .i64 kp,.int .i64 pt] w fun e w'=>∃ k:Nat,e=.returned (.int .i64 (k:Int))/\Fr (PDk B) w w'/\((k=0/\Quf w' B db bd L.length (fun M=>M=Qbo F fs))\/((k=15\/k=16)/\Qx9 w' B db bd L.length F (QeX id text aa) fs)):=by
 by_cases hne:fs=[]
 ·obtain⟨bn,M,rfl,hA⟩:=h
  have hR:Qfo ⟨M,M,[],⟨l,f,false⟩⟩ id aa text=(0,⟨M,M,[],⟨l,f,false⟩⟩):=by
   unfold Qfo;rw[hv.ok];dsimp only;rw[if_pos hne]
  refine(Qdf B bb db bd bn L.length M id text aa av l f kp pt _ w hb hA ht hz hg ha (by have:=hv.li;omega) (by have:=hv.lt;omega) (fun a h=>by have:=hv.la a h;omega) (by have:=hv.a6;omega) hv.fj hn (fun _ _=>by have:=Qhc hv;omega) hB ab hR.symm (by simp) (by intro o ho;cases ho) (by intro o ho;cases ho) ad ac).mono ?_;rintro e w' ⟨he,hf,ae,D',N',p',ag,af⟩;refine⟨0,he,hf,Or.inl ⟨rfl,?_⟩⟩;rcases ag with⟨_,rfl,rfl,rfl⟩ | ⟨hd,_⟩
  ·exact⟨ae,_,by rw[hne];rfl,af.tight L hL.f hL.f⟩
  ·cases hd
 ·refine(Qs7 B bb db bd L av l f kp pt w hv hne hL hb h hB ab ht hz hg ha hn ad ac).mono ?_;rintro e w' ⟨k,he,hf,⟨h0,bn,M,hM,hA⟩|hG⟩
  ·exact⟨k,he,hf,Or.inl ⟨h0,bn,M,funext hM,hA⟩⟩
  ·exact⟨k,he,hf,Or.inr hG⟩
theorem QiN{F:Fs}{id:L8}{aa:List (Int×L8)}{text:L8}{fs:List Fl}(B bb db bd:Nat)(L:List (L8))(av:Value)(kp pt:Int)(w:World)(hv:QnI F id aa text fs)(hL:Qdp F fs L)(hb:w.heap[bb]?=some (.cells #[.pointer (some ⟨db,0,none⟩)] 55))(h:Quf w B db bd L.length (fun M=>M=F))(hB:6<B)(ad:B<=w.heap.size)(ht:Tab w)(hz:Tz w)(hg:Qfv w)(ha:∀ w',Fr (PDk B) w w'->QjB w' av aa)(hn:L.length<=450000)(ae:-9223372036854775808<=pt)(ag:pt<=9223372036854775807) :
 Calls Tryz.prog 10 #[.pointer (some ⟨bb,0,none⟩),.string (sA id),av,.string (sA text),.int .i64 (-1),.int .i64 (-1),.int .i64 kp,.int .i64 pt] w fun e w'=>e=.returned (.int .i64 0)/\Fr (PDk B) w w'/\Quf w' B db bd L.length (fun M=>M=Qbo F fs):=by
 obtain⟨bn,M,rfl,hA⟩:=h;by_cases hne:fs=[]
 ·have hR:Qfo ⟨M,M,[],⟨-1,-1,false⟩⟩ id aa text=(0,⟨M,M,[],⟨-1,-1,false⟩⟩):=by
   unfold Qfo;rw[hv.ok];dsimp only;rw[if_pos hne]
  refine(Qdf B bb db bd bn L.length M id text aa av (-1) (-1) kp pt _ w hb hA ht hz hg ha (by have:=hv.li;omega) (by have:=hv.lt;omega) (fun a h=>by have:=hv.la a h;omega) (by have:=hv.a6;omega) hv.fj hn (fun _ _=>by have:=Qhc hv;omega) hB ad hR.symm (by simp) (by intro o ho;cases ho) (by intro o ho;cases ho) ae ag).mono ?_;rintro e w' ⟨he,hf,af,D',N',p',ab,ac⟩;refine⟨he,hf,?_⟩;rcases ab with⟨_,rfl,rfl,rfl⟩ | ⟨hd,_⟩
  ·exact⟨af,_,by rw[hne];rfl,ac.tight L hL.f hL.f⟩
  ·cases hd
 ·have hR:Qfo ⟨M,M,[],⟨-1,-1,false⟩⟩ id aa text=Qa1 (Qbg (QeX id text aa) fs) ⟨M,M,[],⟨-1,-1,false⟩⟩:=by
   unfold Qfo;rw[hv.ok];dsimp only;rw[if_neg hne]
  have h0:(Qfo ⟨M,M,[],⟨-1,-1,false⟩⟩ id aa text).1=0:=by
   rw[hR];refine QgH _ _ 0 ?_ rfl;have:=hv.f10;unfold Qbg;simp;omega
  have hE:Qr9 M (QeX id text aa) fs (Qfo ⟨M,M,[],⟨-1,-1,false⟩⟩ id aa text) (Nxt M fs):=by rw[hR];exact Qns _ hv.fj hv.nj
  obtain⟨p1,p2,p3⟩:=Qh1 hv hE;refine(Qdf B bb db bd bn L.length M id text aa av (-1) (-1) kp pt _ w hb hA ht hz hg ha (by have:=hv.li;omega) (by have:=hv.lt;omega) (fun a h=>by have:=hv.la a h;omega) (by have:=hv.a6;omega) hv.fj hn (fun _ _=>by have:=Qhc hv;omega) hB ad rfl (by omega) p2 p3 ae ag).mono ?_;rintro e w' ⟨he,hf,af,D',N',p',ab,ac⟩;have hP:=Qoi hL hv.fj hv.nj hE (fun M' hM x hx=>hL.next x (by rw[<-hM x];exact hx)) he hf ab ac;obtain⟨k,hk,hf',hh⟩:=hP;rw[he,h0]at hk
  have hk0:k=0:=by
   injection hk with hk
   injection hk with _ hk
   omega
  rcases hh with⟨_,ai,M2,ah,aj⟩ | ⟨hh,_⟩
  ·exact⟨by rw[he,h0];rfl,hf,ai,M2,funext ah,aj⟩
  ·omega
theorem Qjn{F:Fs}(B bb db bd:Nat)(L:List (L8))(kp pt:Int)(w:World)(hF:∀ x,(F x).isSome=true->Lib.hasPrefix x [46]=false)(hL:∀ x,(F x).isSome=true->x∈L)(hj:kJ∈L)(hb:w.heap[bb]?=some (.cells #[.pointer (some ⟨db,0,none⟩)] 55))(h:Quf w B db bd L.length (fun M=>M=F))(hB:6<B)(ht:Tab w)(hz:Tz w)(hg:Qfv w)(hn:L.length<=450000)(aa:-9223372036854775808<=pt)(ab:pt<=9223372036854775807) :
 Calls Tryz.prog 12 #[.pointer (some ⟨bb,0,none⟩),.int .i64 (-1),.int .i64 (-1),.int .i64 kp,.int .i64 pt] w fun e w'=>e=.returned (.int .i64 0)/\Fr (PDk B) w w'/\Quf w' B db bd L.length (fun M=>M=F):=by
 have hv:QnI F [97] [] [] []:=QxJ rfl (by decide) (by decide) (fun a h=>by cases h) hF
 have hG:Qx9 w B db bd L.length F (QeX [97] [] []) []:=by
  obtain⟨bn,M,rfl,hA⟩:=h;exact⟨bn,_,_,[],hA,Or.inl ⟨fun _=>rfl,Or.inl rfl⟩,rfl⟩
 refine(QeB B bb db bd L kp pt w hv ⟨hL,hj,fun f hf=>by cases hf⟩ hb hG hB ht hz hg hn aa ab).mono ?_;rintro e w' ⟨he,hf,bn,M,hM,hA⟩;refine⟨he,hf,bn,M,?_,hA⟩;rcases hM with hM|hM
 ·exact funext hM
 ·exact funext hM
end
section
open Go.RowKit
attribute [local go_sem ↓] Go.wp_at_zero Go.wp_at_succ
theorem QwD{v:Bool}{aa:List Ins}{M:Msg}{w w5:World}{lv x0 y0:Value}{l:List (Int×L8)}{d B:Nat}(hx:execL v aa M=(l,d,none))(hB:Below w.heap.size w w5)(hv:ActsV w5 B lv l)(c0:w5.cell? ⟨w.heap.size+1,0,none⟩=some x0)(c1:w5.cell? ⟨w.heap.size+1+1,0,none⟩=some y0)(ac:w.heap.size+1+1<B) :
 ∃ W,W=(w5.setCell ⟨w.heap.size+1,0,none⟩ lv).setCell ⟨w.heap.size+1+1,0,none⟩ .nilIface/\W.cell? ⟨w.heap.size+1,0,none⟩=some lv/\W.cell? ⟨w.heap.size+1+1,0,none⟩=some .nilIface/\Hid (Qr8 (execL v aa M) w (.returned (.tuple #[lv,.int .i64 (d:Int),.nilIface])) W):=by
 refine⟨_,rfl,?_,?_,?_⟩
 ·rw[World.cell?_setCell_other _ _ _ _ (by simp),World.cell?_setCell_same _ _ _ c0]
 ·have ab:(w5.setCell ⟨w.heap.size+1,0,none⟩ lv).cell? ⟨w.heap.size+1+1,0,none⟩=some y0:=by rw[World.cell?_setCell_other _ _ _ _ (by simp)];exact c1
  exact World.cell?_setCell_same _ _ _ ab
 ·rw[hx];exact⟨(hB.setCell (show w.heap.size<=w.heap.size+1 by omega) _).setCell (show w.heap.size<=w.heap.size+1+1 by omega) _,Or.inl ⟨lv,rfl,rfl,((hv.set (by omega) _ _).set ac _ _).lo (by omega)⟩⟩
theorem MI.atNext{w:World}{B xb sb:Nat}{M:Msg}{m:MS}{aa:Nat}{kv:Value}(h:MI w B xb sb M m aa kv)(hlt:m.next<aa):MAt ((w.setCell ⟨xb,2,none⟩ (.int .i64 (m.next:Int))).setCell ⟨xb,3,none⟩ (.int .i64 ((m.next:Int)+1))).drew.drew B xb sb M (atL m) aa/\Fr (PMc B xb) w ((w.setCell ⟨xb,2,none⟩ (.int .i64 (m.next:Int))).setCell ⟨xb,3,none⟩ (.int .i64 ((m.next:Int)+1))).drew.drew:=by
 have hcl:=h.cl;have f1:=h.set 2 (.int .i64 (m.next:Int)) ⟨m.st,m.stack,m.next,m.next⟩ kv rfl rfl (QbU h.stack h.row _ _) h.sl (show m.next<=400 by omega) h.nx;have f2:=f1.1.set 3 (.int .i64 ((m.next:Int)+1)) (atL m) kv rfl rfl (QbU f1.1.stack f1.1.row _ _) h.sl (show m.next<=400 by omega) (show m.next+1<=aa by omega);obtain⟨X,hX⟩:∃ X,X=(w.setCell ⟨xb,2,none⟩ (.int .i64 (m.next:Int))).setCell ⟨xb,3,none⟩ (.int .i64 ((m.next:Int)+1)):=⟨_,rfl⟩;rw[<-hX]at f2 ⊢;have hb:Below X.heap.size X X.drew.drew:=Qas (Qas (Below.refl X.heap.size X));exact⟨⟨_,f2.1.below hb⟩,((f1.2.trans f2.2).mono (fun _ _=>PMc.k)).trans (Fr.of_below hb)⟩
theorem Qr3(v:Bool)(cv hv:Value)(aa:List Ins)(M:Msg)(w:World)(hc:QeM w cv aa)(hh:QjG w hv M.hdrs)(hb:SBd M (ss0 v))(h1:1<w.heap.size)(hm:∃ m,w.cell? ⟨1,0,none⟩=some (.int .i64 m))(ht:Tab w)(hn:aa.length<=1000000)(hlong:¬ 400<aa.length) :
 Calls Tryz.prog 39 #[.bool v,cv,QfV M hv] w (Qr8 (execL v aa M) w):=by
 have hmf:∀(fn:Fn)(first cap:Array Value)(w:World),(Instr.makeFunc fn first cap).run Tryz.prog w=.ok (.func fn first cap) w:=fun _ _ _ _=>rfl
 obtain⟨ca,cc,a0⟩:=hc.len;subst a0;obtain⟨ha,aP,bg⟩:=hh.len;subst bg;unfold QfV;have hlong':¬(400:Int)<(aa.length:Int):=by omega
 have HC:=Qab hc;have HH:=Qab hh;have bp:=Qab hb;have HT:=Qab ht;have bs:=Qab hm;clear hc hh hb ht hm;go_enter_defers func39,ntmps39;go_wp2_with fail;obtain⟨V,hV⟩:∃ V,V=((w.alloc (.cells #[.string (sA M.fr),.string (sA M.to),.int .i64 M.size,.slice ha M.hdrs.length aP] 28)).alloc (.cells #[.slice none 0 0] 29)).alloc (.cells #[.nilIface] 61):=⟨_,rfl⟩;have hzV:V.heap.size=w.heap.size+3:=by rw[hV];simp
 have hP:V.heap[w.heap.size+1]?=some (.cells #[.slice none 0 0] 29):=by rw[hV];exact Qac (Qaq (by simp))
 have hQ:V.heap[w.heap.size+1+1]?=some (.cells #[.nilIface] 61):=by rw[hV];exact Qaq (by simp)
 have ap:Below w.heap.size w V:=by rw[hV];exact(((Below.refl _ _).alloc (Nat.le_refl _) _).alloc (by simp) _).alloc (by simp;omega) _
 rw[<-hV];clear hV;have br:=Qab ap;have HP:=Qab hP;have HQ:=Qab hQ;refine(Qw0 v M (.slice ha M.hdrs.length aP) V (HH.o.fr (P:=fun _ _=>False) (Fr.of_below ap) (fun _ _ h=>h)) bp.o (by omega) (by obtain⟨m,hm⟩:=bs.o;exact⟨m,(ap.cell (p:=⟨1,0,none⟩) (Qau hm)).trans hm⟩)).mono ?_;rintro e w1 ⟨sb,rfl,hs,aA⟩;have HS:=Qab hs;have aU:=Qab aA;have aS:=aA.size;clear ap hP hQ hs aA;go_wp2_with fail;refine(QsC _).mono ?_;rintro e w2 ⟨rfl,aL,aQ,aW⟩;obtain⟨xb,ai⟩:∃ xb,xb=w1.heap.size:=⟨_,rfl⟩;have aI:w2.heap.size=xb+7:=by rw[aW,ai];simp
 have aT:(w1.alloc (.cells (Qem sb (.slice none 0 0) 0 0 aa.length) 142)).heap.size=xb+1:=by rw[ai];simp
 have ak:Qeo w2 (xb+1):=by rw[<-aT];exact aL
 have ag:Below (w1.alloc (.cells (Qem sb (.slice none 0 0) 0 0 aa.length) 142)).heap.size (w1.alloc (.cells (Qem sb (.slice none 0 0) 0 0 aa.length) 142)) w2:=aQ;have aj:w2.heap[xb]?=some (.cells (Qem sb (.slice none 0 0) 0 0 aa.length) 142):=by rw[ai];exact Qai (Qam _ _) ag
 have bt:aa.length<=400:=by omega
 have ad:Below w1.heap.size w1 w2:=((Below.refl _ _).alloc (Nat.le_refl _) _).trans (ag.mono (by simp));have bq:Hid (MAt w2 V.heap.size xb sb M (ms0 v) aa.length):=⟨.slice none 0 0,by omega,aj,HS.o.below ad,World.ownsRow_nil _ _ _ _,Nat.zero_le _,Nat.zero_le _,Nat.zero_le _,bt,by omega⟩;have aZ:=Qab ak;have af:=Qab (br.o.trans ((aU.o.trans (ad.mono aS)).mono (by omega)));have ab:=Qab (aU.o.trans (ad.mono aS));have bo:w1.heap.size+6=xb+6:=by omega
 have bj:w1.heap.size+1+5=xb+6:=by omega
 have az:∀ o:Obj,(w1.alloc o).heap.size=xb+1:=fun o=>by rw[ai];simp
 rw[az,<-ai];clear aL aQ ag aj ad ak aT aW;have hxbV:V.heap.size<=xb:=by omega
 have hx2l:xb+7<=w2.heap.size:=by omega
 clear ai bo bj aI;go_wp2_with fail
 go_loopw [7] (fun dn wr=>∃(m:MS)(d:Nat),dn=.int .i64 (d:Int)/\MAt wr V.heap.size xb sb M m aa.length/\Fr (PMc V.heap.size xb) w2 wr/\d<=m.next/\∃ F,aa.length - m.next<=F/\QfL M aa aa.length (ms0 v) 0=QfL M aa F m d) (fun dn _=>aa.length - (intOf dn).toNat)
 case atStart=>exact⟨ms0 v,0,rfl,bq.o,Fr.refl _ _,Nat.le_refl _,aa.length,Nat.sub_le _ _,rfl⟩
 case round=>
  obtain⟨m,d,rfl,aY,aM,hdm,F,hF,ae⟩:=hrel;obtain⟨kv,ah⟩:=aY;have aq:=Qab ah;have ao:=Qab aM;have aD:=Qab ae;have c0:wr.cell? ⟨xb,0,none⟩=some (.pointer (some ⟨sb,0,none⟩)):=Qaa ah.blk 0;have c3:wr.cell? ⟨xb,3,none⟩=some (.int .i64 (m.next:Int)):=Qaa ah.blk 3;have c4:wr.cell? ⟨xb,4,none⟩=some (.int .i64 (aa.length:Int)):=Qaa ah.blk 4;have hnx:=ah.nx;clear ah aM ae;by_cases hlt:m.next<aa.length;rotate_left
  ·have aJ:¬(m.next:Int)<(aa.length:Int):=by omega
   have HL:Hid (QfL M aa aa.length (ms0 v) 0=(.ok m,d)):=by
    show _=_
    rw[aD.o]
    cases F with
    |zero=>rfl
    |succ F=>unfold QfL;rw[if_neg hlt]
   have HX:=Qab (Quo (v:=v) hlong HL.o);go_wp2_with fail;go_region_held3 (fun w'=>w'.cell? ⟨xb,3,none⟩=some (.int .i64 (m.next:Int))/\w'.cell? ⟨xb,4,none⟩=some (.int .i64 (aa.length:Int))) (first|go_keep) (fail)
   all_goals go_wp2_with fail
   all_goals refine(Qn5 V.heap.size sb M m.st _ ((aq.o.st).below (Qas (Below.refl _ _)))).mono ?_
   all_goals rintro e w5 ⟨lv,rfl,aH,au⟩
   all_goals obtain⟨a5,k5,aF⟩:=Qat aH.1
   all_goals subst aF
   all_goals have aC:w5.heap[w.heap.size+1]?=some (.cells #[.slice none 0 0] 29):=Qai (show wr.drew.heap[w.heap.size+1]?=_ from ao.o.block _ _ (Qai HP.o ab.o) (PMc.not (by decide) (by decide) (by decide) (by decide))) au
   all_goals have aG:w5.heap[w.heap.size+1+1]?=some (.cells #[.nilIface] 61):=Qai (show wr.drew.heap[w.heap.size+1+1]?=_ from ao.o.block _ _ (Qai HQ.o ab.o) (PMc.not (by decide) (by decide) (by decide) (by decide))) au
   all_goals have x1:w5.cell? ⟨w.heap.size+1,0,none⟩=some (.slice none 0 0):=Qaa aC 0
   all_goals have x2:w5.cell? ⟨w.heap.size+1+1,0,none⟩=some .nilIface:=Qaa aG 0
   all_goals have z1:=Qah aC
   all_goals have z2:=Qah aG
   all_goals have hwr:w.heap.size+3<=wr.heap.size:=by have h1:=ao.o.size;have h2:=ab.o.size;omega
   all_goals have aO:Below w.heap.size w w5:=(af.o.trans ((ao.o.below (B:=w.heap.size) (fun k o h=>by have:=h.1;omega) af.o.size).trans (((Qas (Below.refl wr.heap.size wr)).trans (au.mono (Nat.le_refl _))).mono (by omega))))
   all_goals have bf:=Qab aO
   all_goals have bl:=Qab aH
   all_goals clear aO aH aC aG au
   all_goals go_wp2
   all_goals refine leaves_cons (f:=62) (args:=#[.pointer (some ⟨w.heap.size+1,0,none⟩),.pointer (some ⟨w.heap.size+1+1,0,none⟩)]) (by simp) (by simp[go_sem]) ?_
   all_goals refine(Qoo ⟨w.heap.size+1,0,none⟩ ⟨w.heap.size+1+1,0,none⟩ _).mono ?_
   all_goals rintro e u' bm ⟨rfl,rfl,rfl⟩
   all_goals obtain⟨W,hW,e0,e1,ac⟩:=QwD HX.o bf.o bl.o x1 x2 (show w.heap.size+1+1<wr.drew.heap.size from by show _<wr.heap.size;omega)
   all_goals rw[<-hW]
   all_goals clear hW
   all_goals simp[Leaves,settle,results,results39,go_sem,e0,e1]
   all_goals exact ac.o
  ·have aJ:(m.next:Int)<(aa.length:Int):=by omega
   have z0:=Qah aq.o.blk;go_wp2_with fail;go_region_held3 (fun w'=>w'.cell? ⟨xb,3,none⟩=some (.int .i64 (m.next:Int))/\w'.cell? ⟨xb,4,none⟩=some (.int .i64 (aa.length:Int))) (first|go_keep) (fail)
   all_goals go_wp2_with fail
   all_goals have c2:wr.cell? ⟨xb,2,none⟩=some (.int .i64 (m.now:Int)):=Qaa aq.o.blk 2
   all_goals have hnx8:(m.next:Int)<400:=by omega
   all_goals have hnx0:(0:Int)<=(m.next:Int):=by omega
   all_goals refine wp_region_noPanic ?_
   all_goals go_region
   all_goals refine NoPanic.normal ?_
   all_goals obtain⟨ay,aE⟩:=aq.o.atNext hlt
   all_goals obtain⟨W,hW⟩:∃ W,W=((wr.setCell ⟨xb,2,none⟩ (.int .i64 (m.next:Int))).setCell ⟨xb,3,none⟩ (.int .i64 ((m.next:Int)+1))).drew.drew:=⟨_,rfl⟩
   all_goals rw[<-hW]at ay aE
   all_goals rw[<-hW]
   all_goals clear hW
   all_goals have ax:Fr (PMc V.heap.size xb) w2 W:=ao.o.trans aE
   all_goals obtain⟨g,cs,bn,hg,av,bv,a1,a2,a3,a4,a5,a6,a7,ho⟩:=((HC.o.below af.o).pm ax).get' m.next hlt
   all_goals subst bn
   all_goals have e0:W.cell? ⟨g,m.next*7,none⟩=some (.int .i64 aa[m.next].op):=(Qaa hg _).trans a1
   all_goals have e1:W.cell? ⟨g,m.next*7+1,none⟩=some (.int .i64 aa[m.next].n):=(Qaa hg _).trans a2
   all_goals have e2:W.cell? ⟨g,m.next*7+2,none⟩=some (.int .i64 aa[m.next].tag):=(Qaa hg _).trans a3
   all_goals have e3:W.cell? ⟨g,m.next*7+3,none⟩=some (.bool aa[m.next].oct):=(Qaa hg _).trans a4
   all_goals have e4:W.cell? ⟨g,m.next*7+4,none⟩=some av:=(Qaa hg _).trans a5
   all_goals have e5:W.cell? ⟨g,m.next*7+5,none⟩=some bv:=(Qaa hg _).trans a6
   all_goals have e6:W.cell? ⟨g,m.next*7+6,none⟩=some (.int .i64 aa[m.next].at_):=(Qaa hg _).trans a7
   all_goals have en:W.cell? ⟨xb,2,none⟩=some (.int .i64 (m.next:Int)):=ay.now
   all_goals have bh:=Qab ay
   all_goals have aw:=Qab ax
   all_goals have HO:=Qab ho
   all_goals have a9:=Qab (af.o.trans (ax.below (B:=w.heap.size) (fun k o h=>by have:=h.1;omega) af.o.size))
   all_goals clear ay aE ax hg a1 a2 a3 a4 a5 a6 a7 c0 c2 c3 c4 z0
   all_goals go_wp2_with fail
   all_goals refine(Qx6 aa[m.next] av bv V.heap.size xb sb M (atL m) aa.length W bh.o HO.o (aZ.o.fr aw.o) (HT.o.below a9.o)).mono ?_
   all_goals rintro e w6 ⟨ar,h6⟩
   all_goals have hgd:aa.getD m.next QyE=aa[m.next]:=by simp[List.getD,hlt]
   all_goals cases hr:Qk9 M aa.length aa[m.next] (atL m)with
   |ok m'=>
    rw[hr]at h6;obtain⟨rfl,aR⟩:=h6;have aN:=QqL hr (show m.next+1<=aa.length by omega);have hn1:m.next+1<=m'.next:=aN.1
    have ac:Hid (∃ F,aa.length - m'.next<=F/\QfL M aa aa.length (ms0 v) 0=QfL M aa F m' (d+1)):=by
     show ∃ F,_
     rw[aD.o]
     cases F with
     |zero=>omega
     |succ F=>exact⟨F,by omega,by rw[QfL,if_pos hlt,hgd,hr]⟩
    have bi:=Qab aR;have bd:=Qab (aw.o.trans ar);clear aR ar aN hr;go_wp2_with fail;refine⟨⟨m',d+1,rfl,bi.o,bd.o,by omega,ac.o⟩,?_⟩;simp[intOf];omega
   |error f=>
    rw[hr]at h6;obtain⟨bb,hbb,rfl,ba⟩:=h6;have aB:Fr (PMc V.heap.size xb) w2 w6:=aw.o.trans ar;have hWz:w.heap.size+3<=W.heap.size:=by have h1:=aw.o.size;have h2:=ab.o.size;omega
    have hW6:W.heap.size<=w6.heap.size:=ar.size;have aK:w6.heap[w.heap.size+1]?=some (.cells #[.slice none 0 0] 29):=aB.block _ _ (Qai HP.o ab.o) (PMc.not (by decide) (by decide) (by decide) (by decide));have aV:w6.heap[w.heap.size+1+1]?=some (.cells #[.nilIface] 61):=aB.block _ _ (Qai HQ.o ab.o) (PMc.not (by decide) (by decide) (by decide) (by decide));have bk:Below w.heap.size w w6:=af.o.trans (aB.below (B:=w.heap.size) (fun k o h=>by have:=h.1;omega) af.o.size)
    have HR:=Qab (QsP (v:=v) (f:=f) (d:=d+1) hlong (by
     rw[aD.o]
     cases F with
     |zero=>omega
     | succ F=>rw [QfL,if_pos hlt,hgd,hr]))
    have x1:w6.cell? ⟨w.heap.size+1,0,none⟩=some (.slice none 0 0):=Qaa aK 0;have x2:w6.cell? ⟨w.heap.size+1+1,0,none⟩=some .nilIface:=Qaa aV 0;have z1:=Qah aK;have z2:=Qah aV;refine leaves_cons (f:=62) (args:=#[.pointer (some ⟨w.heap.size+1,0,none⟩),.pointer (some ⟨w.heap.size+1+1,0,none⟩)]) (by simp) (by simp[go_sem]) ?_;refine(Qer (w.heap.size+1) (w.heap.size+1+1) _ _ ⟨bb,0,none⟩ [] _ x1 x2 z1 z2 (by omega)).mono ?_;rintro e u' bm ⟨rfl,rfl,lv,w7,aX,bc,rfl⟩;obtain⟨X,hX,y0,y1,hB,hA,a8⟩:=Qkm (f:=f) (bb:=bb) (P:=w.heap.size+1) bk (by omega) (by omega) aX bc (by omega) (by omega) (by omega) ba _ _ x1 x2;rw[<-hX]
    have ac:Hid (Qr8 (execL v aa M) w (.returned (.tuple #[lv,.int .i64 ((d:Int)+1),.iface 76 (.pointer (some ⟨bb,0,none⟩))])) X):=by
     rw[HR.o];exact⟨hB,Or.inr ⟨lv,f,_,rfl,rfl,hA,by omega,a8⟩⟩
    obtain⟨la,lk,aF⟩:=Qat hA.1;subst aF;simp[Leaves,settle,results,results39,go_sem,y0,y1];exact ac.o
theorem Qun(v:Bool)(cv hv:Value)(aa:List Ins)(M:Msg)(w:World)(hc:QeM w cv aa)(hh:QjG w hv M.hdrs)(hb:SBd M (ss0 v))(h1:1<w.heap.size)(hm:∃ m,w.cell? ⟨1,0,none⟩=some (.int .i64 m))(ht:Tab w)(hn:aa.length<=1000000) :
 Calls Tryz.prog 39 #[.bool v,cv,QfV M hv] w (Qr8 (execL v aa M) w):=by
 by_cases hl:400<aa.length
 ·exact QsO v cv hv aa M w hc hh hb h1 hm ht hn hl
 ·exact Qr3 v cv hv aa M w hc hh hb h1 hm ht hn hl
theorem QqN.codeV{w:World}{B:Nat}{cv:Value}{ab:List Ins}(h:QqN w B cv ab):QeM w cv ab:=by
 obtain⟨ps,rfl,ho,hk,hn⟩:=h;by_cases h0:ps=[]
 ·subst h0;exact Or.inl ⟨hn rfl,rfl⟩
 ·rcases ho.2 with⟨_,h2⟩ | ⟨g,ad,ac,hv,hg,hb,hc,_,hs,ht⟩
  ·exact absurd (List.eq_nil_of_length_eq_zero h2) h0
  ·refine Or.inr ⟨g,ad,ac,by rw[List.length_map];exact hv,hb,fun j hj=>?_⟩;rw[List.length_map]at hj
   have aa:∀ k,k<7->ac[j*7+k]?=(QgP ps[j])[k]?:=fun k hk=>by
    rw[<-Qiz ps j hj k hk,<-ht,List.getElem?_take_of_lt (by omega)];simp
   have hi:(ps.map Prod.fst)[j]'(by simpa using hj)=ps[j].1:=by simp
   rw[hi];exact⟨ps[j].2.1,ps[j].2.2,aa 0 (by omega),aa 1 (by omega),aa 2 (by omega),aa 3 (by omega),aa 4 (by omega),aa 5 (by omega),aa 6 (by omega),hk _ (List.getElem_mem hj)⟩
theorem Qtj(g:Nat)(y:List (L8)×List (QdT 7))(rv lv:Value)(w:World)(X:Nat->Prop)(h:w.heap[g]?=some (.cells #[rv,lv] 96))(hr:QlU X y.1 w rv)(hb:blX X (Qji 7) y.2 w lv)(ha:∀ c∈y.2,QnQ (WfT y.1) (WfC y.1) 7 c)(hl:(QhD y).length<=100000) :
 Calls Tryz.prog 40 #[.pointer (some ⟨g,0,none⟩)] w fun e w'=>∃ cv,e=.returned cv/\QqN w' w.heap.size cv (QeF y.2)/\Below w.heap.size w w':=by
 obtain⟨a1,n1,c1,rfl⟩:∃ a n c,rv=.slice a n c:=by
  rcases hr with⟨_,rfl⟩ | ⟨g',c',rfl,_⟩
  ·exact⟨_,_,_,rfl⟩
  ·exact⟨_,_,_,rfl⟩
 obtain⟨a2,n2,c2,rfl⟩:=hb.form;have H:=Qab h;have ai:=Qab hb;clear h hr hb;go_enter func40,ntmps40;go_wp2_with fail;refine(QpH g a1 a2 n1 c1 n2 c2 w H.o).mono ?_;rintro e w1 ⟨rfl,aa⟩;have ag:=Qab aa;have ae:=aa.size;have ab:=Qab (ai.o.keep (QaV 7) (fun k _ hk=>aa.block k hk));clear aa;go_wp2_with fail;refine(Qx1 y _ _ X _ ⟨_,_,_,rfl⟩ ab.o ha hl).mono ?_;rintro e w2 ⟨cv,rfl,ac,ad⟩;have aj:=Qab (ag.o.trans (ad.mono ae));obtain⟨a5,k5,ah⟩:=ac.len;subst ah;have af:=Qab ac;clear ad ac;go_wp2;go_ret;obtain⟨ps,e1,e2,e3,e4⟩:=af.o;exact⟨_,rfl,⟨ps,e1,Qig e2 ae,e3,e4⟩,aj.o⟩
def varsB (req:List (L8)):Bool:=Lib.containsS (req.map sA) (sA Qbm)
theorem QtV(a b:Value)(W:World):(Instr.field 92 (.agg #[a,b]) 0).run Tryz.prog W=.ok a W:=by kernel_rfl
def Qou (r:List (Int×L8)×Nat×Option FZ) (w:World) (e:Ending) (w':World):Prop:=
 Below w.heap.size w w'∧((∃ lv,r.2.2=none∧e=.returned (.tuple #[lv,.nilIface])∧ActsV w' w.heap.size lv r.1)∨
  (∃ lv f bb,r.2.2=some f∧e=.returned (.tuple #[lv,.iface 76 (.pointer (some ⟨bb,0,none⟩))])∧ActsV w' w.heap.size lv r.1∧w.heap.size≤bb∧w'.heap[bb]?=some (.cells #[.int .i64 f.1,.int .i64 f.2] 81)))
theorem QkD(X:Nat->Prop)(req:List (L8))(rv:Value)(w:World)(hr:QlU X req w rv)(hl:req.length<=1000000) :
 Calls Tryz.prog 37 #[rv,.string (sA Qbm)] w fun e w'=>e=.returned (.bool (varsB req))/\w'=w:=by
 rcases hr with⟨h0,rfl⟩ | ⟨g,c,rfl,_,ht,hne⟩
 ·subst h0;exact Tryz.slices_Contains_string_empty none 0 (sA Qbm) w
 ·have:=Tryz.slices_Contains_string g 0 req.length c (req.map sA) (sA Qbm) w (by simp) (by omega) (fun j hj=>by
   rw[List.length_map]at hj;rw[Nat.zero_add,ht j hj,List.getD_eq_getElem?_getD,List.getD_eq_getElem?_getD,List.getElem?_map,List.getElem?_eq_getElem hj]
   rfl)
  rw[List.take_of_length_le (by simp)]at this;exact this
theorem QuL(g:Nat)(y:List (L8)×List (QdT 7))(rv lv hv:Value)(M:Msg)(w:World)(X:Nat->Prop)(h:w.heap[g]?=some (.cells #[rv,lv] 96))(hr:QlU X y.1 w rv)(hb:blX X (Qji 7) y.2 w lv)(ha:∀ c∈y.2,QnQ (WfT y.1) (WfC y.1) 7 c)(hl:(QhD y).length<=100000)(az:y.1.length<=1000000)
 (hh:QjG w hv M.hdrs)(ao:∀ v,SBd M (ss0 v))(h1:1<w.heap.size)(hm:∃ m,w.cell? ⟨1,0,none⟩=some (.int .i64 m))(ht:Tab w) :
 Calls Tryz.prog 25 #[.pointer (some ⟨g,0,none⟩),QfV M hv] w (Qou (execL (varsB y.1) (QeF y.2) M) w):=by
 obtain⟨a1,n1,c1,rfl⟩:∃ a n c,rv=.slice a n c:=by
  rcases hr with⟨_,rfl⟩ | ⟨g',c',rfl,_⟩
  ·exact⟨_,_,_,rfl⟩
  ·exact⟨_,_,_,rfl⟩
 obtain⟨a2,n2,c2,rfl⟩:=hb.form;obtain⟨ah,ch,rfl⟩:=hh.len;have ap:(QeF y.2).length<=1000000:=by have:=QpB ha;omega
 have H:=Qab h;have HR:=Qab hr;have ar:=Qab hb;have HHD:=Qab hh;have HT:=Qab ht;have HM:=Qab hm;have HBD:=Qab ao;have HCL:=Qab ap;clear h hr hb hh ht hm ao ap;unfold QfV;have hft:=QtV;go_enter func25,ntmps25;obtain⟨W0,ac⟩:∃ W0,W0=w.alloc (.cells #[.string (sA M.fr),.string (sA M.to),.int .i64 M.size,.slice ah M.hdrs.length ch] 28):=⟨_,rfl⟩;have ai:Hid (Below w.heap.size w W0):=by show Below _ _ _;rw[ac];exact(Below.refl _ _).alloc (Nat.le_refl _) _
 have aq:Hid (W0.heap[w.heap.size]?=some (.cells #[.string (sA M.fr),.string (sA M.to),.int .i64 M.size,.slice ah M.hdrs.length ch] 28)):=by show _=_;rw[ac];exact Qam _ _
 have ax:=ai.o.size;have ak:=Qab ac;clear ac;go_wp2_with (first|(go_at_call 37;refine(QkD X y.1 _ _ aw.o az).mono ?_;rintro e w2 ⟨rfl,aj⟩;rw[aj];clear aj;skip)|(go_at_call 38;rw[<-ak.o];refine(QpH g a1 a2 n1 c1 n2 c2 W0 (Qai H.o ai.o)).mono ?_;rintro e w1 ⟨rfl,ag⟩;have aa:=Qab (ai.o.trans (ag.mono ax));have ab:=Qab (Qai aq.o ag);have aw:=Qab (HR.o.keep (w':=w1) (fun k _ hk=>aa.o.block k hk));clear ag;skip));have c0:w1.cell? ⟨w.heap.size,0,none⟩=some (.string (sA M.fr)):=Qaa ab.o 0;have c1:w1.cell? ⟨w.heap.size,1,none⟩=some (.string (sA M.to)):=Qaa ab.o 1;have c2:w1.cell? ⟨w.heap.size,2,none⟩=some (.int .i64 M.size):=Qaa ab.o 2;have c3:w1.cell? ⟨w.heap.size,3,none⟩=some (.slice ah M.hdrs.length ch):=Qaa ab.o 3;have h1l:=Qar ab.o;have ay:=aa.o.size;obtain⟨vb,ad⟩:∃ vb,varsB y.1=vb:=⟨_,rfl⟩;rw[ad];have av:=Qab ad;clear ad ak
 go_region_held3 (fun w'=>w'.cell? ⟨w.heap.size,0,none⟩=some (.string (sA M.fr))∧w'.cell? ⟨w.heap.size,1,none⟩=some (.string (sA M.to))∧w'.cell? ⟨w.heap.size,2,none⟩=some (.int .i64 M.size)∧w'.cell? ⟨w.heap.size,3,none⟩=some (.slice ah M.hdrs.length ch)) (first | go_keep | exact ⟨Qaa HM3.o 0,Qaa HM3.o 1,Qaa HM3.o 2,Qaa HM3.o 3⟩) (first
  |(go_at_call 40;refine(Qtj g y _ _ _ X (Qai (w:=w) (w':=w1.drew) H.o aa.o.drew) (HR.o.keep (w':=w1.drew) (fun k _ hk=>aa.o.block k hk)) (ar.o.keep (QaV 7) (w':=w1.drew) (fun k _ hk=>aa.o.block k hk)) ha hl).mono ?_;rintro e w2 ⟨cv,rfl,af,ae⟩;obtain⟨a5,k5,au⟩:=af.len;subst au;have HC2:=Qab af;have HB2:=Qab (aa.o.drew.trans (ae.mono ay));have HM2:=Qab (Qai (w:=w1.drew) ab.o ae);have d0:w2.cell? ⟨w.heap.size,0,none⟩=some (.string (sA M.fr)):=Qaa HM2.o 0;have d1:w2.cell? ⟨w.heap.size,1,none⟩=some (.string (sA M.to)):=Qaa HM2.o 1;have d2:w2.cell? ⟨w.heap.size,2,none⟩=some (.int .i64 M.size):=Qaa HM2.o 2;have d3:w2.cell? ⟨w.heap.size,3,none⟩=some (.slice ah M.hdrs.length ch):=Qaa HM2.o 3;have h2s:=HB2.o.size;clear af ae;skip)
  | (go_at_call 39;refine (Qun vb _ _ (QeF y.2) M w2 HC2.o.codeV (HHD.o.fr (P:=fun _ _=>False) (Fr.of_below HB2.o) (fun _ _ h=>h)) (HBD.o _) (by omega) (by obtain ⟨m,hm⟩:=HM.o;exact ⟨m,(HB2.o.cell (p:=⟨1,0,none⟩) h1).trans hm⟩) (HT.o.below HB2.o) HCL.o).mono ?_;rintro e w3 ⟨hB3,hX⟩;have HB3:=Qab (HB2.o.trans (hB3.mono h2s));have HM3:=Qab (Qai HM2.o hB3);clear hB3;have hX':∃ lv' ev',e=.returned (.tuple #[lv',.int .i64 ((execL vb (QeF y.2) M).2.1:Int),ev']):=(by rcases hX with ⟨lv,_,he,_⟩ | ⟨lv,f,bb,_,he,_⟩ <;> exact ⟨_,_,he⟩);have HX:=Qab hX;obtain ⟨lv',ev',he⟩:=hX';subst he;clear hX;skip))
 all_goals (
  have HFIN:Hid (Qou (execL vb (QeF y.2) M) w (.returned (.tuple #[lv',ev'])) w3):=by
   refine⟨HB3.o,?_⟩;rcases HX.o with⟨lv,h1,he,h3⟩ | ⟨lv,f,bb,h1,he,h3,h4,h5⟩
   ·injection he with he
    injection he with he
    simp at he;obtain⟨rfl,rfl⟩:=he;exact Or.inl ⟨_,h1,rfl,h3.lo h2s⟩
   ·injection he with he
    injection he with he
    simp at he;obtain⟨rfl,rfl⟩:=he;exact Or.inr ⟨_,f,bb,h1,rfl,h3.lo h2s,Nat.le_trans h2s h4,h5⟩
  obtain⟨la3,lc3,aA⟩:∃ a c,lv'=.slice a (execL vb (QeF y.2) M).1.length c:=by
   rcases HX.o with⟨lv,h1,he,h3⟩ | ⟨lv,f,bb,h1,he,h3,h4,h5⟩
   ·injection he with he
    injection he with he
    simp at he;obtain⟨rfl,rfl⟩:=he;exact Qat h3.1
   ·injection he with he
    injection he with he
    simp at he;obtain⟨rfl,rfl⟩:=he;exact Qat h3.1
  clear HX;subst aA;go_wp2;refine bodyPost_ret (v:=.tuple #[_,ev']) (by simp[results,results25,go_sem];rfl) rfl ?_;rw[av.o]
  exact HFIN.o)
def hcells (l:List (L8×L8)):List Value:=l.flatMap fun a=>[.string (sA a.1),.string (sA a.2)]
theorem QgC(l:List (L8×L8)):(hcells l).length=l.length*2:=by
 induction l with
 |nil=>rfl
 |cons p r ih=>simp only[hcells,List.flatMap_cons,List.length_append,List.length_cons,List.length_nil]at ih ⊢;omega
theorem Qm0(l:List (L8×L8))(j:Nat)(hj:j<l.length):(hcells l)[j*2]?=some (.string (sA l[j].1))/\(hcells l)[j*2+1]?=some (.string (sA l[j].2)):=by
 induction l generalizing j with
 |nil=>exact absurd hj (Nat.not_lt_zero _)
 |cons p r ih=>
  cases j with
  |zero=>exact⟨rfl,rfl⟩
  |succ j=>
   have:=ih j (by simpa using hj);have e:hcells (p::r)=.string (sA p.1) :: .string (sA p.2)::hcells r:=rfl;have e1:(j+1)*2=j*2+1+1:=by omega
   have e2:(j+1)*2+1=(j*2+1)+1+1:=by omega
   rw[e,e1,List.getElem?_cons_succ,List.getElem?_cons_succ,List.getElem?_cons_succ,List.getElem?_cons_succ];exact this
theorem QrG(l:List (L8×L8)):∀ u∈hcells l,u.oneCell'=true:=by
 intro u hu;unfold hcells at hu;obtain⟨a,_,ha⟩:=List.mem_flatMap.1 hu;simp at ha;rcases ha with rfl|rfl<;>rfl
theorem QrZ{l:List (L8×L8)}{j:Nat}{u:Value}(h:(hcells l)[j]?=some u):∃ k,∃ hk:k<l.length,(j=k*2/\u=.string (sA l[k].1))\/(j=k*2+1/\u=.string (sA l[k].2)):=by
 have hj:j<l.length*2:=by
  rw[<-QgC];exact(List.getElem?_eq_some_iff.1 h).1
 have hk:j / 2<l.length:=by omega
 have:=Qm0 l (j / 2) hk;by_cases e:j % 2=0
 ·have e1:j=j / 2*2:=by omega
  refine⟨j / 2,hk,Or.inl ⟨e1,?_⟩⟩;rw[e1,this.1]at h;exact(Option.some.inj h).symm
 ·have e1:j=j / 2*2+1:=by omega
  refine⟨j / 2,hk,Or.inr ⟨e1,?_⟩⟩;rw[e1,this.2]at h;exact(Option.some.inj h).symm
theorem Tryz.infoHeader:(Tryz.prog.info? 25).map (fun i=>(i.zero,i.size,i.bytes))=some (some (.agg #[.string ⟨#[]⟩,.string ⟨#[]⟩]),2,32):=by kernel_rfl
def Qth (w:World) (B:Nat) (hv:Value) (hs:List (L8×L8)):Prop:=w.ownsRow B 25 2 hv hs.length (hcells hs)
theorem Qth.hdrV{w:World}{B:Nat}{hv:Value}{hs:List (L8×L8)}(h:Qth w B hv hs):QjG w hv hs:=by
 rcases h.2 with⟨h1,h2⟩ | ⟨g,aa,ac,ab,hg,hb,hc,_,hs',ht⟩
 ·exact Or.inl ⟨h1,List.eq_nil_of_length_eq_zero h2⟩
 ·refine Or.inr ⟨g,aa,ac,ab,hb,fun j hj=>?_⟩;obtain⟨a1,a2⟩:=Qm0 hs j hj;rw[<-ht,List.getElem?_take_of_lt (by omega)]at a1 a2;exact⟨by rw[<-a1];simp,by rw[<-a2];simp⟩
def Qq5 (w:World) (v:Value) (hs:List (L8×L8)):Prop:=
 ∃ a c,v=.slice a hs.length c∧(hs≠[]→∃ b off,a=some ⟨b,off,none⟩∧∀ j (hj:j < hs.length),w.cell? ⟨b,off+j*2,none⟩=some (.string (sA hs[j].1))∧w.cell? ⟨b,off+j*2+1,none⟩=some (.string (sA hs[j].2)))
theorem Qq5.len{w:World}{v:Value}{hs:List (L8×L8)}(h:Qq5 w v hs):∃ a c,v=.slice a hs.length c:=by
 obtain⟨a,c,h,_⟩:=h;exact⟨a,c,h⟩
theorem Qq5.below{w w':World}{v:Value}{hs:List (L8×L8)}(h:Qq5 w v hs)(hb:Below w.heap.size w w'):Qq5 w' v hs:=by
 obtain⟨a,c,h,hc⟩:=h;refine⟨a,c,h,fun hne=>?_⟩;obtain⟨b,ab,rfl,aa⟩:=hc hne;refine⟨b,ab,rfl,fun j hj=>?_⟩;obtain⟨h1,h2⟩:=aa j hj;exact⟨(hb.cell (Qau h1)).trans h1,(hb.cell (Qau h2)).trans h2⟩
theorem QjG.g{w:World}{v:Value}{hs:List (L8×L8)}(h:QjG w v hs):Qq5 w v hs:=by
 obtain⟨a,c,rfl⟩:=h.len;refine⟨a,c,rfl,fun hne=>?_⟩;obtain⟨g,c',hv,_⟩:=h.cells 0 (List.length_pos_iff.2 hne);injection hv with hv
 refine⟨g,0,hv,fun j hj=>?_⟩;obtain⟨g2,c2,aa,_,h1,h2⟩:=h.cells j hj;injection aa with aa
 rw[hv]at aa;injection aa with aa
 injection aa with aa
 subst aa;rw[Nat.zero_add];exact⟨h1,h2⟩
theorem Qpk(M:Msg)(g aa c:Nat)(w:World)(hh:∀ j (hj:j<M.hdrs.length),w.cell? ⟨g,aa+j*2,none⟩=some (.string (sA M.hdrs[j].1))/\w.cell? ⟨g,aa+j*2+1,none⟩=some (.string (sA M.hdrs[j].2)))(ak:M.hdrs≠[])(hl:M.hdrs.length<=100000) :
 Calls Tryz.prog 24 #[QfV M (.slice (some ⟨g,aa,none⟩) M.hdrs.length c)] w fun e w'=>∃ a k,e=.returned (QfV M (.slice a M.hdrs.length k))/\Qth w' w.heap.size (.slice a M.hdrs.length k) M.hdrs/\Below w.heap.size w w':=by
 obtain⟨i0,hi,ai,ao,ah⟩:=info_parts Tryz.infoHeader;have aq:g<w.heap.size:=Qau (hh 0 (List.length_pos_iff.2 ak)).1
 have HC:Hid (∀ j u,(hcells M.hdrs)[j]?=some u->w.cell? ⟨g,aa+j,none⟩=some u):=fun j u hj=>by
  obtain⟨k,hk,⟨rfl,rfl⟩ | ⟨rfl,rfl⟩⟩:=QrZ hj
  ·exact(hh k hk).1
  ·exact(hh k hk).2
 clear hh
 have HW:Hid (∀ j u,(hcells M.hdrs)[j]?=some u->((w.alloc (.cells #[.string (sA M.fr),.string (sA M.to),.int .i64 M.size,.slice (some ⟨g,aa,none⟩) M.hdrs.length c] 28)).alloc (.cells #[.string ⟨#[]⟩,.string ⟨#[]⟩,.int .i64 0,.slice none 0 0] 28)).cell? ((⟨g,aa,none⟩:Addr).add j)=some u):=fun j u hj=>by
  rw[Addr.add_lit,World.cell?_of_block (a:=⟨g,aa+j,none⟩) (w:=w) ((Below.heap_alloc _ _ _ (by simp;omega)).trans (Below.heap_alloc _ _ _ aq))];exact HC.o j u hj
 have HP:Hid (((w.alloc (.cells #[.string (sA M.fr),.string (sA M.to),.int .i64 M.size,.slice (some ⟨g,aa,none⟩) M.hdrs.length c] 28)).alloc (.cells #[.string ⟨#[]⟩,.string ⟨#[]⟩,.int .i64 0,.slice none 0 0] 28)).heap[w.heap.size]?=some (.cells #[.string (sA M.fr),.string (sA M.to),.int .i64 M.size,.slice (some ⟨g,aa,none⟩) M.hdrs.length c] 28)):=Qac (Qam _ _);have HQ:Hid (((w.alloc (.cells #[.string (sA M.fr),.string (sA M.to),.int .i64 M.size,.slice (some ⟨g,aa,none⟩) M.hdrs.length c] 28)).alloc (.cells #[.string ⟨#[]⟩,.string ⟨#[]⟩,.int .i64 0,.slice none 0 0] 28)).heap[w.heap.size+1]?=some (.cells #[.string ⟨#[]⟩,.string ⟨#[]⟩,.int .i64 0,.slice none 0 0] 28)):=Qaq (by simp);unfold QfV;go_enter func24,ntmps24;go_wp2_with (at_builtin;refine wpList_append_own _ rfl _ _ 26 rfl (w.heap.size+2) 25 i0 _ 2 32 underlying26 hi ai ao ah rfl (by decide) _ _ _ rfl (World.ownsRow_nil _ _ _ _) ⟨g,aa,none⟩ M.hdrs.length c (hcells M.hdrs) rfl (QgC _) HW.o (QrG _) (by unfold maxLen;omega) (by omega) (by simp) ?_;intro v5 w5 af ae _;obtain⟨a5,k5,ap⟩:=Qat af;subst ap;have ab:=(ae.block w.heap.size (by simp;omega) (fun e=>nomatch e)).trans HP.o;have ac:=(ae.block (w.heap.size+1) (by simp) (fun e=>nomatch e)).trans HQ.o;have ag:=Qab af;have aj:=Qab (Qe5 (((Below.refl w.heap.size w).alloc (Nat.le_refl _) (.cells #[.string (sA M.fr),.string (sA M.to),.int .i64 M.size,.slice (some ⟨g,aa,none⟩) M.hdrs.length c] 28)).alloc (by simp) (.cells #[.string ⟨#[]⟩,.string ⟨#[]⟩,.int .i64 0,.slice none 0 0] 28)) ae (by simp;omega) (fun k hk=>nomatch hk));have HP5:=Qab ab;have HQ5:=Qab ac;have pf:=Qah ab;have qf:=Qah ac;have p0:w5.cell? ⟨w.heap.size,0,none⟩=some (.string (sA M.fr)):=Qaa ab 0;have p1:w5.cell? ⟨w.heap.size,1,none⟩=some (.string (sA M.to)):=Qaa ab 1;have p2:w5.cell? ⟨w.heap.size,2,none⟩=some (.int .i64 M.size):=Qaa ab 2;have p3:w5.cell? ⟨w.heap.size,3,none⟩=some (.slice (some ⟨g,aa,none⟩) M.hdrs.length c):=Qaa ab 3;have z0:w5.cell? ⟨w.heap.size+1,0,none⟩=some (.string ⟨#[]⟩):=Qaa ac 0;have z1:w5.cell? ⟨w.heap.size+1,1,none⟩=some (.string ⟨#[]⟩):=Qaa ac 1;have z2:w5.cell? ⟨w.heap.size+1,2,none⟩=some (.int .i64 0):=Qaa ac 2;have z3:w5.cell? ⟨w.heap.size+1,3,none⟩=some (.slice none 0 0):=Qaa ac 3;clear af ae ab ac);refine bodyPost_ret (v:=.agg #[.string (sA M.fr),.string (sA M.to),.int .i64 M.size,.slice a5 M.hdrs.length k5]) (by simp[results,results24,go_sem,z0,z1,z2,z3]) rfl ?_
 have ho:w5.ownsRow (w.heap.size+2) 25 2 (.slice a5 M.hdrs.length k5) M.hdrs.length (hcells M.hdrs):=by
  have:=ag.o;rw[Nat.zero_add,List.nil_append]at this;exact this
 have ad:∀ b,b<w.heap.size+2->(Value.slice a5 M.hdrs.length k5).ownBlock≠some b:=fun b hb e=>by have:=(ho.lt b e).1;omega
 refine⟨a5,k5,rfl,Qig (QcU (QcU (QcU (QcU (QcU ho (ad _ (by omega)) _ _) (ad _ (by omega)) _ _) (ad _ (by omega)) _ _) (ad _ (by omega)) _ _) (ad _ (by omega)) _ _) (by omega),?_⟩;exact((((aj.o.setCell (show w.heap.size<=w.heap.size from Nat.le_refl _) _).setCell (show w.heap.size<=w.heap.size+1 by omega) _).setCell (show w.heap.size<=w.heap.size+1 by omega) _).setCell (show w.heap.size<=w.heap.size+1 by omega) _).setCell (show w.heap.size<=w.heap.size+1 by omega) _
theorem Qr6(M:Msg)(a:Option Addr)(c:Nat)(w:World)(h0:M.hdrs=[]) :
 Calls Tryz.prog 24 #[QfV M (.slice a 0 c)] w fun e w'=>∃ a k,e=.returned (QfV M (.slice a M.hdrs.length k))/\Qth w' w.heap.size (.slice a M.hdrs.length k) M.hdrs/\Below w.heap.size w w':=by
 have HR:Hid (M.hdrs.length=0):=by show _=_;rw[h0];rfl
 have H0:=Qab h0;clear h0;unfold QfV
 cases a with
 |none=>
  go_enter func24,ntmps24;go_wp2;refine bodyPost_ret (v:=.agg #[.string (sA M.fr),.string (sA M.to),.int .i64 M.size,.slice none 0 0]) (by simp[results,results24,go_sem]) rfl ?_;refine⟨none,0,by rw[HR.o],?_,?_⟩
  ·unfold Qth;rw[H0.o];exact World.ownsRow_nil _ _ _ _
  ·exact((Below.refl _ _).alloc (Nat.le_refl _) _).alloc (by simp) _
 |some a=>
  go_enter func24,ntmps24;go_wp2;refine bodyPost_ret (v:=.agg #[.string (sA M.fr),.string (sA M.to),.int .i64 M.size,.slice none 0 0]) (by simp[results,results24,go_sem]) rfl ?_;refine⟨none,0,by rw[HR.o],?_,?_⟩
  ·unfold Qth;rw[H0.o];exact World.ownsRow_nil _ _ _ _
  ·exact((Below.refl _ _).alloc (Nat.le_refl _) _).alloc (by simp) _
theorem Qr7(M:Msg)(hv:Value)(w:World)(hh:Qq5 w hv M.hdrs)(hl:M.hdrs.length<=100000) :
 Calls Tryz.prog 24 #[QfV M hv] w fun e w'=>∃ a k,e=.returned (QfV M (.slice a M.hdrs.length k))/\Qth w' w.heap.size (.slice a M.hdrs.length k) M.hdrs/\Below w.heap.size w w':=by
 obtain⟨a,c,rfl,hc⟩:=hh;by_cases h0:M.hdrs=[]
 ·have e:M.hdrs.length=0:=by rw[h0];rfl
  rw[e];have:=Qr6 M a c w h0;rw[e]at this;exact this
 ·obtain⟨b,ab,rfl,aa⟩:=hc h0;exact Qpk M b ab c w aa h0 hl
theorem QpF(M:Msg)(a:Option Addr)(k B:Nat)(w:World)(hh:Qth w B (.slice a M.hdrs.length k) M.hdrs)(hl:M.hdrs.length<=100000) :
 Calls Tryz.prog 26 #[QfV M (.slice a M.hdrs.length k)] w fun e w'=>e=.returned (.tuple #[])/\Fr (fun k o=>B<=k/\∃ cs,o=.cells cs 25) w w':=by
 obtain⟨W0,ac⟩:∃ W0,W0=w.alloc (.cells #[.string (sA M.fr),.string (sA M.to),.int .i64 M.size,.slice a M.hdrs.length k] 28):=⟨_,rfl⟩;have ah:Hid (Below w.heap.size w W0):=by show Below _ _ _;rw[ac];exact(Below.refl _ _).alloc (Nat.le_refl _) _
 have ad:Hid (W0.heap[w.heap.size]?=some (.cells #[.string (sA M.fr),.string (sA M.to),.int .i64 M.size,.slice a M.hdrs.length k] 28)):=by show _=_;rw[ac];exact Qam _ _
 have ae:Hid (W0.ownsRow B 25 2 (.slice a M.hdrs.length k) M.hdrs.length (hcells M.hdrs)):=by show World.ownsRow _ _ _ _ _ _ _;rw[ac];exact World.ownsRow.alloc hh _
 have af:=Qab ac;generalize hn:M.hdrs.length=n at *;clear hh ac;unfold QfV;go_enter func26,ntmps26;go_wp2_with fail;rw[<-af.o]
 go_loopw [2,6] (fun _ i wr=>∃(j:Nat)(xs:List Value),j<=n/\i=.int .i64 (j:Int)/\wr.ownsRow B 25 2 (.slice a n k) n xs/\Fr (fun k o=>B<=k/\∃ cs,o=.cells cs 25) W0 wr) (fun _ i _=>n - (intOf i).toNat)
 case atStart=>exact⟨0,_,Nat.zero_le _,by go_num,ae.o,Fr.refl _ _⟩
 case round=>
  obtain⟨j,xs,hj,rfl,aa,hF⟩:=hrel;have hM:=hF.block _ _ ad.o (fun h=>by obtain⟨_,cs,e⟩:=h;injection e with _ e;exact absurd e (by decide));have c3:wr.cell? ⟨w.heap.size,3,none⟩=some (.slice a n k):=Qaa hM 3;by_cases hlt:j<n
  ·obtain⟨g,c,hv,hbg,hgl,hcells⟩:=Qcq aa (by omega);injection hv with hv1 hv2 hv3
   subst hv1 hv3;have ag:=aa.1;obtain⟨u1,hu1⟩:∃ u,wr.cell? ⟨g,j*2,none⟩=some u:=⟨xs[j*2]'(by omega),hcells _ _ (List.getElem?_eq_getElem (by omega))⟩;obtain⟨u2,hu2⟩:∃ u,wr.cell? ⟨g,j*2+1,none⟩=some u:=⟨xs[j*2+1]'(by omega),hcells _ _ (List.getElem?_eq_getElem (by omega))⟩;have hfz:∀ o,wr.frozen? ⟨g,o,none⟩=false:=aa.frozenAt;have hP:∀ W:World,W.ownsRow B 25 2 (.slice (some ⟨g,0,none⟩) n k) n xs->True:=fun _ _=>trivial
   obtain⟨s1,g1⟩:=aa.stored (j*2) (.string ⟨#[109,105,110,101]⟩);obtain⟨s2,g2⟩:=s1.stored (j*2+1) (.string ⟨#[109,105,110,101]⟩);have ab:∀(u v:World)(ys:List Value),u.ownsRow B 25 2 (.slice (some ⟨g,0,none⟩) n k) n ys->u.grownBy v (some g)->Fr (fun k o=>B<=k/\∃ cs,o=.cells cs 25) u v:=fun u v ys ho hg=>(Fr.refl _ u).grown hg (fun k' o e ho'=>Qbb ho k' o e ho')
   have HS:=Qab (And.intro s2 ((hF.trans (ab _ _ _ aa g1)).trans (ab _ _ _ s1 g2)));clear hP ab s1 s2 g1 g2 aa hF hM hcells ag;go_wp2;go_roundw
   case rel=>exact⟨j+1,_,by omega,by go_num,HS.o.1,HS.o.2⟩
   case measure=>simp[intOf];omega
  ·have HF:=Qab hF;have ai:j=n:=by omega
   subst ai;clear hF hM aa;go_wp2;go_end0;exact⟨rfl,(Fr.of_below ah.o).trans HF.o⟩
def toldZ (f:Option FZ):FZ:=f.getD (0,-1)
def QxC (r:List (Int×L8)×Nat×Option FZ) (w:World) (e:Ending) (w':World):Prop:=
 Below w.heap.size w w'∧∃ lv,e=.returned (.tuple #[lv,.int .i64 (toldZ r.2.2).1,.int .i64 (toldZ r.2.2).2])∧ActsV w' w.heap.size lv r.1
theorem ActsV.fr{P:Nat->Obj->Prop}{w w':World}{B:Nat}{v:Value}{l:List (Int×L8)}(h:ActsV w B v l)(hf:Fr P w w')(hp:∀ k cs,¬ P k (.cells cs 34)):ActsV w' B v l:=⟨QaR h.1 hf hp,h.2⟩
theorem ActsV.below{w w':World}{B:Nat}{v:Value}{l:List (Int×L8)}(h:ActsV w B v l)(hb:Below w.heap.size w w'):ActsV w' B v l:=h.fr (P:=fun _ _=>False) (Fr.of_below hb) (fun _ _ h=>h)
theorem Qth.below{w w':World}{B:Nat}{v:Value}{l:List (L8×L8)}(h:Qth w B v l)(hb:Below w.heap.size w w'):Qth w' B v l:=QaR h (P:=fun _ _=>False) (Fr.of_below hb) (fun _ _ h=>h)
theorem QpA(g:Nat)(y:List (L8)×List (QdT 7))(rv lv hv:Value)(M:Msg)(w:World)(X:Nat->Prop)(he:Env w)(h:w.heap[g]?=some (.cells #[rv,lv] 96))(hr:QlU X y.1 w rv)(hb:blX X (Qji 7) y.2 w lv)(ha:∀ c∈y.2,QnQ (WfT y.1) (WfC y.1) 7 c)(hl:(QhD y).length<=100000)(aM:y.1.length<=1000000)
 (hh:Qq5 w hv M.hdrs)(aG:∀ v,SBd M (ss0 v)) :
 Calls Tryz.prog 15 #[.pointer (some ⟨g,0,none⟩),QfV M hv] w (QxC (execL (varsB y.1) (QeF y.2) M) w):=by
 have av:=(aG true).hl;obtain⟨ah,ch,rfl⟩:=hh.len;have H:=Qab h;have HR:=Qab hr;have aR:=Qab hb;have a0:=Qab hh;have HE:=Qab he;have aZ:=Qab aG;have HW:=Qab (And.intro ha (And.intro hl aM));obtain⟨r,ax⟩:∃ r,execL (varsB y.1) (QeF y.2) M=r:=⟨_,rfl⟩;rw[ax];have aY:=Qab ax;obtain⟨m1,aL⟩:=he.m1;have hw1:1<w.heap.size:=Qau aL;clear h hr hb hh he aG ha hl aM ax aL m1;have ap:∀(a:Option Addr)(n c:Nat),QfV M (.slice a n c)=.agg #[.string (sA M.fr),.string (sA M.to),.int .i64 M.size,.slice a n c]:=fun _ _ _=>rfl
 rw[ap];have ab:=Qab ap;clear ap;go_enter func15,ntmps15;go_wp2_with fail;obtain⟨W0,aH⟩:∃ W0,W0=w.alloc (.cells #[.string (sA M.fr),.string (sA M.to),.int .i64 M.size,.slice ah M.hdrs.length ch] 28):=⟨_,rfl⟩;rw[<-aH];have ao:Below w.heap.size w W0:=by rw[aH];exact(Below.refl _ _).alloc (Nat.le_refl _) _
 have ar:=ao.size;clear aH;rw[<-ab.o];refine(Qr7 M _ W0 (a0.o.below ao) av).mono ?_;rintro e w1 ⟨a1,k1,rfl,aP,ai⟩;have ay:Below w.heap.size w w1:=ao.trans (ai.mono ar);have aW:=Qab aP;have aV:=Qab ay;have aU:=ay.size;clear aP ay ai ao;rw[ab.o];go_wp2_with fail;obtain⟨V1,aj⟩:∃ V1,V1=w1.alloc (.cells #[.string (sA M.fr),.string (sA M.to),.int .i64 M.size,.slice a1 M.hdrs.length k1] 28):=⟨_,rfl⟩;rw[<-aj];have aD:Below w1.heap.size w1 V1:=by rw[aj];exact(Below.refl _ _).alloc (Nat.le_refl _) _
 have aJ:V1.heap[w1.heap.size]?=some (.cells #[.string (sA M.fr),.string (sA M.to),.int .i64 M.size,.slice a1 M.hdrs.length k1] 28):=by rw[aj];exact Qam _ _
 have aa:=aV.o.trans (aD.mono aU);have aI:=Qab (aW.o.below aD);have az:=Qab (HE.o.below aa);have a2:=Qab aa;have aS:=Qab aJ;have aC:=aa.size
 have ag:Hid (Calls Tryz.prog 25 #[.pointer (some ⟨g,0,none⟩),QfV M (.slice a1 M.hdrs.length k1)] V1 (Qou r V1)):=by
  show Calls _ _ _ _ _
  rw[<-aY.o];exact QuL g y rv lv _ M V1 X (Qai H.o aa) (HR.o.keep (fun k _ hk=>aa.block k hk)) (aR.o.keep (QaV 7) (fun k _ hk=>aa.block k hk)) HW.o.1 HW.o.2.1 HW.o.2.2 aI.o.hdrV aZ.o (by omega) az.o.m1 az.o.tab
 clear aD aJ aj aa;rw[<-ab.o];refine ag.o.mono ?_;rintro e w2 ⟨af,hX⟩;have aw:=Qab (a2.o.trans (af.mono aC));have HE2:=Qab (az.o.below af);have aQ:=Qab (aI.o.below af);have ak:=Qab (Qai aS.o af);have m0:w2.cell? ⟨w1.heap.size,0,none⟩=some (.string (sA M.fr)):=Qaa ak.o 0;have m1:w2.cell? ⟨w1.heap.size,1,none⟩=some (.string (sA M.to)):=Qaa ak.o 1;have m2:w2.cell? ⟨w1.heap.size,2,none⟩=some (.int .i64 M.size):=Qaa ak.o 2;have m3:w2.cell? ⟨w1.heap.size,3,none⟩=some (.slice a1 M.hdrs.length k1):=Qaa ak.o 3;have aK:=aw.o.size;clear af ag;rcases hX with⟨aX,h1,rfl,hA⟩ | ⟨aX,f,bb,h1,rfl,hA,hbb,hF⟩
 ·have hT:toldZ r.2.2=(0,-1):=by rw[h1];rfl
  have aA:=Qab hT;have HA:=Qab hA;obtain⟨la,lc,aB⟩:=Qat hA.1;subst aB;clear hA hT;rw[ab.o];go_wp2_with fail;rw[<-ab.o];refine(QpF M a1 k1 w.heap.size w2 (Qig aQ.o ar) av).mono ?_;rintro e w3 ⟨rfl,ac⟩;have ae:=Qab (aw.o.trans (ac.below (fun k o h=>h.1) aK));have aq:=Qab (HA.o.fr ac (fun k cs h=>by obtain⟨_,aO,e⟩:=h;injection e with _ e;exact absurd e (by decide)));have aE:=ae.o.size;clear ac;rw[ab.o];go_wp2_with fail;refine(QlD w3).mono ?_;rintro e w4 ⟨rfl,ad⟩;have aF:=Qab (ae.o.trans (ad.mono aE));have au:=Qab (aq.o.below ad);clear ad;go_wp2;refine bodyPost_ret (v:=.tuple #[.slice la r.1.length lc,.int .i64 0,.int .i64 (-1)]) (by simp[results,results15,go_sem]) rfl ?_;exact⟨aF.o,_,by rw[aA.o],au.o.lo aC⟩
 ·have hT:toldZ r.2.2=f:=by rw[h1];rfl
  have aA:=Qab hT;have HA:=Qab hA;have aT:=Qab hF;obtain⟨la,lc,aB⟩:=Qat hA.1;subst aB;clear hA hT hF;rw[ab.o];go_wp2_with fail;rw[<-ab.o];refine(QpF M a1 k1 w.heap.size w2 (Qig aQ.o ar) av).mono ?_;rintro e w3 ⟨rfl,ac⟩;have ae:=Qab (aw.o.trans (ac.below (fun k o h=>h.1) aK));have aq:=Qab (HA.o.fr ac (fun k cs h=>by obtain⟨_,aO,e⟩:=h;injection e with _ e;exact absurd e (by decide)));have aN:=Qab (ac.block _ _ aT.o (fun h=>by obtain⟨_,aO,e⟩:=h;injection e with _ e;exact absurd e (by decide)));have aE:=ae.o.size;clear ac;rw[ab.o];go_wp2_with fail;refine(Qj0 bb f.1 f.2 w3 ((HE.o.below ae.o).et) (Qaa aN.o 0) (Qaa aN.o 1)).mono ?_;rintro e w4 ⟨rfl,ad⟩;have aF:=Qab (ae.o.trans (ad.mono aE));have au:=Qab (aq.o.below ad);clear ad;go_wp2;refine bodyPost_ret (v:=.tuple #[.slice la r.1.length lc,.int .i64 f.1,.int .i64 f.2]) (by simp[results,results15,go_sem]) rfl ?_;exact⟨aF.o,_,by rw[aA.o],au.o.lo aC⟩
def QnP (l:List (L8×L8)):Nat:=(l.map fun h=>h.1.length+h.2.length).sum
def Qwf (M:Msg):Nat:=M.fr.length+M.to.length+M.hdrs.length+QnP M.hdrs
theorem Qsh(l:List (L8×L8))(k:Nat)(h:k<l.length):QnP (l.take (k+1))=QnP (l.take k)+(l[k].1.length+l[k].2.length):=by
 unfold QnP;rw[List.take_add_one,List.getElem?_eq_getElem h,List.map_append,List.sum_append];rfl
theorem Qsi(l:List (L8×L8))(k:Nat):QnP (l.take k)<=QnP l:=by
 have:QnP l=QnP (l.take k)+QnP (l.drop k):=by
  unfold QnP;rw[<-List.sum_append,<-List.map_append,List.take_append_drop]
 omega
theorem QvI{l:List (L8×L8)}{h:L8×L8}(hm:h∈l):h.1.length+h.2.length<=QnP l:=by
 induction l with
 |nil=>cases hm
 |cons x r ih=>
  have e:QnP (x::r)=x.1.length+x.2.length+QnP r:=by simp[QnP]
  rcases List.mem_cons.1 hm with rfl|hm
  ·omega
  ·have:=ih hm;omega
structure Qyc (M:Msg):Prop where
 fr:M.fr.length≤140737488355328
 tt:M.to.length≤140737488355328
 hl:M.hdrs.length≤140737488355328
 hd:∀ h∈M.hdrs,h.1.length≤140737488355328∧h.2.length≤140737488355328
theorem QnD{M:Msg}(h:Qwf M<=16384)(v:Bool):SBd M (ss0 v):=by
 unfold Qwf at h;refine⟨by omega,by omega,by omega,fun x hx=>?_,fun t ht=>(by cases ht),Nat.zero_le _,fun x t ht=>(by cases ht),Nat.zero_le _⟩;have:=QvI hx;omega
theorem Qqx(M:Msg)(hv:Value)(w:World)(hh:Qq5 w hv M.hdrs)(hb:Qyc M) :
 Calls Tryz.prog 13 #[QfV M hv] w fun e w'=>e=.returned (.bool (decide (Qwf M<=16384)))/\Below w.heap.size w w':=by
 have HH:=Qab hh;obtain⟨a,c,rfl⟩:=hh.len;have hb1:=hb.fr;have hb2:=hb.tt;have hb3:=hb.hl;have HB:=Qab hb.hd;have hs1:=Qal M.fr;have hs2:=Qal M.to;clear hh hb;unfold QfV;obtain⟨W0,ac⟩:∃ W0,W0=w.alloc (.cells #[.string (sA M.fr),.string (sA M.to),.int .i64 M.size,.slice a M.hdrs.length c] 28):=⟨_,rfl⟩;have ay:Hid (Below w.heap.size w W0):=by show Below _ _ _;rw[ac];exact(Below.refl _ _).alloc (Nat.le_refl _) _
 have ap:Hid (W0.heap[w.heap.size]?=some (.cells #[.string (sA M.fr),.string (sA M.to),.int .i64 M.size,.slice a M.hdrs.length c] 28)):=by show _=_;rw[ac];exact Qam _ _
 have aw:=Qab ac;clear ac;obtain⟨T,hT⟩:∃ T,M.fr.length+M.to.length+M.hdrs.length=T:=⟨_,rfl⟩;have hTb:T<=422212465065984:=by omega
 have aj:Hid (Qwf M=T+QnP M.hdrs):=by show _=_;rw[<-hT];rfl
 have av:=Qab hT;clear hT;go_enter func13,ntmps13;go_wp2_with fail;rw[<-aw.o]
 go_loopw [3,4] (fun v i wr=>∃(k t:Nat),k<=M.hdrs.length/\i=.int .i64 (k:Int)/\v=.int .i64 (t:Int)/\t=T+QnP (M.hdrs.take k)/\t<=703687441776640/\Below w.heap.size w wr/\wr.heap[w.heap.size]?=some (.cells #[.string (sA M.fr),.string (sA M.to),.int .i64 M.size,.slice a M.hdrs.length c] 28)) (fun _ i _=>M.hdrs.length - (intOf i).toNat)
 case atStart=>exact⟨0,T,Nat.zero_le _,by go_num,(by congr 1;have:=av.o;omega),rfl,by omega,ay.o,ap.o⟩
 case round=>
  obtain⟨k,t,hk,rfl,rfl,ht,htb,hB,hM⟩:=hrel;have aa:=Qab hB;have ar:=Qab hM;have hwl:=Qar hM;have c3:wr.cell? ⟨w.heap.size,3,none⟩=some (.slice a M.hdrs.length c):=Qaa hM 3;have HT:=Qab ht;clear hB hM ht;by_cases hlt:k<M.hdrs.length
  ·have ae:(k:Int)<(M.hdrs.length:Int):=by omega
   by_cases hle:t<=16384
   ·have ad:(t:Int)<=16384:=by omega
    obtain⟨a',c',hv,ai⟩:=HH.o;injection hv with hv1 hv2 hv3
    subst hv1;obtain⟨g,ab,aq,ag⟩:=ai (List.ne_nil_of_length_pos (by omega));subst aq;obtain⟨af,ak⟩:=ag k hlt;have ah:g<w.heap.size:=Qau af;have d1:wr.cell? ⟨g,ab+k*2,none⟩=some (.string (sA M.hdrs[k].1)):=by rw[aa.o.cell (p:=⟨g,ab+k*2,none⟩) ah];exact af
    have d2:wr.cell? ⟨g,ab+k*2+1,none⟩=some (.string (sA M.hdrs[k].2)):=by rw[aa.o.cell (p:=⟨g,ab+k*2+1,none⟩) ah];exact ak
    have ao:=HB.o _ (List.getElem_mem hlt);have HS:=Qab (Qsh M.hdrs k hlt);obtain⟨x,hx⟩:∃ x,M.hdrs[k]=x:=⟨_,rfl⟩;rw[hx]at d1 d2 ao HS;have hs3:=Qal x.1;have hs4:=Qal x.2;obtain⟨hk1,hk2⟩:=ao;clear af ak hx hv3 ai ag;go_wp2_with fail;go_quiet (fail)
    all_goals go_wp2
    go_roundw
    case rel=>exact⟨k+1,t+x.1.length+x.2.length,by omega,by go_num,by go_num,by rw[HS.o,HT.o];omega,by omega,QbF aa.o,ar.o⟩
    case measure=>simp[intOf];omega
   ·have ad:¬(t:Int)<=16384:=by omega
    have hlex:16384<t:=by omega
    have HS:=Qab (Qsi M.hdrs k);go_wp2;go_ret;refine⟨QaF ?_,aa.o⟩;have h1:=aj.o;have h2:=HT.o;have h3:=HS.o;exact(decide_eq_false (by omega)).symm
  ·have ae:¬(k:Int)<(M.hdrs.length:Int):=by omega
   have ax:k=M.hdrs.length:=by omega
   subst ax
   have au:Hid (t=Qwf M):=by
    show _=_
    have h2:=HT.o;rw[List.take_length]at h2;rw[aj.o,h2]
   clear HT;go_wp2;go_ret;refine⟨QaF ?_,aa.o⟩;rw[<-au.o];by_cases hle:t<=16384
   ·simp[hle];try omega
   ·simp[hle];try omega
def sayL (y:List (L8)×List (QdT 7)) (M:Msg):List (Int×L8)×Nat×Option FZ:=execL (varsB y.1) (QeF y.2) M
theorem Qst(y:List (L8)×List (QdT 7)):y.1.length<=(QhD y).length+1:=by
 by_cases h:y.1=[]
 ·rw[h];exact Nat.zero_le _
 ·have h1:=(Qfa y.1).2;unfold QhD QdM;rw[if_neg h];simp only[List.length_append];omega
theorem QtX(s:ByteArray)(y:List (L8)×List (QdT 7))(hv:Value)(M:Msg)(w:World)(he:Env w)(hs:s.size<=600)(hy:prL s.data.toList=.ok y)(hh:Qq5 w hv M.hdrs)(ar:∀ v,SBd M (ss0 v)) :
 Calls Tryz.prog 8 #[.string s,QfV M hv] w fun e w'=>Below w.heap.size w w'/\∃ lv,e=.returned (.tuple #[lv,.int .i64 (toldZ (sayL y M).2.2).1,.bool true])/\ActsV w' w.heap.size lv (sayL y M).1:=by
 obtain⟨ah,ch,rfl⟩:=hh.len;have HY:=Qab hy;have HE:=Qab he;have aH:=Qab hh;have aF:=Qab ar;have aG:=Qab (QpR hy);have aI:=Qnc hy;have az:s.data.toList.length=s.size:=by simp
 have ai:Hid ((QhD y).length<=100000):=by show _<=_;omega
 have aJ:Hid (y.1.length<=1000000):=by show _<=_;have:=Qst y;have:=ai.o;omega
 obtain⟨r,hr⟩:∃ r,sayL y M=r:=⟨_,rfl⟩;rw[hr];have HR:=Qab hr;clear hy he hh ar aI az hr;have af:∀(a:Option Addr)(n c:Nat),QfV M (.slice a n c)=.agg #[.string (sA M.fr),.string (sA M.to),.int .i64 M.size,.slice a n c]:=fun _ _ _=>rfl
 rw[af];have aE:=Qab af;clear af;obtain⟨W0,ad⟩:∃ W0,W0=w.alloc (.cells #[.string (sA M.fr),.string (sA M.to),.int .i64 M.size,.slice ah M.hdrs.length ch] 28):=⟨_,rfl⟩;have ae:Hid (Below w.heap.size w W0):=by show Below _ _ _;rw[ad];exact(Below.refl _ _).alloc (Nat.le_refl _) _
 have au:Hid (W0.heap[w.heap.size]?=some (.cells #[.string (sA M.fr),.string (sA M.to),.int .i64 M.size,.slice ah M.hdrs.length ch] 28)):=by show _=_;rw[ad];exact Qam _ _
 have aw:=ae.o.size;have aD:=Qab ad;clear ad;go_enter func8,ntmps8;go_wp2_with fail;rw[<-aD.o];refine(Qfj s W0 (HE.o.below ae.o).m1 (HE.o.below ae.o).et).mono ?_;rintro e w1 ⟨aa,⟨hbig,_⟩ | ⟨_,y1,g,rv,lv,ao,rfl,hz,hc,aq,ap⟩ | ⟨_,f,hf,_⟩⟩
 ·omega
 ·have aC:y1=y:=by have:=HY.o;rw[ao]at this;exact Except.ok.inj this
  subst aC;have ac:Below w.heap.size w w1:=ae.o.trans (aa.mono aw);have ak:=Qab ac;have ay:=Qab (HE.o.below ac);have ab:=Qab (Qai au.o aa);have HC:=Qab hc;have av:=Qab aq;have ax:=Qab ap;have m0:w1.cell? ⟨w.heap.size,0,none⟩=some (.string (sA M.fr)):=Qaa ab.o 0;have m1:w1.cell? ⟨w.heap.size,1,none⟩=some (.string (sA M.to)):=Qaa ab.o 1;have m2:w1.cell? ⟨w.heap.size,2,none⟩=some (.int .i64 M.size):=Qaa ab.o 2;have m3:w1.cell? ⟨w.heap.size,3,none⟩=some (.slice ah M.hdrs.length ch):=Qaa ab.o 3;have aj:=ac.size;clear ac aa hc aq ap ao;go_wp2_with fail;rw[<-aE.o];refine(QpA g y1 rv lv _ M w1 _ ay.o HC.o av.o ax.o aG.o.2 ai.o aJ.o (aH.o.below ak.o) aF.o).mono ?_;rintro e w2 ⟨ag,lv2,rfl,hA⟩;rw[show execL (varsB y1.1) (QeF y1.2) M=r from HR.o]at hA ⊢;have aA:=Qab (ak.o.trans (ag.mono aj));have HA:=Qab hA;obtain⟨la,lc,aB⟩:=Qat hA.1;subst aB;clear hA ag;go_wp2;refine bodyPost_ret (v:=.tuple #[.slice la r.1.length lc,.int .i64 (toldZ r.2.2).1,.bool true]) (by simp[results,results8,go_sem]) rfl ?_;exact⟨aA.o,_,rfl,HA.o.lo aj⟩
 ·have:=HY.o;rw[hf]at this;cases this
def QyB:L8:=[105,102,32,104,101,97,100,101,114,32,58,99,111,109,112,97,114,97,116,111,114,32,34,105,59,111,99,116,101,116,34,32,34,83,117,98,106,101,99,116,34,32,34,120,34,32,123,32,100,105,115,99,97,114,100,59,32,125,32,101,108,115,101,32,123,32,114,101,100,105,114,101,99,116,32,34,97,64,98,34,59,32,125]
def exM:Msg:=⟨[],[],0,[([115,117,98,106,101,99,116],[88])]⟩
def Qya (t:L8) (M:Msg):Option (List (Int×L8)×FZ):=
 match prL t with
 | .ok y=>some ((sayL y M).1,toldZ (sayL y M).2.2)
 | .error _=>none
theorem QyK:Qya exT1 exM=some ([],(0,-1)):=by kernel_rfl
theorem QyI:Qya QyB exM=some ([(3,[97,64,98])],(0,-1)):=by kernel_rfl
theorem Qt8{t:L8}{M:Msg}{l:List (Int×L8)}{f:FZ}(h:Qya t M=some (l,f)):∃ y,prL t=.ok y/\(sayL y M).1=l/\toldZ (sayL y M).2.2=f:=by
 unfold Qya at h
 cases hp:prL t with
 |error e=>rw[hp]at h;cases h
 |ok y=>
  rw[hp]at h;simp at h;exact⟨y,rfl,h.1,h.2⟩
theorem QvH(w:World)(he:Env w):Calls Tryz.prog 6 #[] w fun e w'=>e=.returned (.bool true)/\Below w.heap.size w w':=by
 have HE:=Qab he;clear he;go_enter func6,ntmps6;go_wp2_with fail;refine(Qrt w HE.o).mono ?_;rintro e w1 ⟨rfl,ai⟩;have aD:=Qab ai;have aC:=ai.size;clear ai;obtain⟨y1,aq,ao,ay⟩:=Qt8 QyK;obtain⟨y3,av,ax,au⟩:=Qt8 QyI;obtain⟨V,hV⟩:∃ V,V=(w1.alloc (.cells #[.string ⟨#[115,117,98,106,101,99,116]⟩,.string ⟨#[88]⟩] 25)).alloc (.cells #[.string ⟨#[]⟩,.string ⟨#[]⟩,.int .i64 0,.slice (some ⟨w1.heap.size,0,none⟩) 1 1] 28):=⟨_,rfl⟩;have aG:=Qab hV;have ar:Below w1.heap.size w1 V:=by rw[hV];exact((Below.refl _ _).alloc (Nat.le_refl _) _).alloc (by simp) _
 have hVh:V.heap[w1.heap.size]?=some (.cells #[.string ⟨#[115,117,98,106,101,99,116]⟩,.string ⟨#[88]⟩] 25):=by rw[hV];exact Qac (Qam _ _)
 have ap:V.heap[w1.heap.size+1]?=some (.cells #[.string ⟨#[]⟩,.string ⟨#[]⟩,.int .i64 0,.slice (some ⟨w1.heap.size,0,none⟩) 1 1] 28):=by rw[hV];exact Qaq (by simp)
 have aa:=aD.o.trans (ar.mono aC);have aA:=Qab aa;have aH:=Qab ap
 have HHD:Hid (QjG V (.slice (some ⟨w1.heap.size,0,none⟩) 1 1) exM.hdrs):=Or.inr ⟨w1.heap.size,1,_,rfl,hVh,fun j hj=>by
  have:j=0:=by have:j<1:=hj;omega
  subst this
  exact ⟨rfl,rfl⟩⟩
 have aw:Hid (∀ v,SBd exM (ss0 v)):=fun v=>QnD (by decide) v
 have aF:=aa.size;have ae:=Qab (And.intro aq (And.intro ao ay));have ak:=Qab (And.intro av (And.intro ax au));clear hV ar hVh ap aa aq ao ay av ax au;go_wp2_with fail;rw[show(w1.alloc _).alloc _=V from aG.o.symm];refine(QtX ⟨exT1.toArray⟩ y1 (.slice (some ⟨w1.heap.size,0,none⟩) 1 1) exM V (HE.o.below aA.o) (by decide) ae.o.1 HHD.o.g aw.o).mono ?_;rintro e w2 ⟨ab,lv2,rfl,af⟩;rw[ae.o.2.1]at af;rw[ae.o.2.2];have ad:=af.2 rfl;subst ad;have ah:=Qab (aA.o.trans (ab.mono aF));have ac:=Qab (Qai aH.o ab);have aj:=Qab (HHD.o.fr (P:=fun _ _=>False) (Fr.of_below ab) (fun _ _ h=>h));have m0:w2.cell? ⟨w1.heap.size+1,0,none⟩=some (.string ⟨#[]⟩):=Qaa ac.o 0;have m1:w2.cell? ⟨w1.heap.size+1,1,none⟩=some (.string ⟨#[]⟩):=Qaa ac.o 1;have m2:w2.cell? ⟨w1.heap.size+1,2,none⟩=some (.int .i64 0):=Qaa ac.o 2;have m3:w2.cell? ⟨w1.heap.size+1,3,none⟩=some (.slice (some ⟨w1.heap.size,0,none⟩) 1 1):=Qaa ac.o 3;have aB:=ah.o.size;clear ab af;go_wp2_with fail;refine(QtX ⟨QyB.toArray⟩ y3 (.slice (some ⟨w1.heap.size,0,none⟩) 1 1) exM w2 (HE.o.below ah.o) (by decide) ak.o.1 aj.o.g aw.o).mono ?_;rintro e w3 ⟨az,lv3,rfl,ag⟩;rw[ak.o.2.1]at ag;rw[ak.o.2.2];have aE:=Qab (ah.o.trans (az.mono aB));obtain⟨g3,c3,aI,_,hg3,hcells⟩:=Qcq ag.1 (by decide);subst aI;have d0:w3.cell? ⟨g3,0,none⟩=some (.int .i64 3):=hcells 0 _ rfl;have d1:w3.cell? ⟨g3,1,none⟩=some (.string ⟨#[97,64,98]⟩):=hcells 1 _ rfl;have heq:∀ W,(binOp .eql 34 (.agg #[.int .i64 3,.string ⟨#[97,64,98]⟩]) (.agg #[.int .i64 3,.string ⟨#[97,64,98]⟩])).run Tryz.prog W=.ok (.bool true) W:=fun W=>(Qwp (3,[97,64,98]) (3,[97,64,98]) W).trans (by simp)
 clear hcells ag az;go_wp2;go_ret;exact⟨rfl,aE.o⟩
theorem QtJ(k N:Int)(w:World)(h0:-9223372036854775808<=k)(hk:k<0)(hN:1<=N)(hN2:N<=1000):Calls Tryz.prog 7 #[.int .i64 k,.int .i64 N] w fun e w'=>e=.returned (.int .i64 ((-(k+1)) % N))/\w'=w:=by
 have he:-(k+1).tmod N=(-(k+1)) % N:=by rw[<-Int.neg_tmod,Int.tmod_eq_emod_of_nonneg (by omega)]
 have hz:¬ N=0:=by omega
 have aa:0<=(-(k+1)) % N:=Int.emod_nonneg _ hz;have ab:(-(k+1)) % N<N:=Int.emod_lt_of_pos _ (by omega);rw[<-he]at aa ab;have HE:=Qab he;clear he;go_enter func7,ntmps7;go_wp2;go_ret;refine⟨?_,rfl⟩;show Ending.returned (Value.int IntKind.i64 (-(k+1).tmod N))=_
 rw[HE.o]
theorem Qt9(k N:Int)(w:World)(h1:k<=9223372036854775807)(hk:0<=k)(hN:1<=N)(hN2:N<=1000):Calls Tryz.prog 7 #[.int .i64 k,.int .i64 N] w fun e w'=>e=.returned (.int .i64 (k % N))/\w'=w:=by
 have hz:¬ N=0:=by omega
 have hr0:0<=k % N:=Int.emod_nonneg _ hz;have hr1:k % N<N:=Int.emod_lt_of_pos _ (by omega);go_enter func7,ntmps7;go_wp2;go_ret;exact⟨rfl,rfl⟩
theorem QwW(k N:Int)(h0:-9223372036854775808<=k)(h1:k<=9223372036854775807)(hN:1<=N)(aa:N<=1000):∃ m:Nat,(m:Int)<N/\∀ W,Calls Tryz.prog 7 #[.int .i64 k,.int .i64 N] W fun e w'=>e=.returned (.int .i64 (m:Int))/\w'=W:=by
 have hz:¬ N=0:=by omega
 by_cases hk:k<0
 ·have g0:0<=(-(k+1)) % N:=Int.emod_nonneg _ hz;have g1:(-(k+1)) % N<N:=Int.emod_lt_of_pos _ (by omega);refine⟨((-(k+1)) % N).toNat,by omega,fun W=>?_⟩;have e:(((-(k+1)) % N).toNat:Int)=(-(k+1)) % N:=by omega
  rw[e];exact QtJ k N W h0 hk hN aa
 ·have g0:0<=k % N:=Int.emod_nonneg _ hz;have g1:k % N<N:=Int.emod_lt_of_pos _ (by omega);refine⟨(k % N).toNat,by omega,fun W=>?_⟩;have e:((k % N).toNat:Int)=k % N:=by omega
  rw[e];exact Qt9 k N W h1 (by omega) hN aa
end
section
open Go.RowKit Go.Maps
attribute [local go_sem ↓] Go.wp_at_zero Go.wp_at_succ
def Qyq (w:World) (v:Value) (l:List Fl):Prop:=
 (v=.slice none 0 0∧l=[])∨∃ b off c cs,v=.slice (some ⟨b,off,none⟩) l.length c∧w.heap[b]?=some (.cells cs 39)∧∀ j (hj:j < l.length),w.cell? ⟨b,off+j*2,none⟩=some (.string (sA l[j].1))∧w.cell? ⟨b,off+j*2+1,none⟩=some (.string (sA l[j].2))
theorem Qye.toS{w:World}{v:Value}{l:List Fl}(h:Qye w v l):Qyq w v l:=by
 rcases h with⟨h1,h2⟩ | ⟨g,c,cs,hv,hb,hc⟩
 ·exact Or.inl ⟨h2,h1⟩
 ·refine Or.inr ⟨g,0,c,cs,hv,hb,fun j hj=>?_⟩;rw[Nat.zero_add];exact hc j hj
theorem Qyq.len{w:World}{v:Value}{l:List Fl}(h:Qyq w v l):∃ a c,v=.slice a l.length c:=by
 rcases h with⟨h1,h2⟩ | ⟨b,off,c,cs,hv,_⟩
 ·exact⟨none,0,by rw[h1,h2];rfl⟩
 ·exact⟨_,_,hv⟩
end
section
open Go.RowKit
attribute [local go_sem ↓] Go.wp_at_zero Go.wp_at_succ
theorem Qgx{id:L8}{acts:List (Int×L8)}{text:L8}{fs:List Fl}(hv:QnI noF id acts text fs):∀ x,(Qbo noF fs x).isSome=true->Lib.hasPrefix x [46]=false:=fun x hx=>QtI hv x hx
theorem Qjj(s:ByteArray)(M:Msg)(hv:Value)(aQ az ae:Int)(w:World)(he:Env w)(hd:Qxs w)(hs:s.size<=140737488355328)(hh:Qq5 w hv M.hdrs)(hb:Qyc M)(a1:-9223372036854775808<=aQ/\aQ<=9223372036854775807)(hp:-9223372036854775808<=ae/\ae<=9223372036854775807) :
 Calls Tryz.prog 5 #[.string s,QfV M hv,.int .i64 aQ,.int .i64 az,.int .i64 ae] w fun e w'=>e=.returned (.bool true)/\Below w.heap.size w w':=by
 obtain⟨ah,ch,rfl⟩:=hh.len;have HE:=Qab he;have bY:=Qab hd;have b8:=Qab hh;have bR:=Qab hb;have h6:6<w.heap.size:=Qau (a:=⟨6,15,none⟩) hd.tz;obtain⟨pk,_,bx⟩:=QwW aQ 40 a1.1 a1.2 (by omega) (by omega);have b1:=Qab bx;clear he hh hb hd bx a1;have a9:∀(a:Option Addr)(n c:Nat),QfV M (.slice a n c)=.agg #[.string (sA M.fr),.string (sA M.to),.int .i64 M.size,.slice a n c]:=fun _ _ _=>rfl
 rw[a9];have bG:=Qab a9;clear a9;obtain⟨W0,aR⟩:∃ W0,W0=w.alloc (.cells #[.string (sA M.fr),.string (sA M.to),.int .i64 M.size,.slice ah M.hdrs.length ch] 28):=⟨_,rfl⟩;have bh:Hid (Below w.heap.size w W0):=by show Below _ _ _;rw[aR];exact(Below.refl _ _).alloc (Nat.le_refl _) _
 have bB:Hid (W0.heap[w.heap.size]?=some (.cells #[.string (sA M.fr),.string (sA M.to),.int .i64 M.size,.slice ah M.hdrs.length ch] 28)):=by show _=_;rw[aR];exact Qam _ _
 have h0s:=bh.o.size;have h0l:=Qar bB.o;have bV:=Qab aR
 have aa:Hid (∀ W:World,Below (w.heap.size+1) W0 W->Below w.heap.size w W/\Env W/\Qq5 W (.slice ah M.hdrs.length ch) M.hdrs/\w.heap.size<=W.heap.size/\w.heap.size+1<=W.heap.size/\W.cell? ⟨w.heap.size,0,none⟩=some (.string (sA M.fr))/\W.cell? ⟨w.heap.size,1,none⟩=some (.string (sA M.to))/\W.cell? ⟨w.heap.size,2,none⟩=some (.int .i64 M.size)/\W.cell? ⟨w.heap.size,3,none⟩=some (.slice ah M.hdrs.length ch)):=fun W hW=>by
  have ba:Below w.heap.size w W:=bh.o.trans (hW.mono (by omega));have aJ:W.heap[w.heap.size]?=some _:=(hW.block w.heap.size (by omega)).trans bB.o;have h1:=hW.size;exact⟨ba,HE.o.below ba,b8.o.below ba,by omega,by omega,Qaa aJ 0,Qaa aJ 1,Qaa aJ 2,Qaa aJ 3⟩
 clear aR;go_enter func5,ntmps5;go_wp2_with fail;rw[<-bV.o];refine(QvH W0 (HE.o.below bh.o)).mono ?_;rintro e w1 ⟨rfl,bo⟩;have aX:Below (w.heap.size+1) W0 w1:=bo.mono (by omega);have a3:=Qab aX;obtain⟨_,_,_,bZ,bD,m0,m1,m2,m3⟩:=aa.o w1 aX;clear bo aX;go_wp2_with fail;rw[<-bG.o];refine(Qqx M _ w1 (aa.o w1 a3.o).2.2.1 bR.o).mono ?_;rintro e w2 ⟨rfl,bF⟩;have aV:Below (w.heap.size+1) W0 w2:=a3.o.trans (bF.mono bD);have ax:=Qab aV;clear m0 m1 m2 m3;have bE:=(aa.o w2 aV).2.2.2.2.1;clear bF aV;by_cases hsm:Qwf M<=16384;rotate_left
 ·have hd:decide (Qwf M<=16384)=false:=decide_eq_false hsm;rw[hd];clear hd hsm;go_wp2;go_ret;exact⟨rfl,(aa.o w2 ax.o).1⟩
 have hd:decide (Qwf M<=16384)=true:=decide_eq_true hsm;rw[hd];have b7:=Qab (QnD hsm);clear hd hsm;go_wp2_with fail;refine(Qfj s w2 (aa.o w2 ax.o).2.1.m1 (aa.o w2 ax.o).2.1.et).mono ?_;rintro e w4 ⟨bC,hP⟩;have aS:Below (w.heap.size+1) W0 w4:=ax.o.trans (bC.mono bE);have ap:=Qab aS;obtain⟨_,_,_,bS,bu,m0,m1,m2,m3⟩:=aa.o w4 aS;clear bC aS;rcases hP with⟨hl,rfl⟩ | ⟨bj,y,g,rv,lv,hy,rfl,hz,hc,hr,bq⟩ | ⟨bj,f,hf,rfl⟩
 ·go_wp2;go_ret;exact⟨rfl,(aa.o w4 ap.o).1⟩
 ·have bt:=QpR hy;have ca:=Qnc hy;have b0:s.data.toList.length=s.size:=by simp
  have aq:(QhD y).length<=100000:=by omega
  have bl:=Qab aq;have bK:Hid (y.1.length<=1000000):=by show _<=_;have:=Qst y;omega
  have bJ:=Qab bt;have HC:=Qab hc;have HR:=Qab hr;have bN:=Qab bq;have aY:=Qab (Qt2 (varsB y.1) (QeF y.2) M);obtain⟨r,a5⟩:∃ r,execL (varsB y.1) (QeF y.2) M=r:=⟨_,rfl⟩;have bs:=Qab a5;rw[a5]at aY;clear hy bt ca b0 aq hc hr bq a5 bj;go_wp2_with fail;rw[<-bG.o];refine(QpA g y rv lv _ M w4 _ (aa.o w4 ap.o).2.1 HC.o HR.o bN.o bJ.o.2 bl.o bK.o (aa.o w4 ap.o).2.2.1 b7.o).mono ?_;rw[bs.o];rintro e w5 ⟨bw,lv5,rfl,a8⟩;have bc:Below (w.heap.size+1) W0 w5:=ap.o.trans (bw.mono bu);have bp:=Qab (aa.o w5 bc).1;have b3:=(aa.o w5 bc).2.2.2.1;obtain⟨la,lc,b6⟩:=Qat a8.1;subst b6;have bX:=Qab (QjB.of_owns a8.1);clear a8 bw bc m0 m1 m2 m3 bs bJ HC HR bN bl bK;generalize toldZ r.2.2=tz at *;generalize r.1=acts at *;obtain⟨fs,bM,b2,bI⟩:=QrP (id:=[109]) (text:=[116,101,120,116]) (by decide) aY.o
  have bO:∀ a∈acts,a.2.length<=65536:=fun a ha=>by
   rcases aY.o.2.2 a ha with⟨_,h⟩ | ⟨_,h⟩ | ⟨_,h⟩ | ⟨_,h⟩
   ·rw[h];decide
   ·unfold Qbp at h;simp only[Bool.and_eq_true,decide_eq_true_eq]at h;omega
   ·omega
   ·omega
  have bz:Hid (∀ F:Fs,(∀ x,(F x).isSome=true->Lib.hasPrefix x [46]=false)->QnI F [109] acts [116,101,120,116] fs):=fun F hF=>QxJ bM (by decide) (by decide) bO hF
  have bm:∀ x,((noF:Fs) x).isSome=true->Lib.hasPrefix x [46]=false:=fun x hx=>by cases hx
  have ar:=Qab (bz.o noF bm);have ac:Hid (Qdp noF fs (Qrg [kJ] fs)):=Qqu (fun x hx=>by cases hx) (List.mem_singleton.2 rfl);have bk:=Qab bI;have hfl6:=ar.o.f10;have b9:(Qrg [kJ] fs).length<=1+fs.length:=Nat.le_of_eq (QsX _ _);obtain⟨L,hL⟩:∃ L,L=Qrg [kJ] fs:=⟨_,rfl⟩;have hL1:1<=L.length:=List.length_pos_of_mem (hL ▸ ac.o.j);rw[<-hL]at b9 ac;clear hL bM b2 bO bm bI;go_wp2_with fail;refine(QqM [] (.slice none 0 0) w5 ⟨none,0,rfl,fun h=>absurd rfl h⟩ (by simp) (by intro f hf;cases hf)).mono ?_;rintro e w6 ⟨aT,bb,bn,rfl,bL,ao⟩;have aA:=Qab aT;have bv:=Qab bL;have br:=aT.size;have b5:Hid (Quf w6 w5.heap.size (w5.heap.size+1) w5.heap.size L.length (fun M=>M=noF)):=⟨bn,noF,rfl,AbsD.mono ⟨_,⟨ao.bb,ao.ne,ao.blk,ao.md,ao.mn,ao.row⟩⟩ (Nat.zero_le _)⟩;have a0:=Qab (bY.o.below bp.o);have ab:Hid (∀ W,Below w5.heap.size w5 W->Qxs W/\Below w.heap.size w W/\∀ w',Fr (PDk w5.heap.size) W w'->QjB w' (.slice la acts.length lc) acts):=fun W hW=>⟨a0.o.below hW,bp.o.trans (hW.mono b3),fun w' hf=>bX.o.below (Fr.lowB hW hf (Nat.le_refl _))⟩
  have aM:6<w5.heap.size:=by omega
  clear aT bL ao aa a3 ax ap bZ bD bE bS bu;go_wp2_with fail;refine(b1.o w6).mono ?_;rintro e w7 ⟨rfl,rfl⟩;go_wp2_with fail;refine(Ql7 w5.heap.size bb (w5.heap.size+1) w5.heap.size L (.slice la acts.length lc)(pk:Int) (-1) az ae w7 ar.o ac.o bv.o b5.o aM br (ab.o w7 aA.o).1.tab (ab.o w7 aA.o).1.tz (ab.o w7 aA.o).1.err (ab.o w7 aA.o).2.2 (by omega) hp.1 hp.2).mono ?_;rintro e w8 ⟨k,rfl,aI,bA⟩;have ai:=Qab (Fr.lowB aA.o aI (Nat.le_refl _));have aL:=Qab (aI.block _ _ bv.o PDk.notBox);have bH:w5.heap.size<=w8.heap.size:=Nat.le_trans br aI.size;have a2:=Qab bA;clear aI bA;have ag:Hid (∀ W,Below w5.heap.size w5 W->Tab W/\Tz W/\Qfv W):=fun W hW=>⟨(ab.o W hW).1.tab,(ab.o W hW).1.tz,(ab.o W hW).1.err⟩
  rcases a2.o with⟨bT,hR⟩ | ⟨hk,hG⟩
  ·as_aux_lemma=>
    subst bT;have HR:=Qab hR;clear hR a2;go_wp2_with fail;refine(Qjn w5.heap.size bb (w5.heap.size+1) w5.heap.size L 0 0 w8 (Qgx ar.o) ac.o.next ac.o.j aL.o HR.o aM (ag.o w8 ai.o).1 (ag.o w8 ai.o).2.1 (ag.o w8 ai.o).2.2 (by omega) (by omega) (by omega)).mono ?_;rintro e w9 ⟨rfl,af,a6,M9,aO,aD⟩;subst aO;have ak:=Qab (Fr.lowB ai.o af (Nat.le_refl _));have aK:=Qab (af.block _ _ aL.o PDk.notBox);have bf:=Qab aD;have aN:w5.heap.size<=w9.heap.size:=Nat.le_trans bH af.size;clear af aD;go_wp2_with fail;refine(QiR w5.heap.size bb (w5.heap.size+1) w5.heap.size a6 L.length _ _ _ w9 aK.o bf.o (by omega)).mono ?_;rintro e aP ⟨aG,v10,b4,rfl,aw,aB,a4⟩;obtain⟨a10,c10,aC⟩:=aw.toS.len;rw[bk.o b4 aB]at aC;subst aC;have aj:=Qab (ab.o aP (ak.o.trans (aG.mono aN))).2.1;clear aG aw aB a4;go_wp2;go_ret;exact⟨rfl,aj.o⟩
  ·as_aux_lemma=>
    have HG:=Qab hG;have hknz:¬((k:Nat):Int)=0:=by omega
    generalize ((k:Nat):Int)=kz at *;clear hG a2 hk;go_wp2_with fail;refine(QeB w5.heap.size bb (w5.heap.size+1) w5.heap.size L 0 0 w8 ar.o ac.o aL.o HG.o aM (ag.o w8 ai.o).1 (ag.o w8 ai.o).2.1 (ag.o w8 ai.o).2.2 (by omega) (by omega) (by omega)).mono ?_;rintro e w9 ⟨rfl,af,a6,M9,aO,aD⟩
    have bg:Hid (Qbo M9 fs=Qbo noF fs/\(∀ x,(M9 x).isSome=true->Lib.hasPrefix x [46]=false)/\Qdp M9 fs L):=by
     rcases aO with h|h
     ·have e:M9=noF:=funext h;subst e;exact⟨rfl,(fun x hx=>by cases hx),ac.o⟩
     ·have e:M9=Qbo noF fs:=funext h;subst e;exact⟨QoG fs noF,Qgx ar.o,ac.o.next,ac.o.j,ac.o.n⟩
    have ak:=Qab (Fr.lowB ai.o af (Nat.le_refl _));have aK:=Qab (af.block _ _ aL.o PDk.notBox);have bf:=Qab aD;have aN:w5.heap.size<=w9.heap.size:=Nat.le_trans bH af.size;clear af aD aO;go_wp2_with fail;refine(QiN w5.heap.size bb (w5.heap.size+1) w5.heap.size L (.slice la acts.length lc) 0 0 w9 (bz.o M9 bg.o.2.1) bg.o.2.2 aK.o ⟨a6,M9,rfl,bf.o⟩ aM aN (ag.o w9 ak.o).1 (ag.o w9 ak.o).2.1 (ag.o w9 ak.o).2.2 (ab.o w9 ak.o).2.2 (by omega) (by omega) (by omega)).mono ?_;rintro e aP ⟨rfl,ad,aZ,bP,av,ay⟩;have bQ:bP=Qbo noF fs:=av.trans bg.o.1;subst bQ;have aj:=Qab (Fr.lowB ak.o ad (Nat.le_refl _));have bd:=Qab (ad.block _ _ aK.o PDk.notBox);have aU:=Qab ay;have bi:w5.heap.size<=aP.heap.size:=Nat.le_trans aN ad.size;clear ad ay av;go_wp2_with fail;refine(QiR w5.heap.size bb (w5.heap.size+1) w5.heap.size aZ L.length _ _ _ aP bd.o aU.o (by omega)).mono ?_;rintro e bU ⟨aH,v11,bW,rfl,aE,au,aW⟩;obtain⟨a11,c11,aF⟩:=aE.toS.len;rw[bk.o bW au]at aF;subst aF;have a7:=Qab (ab.o bU (aj.o.trans (aH.mono bi))).2.1;clear aH aE au aW;go_wp2;go_ret;exact⟨rfl,a7.o⟩
 ·go_wp2;go_ret;exact⟨rfl,(aa.o w4 ap.o).1⟩
end
end Go.Proofs.YthkibedbcbgajaaGreatDoor
