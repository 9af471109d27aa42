import Derived.Laws.StructEq
import Derived.Test.YtgnkjijocdmniaaGreatDoorSMatch
namespace Go.Proofs.YtgnkjijocdmniaaGreatDoor
set_option linter.unusedVariables false
set_option linter.unusedSimpArgs false
set_option maxRecDepth 100000
set_option maxHeartbeats 4000000
open Go.Proofs.Tryz
section
open Go.RowKit
attribute [local go_sem ↓] Go.wp_at_zero Go.wp_at_succ
theorem WayV.below{w w':World}{tag:Int}{oct:Bool}{wv:Value}(h:WayV w tag oct wv)(hb:Below w.heap.size w w'):WayV w' tag oct wv:=by
 have k:∀(p:Nat) (v:Value),w.cell? ⟨p,0,none⟩=some v->w'.cell? ⟨p,0,none⟩=some v:=fun p v hp=>(hb.cell (p:=⟨p,0,none⟩) (Qau hp)).trans hp
 rcases h with⟨h1,p,h2,h3⟩ | ⟨p,q,h1,h2,⟨h3,h4⟩ | ⟨h3,h4⟩⟩
 ·exact Or.inl ⟨h1,p,h2,k _ _ h3⟩
 ·exact Or.inr ⟨p,q,h1,k _ _ h2,Or.inl ⟨h3,k _ _ h4⟩⟩
 ·exact Or.inr ⟨p,q,h1,k _ _ h2,Or.inr ⟨h3,k _ _ h4⟩⟩
theorem WayV.fn{w:World}{tag:Int}{oct:Bool}{wv:Value}(h:WayV w tag oct wv):∃ F b,wv=.func (.func F) #[] b:=by
 rcases h with⟨h1,p,h2,h3⟩ | ⟨p,q,h1,_⟩
 ·exact⟨_,_,h2⟩
 ·exact⟨_,_,h1⟩
theorem Qqr(tag:Int)(oct:Bool)(B sb:Nat)(M:Msg)(s:SS)(xs keys:List (L8))(wv xv kv:Value)(w:World)(hw:WayV w tag oct wv)
 (h:SAt w B sb M s) (ap:SlT w xv xs) (ad:SlT w kv keys) (ag:∀ z∈xs,z.length<=100000) (aj:∀ z∈keys,z.length<=100000) (ao:xs.length<=1000000) (ak:keys.length<=1000000) :
 Calls Tryz.prog 160 #[.pointer (some ⟨sb,0,none⟩),wv,xv,kv] w (QhZ (askL s tag oct (xs.map (expL s)) keys) B sb M w):=by
 have HS:=Qab h;have HW:=Qab hw;have ai:=Qab ad;clear hw ad;go_enter func160,ntmps160;go_wp2_with fail;refine(QfN B sb M s xs _ w h ap (fun z hz=>Nat.le_trans (ag z hz) (by decide)) ao).mono ?_;rintro e w1 ⟨v1,rfl,ae,ab⟩;have HT:=Qab (SlT.of_owns ae (by simp));have aa:=Qab ab;clear ae ab h;go_wp2_with fail;refine(QgR tag oct B sb M s (xs.map (expL s)) keys wv v1 kv w1 (HW.o.below aa.o) (HS.o.below aa.o) HT.o (ai.o.below aa.o) (Qhd s xs _ ag (by decide)) aj (by simp;omega) ak).mono ?_;rintro e w2 ⟨rfl,af,ac⟩;have H2:=Qab af;have ah:=Qab ac;clear af ac;go_wp2;go_ret;exact⟨rfl,H2.o,(Fr.of_below aa.o).trans ah.o⟩
theorem Qia{α β:Type}(f:α->List β)(l:List α)(k:Nat)(h:k<l.length):(l.take (k+1)).flatMap f=(l.take k).flatMap f++f l[k]:=by
 rw[List.take_succ_eq_append_getElem h,List.flatMap_append];simp
theorem Qjs{α β:Type}(f:α->List β)(l:List α)(n:Nat)(h:∀ a∈l,(f a).length<=n):(l.flatMap f).length<=l.length*n:=by
 induction l with
 |nil=>simp
 |cons a r ih=>
  rw[List.flatMap_cons,List.length_append,List.length_cons,Nat.succ_mul];have h1:=h a (by simp);have h2:=ih (fun b hb=>h b (by simp[hb]));omega
theorem QvX(M:Msg)(ps:List (L8)):(QiQ M ps).length<=ps.length:=by
 have:=Qjs (fun p=>if zL p=[102,114,111,109]then [M.fr]else if zL p=[116,111]then [M.to]else []) ps 1 (fun a _=>by split<;>(try split)<;>simp);unfold QiQ;omega
theorem QvB{M:Msg}{s:SS}(b:SBd M s)(ps:List (L8)):∀ z∈QiQ M ps,z.length<=100000:=by
 intro z hz;unfold QiQ at hz;obtain⟨p,_,hp⟩:=List.mem_flatMap.1 hz
 split at hp
 ·simp at hp;rw[hp];exact b.fr
 ·split at hp
  ·simp at hp;rw[hp];exact b.tu
  ·cases hp
theorem QnA(tag:Int)(oct:Bool)(B sb:Nat)(M:Msg)(s:SS)(ps keys:List (L8))(wv xv kv:Value)(w:World)(hw:WayV w tag oct wv)
 (h:SAt w B sb M s) (ar:SlT w xv ps) (aw:SlT w kv keys) (aN:∀ z∈ps,z.length<=100000) (aK:∀ z∈keys,z.length<=100000) (hxn:ps.length<=1000000) (aL:keys.length<=1000000) :
 Calls Tryz.prog 159 #[.pointer (some ⟨sb,0,none⟩),wv,xv,kv] w (QhZ (askL s tag oct (QiQ M ps) keys) B sb M w):=by
 obtain⟨va,vc,ao⟩:=ar.len;subst ao;have aF:=Qab ar;have HS:=Qab h;have HW:=Qab hw;have aE:=Qab aw;obtain⟨hv,mb,tv,mv,af⟩:=h;have ay:=af.lt;have c0:w.cell? ⟨sb,0,none⟩=some (.string (Qaf M.fr)):=af.cell 0;have c1:w.cell? ⟨sb,1,none⟩=some (.string (Qaf M.to)):=af.cell 1;have aC:=Qab af.bd;obtain⟨i0,hi,az,aA,aB⟩:=info_parts Tryz.infoStr;clear hw aw ar af;go_enter func159,ntmps159;go_wp2_with fail
 go_loopw [9,11,14] (fun v _ i wr=>∃(k:Nat),k<=ps.length/\i=.int .i64 (k:Int)/\wr.ownsRow w.heap.size 9 1 v (QiQ M (ps.take k)).length (QaN (QiQ M (ps.take k)))/\Below w.heap.size w wr) (fun _ _ i _=>ps.length - (intOf i).toNat)
 case atStart=>exact⟨0,Nat.zero_le _,rfl,World.ownsRow_nil _ _ _ _,Below.refl _ _⟩
 case round=>
  obtain⟨k,hk,rfl,ad,hB⟩:=hrel;have aq:w.heap.size<=wr.heap.size:=hB.size;have aG:=QvX M (ps.take k);have hel2:(QiQ M (ps.take k)).length<=1000000:=by have:(ps.take k).length<=k:=List.length_take_le _ _;omega
  obtain⟨va2,vc2,ap⟩:=QaD ad;subst ap;have HB:=Qab hB;have ai:=Qab ad;clear hB ad aG;have d0:wr.cell? ⟨sb,0,none⟩=some (.string (Qaf M.fr)):=(HB.o.cell (p:=⟨sb,0,none⟩) ay).trans c0;have d1:wr.cell? ⟨sb,1,none⟩=some (.string (Qaf M.to)):=(HB.o.cell (p:=⟨sb,1,none⟩) ay).trans c1;by_cases hlt:k<ps.length;rotate_left
  ·have aJ:k=ps.length:=by omega
   subst aJ;have aI:¬(ps.length:Int)<(ps.length:Int):=by omega
   have HE:Hid (QiQ M (ps.take ps.length)=QiQ M ps):=by show _=_;rw[List.take_of_length_le (Nat.le_refl _)]
   go_wp2_with fail;refine(QgR tag oct B sb M s (QiQ M ps) keys wv _ kv wr (HW.o.below HB.o) (HS.o.below HB.o) (SlT.of_owns (by have:=ai.o;rw[HE.o]at this;exact this) rfl) (aE.o.below HB.o) (QvB aC.o ps) aK (by rw[<-HE.o];omega) aL).mono ?_;rintro e w2 ⟨rfl,ax,av⟩;have H2:=Qab ax;have aD:=Qab av;clear ax av;go_wp2;go_ret;exact⟨rfl,H2.o,(Fr.of_below HB.o).trans aD.o⟩
  have aI:(k:Int)<(ps.length:Int):=by omega
  obtain⟨g,aM,aH,au⟩:=aF.o.get' k hlt;subst aM;have e1:wr.cell? ⟨g,k,none⟩=some (.string (Qaf ps[k])):=by rw[HB.o.cell (p:=⟨g,k,none⟩) aH];exact au
  have hpl:=aN _ (List.getElem_mem hlt);have HN:Hid (QiQ M (ps.take (k+1))=QiQ M (ps.take k)++(if zL ps[k]=[102,114,111,109]then [M.fr]else if zL ps[k]=[116,111]then [M.to]else [])):=Qia _ ps k hlt;have ef:=Qdl (zL ps[k]) [102,114,111,109];have et:=Qdl (zL ps[k]) [116,111];have HC:=Qab (Qeu ps[k] wr (by omega));generalize ps[k]=p at *;generalize zL p=q at *;have sw:sb<wr.heap.size:=by omega
  clear au;by_cases hf:q=[102,114,111,109]
  ·rw[decide_eq_true hf]at ef;have ae:Hid (QiQ M (ps.take (k+1))=QiQ M (ps.take k)++[M.fr]):=by show _=_;rw[HN.o,if_pos hf]
   clear hf et;go_wp2_with (first|(go_at_call 181;refine HC.o.mono ?_;rintro e w1 ⟨rfl,aa⟩;have ab:=Qab (HB.o.trans (aa.mono aq));have ac:=Qab (QbL (P:=fun _ _=>False) ai.o (Fr.of_below aa) (fun _ _ h=>h));have f0:w1.cell? ⟨sb,0,none⟩=some (.string (Qaf M.fr)):=(aa.cell (p:=⟨sb,0,none⟩) sw).trans d0;clear aa)|(at_builtin;refine wpList_append_own _ rfl _ _ 61 rfl w.heap.size 9 i0 _ 1 16 underlying61 hi az aA aB rfl (by decide) _ _ _ rfl (ac.o.alloc _) ⟨w1.heap.size,0,none⟩ 1 1 [.string (Qaf M.fr)] rfl rfl (cell_one_new _ _ _) (QnW _) (by unfold maxLen;omega) (by omega) (by have:=ab.o.size;simp;omega) ?_;intro v5 w5 ah ag _;have aj:=Qab (QbP ab.o ab.o.size ag (fun k hk=>(ac.o.lt k hk).1));have ak:=Qab ah;clear ah ag));go_roundw
   case rel=>
    refine⟨k+1,by omega,by go_num,?_,aj.o⟩;rw[ae.o,<-Qci,List.length_append];exact ak.o
   case measure=>simp[intOf];omega
  rw[decide_eq_false hf]at ef;by_cases ht:q=[116,111]
  ·rw[decide_eq_true ht]at et;have ae:Hid (QiQ M (ps.take (k+1))=QiQ M (ps.take k)++[M.to]):=by show _=_;rw[HN.o,if_neg hf,if_pos ht]
   clear hf ht;go_wp2_with (first|(go_at_call 181;refine HC.o.mono ?_;rintro e w1 ⟨rfl,aa⟩;have ab:=Qab (HB.o.trans (aa.mono aq));have ac:=Qab (QbL (P:=fun _ _=>False) ai.o (Fr.of_below aa) (fun _ _ h=>h));have f1:w1.cell? ⟨sb,1,none⟩=some (.string (Qaf M.to)):=(aa.cell (p:=⟨sb,1,none⟩) sw).trans d1;clear aa)|(at_builtin;refine wpList_append_own _ rfl _ _ 61 rfl w.heap.size 9 i0 _ 1 16 underlying61 hi az aA aB rfl (by decide) _ _ _ rfl (ac.o.alloc _) ⟨w1.heap.size,0,none⟩ 1 1 [.string (Qaf M.to)] rfl rfl (cell_one_new _ _ _) (QnW _) (by unfold maxLen;omega) (by omega) (by have:=ab.o.size;simp;omega) ?_;intro v5 w5 ah ag _;have aj:=Qab (QbP ab.o ab.o.size ag (fun k hk=>(ac.o.lt k hk).1));have ak:=Qab ah;clear ah ag));go_roundw
   case rel=>
    refine⟨k+1,by omega,by go_num,?_,aj.o⟩;rw[ae.o,<-Qci,List.length_append];exact ak.o
   case measure=>simp[intOf];omega
  ·rw[decide_eq_false ht]at et;have ae:Hid (QiQ M (ps.take (k+1))=QiQ M (ps.take k)):=by show _=_;rw[HN.o,if_neg hf,if_neg ht,List.append_nil]
   clear hf ht;go_wp2_with (first|(go_at_call 181;refine HC.o.mono ?_;rintro e w1 ⟨rfl,aa⟩;have ab:=Qab (HB.o.trans (aa.mono aq));have ac:=Qab (QbL (P:=fun _ _=>False) ai.o (Fr.of_below aa) (fun _ _ h=>h));clear aa));go_roundw
   case rel=>
    refine⟨k+1,by omega,by go_num,?_,ab.o⟩;rw[ae.o];exact ac.o
   case measure=>simp[intOf];omega
theorem Qpu(p:L8×L8->Bool)(hs:List (L8×L8))(b:Nat)(h:b<hs.length):((hs.take (b+1)).filter p).map (·.2)=((hs.take b).filter p).map (·.2)++(if p hs[b]then [hs[b].2]else []):=by
 rw[List.take_succ_eq_append_getElem h,List.filter_append,List.map_append];by_cases hp:p hs[b]=true<;>simp[hp]
theorem Qp3(M:Msg)(ns:List (L8)):(fieldsL M ns).length<=ns.length*M.hdrs.length:=by
 unfold fieldsL;exact Qjs _ ns _ (fun a _=>by rw[List.length_map];exact List.length_filter_le _ _)
theorem QqC{M:Msg}{s:SS}(b:SBd M s)(ns:List (L8)):∀ z∈fieldsL M ns,z.length<=100000:=by
 intro z hz;unfold fieldsL at hz;obtain⟨n,_,hn⟩:=List.mem_flatMap.1 hz;obtain⟨h,hh,rfl⟩:=List.mem_map.1 hn;exact(b.hd h (List.mem_filter.1 hh).1).2
theorem QkB(w:World)(a b:Value)(t:TypeId):(w.alloc (.cells #[a,b] t)).cell? ⟨w.heap.size,0,none⟩=some a/\(w.alloc (.cells #[a,b] t)).cell? ⟨w.heap.size,1,none⟩=some b:=by
 constructor<;>rw[Qaa (Qat w _)]<;>rfl
theorem QsH(tag:Int)(oct:Bool)(B sb:Nat)(M:Msg)(s:SS)(xs keys:List (L8))(wv xv kv:Value)(w:World)(hw:WayV w tag oct wv)
 (h:SAt w B sb M s) (a1:SlT w xv xs) (aW:SlT w kv keys) (aM:∀ z∈xs,z.length<=100000) (bi:∀ z∈keys,z.length<=100000) (a0:xs.length<=1000000) (bj:keys.length<=1000000) :
 Calls Tryz.prog 158 #[.pointer (some ⟨sb,0,none⟩),wv,xv,kv] w (QhZ (askL s tag oct (fieldsL M (xs.map (expL s))) keys) B sb M w):=by
 have HS:=Qab h;have HW:=Qab hw;have a6:=Qab aW;obtain⟨hv,mb,tv,mv,ae⟩:=h;have aZ:=ae.lt;obtain⟨ha,hc,bf⟩:=ae.hd.len;subst bf;have a5:=Qab ae.hd;have c3:w.cell? ⟨sb,3,none⟩=some (.slice ha M.hdrs.length hc):=ae.cell 3;have aP:=Qab ae.bd;have bc:=ae.bd.hl;obtain⟨i0,hi,bn,bo,bp⟩:=info_parts Tryz.infoStr;clear hw aW ae;go_enter func158,ntmps158;go_wp2_with fail;refine(QfN B sb M s xs _ w HS.o a1 (fun z hz=>Nat.le_trans (aM z hz) (by decide)) a0).mono ?_;rintro e w1 ⟨v1,rfl,aH,ap⟩;have HT:=Qab (SlT.of_owns aH (by simp));have aN:=Qab ap;obtain⟨ta,tc,bm⟩:=QaD aH;subst bm;have a2:∀ y∈xs.map (expL s),y.length<=100000:=Qhd s xs _ aM (by decide);have au:xs.length=(xs.map (expL s)).length:=by simp
 obtain⟨ns,aG⟩:∃ ns,xs.map (expL s)=ns:=⟨_,rfl⟩;have a7:=Qab aG;have aQ:=Qab a2;rw[aG]at HT aQ au;rw[au]at a0 HT;rw[au];have a9:w1.cell? ⟨sb,3,none⟩=some (.slice ha M.hdrs.length hc):=(ap.cell (p:=⟨sb,3,none⟩) aZ).trans c3;have aJ:sb<w1.heap.size:=Nat.lt_of_lt_of_le aZ ap.size;clear aH a2 au ap a1 aM aG c3;go_wp2_with fail
 go_loopw [9,11,13,18] (fun v _ _ i wr=>∃(a:Nat),a<=ns.length/\i=.int .i64 (a:Int)/\wr.ownsRow w1.heap.size 9 1 v (fieldsL M (ns.take a)).length (QaN (fieldsL M (ns.take a)))/\Below w.heap.size w wr/\Below w1.heap.size w1 wr) (fun _ _ _ i _=>ns.length - (intOf i).toNat)
 case atStart=>exact⟨0,Nat.zero_le _,rfl,World.ownsRow_nil _ _ _ _,aN.o,Below.refl _ _⟩
 case round=>
  obtain⟨a,hale,rfl,af,hB,aA⟩:=hrel;have hwr:w.heap.size<=wr.heap.size:=hB.size;have aV:=Qp3 M (ns.take a)
  have aB:(fieldsL M (ns.take a)).length<=a*100000:=by
   have h1:(ns.take a).length<=a:=List.length_take_le _ _;exact Nat.le_trans aV (Nat.mul_le_mul h1 bc)
  obtain⟨va2,vc2,aK⟩:=QaD af;subst aK;have HB:=Qab hB;have aO:=Qab aA;have ax:=Qab af;have d3:wr.cell? ⟨sb,3,none⟩=some (.slice ha M.hdrs.length hc):=(aA.cell (p:=⟨sb,3,none⟩) aJ).trans a9;clear hB aA af aV;by_cases hlt:a<ns.length;rotate_left
  ·have aE:a=ns.length:=by omega
   subst aE;have bh:¬(ns.length:Int)<(ns.length:Int):=by omega
   have HE:Hid (fieldsL M (ns.take ns.length)=fieldsL M ns):=by show _=_;rw[List.take_of_length_le (Nat.le_refl _)]
   have aC:(fieldsL M (ns.take ns.length)).length<=1000000000000:=by omega
   go_wp2_with fail;refine(QgR tag oct B sb M s (fieldsL M ns) keys wv _ kv wr (HW.o.below HB.o) (HS.o.below HB.o) (SlT.of_owns (by have:=ax.o;rw[HE.o]at this;exact this) rfl) (a6.o.below HB.o) (QqC aP.o ns) bi (by rw[<-HE.o];exact aC) bj).mono ?_;rintro e w2 ⟨rfl,aY,aU⟩;have H2:=Qab aY;have a4:=Qab aU;clear aY aU;go_wp2;go_ret;rw[a7.o];exact⟨rfl,H2.o,(Fr.of_below HB.o).trans a4.o⟩
  have bh:(a:Int)<(ns.length:Int):=by omega
  obtain⟨g,bk,ba,aR⟩:=HT.o.get' a hlt;subst bk;have e1:wr.cell? ⟨g,a,none⟩=some (.string (Qaf ns[a])):=by rw[aO.o.cell (p:=⟨g,a,none⟩) ba];exact aR
  have bl:=aQ.o _ (List.getElem_mem hlt);have HN:Hid (fieldsL M (ns.take (a+1))=fieldsL M (ns.take a)++(M.hdrs.filter (Qcj · ns[a])).map (·.2)):=Qia _ ns a hlt;obtain⟨n,hn⟩:∃ n,ns[a]=n:=⟨_,rfl⟩;rw[hn]at e1 bl HN;obtain⟨T,hT⟩:∃ T,fieldsL M (ns.take a)=T:=⟨_,rfl⟩;rw[hT]at HN ax aB;clear aR hn;rw[hT];clear hT;go_wp2_with fail
  go_loopw [9,13,28] (fun v _ i wr=>∃(b:Nat),b<=M.hdrs.length/\i=.int .i64 (b:Int)/\wr.ownsRow w1.heap.size 9 1 v (T++((M.hdrs.take b).filter (Qcj · n)).map (·.2)).length (QaN (T++((M.hdrs.take b).filter (Qcj · n)).map (·.2)))/\Below w.heap.size w wr/\Below w1.heap.size w1 wr) (fun _ _ i _=>M.hdrs.length - (intOf i).toNat)
  case atStart=>exact⟨0,Nat.zero_le _,rfl,by simpa using ax.o,HB.o,aO.o⟩
  case round=>
   obtain⟨b,hb,rfl,ab,az,ai⟩:=hrel;have ak:w.heap.size<=wr.heap.size:=az.size
   have aI:(T++((M.hdrs.take b).filter (Qcj · n)).map (·.2)).length<=a*100000+100000:=by
    rw[List.length_append,List.length_map];have h1:=List.length_filter_le (Qcj · n) (M.hdrs.take b);have h2:(M.hdrs.take b).length<=b:=List.length_take_le _ _;omega
   obtain⟨Q,hQ⟩:∃ Q,T++((M.hdrs.take b).filter (Qcj · n)).map (·.2)=Q:=⟨_,rfl⟩;have ay:=Qab hQ;rw[hQ]at ab aI;clear hQ;obtain⟨va3,vc3,aL⟩:=QaD ab;subst aL;have ag:=Qab az;have aa:=Qab ai;have aw:=Qab ab;clear az ai ab;by_cases hbl:b<M.hdrs.length;rotate_left
   ·have aE:b=M.hdrs.length:=by omega
    subst aE;have bg:¬(M.hdrs.length:Int)<(M.hdrs.length:Int):=by omega
    go_wp2;refine⟨⟨a+1,by omega,by go_num,?_,ag.o,aa.o⟩,by simp[intOf];omega⟩;have:=ay.o;rw[List.take_of_length_le (Nat.le_refl _)]at this;rw[HN.o,this];exact aw.o
   have bg:(b:Int)<(M.hdrs.length:Int):=by omega
   obtain⟨g2,aF,aj,aS,aT⟩:=a5.o.get' b hbl;subst aF;have f1:wr.cell? ⟨g2,b*2,none⟩=some (.string (Qaf M.hdrs[b].1)):=by rw[ag.o.cell (p:=⟨g2,b*2,none⟩) aj];exact aS
   have f2:wr.cell? ⟨g2,b*2+1,none⟩=some (.string (Qaf M.hdrs[b].2)):=by rw[ag.o.cell (p:=⟨g2,b*2+1,none⟩) aj];exact aT
   have bb:=(aP.o.hd _ (List.getElem_mem hbl)).1;have HF:=Qab (Qpu (Qcj · n) M.hdrs b hbl);generalize M.hdrs[b]=hd at *;obtain⟨aq,ar⟩:=hd;dsimp only at f1 f2 bb HF;have HC:=Qab (QoI (aq,ar) n);clear aS aT;cases hnm:Qcj (aq,ar) n
   ·rw[hnm]at HF HC;go_wp2_with (first|(go_at_call 206;refine(HC.o _ (by show aq.length<=_;omega) (by omega)).mono ?_;rintro e w3 ⟨rfl,ad⟩;have ao:=Qab ((ag.o.alloc ak _).trans (ad.mono (by simp;omega)));have ac:=Qab ((aa.o.alloc aa.o.size _).trans (ad.mono (by have:=aa.o.size;simp;omega)));have ah:=Qab (QbL (P:=fun _ _=>False) (aw.o.alloc _) (Fr.of_below ad) (fun _ _ h=>h));clear ad));refine⟨⟨b+1,by omega,by go_num,?_,ao.o,ac.o⟩,by simp[intOf];omega⟩;rw[HF.o,if_neg (by decide),List.append_nil,ay.o];exact ah.o
   ·rw[hnm]at HF HC;have HQ:Hid (∀ l:List (L8),l.length<=a*100000+100000->l.length+1<=maxLen/\(l.length+1)*16<=140737488355328):=fun l hl=>by unfold maxLen;omega
    go_wp2_with (first|(go_at_call 206;refine(HC.o _ (by show aq.length<=_;omega) (by omega)).mono ?_;rintro e w3 ⟨rfl,ad⟩;have ao:=Qab ((ag.o.alloc ak _).trans (ad.mono (by simp;omega)));have ac:=Qab ((aa.o.alloc aa.o.size _).trans (ad.mono (by have:=aa.o.size;simp;omega)));have ah:=Qab (QbL (P:=fun _ _=>False) (aw.o.alloc _) (Fr.of_below ad) (fun _ _ h=>h));have q1:w3.cell? ⟨wr.heap.size,1,none⟩=some (.string (Qaf ar)):=(ad.cell (p:=⟨wr.heap.size,1,none⟩) (by simp)).trans (QkB _ _ _ _).2;clear ad)|(at_builtin;refine wpList_append_own _ rfl _ _ 61 rfl w1.heap.size 9 i0 _ 1 16 underlying61 hi bn bo bp rfl (by decide) _ _ _ rfl (ah.o.alloc _) ⟨w3.heap.size,0,none⟩ 1 1 [.string (Qaf ar)] rfl rfl (cell_one_new _ _ _) (QnW _) (HQ.o _ aI).1 (HQ.o _ aI).2 (by have:=ac.o.size;simp;omega) ?_;intro v5 w5 aX aD _;have a3:=Qab (QbP ao.o ao.o.size aD (fun k hk=>Nat.le_trans aN.o.size (ah.o.lt k hk).1));have av:=Qab (QbP ac.o ac.o.size aD (fun k hk=>(ah.o.lt k hk).1));have a8:=Qab aX;clear aX aD));refine⟨⟨b+1,by omega,by go_num,?_,a3.o,av.o⟩,by simp[intOf];omega⟩;rw[HF.o,if_pos trivial,<-List.append_assoc,ay.o,<-Qci,List.length_append];exact a8.o
end
section
open Go.RowKit
theorem Qxw(s:ByteArray)(h:0<s.size):s.data.toList.getLast?=some (s[s.size - 1]'(by omega)):=by
 rw[List.getLast?_eq_getElem?];have:s.data.toList.length=s.size:=by simp
 rw[this,List.getElem?_eq_getElem (by omega)];rfl
theorem Qg7(s:ByteArray)(w:World)(hs:s.size<=1000000) :
 Calls Tryz.prog 269 #[.string s] w fun e w'=>e=.returned (.bool (Qcw s.data.toList))/\w'=w:=by
 have aa:s.data.toList.length=s.size:=by simp
 by_cases h3:s.size<3
 ·have hr:Qcw s.data.toList=false:=by unfold Qcw;rw[decide_eq_false (by omega)];rfl
  have HR:=Qab hr;have ad:(s.size:Int)<3:=by omega
  clear hr aa;go_enter func269,ntmps269;go_wp2;go_ret;exact⟨QaZ HR.o.symm,rfl⟩
 have ad:¬(s.size:Int)<3:=by omega
 by_cases h32:32<s.size
 ·have hr:Qcw s.data.toList=false:=by unfold Qcw;rw[decide_eq_true (by omega),decide_eq_false (by omega)];rfl
  have HR:=Qab hr;have ac:(32:Int)<(s.size:Int):=by omega
  clear hr aa;go_enter func269,ntmps269;go_wp2;go_ret;exact⟨QaZ HR.o.symm,rfl⟩
 have ac:¬(32:Int)<(s.size:Int):=by omega
 have HC:Hid (∀ W,Calls Tryz.prog 285 #[.string s,.string ⟨#[64]⟩] W fun e w'=>e=.returned (.int .i64 (Lib.countByte s.data.toList 64))/\w'=W):=fun W=>Tryz.strings_Count_one s 64 W
 obtain⟨n,hn⟩:∃ n,s.data.toList.count 64=n:=⟨_,rfl⟩;rw[show Lib.countByte s.data.toList 64=n from hn]at HC;by_cases h1:n=1;rotate_left
 ·have hr:Qcw s.data.toList=false:=by unfold Qcw;rw[decide_eq_true (by omega),decide_eq_true (by omega),hn,decide_eq_false h1];rfl
  have HR:=Qab hr;have h1':((n:Int) != 1)=true:=by simp;omega
  clear hr aa hn;go_enter func269,ntmps269;go_wp2_with (go_at_call 285;refine(HC.o _).mono ?_;rintro e w' ⟨rfl,rfl⟩);go_ret;exact⟨QaZ HR.o.symm,rfl⟩
 subst h1;have ab:0<s.size:=by omega
 have hr:Qcw s.data.toList=((s.data.toList.drop 0).all (fun c=>!Qa8 c.toNat)&&(!(s[0]==64) && !(s[s.size - 1]==64))):=by
  unfold Qcw;rw[decide_eq_true (by omega),decide_eq_true (by omega),hn,Qqm s ab,Qxw s ab];rfl
 have HR:=Qab hr;clear hr hn;go_enter func269,ntmps269;go_wp2_with (go_at_call 285;refine(HC.o _).mono ?_;rintro e w' ⟨rfl,rfl⟩)
 go_loop [19] (fun i=>∃ k:Nat,k<=s.size/\i=.int .i64 k/\(s.data.toList.drop 0).all (fun c=>!Qa8 c.toNat)=(s.data.toList.drop k).all (fun c=>!Qa8 c.toNat)) (fun i=>s.size - (intOf i).toNat)
 case atStart=>exact⟨0,by omega,rfl,rfl⟩
 case round=>
  obtain⟨k,hk,rfl,hn⟩:=hrel;have HN:=Qab hn;clear hn;by_cases hlt:k<s.size;rotate_left
  ·have HS:=Qab (Qun s (fun c=>!Qa8 c.toNat) k (by omega));have e0:((s[0].toNat:Int) != 64)=!(s[0]==64):=by rw[bne,show((s[0].toNat:Int)==64)=decide (s[0]=64)from Qfr s[0] 64];by_cases h:s[0]=64<;>simp[h]
   have e1:((s[s.size - 1].toNat:Int) != 64)=!(s[s.size - 1]==64):=by rw[bne,show((s[s.size - 1].toNat:Int)==64)=decide (s[s.size - 1]=64)from Qfr _ 64];by_cases h:s[s.size - 1]=64<;>simp[h]
   have hk':¬(k:Int)<(s.size:Int):=by omega
   generalize (s[0]==64)=b0 at *;generalize (s[s.size - 1]==64)=b1 at *;have hm1:(s.size:Int) - 1=((s.size - 1:Nat):Int):=by omega
   have hm2:((s.size - 1:Nat):Int)<(s.size:Int):=by omega
   cases b0<;>cases b1 <;>
   (go_wp2
    go_ret
    exact ⟨QaZ (by rw [HR.o,HN.o,HS.o];rfl),rfl⟩)
  have HS:=Qab (QwL s (fun c=>!Qa8 c.toNat) k hlt);cases hc:Qa8 (s[k].toNat:Int)
  ·go_wp2_with (go_at_call 231;refine(QcO _ _).mono ?_;rintro e w' ⟨rfl,rfl⟩);go_round
   case rel=>exact⟨k+1,by omega,by go_num,by rw[HN.o,HS.o,hc];rfl⟩
   case measure=>simp[intOf];omega
  ·go_wp2_with (go_at_call 231;refine(QcO _ _).mono ?_;rintro e w' ⟨rfl,rfl⟩);go_ret;exact⟨QaZ (by rw[HR.o,HN.o,HS.o,hc];rfl),rfl⟩
end
section
open Go.RowKit
attribute [local go_sem ↓] Go.wp_at_zero Go.wp_at_succ
theorem Tryz.infoAction:(Tryz.prog.info? 52).map (fun i=>(i.zero,i.size,i.bytes))=some (some (.agg #[.int .i64 0,.string ⟨#[]⟩]),2,24):=by kernel_rfl
theorem QvE(a b:Int×L8)(W:World):(binOp .eql 52 (.agg #[.int .i64 a.1,.string (Qaf a.2)]) (.agg #[.int .i64 b.1,.string (Qaf b.2)])).run Tryz.prog W=.ok (.bool (decide (a=b))) W:=by
 have e1:((Qaf a.2).toList==(Qaf b.2).toList)=decide (a.2=b.2):=QqM a.2 b.2;have hf:Tryz.prog.underlying 52=some (.struct (Tryz.prog.fieldsOf 52)):=by kernel_rfl
 have hs:Tryz.prog.stoodInHeld 52=false:=by kernel_rfl
 have hl:(Tryz.prog.fieldsOf 52).toList=[⟨ "Kind",3,0,false, "", "",0⟩,⟨ "Arg",9,1,false, "", "",8⟩]:=by kernel_rfl
 rw[run_eql_struct,run_equalIn_struct W _ _ _ _ hf hs,hl];simp[Op.eqFields,go_sem,Result.andThen,e1];obtain⟨x,y⟩:=a;obtain⟨z,u⟩:=b;by_cases h1:x=z<;>by_cases h2:y=u<;>simp[h1,h2]
def Qu5 (a:Int×L8) (l:List (Int×L8)):Bool:=l.any fun x=>decide (a=x)
theorem Qrq(a:Int×L8)(l:List (Int×L8)):Qu5 a l=true↔a∈l:=by
 unfold Qu5;simp
theorem QlS(a:Int×L8)(l:List (Int×L8))(k:Nat)(h:k<l.length):Qu5 a (l.drop k)=(decide (a=l[k]) || Qu5 a (l.drop (k+1))):=by
 rw[List.drop_eq_getElem_cons h];rfl
def geB (i:Int):Bool:=decide (0≤i)
theorem Qou(base:Nat)(met:List (Int×L8))(mv:Value)(a:Int×L8)(w:World)(ho:w.ownsRow base 52 2 mv met.length (Qcp met))(hl:met.length<=1000000) :
 Calls Tryz.prog 286 #[mv,.agg #[.int .i64 a.1,.string (Qaf a.2)]] w fun e w'=>∃ i:Int,e=.returned (.int .i64 i)/\geB i=Qu5 a met/\Below w.heap.size w w':=by
 obtain⟨la,lc,ag⟩:=QaD ho;subst ag;have HO:=Qab ho;have HE:=Qab QvE;clear ho;go_enter func286,ntmps286;go_wp2
 go_loopw [5,8] (fun _ i wr=>∃(k:Nat),k<=met.length/\i=.int .i64 (k:Int)/\Below w.heap.size w wr/\wr.cell? ⟨w.heap.size,0,none⟩=some (.int .i64 a.1)/\wr.cell? ⟨w.heap.size,1,none⟩=some (.string (Qaf a.2))/\Qu5 a met=Qu5 a (met.drop k)) (fun _ i _=>met.length - (intOf i).toNat)
 case atStart=>exact⟨0,Nat.zero_le _,rfl,(Below.refl _ _).alloc (Nat.le_refl _) _,(QkB _ _ _ _).1,(QkB _ _ _ _).2,rfl⟩
 case round=>
  obtain⟨k,hk,rfl,hB,p0,p1,aa⟩:=hrel;have HB:=Qab hB;have HA:=Qab aa;have hwr:=hB.size;clear hB aa;by_cases hlt:k<met.length;rotate_left
  ·have ae:¬(k:Int)<(met.length:Int):=by omega
   have HD:=Qab (QeX met k hlt);go_wp2;go_ret;exact⟨-1,rfl,by rw[HA.o,HD.o];rfl,HB.o⟩
  have ae:(k:Int)<(met.length:Int):=by omega
  obtain⟨g,c,af,hbg,ad,hcells⟩:=Qc6 HO.o (by omega);injection af with hla1 hla2 hla3
  subst hla1;have ab:=Qhk met k hlt;have c1:wr.cell? ⟨g,k*2,none⟩=some (.int .i64 met[k].1):=by rw[HB.o.cell (p:=⟨g,k*2,none⟩) ad];exact hcells _ _ ab.1
  have c2:wr.cell? ⟨g,k*2+1,none⟩=some (.string (Qaf met[k].2)):=by rw[HB.o.cell (p:=⟨g,k*2+1,none⟩) ad];exact hcells _ _ ab.2
  have HD:=Qab (QlS a met k hlt);have ac:∀ W,(binOp .eql 52 (.agg #[.int .i64 a.1,.string (Qaf a.2)]) (.agg #[.int .i64 met[k].1,.string (Qaf met[k].2)])).run Tryz.prog W=.ok (.bool (decide (a=met[k]))) W:=QvE a met[k];clear hcells ab hla3;cases hb:decide (a=met[k])
  ·rw[hb]at HD;simp only[hb]at ac;go_wp2_with fail;go_quiet (fail)
   all_goals go_wp2
   go_roundw
   case rel=>exact⟨k+1,by omega,by go_num,QbG HB.o,p0,p1,by rw[HA.o,HD.o];rfl⟩
   case measure=>simp[intOf];omega
  ·rw[hb]at HD;simp only[hb]at ac;go_wp2_with fail;go_quiet (fail)
   all_goals go_wp2
   go_ret;exact⟨k,rfl,by rw[HA.o,HD.o];exact(decide_eq_true (by omega):geB (k:Int)=true),QbG HB.o⟩
theorem Qfp(base:Nat)(met:List (Int×L8))(mv:Value)(a:Int×L8)(w:World)(ho:w.ownsRow base 52 2 mv met.length (Qcp met))(hl:met.length<=1000000) :
 Calls Tryz.prog 270 #[mv,.agg #[.int .i64 a.1,.string (Qaf a.2)]] w fun e w'=>e=.returned (.bool (Qu5 a met))/\Below w.heap.size w w':=by
 obtain⟨la,lc,ac⟩:=QaD ho;subst ac;go_enter func270,ntmps270;go_wp2_with fail;refine(Qou base met _ a _ (ho.alloc _) hl).mono ?_;rintro e w1 ⟨i,rfl,hi,aa⟩;have HI:=Qab hi;have ab:=Qab (((Below.refl w.heap.size w).alloc (Nat.le_refl _) _).trans (aa.mono (by simp)));clear hi aa;go_wp2
 all_goals go_ret
 all_goals exact⟨QaZ (by rw[<-HI.o];rfl),ab.o⟩
end
end Go.Proofs.YtgnkjijocdmniaaGreatDoor
