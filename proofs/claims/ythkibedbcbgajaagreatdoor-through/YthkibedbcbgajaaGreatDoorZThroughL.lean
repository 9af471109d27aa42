import Derived.Lib.SmallJoins
import Derived.Deep.Slices
import Derived.SizedLaws
import Derived.Test.YthkibedbcbgajaaGreatDoorRowsC
import Derived.Test.YthkibedbcbgajaaGreatDoorRowsD
namespace Go.Proofs.YthkibedbcbgajaaGreatDoor
set_option linter.unusedVariables false
set_option linter.unusedSimpArgs false
set_option maxRecDepth 100000
set_option maxHeartbeats 4000000
open Go.Proofs.Tryz
section
open Go.ChangeShapes Go.WideShapes Go.ChangeAt Go.WideMaps Go.WideElems Go.RowKit Go.Joins Go.Deep
theorem Tryz.cellsMsg:Tryz.prog.cellsOf 28=4:=by kernel_rfl
theorem Tryz.cellsHdr:Tryz.prog.cellsOf 25=2:=by kernel_rfl
theorem Tryz.bytesHdr:Tryz.prog.bytesOf 25=32:=by kernel_rfl
theorem Tryz.cellsStr:Tryz.prog.cellsOf 9=1:=by kernel_rfl
theorem Tryz.oneMsg:oneCellFields Tryz.prog #[{ name:= "From",type:=9,offset:=0,embedded:=false,tag:= "",pkgPath:= "",byteOffset:=0 },{ name:= "To",type:=9,offset:=1,embedded:=false,tag:= "",pkgPath:= "",byteOffset:=16 },{ name:= "Size",type:=3,offset:=2,embedded:=false,tag:= "",pkgPath:= "",byteOffset:=32 },{ name:= "Headers",type:=26,offset:=3,embedded:=false,tag:= "",pkgPath:= "",byteOffset:=40 }]=true:=by kernel_rfl
theorem Qp6:reachBytes=140737488351232:=rfl
theorem Qfs{H:Type}{P:Program}{e:TypeId}:∀ {l:List (DataW H)} {d:DataW H},d∈l->∀ n∈d.weights P e,n∈DataW.weightsAll P e l
 |d'::r,d,hd,n,hn=>by
  simp only[DataW.weightsAll,List.mem_append];rcases List.mem_cons.1 hd with rfl|h
  ·exact Or.inl hn
  ·exact Or.inr (Qfs h n hn)
theorem QdQ(s:ByteArray):sA s.data.toList=s:=by
 cases s;rfl
theorem QuF{H:Type}{enc:TypeId×Value->H}{W:World}{aa:Nat->Bool}{ac:Bool}{n:Nat}{cs:List Value}{y:DataW H×List MemPlace}(h:DataW.trod enc Tryz.prog W 0 aa ac n 25 cs=some y) :
 ∃ a b:ByteArray,cs=[.string a,.string b]/\y.1=.agg [.lit (.string a.data.toList),.lit (.string b.data.toList)]:=by
 obtain⟨y0,y1,m,hx,hl,h0,h1⟩:=trod_struct2 underlying25 h;rw[Tryz.cellsHdr]at hl
 obtain⟨c0,c1,rfl⟩:∃ c0 c1,cs=[c0,c1]:=by
  match cs,hl with
  | [c0,c1],_=>exact⟨c0,c1,rfl⟩
 obtain⟨a,e0,f0,_⟩:=DataW.trod_string underlying9 h0;obtain⟨b,e1,f1,_⟩:=DataW.trod_string underlying9 h1;rw[Tryz.cellsStr]at e0 e1;have ad:[c0]=[Value.string a]:=e0;have ab:[c1]=[Value.string b]:=e1;injection ad with ad
 injection ab with ab
 subst ad ab f0 f1;exact⟨a,b,rfl,by rw[hx]⟩
theorem QuV{H:Type}{enc:TypeId×Value->H}{W:World}{r:Reach}{b0:Nat}{v:Value}{d:DataW H}{p:List MemPlace}(hv:Value.okWide Tryz.prog W r b0 28 v)(h:DataW.Trod enc Tryz.prog W 0 (fun _=>true) true 28 v d p)
 (hw:∀ k∈d.weights Tryz.prog 28,k<=reachBytes):∃(M:Msg) (hv:Value),v=QfV M hv/\Qq5 W hv M.hdrs/\Qyc M:=by
 obtain⟨c0,c1,c2,c3,y0,y1,y2,y3,n,rfl,rfl,rfl,h0,h1,h2,h3⟩:=open_agg4 underlying28 Tryz.oneMsg Tryz.cellsMsg hv h;obtain⟨fr,e0,f0,_⟩:=DataW.trod_string underlying9 h0;obtain⟨ac,e1,f1,_⟩:=DataW.trod_string underlying9 h1;obtain⟨sz,e2,f2,_⟩:=DataW.trod_int underlying3 h2;injection e0 with e0
 injection e1 with e1
 injection e2 with e2
 subst e0 e1 e2 f0 f1 f2
 have aq:(DataW.agg [DataW.lit (Lit.string fr.data.toList),DataW.lit (Lit.string ac.data.toList),DataW.lit (Lit.int .i64 sz),y3.1]:DataW H).weights Tryz.prog 28=[fr.data.toList.length,ac.data.toList.length]++(y3.1.weights Tryz.prog 26):=by
  simp[DataW.weights,DataW.weightsEach,underlying28]
 rw[aq]at hw;have hr:=Qp6;have w1:=hw fr.data.toList.length (by simp);have w2:=hw ac.data.toList.length (by simp);have w3:∀ k∈y3.1.weights Tryz.prog 26,k<=reachBytes:=fun k hk=>hw k (List.mem_append_right _ hk)
 clear hw aq
 have ap:∀(hs:List (L8×L8)),(∀ x∈hs,x.1.length<=reachBytes/\x.2.length<=reachBytes)->hs.length<=reachBytes->Qyc ⟨fr.data.toList,ac.data.toList,sz,hs⟩:=fun hs h1 h2=>
  ⟨by show fr.data.toList.length<=_;omega,by show ac.data.toList.length<=_;omega,by show hs.length<=_;omega,fun x hx=>by have:=h1 x hx;omega⟩
 rcases open_slice underlying26 h3 with⟨ad,hx⟩ | ⟨a,aa,ar,m,nn,D,Pl,ad,_,hl,hm,av,hx,ao⟩
 ·injection ad with ad
  subst ad;refine⟨⟨fr.data.toList,ac.data.toList,sz,[]⟩,.slice none 0 0,?_,⟨none,0,rfl,fun h=>absurd rfl h⟩,ap [] (fun x hx=>nomatch hx) (Nat.zero_le _)⟩;unfold QfV;rw[QdQ,QdQ]
 ·injection ad with ad
  subst ad;have aw:m=ar:=by rw[av];rfl
  subst aw;rw[Tryz.cellsHdr]at ao
  have az:∀ i,i<aa->∃ x:ByteArray×ByteArray,W.cell? (a.add (i*2))=some (.string x.1)/\W.cell? ((a.add (i*2)).add 1)=some (.string x.2)/\D i=.agg [.lit (.string x.1.data.toList),.lit (.string x.2.data.toList)]:=fun i hi=>by
   obtain⟨cs',hc,ht⟩:=ao i (by omega);obtain⟨x,y,rfl,hd⟩:=QuF ht;obtain⟨_,_,ab⟩:=World.cells?_some hc;refine⟨(x,y),?_,?_,hd⟩
   ·have:=ab 0 (by omega);simpa[Addr.add]using this
   ·have:=ab 1 (by omega);simpa using this
  obtain⟨f,hf⟩:=choose_lt (α:=ByteArray×ByteArray) az;have hs:∃ hs:List (L8×L8),hs=(List.range aa).map fun i=>((f i).1.data.toList,(f i).2.data.toList):=⟨_,rfl⟩
  obtain⟨hs,ak⟩:=hs;have ah:hs.length=aa:=by rw[ak];simp
  have af:∀ j (hj:j<hs.length),hs[j]=((f j).1.data.toList,(f j).2.data.toList):=fun j hj=>by simp[ak]
  have hwy:∀ k∈DataW.weights Tryz.prog 26 (.slice ((List.range aa).map D) ((List.range (m - aa)).map fun j=>D (aa+j))),k<=reachBytes:=fun k hk=>w3 k (by rw[hx];exact hk)
  have hlen:(aa+(m - aa))*32<=reachBytes:=hwy _ (by simp[DataW.weights,underlying26,Tryz.bytesHdr]);refine⟨⟨fr.data.toList,ac.data.toList,sz,hs⟩,.slice (some a) aa m,?_,⟨some a,m,by rw[ah],fun hne=>?_⟩,ap hs (fun x hx'=>?_) (by omega)⟩
  ·unfold QfV;rw[QdQ,QdQ]
  ·have ag:0<aa:=by rw[<-ah];exact List.length_pos_iff.2 hne
   obtain⟨b,aj,ai⟩:=a
   have ae:ai=none:=by
    have:=World.cell?_spot (hf 0 ag).1;simpa[Addr.add]using this
   subst ae;refine⟨b,aj,rfl,fun j hj=>?_⟩;have ax:j<aa:=by rw[<-ah];exact hj
   obtain⟨g1,g2,_⟩:=hf j ax;rw[Addr.add_lit]at g1;rw[Addr.add_lit,Addr.add_lit]at g2;have hg:=af j hj;show W.cell? ⟨b,aj+j*2,none⟩=some (.string (sA hs[j].1))/\W.cell? ⟨b,aj+j*2+1,none⟩=some (.string (sA hs[j].2))
   rw[hg];dsimp only;rw[QdQ,QdQ];exact⟨g1,g2⟩
  ·rw[ak]at hx';obtain⟨i,hi,rfl⟩:=List.mem_map.1 hx';have ay:i<aa:=List.mem_range.1 hi;obtain⟨_,_,hd⟩:=hf i ay;have hmem:D i∈(List.range aa).map D:=List.mem_map.2 ⟨i,hi,rfl⟩
   have hall:∀ k∈(D i).weights Tryz.prog 25,k≤reachBytes:=fun k hk=>hwy k (by
    simp only[DataW.weights,underlying26,List.mem_cons,List.mem_append]
    exact Or.inr (Or.inl (Qfs hmem k hk)))
   rw[hd]at hall
   have au:(DataW.agg [DataW.lit (Lit.string (f i).1.data.toList),DataW.lit (Lit.string (f i).2.data.toList)]:DataW H).weights Tryz.prog 25=[(f i).1.data.toList.length,(f i).2.data.toList.length]:=by
    simp[DataW.weights,DataW.weightsEach,underlying25]
   rw[au]at hall;exact⟨hall _ (by simp),hall _ (by simp)⟩
end
section
open Go.ChangeShapes Go.WideShapes Go.ChangeAt Go.WideMaps Go.WideElems Go.RowKit
open Go.ChangeMaps (open_string shut_string)
section
variable {H:Type} {enc:TypeId×Value→H} {P:Program} {w:World} {base:Nat} {spare:Nat→Bool} {held:Bool}
theorem Qmk{t t' ag t3 t4:TypeId}{args:Array Value}{ds:List (DataW H)}{ps:List MemPlace}(h:DataW.TrodAll enc P w base spare held [t,t',ag,t3,t4] args.toList ds ps) :
 ∃ v v' v'' v3 v4 d d' d'' d3 d4 p p' p'' p3 p4,args=#[v,v',v'',v3,v4]/\ds=[d,d',d'',d3,d4]/\ps=p++(p'++(p''++(p3++p4)))/\DataW.Trod enc P w base spare held t v d p/\DataW.Trod enc P w base spare held t' v' d' p'/\DataW.Trod enc P w base spare held ag v'' d'' p''/\DataW.Trod enc P w base spare held t3 v3 d3 p3/\DataW.Trod enc P w base spare held t4 v4 d4 p4:=by
 obtain⟨v,vs,d,ds',p,q,hargs,rfl,rfl,hd,ae⟩:=trodAll_cons h;obtain⟨v',vs',d',ds'',p',q',rfl,rfl,rfl,ah,ac⟩:=trodAll_cons ae;obtain⟨v'',vs'',d'',ds''',p'',q'',rfl,rfl,rfl,af,aa⟩:=trodAll_cons ac;obtain⟨v3,vs3,d3,ds3,p3,q3,rfl,rfl,rfl,aj,ad⟩:=trodAll_cons aa;obtain⟨v4,vs4,d4,ds4,p4,q4,rfl,rfl,rfl,ai,ab⟩:=trodAll_cons ad;obtain⟨rfl,rfl,rfl⟩:=trodAll_nil ab;exact⟨v,v',v'',v3,v4,d,d',d'',d3,d4,p,p',p'',p3,p4,by cases args;simp_all,rfl,by simp,hd,ah,af,aj,ai⟩
theorem QoU{t t' t'' t3 t4:TypeId}{v v' v'' v3 v4:Value}{d d' d'' d3 d4:DataW H}{p p' p'' p3 p4:List MemPlace}(h:DataW.Trod enc P w base spare held t v d p)(h':DataW.Trod enc P w base spare held t' v' d' p')
 (h'':DataW.Trod enc P w base spare held t'' v'' d'' p'') (h3:DataW.Trod enc P w base spare held t3 v3 d3 p3) (h4:DataW.Trod enc P w base spare held t4 v4 d4 p4):DataW.TrodAll enc P w base spare held [t,t',t'',t3,t4] [v,v',v'',v3,v4] [d,d',d'',d3,d4] (p++(p'++(p''++(p3++p4)))):=⟨p,p'++(p''++(p3++p4)),h,trodAll_mk4 h' h'' h3 h4,rfl⟩
end
theorem Qwj{k:Int}(hk:(decide (IntKind.i64.min<=k)&&decide (k<=IntKind.i64.max))=true):-9223372036854775808<=k/\k<=9223372036854775807:=by
 simp only[Bool.and_eq_true,decide_eq_true_eq]at hk;have e1:IntKind.i64.min = -9223372036854775808:=by decide
 have e2:IntKind.i64.max=9223372036854775807:=by decide
 omega
theorem Qjk(os:Os)(ab:os.Started)(H:Type)(enc:TypeId×Value->H) :
 ReturnsInHanded {} Tryz.checked os 5 .any (fun w args=>(Rows.throughSpec.pre enc Tryz.prog Tryz.f5 [] false w args/\laidMetH Tryz.prog QtU w)/\sizedMet enc Tryz.prog Tryz.f5 (OpenSpec.ofChange Rows.throughSpec) false w args)
  (Rows.throughSpec.post enc Tryz.prog Tryz.f5 false true false false):=by
 refine Qrr (C:=Tryz.checked) (X:=fun w _=>laidMetH Tryz.prog QtU w) (fun _ _ _ hh h=>h.of_heap hh) Tryz.ownD ab (by kernel_rfl) func5
  (ChangeSpec.witness_shaped (enc:=enc) (C:=Tryz.checked) (os:=os) (X:=fun w _=>laidMetH Tryz.prog QtU w) false (World.doorLaid Tryz.prog 400 os) #[.string ⟨#[]⟩,.agg #[.string ⟨#[]⟩,.string ⟨#[]⟩,.int .i64 0,.slice none 0 0],.int .i64 0,.int .i64 0,.int .i64 0] 8 rfl (World.shaped_of_RefB (by kernel_rfl) (by kernel_rfl)) (by kernel_rfl) (by kernel_rfl) (by kernel_rfl) (QtQ os _)) ?_
 intro W af args ds gs before ae hW ak hL aq;have aa:∀(j:Nat) t v,Tryz.f5.params[j]?=some t->args[j]?=some v->Value.okWide Tryz.prog W .any af t v:=ae;have ah:=hW;obtain⟨p,q,ao,hV,rfl,hfz,hnd⟩:=hW;have hA:DataW.TrodAll enc Tryz.prog W 0 (fun _=>true) true Tryz.f5.params.toList args.toList ds p:=ao;rw[Tryz.params5]at hA aa;obtain⟨v0,v1,v2,v3,v4,d0,d1,d2,d3,d4,p0,p1,p2,p3,p4,rfl,rfl,au,h0,h1,h2,h3,h4⟩:=Qmk hA;obtain⟨rfl,rfl⟩:=trodVars_none hV;have ap:∀ x∈p,x.block<W.heap.size:=fun x hx=>ah.lt x (by simp[hx])
 obtain⟨s,rfl,rfl,rfl,hs⟩:=open_string underlying9 (aa 0 9 v0 rfl rfl) h0;obtain⟨M,hv,rfl,hG,ar⟩:=QuV (aa 1 28 v1 rfl rfl) h1 (fun k hk=>of_decide_eq_true (List.all_eq_true.1 ak k (DataW.weights_mem_each (j:=1) (t:=28) (d:=d1) rfl rfl k hk)));obtain⟨ag,rfl,rfl,rfl,aj⟩:=open_int underlying3 (aa 2 3 v2 rfl rfl) h2;obtain⟨ad,rfl,rfl,rfl,av⟩:=open_int underlying3 (aa 3 3 v3 rfl rfl) h3;obtain⟨ac,rfl,rfl,rfl,ai⟩:=open_int underlying3 (aa 4 3 v4 rfl rfl) h4;have hE:=Qvg hL
 have aw:s.size<=140737488355328:=by
  have h:=sized_string (j:=0) (t:=9) (bytes:=s.data.toList) ak (by rfl) (by rfl);have e:s.data.toList.length=s.size:=by simp
  have e2:=Qp6;omega
 have e1:Rows.throughSpec.fn H ([.lit (.string s.data.toList),d1,.lit (.int .i64 ag),.lit (.int .i64 ad),.lit (.int .i64 ac)]++[])={ results:=[.lit (.bool true)],args:=[.lit (.string s.data.toList),d1,.lit (.int .i64 ag),.lit (.int .i64 ad),.lit (.int .i64 ac)] }:=by simp[Rows.throughSpec]
 refine(Qjj s M hv ag ad ac W ⟨Qw6 aq,hE.err,hE.tab⟩ hE aw hG ar (Qwj aj) (Qwj ai)).mono fun e W' ⟨he,hb⟩=>?_
 subst he;refine⟨_,rfl,_,_,_,[],p,[],ah,?_,?_,?_,hb.frame _,fun h=>by cases h⟩
 ·rw[e1];exact trodAll_mk1 (shut_bool underlying4 true)
 ·rw[e1];subst au;exact QoU (shut_string underlying9 hs) (Below.trod Qvo (by kernel_rfl) (by rw[Tryz.tyCountD];decide) h1 hb (fun x hx=>ap x (by simp[hx]))) (shut_int underlying3 aj) (shut_int underlying3 av) (shut_int underlying3 ai)
 ·rw[e1];rfl
end
end Go.Proofs.YthkibedbcbgajaaGreatDoor
