import Derived.Test.YtbiclelojbfnbaaGreatDoorRows
import Derived.ProofKit
import Derived.LaidMore
import Derived.OpenShut
import Derived.Stop.Joined
import Derived.LaidHandle
import Derived.Stop.LaidErr
import Derived.Lib.LaidTab
import Derived.HandedShaped
import Derived.Shelf.Vars
import Derived.Lib.SmallJoins
import Derived.Deep.Slices
import Derived.Carry
import Derived.SizedLaws
import Derived.Test.YtbiclelojbfnbaaGreatDoorTie
import Derived.Test.YtbiclelojbfnbaaGreatDoorCards
import Derived.SevenTiedAt
import Derived.Test.YtbiclelojbfnbaaGreatDoorAgreedF
import Derived.Test.YtbiclelojbfnbaaGreatDoorZAgreedW
import Derived.Test.YtbiclelojbfnbaaGreatDoorZKSmall
import Derived.Test.YtbiclelojbfnbaaGreatDoorZLaws
namespace Go.Proofs.YtbiclelojbfnbaaGreatDoor
set_option linter.unusedVariables false
set_option linter.unusedSimpArgs false
set_option maxRecDepth 100000
set_option maxHeartbeats 4000000
section
open Go.ChangeShapes Go.WideShapes Go.ChangeAt Go.WideMaps Go.WideElems Go.RowKit
open Go.ChangeMaps (open_string shut_string)
theorem Tryz.own:ownKnob Tryz.prog.godebug=none:=by kernel_rfl
theorem Tryz.gErr:Tryz.prog.globalNamed "errors.errorType"=some 0:=by kernel_rfl
theorem Tryz.gPow:Tryz.prog.globalNamed "internal/strconv.uint64pow10"=some 2:=by kernel_rfl
theorem Tryz.rtypeT:(Tryz.prog.cutTypes.find? (·.1 == "internal/reflectlite.rtype")).map (·.2)=some 288:=by kernel_rfl
theorem Tryz.tyCount:Tryz.prog.types.size=539:=by kernel_rfl
theorem Tryz.oneRow:((List.range 539).filter fun t=>Tryz.prog.rowNamed t [101,114,114,111,114])=[90]:=by kernel_rfl
theorem Tryz.powTy:(Tryz.prog.globals[2]?).map (·.type)=some 484:=by kernel_rfl
def laid4:List (String×DataW Unit):=[("math/bits.deBruijn32tab",Rows.laid_math_bits_deBruijn32tab),("math/bits.deBruijn64tab",Rows.laid_math_bits_deBruijn64tab),("internal/strconv.uint64pow10",Rows.laid_internal_strconv_uint64pow10),("errors.errorType",Rows.laid_errors_errorType)]
theorem of_laid {W:World} (h:laidMetH Tryz.prog laid4 W):ErrT W∧Tab W:=by
 have h':laidMet Tryz.prog [("math/bits.deBruijn32tab",Rows.laid_math_bits_deBruijn32tab),("math/bits.deBruijn64tab",Rows.laid_math_bits_deBruijn64tab),("internal/strconv.uint64pow10",Rows.laid_internal_strconv_uint64pow10)] W∧handlesMet Tryz.prog [("errors.errorType",Rows.laid_errors_errorType)] W:=h
 refine ⟨?_,?_⟩
 ·obtain ⟨name,u,ty,e1,e2,e3,e4,e5⟩:=h'.2 _ (List.mem_singleton.2 rfl)
  have en:name=[101,114,114,111,114]:=(Option.some.inj e1).symm
  subst en
  obtain rfl:=Option.some.inj (Tryz.rtypeT.symm.trans e2)
  have hm:ty∈(List.range 539).filter fun t=>Tryz.prog.rowNamed t [101,114,114,111,114]:=List.mem_filter.2 ⟨List.mem_range.2 (by rw [← Tryz.tyCount];exact e3),e4⟩
  rw [Tryz.oneRow] at hm
  obtain rfl:=List.mem_singleton.1 hm
  have hh:typeHandle Tryz.prog 90=.pointer (some ⟨7,90,none⟩):=by kernel_rfl
  rw [hh] at e5
  have:=World.var?_cell Tryz.gErr e5 0
  unfold ErrT
  simpa using this
 ·have h3:=laidMet.tail (laidMet.tail h'.1)
  exact Lib.tabIs_of_head Tryz.gPow Tryz.powTy Tryz.underlying484 Tryz.underlying356 (by kernel_rfl) (by kernel_rfl) h3
theorem door_met (os:Os) (args:Array Value):laidMetH Tryz.prog laid4 ((World.doorLaid Tryz.prog 400 os).forCall (fun _ _=>0) ⟨#[],args,[]⟩).memory:=
 laidMetH_of_parts3 (fuel:=8) (laidMet_of_run' 70 (by kernel_rfl) (by kernel_rfl)) (by kernel_rfl) (by kernel_rfl)
theorem wrap_both {H:Type} {enc:TypeId×Value→H} {a:Assume} {C:Checked} {os:Os} {f:FuncId} {fn:Func} {s:ChangeSpec} {conds:List PathCond} {apart fresh handsOn again:Bool} {X:World→Array Value→Prop}
  (hX:∀ (w w':World) (args:Array Value),w.heap=w'.heap→X w args→X w' args)
  (own:ownKnob C.prog.godebug=none) (started:os.Started) (noInit:C.prog.inits.idxOf? f=none) (hfn:C.prog.funcs[f]?=some fn)
  (witness:∃ (w:World) (tape:Tape) (i:Input),w.os=os∧(w.forCall tape i).Shaped C.prog∧i.vars=[]∧Input.okWide C.prog (w.forCall tape i) .any w.heap.size f i∧
   ((s.pre enc C.prog fn conds apart (w.forCall tape i).memory i.args∧X (w.forCall tape i).memory i.args)∧sizedMet enc C.prog fn (OpenSpec.ofChange s) apart (w.forCall tape i).memory i.args)∧a.holds C.prog (lone (Frame.enter C.prog f i.args .normal) [] (w.forCall tape i)))
  (contract:∀ (W:World) (base:Nat) (args:Array Value) (ds gs:List (DataW H)) (before:List MemPlace),
   (∀ (j:Nat) t v,fn.params[j]?=some t→args[j]?=some v→Value.okWide C.prog W .any base t v)→
   DataW.Whole enc C.prog fn.params.toList s.vars apart W args.toList ds gs before→
   (DataW.weightsEach C.prog (fn.params.toList++s.plain.varTypes C.prog) (ds++gs)).all (·≤reachBytes)=true→X W args→W.ShapedOpen C.prog→
   Calls C.prog f args W fun e W'=>∃ v,e=.returned v∧s.post enc C.prog fn apart fresh handsOn again W args v W') :
  ReturnsInHanded a C os f .any (fun w args=>(s.pre enc C.prog fn conds apart w args∧X w args)∧sizedMet enc C.prog fn (OpenSpec.ofChange s) apart w args) (s.post enc C.prog fn apart fresh handsOn again):=by
 refine returnsInHanded_of_calls own started noInit witness ?_
 intro w tape i _ hsh _ hok hpre _
 obtain ⟨_,_,_,fn',hfn',_,_,_,_,hval⟩:=hok
 have e:fn'=fn:=Option.some.inj (hfn'.symm.trans hfn)
 subst e
 obtain ⟨⟨⟨ds,gs,before,hw,hc⟩,hx⟩,hz⟩:=hpre
 have hw':=DataW.Whole.of_heap (w':=w.forCall tape i) (by rfl) hw
 refine (contract (w.forCall tape i) w.heap.size i.args ds gs before hval hw' (hz.weights hw) (hX _ _ _ (by rfl) hx) hsh).mono fun e W' ⟨v,he,hp⟩=>?_
 subst he
 exact ChangeSpec.post_blind hp
theorem max_any {W:World} (h:W.ShapedOpen Tryz.prog):∃ m,W.cell? ⟨1,0,none⟩=some (.int .i64 m):=
 cell_of_shapedOpen_int (g:=1) (t:=3) (zero:=#[.int .i64 0]) h (by rw [show Tryz.prog.globals.size=7 by kernel_rfl];decide) (by kernel_rfl) rfl (by kernel_rfl) (by kernel_rfl) Tryz.underlying3
end
section
open Go.ChangeShapes Go.WideShapes Go.ChangeAt Go.WideMaps Go.WideElems Go.RowKit Go.Joins Go.Deep
theorem Tryz.laidOut:laidOutB Tryz.prog=true:=by kernel_rfl
theorem Tryz.cellsMsg:Tryz.prog.cellsOf 48=4:=by kernel_rfl
theorem Tryz.cellsHdr:Tryz.prog.cellsOf 100=2:=by kernel_rfl
theorem Tryz.bytesHdr:Tryz.prog.bytesOf 100=32:=by kernel_rfl
theorem Tryz.cellsStr:Tryz.prog.cellsOf 9=1:=by kernel_rfl
theorem Tryz.oneMsg:oneCellFields Tryz.prog #[{ name:= "From",type:=9,offset:=0,embedded:=false,tag:= "",pkgPath:= "",byteOffset:=0 },{ name:= "To",type:=9,offset:=1,embedded:=false,tag:= "",pkgPath:= "",byteOffset:=16 },{ name:= "Size",type:=3,offset:=2,embedded:=false,tag:= "",pkgPath:= "",byteOffset:=32 },{ name:= "Headers",type:=46,offset:=3,embedded:=false,tag:= "",pkgPath:= "",byteOffset:=40 }]=true:=by kernel_rfl
theorem reach_eq:reachBytes=140737488351232:=rfl
theorem weightsAll_mem {H:Type} {P:Program} {e:TypeId}:∀ {l:List (DataW H)} {d:DataW H},d∈l→∀ n∈d.weights P e,n∈DataW.weightsAll P e l
 | d' :: r,d,hd,n,hn=>by
  simp only [DataW.weightsAll,List.mem_append]
  rcases List.mem_cons.1 hd with rfl | h
  ·exact Or.inl hn
  ·exact Or.inr (weightsAll_mem h n hn)
theorem strA_back (s:ByteArray):strA s.data.toList=s:=by
 cases s
 rfl
end
section
open Go.ChangeShapes Go.WideShapes Go.ChangeAt Go.WideMaps Go.WideElems Go.RowKit Go.Joins Go.Deep
theorem open_hdr {H:Type} {enc:TypeId×Value→H} {W:World} {spare:Nat→Bool} {held:Bool} {n:Nat} {cs:List Value} {y:DataW H×List MemPlace} (h:DataW.trod enc Tryz.prog W 0 spare held n 100 cs=some y) :
  ∃ a b:ByteArray,cs=[.string a,.string b]∧y.1=.agg [.lit (.string a.data.toList),.lit (.string b.data.toList)]:=by
 obtain ⟨y0,y1,m,hx,hl,h0,h1⟩:=trod_struct2 Tryz.underlying100 h
 rw [Tryz.cellsHdr] at hl
 obtain ⟨c0,c1,rfl⟩:∃ c0 c1,cs=[c0,c1]:=by
  match cs,hl with
  | [c0,c1],_=>exact ⟨c0,c1,rfl⟩
 obtain ⟨a,e0,f0,_⟩:=DataW.trod_string Tryz.underlying9 h0
 obtain ⟨b,e1,f1,_⟩:=DataW.trod_string Tryz.underlying9 h1
 rw [Tryz.cellsStr] at e0 e1
 have e0':[c0]=[Value.string a]:=e0
 have e1':[c1]=[Value.string b]:=e1
 injection e0' with e0'
 injection e1' with e1'
 subst e0' e1' f0 f1
 exact ⟨a,b,rfl,by rw [hx]⟩
theorem open_msg {H:Type} {enc:TypeId×Value→H} {W:World} {r:Reach} {b0:Nat} {v:Value} {d:DataW H} {p:List MemPlace} (hv:Value.okWide Tryz.prog W r b0 48 v) (h:DataW.Trod enc Tryz.prog W 0 (fun _=>true) true 48 v d p)
  (hw:∀ k∈d.weights Tryz.prog 48,k≤reachBytes):∃ (M:Msg) (hv:Value),v=msgV M hv∧HdrG W hv M.hdrs∧MsgB M:=by
 obtain ⟨c0,c1,c2,c3,y0,y1,y2,y3,n,rfl,rfl,rfl,h0,h1,h2,h3⟩:=open_agg4 Tryz.underlying48 Tryz.oneMsg Tryz.cellsMsg hv h
 obtain ⟨fr,e0,f0,_⟩:=DataW.trod_string Tryz.underlying9 h0
 obtain ⟨to_,e1,f1,_⟩:=DataW.trod_string Tryz.underlying9 h1
 obtain ⟨sz,e2,f2,_⟩:=DataW.trod_int Tryz.underlying3 h2
 injection e0 with e0
 injection e1 with e1
 injection e2 with e2
 subst e0 e1 e2 f0 f1 f2
 have hwt:(DataW.agg [DataW.lit (Lit.string fr.data.toList),DataW.lit (Lit.string to_.data.toList),DataW.lit (Lit.int .i64 sz),y3.1]:DataW H).weights Tryz.prog 48=[fr.data.toList.length,to_.data.toList.length]++(y3.1.weights Tryz.prog 46):=by
  simp [DataW.weights,DataW.weightsEach,Tryz.underlying48]
 rw [hwt] at hw
 have hr:=reach_eq
 have w1:=hw fr.data.toList.length (by simp)
 have w2:=hw to_.data.toList.length (by simp)
 have w3:∀ k∈y3.1.weights Tryz.prog 46,k≤reachBytes:=fun k hk=>hw k (List.mem_append_right _ hk)
 clear hw hwt
 have hmk:∀ (hs:List (List UInt8×List UInt8)),(∀ x∈hs,x.1.length≤reachBytes∧x.2.length≤reachBytes)→hs.length≤reachBytes→MsgB ⟨fr.data.toList,to_.data.toList,sz,hs⟩:=fun hs h1 h2=>
  ⟨by show fr.data.toList.length≤_;omega,by show to_.data.toList.length≤_;omega,by show hs.length≤_;omega,fun x hx=>by have:=h1 x hx;omega⟩
 rcases open_slice Tryz.underlying46 h3 with ⟨hcs,hx⟩ | ⟨a,len,cap,m,nn,D,Pl,hcs,_,hl,hm,hmm,hx,hel⟩
 ·injection hcs with hcs
  subst hcs
  refine ⟨⟨fr.data.toList,to_.data.toList,sz,[]⟩,.slice none 0 0,?_,⟨none,0,rfl,fun h=>absurd rfl h⟩,hmk [] (fun x hx=>nomatch hx) (Nat.zero_le _)⟩
  unfold msgV
  rw [strA_back,strA_back]
 ·injection hcs with hcs
  subst hcs
  have hm':m=cap:=by rw [hmm];rfl
  subst hm'
  rw [Tryz.cellsHdr] at hel
  have hex:∀ i,i < len→∃ x:ByteArray×ByteArray,W.cell? (a.add (i*2))=some (.string x.1)∧W.cell? ((a.add (i*2)).add 1)=some (.string x.2)∧D i=.agg [.lit (.string x.1.data.toList),.lit (.string x.2.data.toList)]:=fun i hi=>by
   obtain ⟨cs',hc,ht⟩:=hel i (by omega)
   obtain ⟨x,y,rfl,hd⟩:=open_hdr ht
   obtain ⟨_,_,hcell⟩:=World.cells?_some hc
   refine ⟨(x,y),?_,?_,hd⟩
   ·have:=hcell 0 (by omega)
    simpa [Addr.add] using this
   ·have:=hcell 1 (by omega)
    simpa using this
  obtain ⟨f,hf⟩:=choose_lt (α:=ByteArray×ByteArray) hex
  have hs:∃ hs:List (List UInt8×List UInt8),hs=(List.range len).map fun i=>((f i).1.data.toList,(f i).2.data.toList):=⟨_,rfl⟩
  obtain ⟨hs,hhs⟩:=hs
  have hsl:hs.length=len:=by rw [hhs];simp
  have hget:∀ j (hj:j < hs.length),hs[j]=((f j).1.data.toList,(f j).2.data.toList):=fun j hj=>by simp [hhs]
  have hwy:∀ k∈DataW.weights Tryz.prog 46 (.slice ((List.range len).map D) ((List.range (m - len)).map fun j=>D (len+j))),k≤reachBytes:=fun k hk=>w3 k (by rw [hx];exact hk)
  have hlen:(len+(m - len))*32≤reachBytes:=hwy _ (by simp [DataW.weights,Tryz.underlying46,Tryz.bytesHdr])
  refine ⟨⟨fr.data.toList,to_.data.toList,sz,hs⟩,.slice (some a) len m,?_,⟨some a,m,by rw [hsl],fun hne=>?_⟩,hmk hs (fun x hx'=>?_) (by omega)⟩
  ·unfold msgV
   rw [strA_back,strA_back]
  ·have hpos:0 < len:=by rw [← hsl];exact List.length_pos_iff.2 hne
   obtain ⟨b,off,spot⟩:=a
   have hspot:spot=none:=by
    have:=World.cell?_spot (hf 0 hpos).1
    simpa [Addr.add] using this
   subst hspot
   refine ⟨b,off,rfl,fun j hj=>?_⟩
   have hjl:j < len:=by rw [← hsl];exact hj
   obtain ⟨g1,g2,_⟩:=hf j hjl
   rw [Addr.add_lit] at g1
   rw [Addr.add_lit,Addr.add_lit] at g2
   have hg:=hget j hj
   show W.cell? ⟨b,off+j*2,none⟩=some (.string (strA hs[j].1))∧W.cell? ⟨b,off+j*2+1,none⟩=some (.string (strA hs[j].2))
   rw [hg]
   dsimp only
   rw [strA_back,strA_back]
   exact ⟨g1,g2⟩
  ·rw [hhs] at hx'
   obtain ⟨i,hi,rfl⟩:=List.mem_map.1 hx'
   have hil:i < len:=List.mem_range.1 hi
   obtain ⟨_,_,hd⟩:=hf i hil
   have hmem:D i∈(List.range len).map D:=List.mem_map.2 ⟨i,hi,rfl⟩
   have hall:∀ k∈(D i).weights Tryz.prog 100,k≤reachBytes:=fun k hk=>hwy k (by
    simp only [DataW.weights,Tryz.underlying46,List.mem_cons,List.mem_append]
    exact Or.inr (Or.inl (weightsAll_mem hmem k hk)))
   rw [hd] at hall
   have hwd:(DataW.agg [DataW.lit (Lit.string (f i).1.data.toList),DataW.lit (Lit.string (f i).2.data.toList)]:DataW H).weights Tryz.prog 100=[(f i).1.data.toList.length,(f i).2.data.toList.length]:=by
    simp [DataW.weights,DataW.weightsEach,Tryz.underlying100]
   rw [hwd] at hall
   exact ⟨hall _ (by simp),hall _ (by simp)⟩
end
section
open Go.ChangeShapes Go.WideShapes Go.ChangeAt Go.WideMaps Go.WideElems Go.RowKit
open Go.ChangeMaps (open_string shut_string)
theorem agreed_lifted (os:Os) (started:os.Started) (H:Type) (enc:TypeId×Value→H) :
  ReturnsInHanded {} Tryz.checked os 14 .any (fun w args=>(Rows.agreedSpec.pre enc Tryz.prog Tryz.f14 [] false w args∧laidMetH Tryz.prog laid4 w)∧sizedMet enc Tryz.prog Tryz.f14 (OpenSpec.ofChange Rows.agreedSpec) false w args)
   (Rows.agreedSpec.post enc Tryz.prog Tryz.f14 false true false false):=by
 refine wrap_both (C:=Tryz.checked) (X:=fun w _=>laidMetH Tryz.prog laid4 w) (fun _ _ _ hh h=>h.of_heap hh) Tryz.own started (by kernel_rfl) Tryz.func14
  (ChangeSpec.witness_shaped (enc:=enc) (C:=Tryz.checked) (os:=os) (X:=fun w _=>laidMetH Tryz.prog laid4 w) false (World.doorLaid Tryz.prog 400 os) #[.string ⟨#[]⟩,.agg #[.string ⟨#[]⟩,.string ⟨#[]⟩,.int .i64 0,.slice none 0 0]] 8 rfl (World.shaped_of_RefB (by kernel_rfl) (by kernel_rfl)) (by kernel_rfl) (by kernel_rfl) (by kernel_rfl) (door_met os _)) ?_
 intro W base args ds gs before hval0 hW hwt hL hsh
 have hval:∀ (j:Nat) t v,Tryz.f14.params[j]?=some t→args[j]?=some v→Value.okWide Tryz.prog W .any base t v:=hval0
 have hW':=hW
 obtain ⟨p,q,hA0,hV,rfl,hfz,hnd⟩:=hW
 have hA:DataW.TrodAll enc Tryz.prog W 0 (fun _=>true) true Tryz.f14.params.toList args.toList ds p:=hA0
 rw [Tryz.params14] at hA hval
 obtain ⟨v0,v1,d0,d1,p0,p1,rfl,rfl,hps,h0,h1⟩:=trodAll_two hA
 obtain ⟨rfl,rfl⟩:=trodVars_none hV
 have hlt:∀ x∈p,x.block < W.heap.size:=fun x hx=>hW'.lt x (by simp [hx])
 obtain ⟨s,rfl,rfl,rfl,hs⟩:=open_string Tryz.underlying9 (hval 0 9 v0 rfl rfl) h0
 obtain ⟨M,hv,rfl,hG,hMB⟩:=open_msg (hval 1 48 v1 rfl rfl) h1 (fun k hk=>of_decide_eq_true (List.all_eq_true.1 hwt k (DataW.weights_mem_each (j:=1) (t:=48) (d:=d1) rfl rfl k hk)))
 have hL':=of_laid hL
 have hs2:s.size≤140737488355328:=by
  have h:=sized_string (j:=0) (t:=9) (bytes:=s.data.toList) hwt (by rfl) (by rfl)
  have e:s.data.toList.length=s.size:=by simp
  have e2:=reach_eq
  omega
 have e1:Rows.agreedSpec.fn H ([.lit (.string s.data.toList),d1]++[])={ results:=[.lit (.bool true)],args:=[.lit (.string s.data.toList),d1] }:=by simp [Rows.agreedSpec]
 refine (agreedLaw_any s M hv W ⟨max_any hsh,hL'.1,hL'.2⟩ hs2 hG hMB).mono fun e W' ⟨he,hb⟩=>?_
 subst he
 refine ⟨_,rfl,_,_,_,[],p,[],hW',?_,?_,?_,hb.frame _,fun h=>by cases h⟩
 ·rw [e1];exact trodAll_mk1 (shut_bool Tryz.underlying4 true)
 ·rw [e1]
  subst hps
  exact trodAll_mk2 (shut_string Tryz.underlying9 hs) (Below.trod Tryz.laidOut (by kernel_rfl) (by rw [Tryz.tyCount];decide) h1 hb (fun x hx=>hlt x (by simp [hx])))
 ·rw [e1];rfl
end
section
open Go
theorem agreed_inst:(Tryz.f14).isInstance Tryz.prog Rows.agreedRow.origin Rows.agreedRow.targs:=of_decide_eq_true (by kernel_rfl)
theorem agreed_wrap:(Tryz.f14).isWrapper Tryz.prog Rows.agreedRow.wrapper Rows.agreedRow.mainSum:=by
 unfold Func.isWrapper
 first
  | (rw [if_pos (by decide +kernel)];kernel_rfl)
  | (rw [if_neg (by decide +kernel)];exact ⟨rfl,rfl⟩)
theorem agreed_holds:Rows.AgreedSaid:=
 OpenClaim.holds_of_wide 14 Tryz.f14 rfl rfl rfl rfl rfl rfl rfl ⟨rfl,rfl,rfl,rfl,rfl⟩ rfl rfl rfl rfl rfl agreed_named Tryz.func14 agreed_closed
  agreed_inst agreed_wrap (fun os started H enc _=>agreed_lifted os started H enc)
theorem agreed_want:∀ (j:Nat) (t:TypeId),(Tryz.f14).params[j]?=some t→Tryz.prog.wantsStandIn t=false:=fun j t ht=>by
 rw [Tryz.params14] at ht
 have hm:t∈[9,48]:=by
  have:=List.mem_of_getElem? (l:=[9,48]) (by simpa using ht)
  exact this
 simp only [List.mem_cons,List.not_mem_nil,or_false] at hm
 rcases hm with rfl | rfl
 ·exact (show Tryz.prog.wantsStandIn 9=false by kernel_rfl)
 ·exact (show Tryz.prog.wantsStandIn 48=false by kernel_rfl)
theorem agreed_wf:Rows.agreedRow.wfByText (OpenSpec.ofChange Rows.agreedSpec)=true:=by kernel_rfl
theorem agreed_main:Tryz.pinned.checked.prog.mainIs=some (true, "9ceb2eaf1a16ec9e22eeaf2f53cd7e632e19e15a0eaf49145f9bde2ade0bd6a0".toList):=by kernel_rfl
theorem agreed_looks:true=Tryz.pinned.checked.prog.looks []:=by kernel_rfl
theorem agreed_goes:false=Rows.agreedRow.goesBy Tryz.pinned.checked.prog:=by kernel_rfl
theorem agreed_card_holds:Rows.AgreedCardSaid:=
 Claim7.holds_tied_plain_at .later [] [.data,.data,.data,.handle] true (true, "9ceb2eaf1a16ec9e22eeaf2f53cd7e632e19e15a0eaf49145f9bde2ade0bd6a0") true
  agreed_holds (fun _ h=>by cases h) agreed_wf (fun _ h=>by cases h) agreed_row_tie rfl ⟨rfl,rfl⟩ agreed_main rfl
  (fun f fn hf hfn=>by
   obtain rfl:f=14:=(Option.some.inj (agreed_named.symm.trans hf)).symm
   obtain rfl:fn=Tryz.f14:=(Option.some.inj (Tryz.func14.symm.trans hfn)).symm
   exact ⟨agreed_looks,agreed_want⟩)
  agreed_goes
end
end Go.Proofs.YtbiclelojbfnbaaGreatDoor
