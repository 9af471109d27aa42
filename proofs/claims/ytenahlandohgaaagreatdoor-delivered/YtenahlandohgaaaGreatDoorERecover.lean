import Derived.Test.YtenahlandohgaaaGreatDoorEDeliver
import Derived.Test.YtenahlandohgaaaGreatDoorZEName
import Derived.Test.YtenahlandohgaaaGreatDoorEStep
namespace Go.Proofs.YtenahlandohgaaaGreatDoor
set_option linter.unusedVariables false
set_option linter.unusedSimpArgs false
set_option maxRecDepth 100000
set_option maxHeartbeats 4000000
open Go.RowKit
attribute [local go_sem ↓] Go.wp_at_zero Go.wp_at_succ
theorem mdeliver_any (B db bd bn n:Nat) (F:Fs) (q:Int) (pv:Value) (id text:List UInt8) (acts:List (Int×List UInt8)) (av:Value) (w:World) (h:DI w B db bd bn n F F [] q pv) (ht:Tab w) (hz:Tz w) (ha:ActG w av acts)
 (h1:id.length≤2000000) (h2:text.length≤2000000) (h3:∀ a∈acts,a.2.length≤2000000) (h4:acts.length≤2000000) (hj0:F kJournal=none) (hn:n≤450000) (hq:-19000≤q) (hq1:q≤-1) :
 Calls Tryz.prog 38 #[dskV db,.string (strA id),av,.string (strA text)] w (DvPost B db bd bn n F q id acts text w):=by
 have HL:=hide (sdeliver_any B db bd bn n F q pv id text acts av w h ht hz ha h1 h2 h3 h4 hj0 hn hq hq1)
 obtain ⟨a,c,hav,_⟩:=ha
 subst hav
 clear h ht hz h3 hj0
 unfold dskV at HL ⊢
 go_enter Tryz.func38,Tryz.ntmps38
 go_wp2_with fail
 refine HL.out.mono ?_
 rintro e w1 ⟨hF,⟨k,pv',he,rfl,hD⟩ | ⟨fs,n',q',pv',he,rfl,hh⟩⟩
 ·have HF:=hide hF
  have HD:=hide hD
  have HE:=hide he
  clear hF hD he
  go_wp2
  go_ret
  exact ⟨HF.out,Or.inl ⟨k,pv',HE.out,rfl,HD.out⟩⟩
 ·have HF:=hide hF
  have HD:=hide hh
  have HE:=hide he
  clear hF hh he
  go_wp2
  go_ret
  exact ⟨HF.out,Or.inr ⟨fs,n',q',pv',HE.out,rfl,HD.out⟩⟩
end Go.Proofs.YtenahlandohgaaaGreatDoor
