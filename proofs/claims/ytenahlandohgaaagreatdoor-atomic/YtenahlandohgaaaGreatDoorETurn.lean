import Derived.Test.YtenahlandohgaaaGreatDoorZEStep
namespace Go.Proofs.YtenahlandohgaaaGreatDoor
set_option linter.unusedVariables false
set_option linter.unusedSimpArgs false
set_option maxRecDepth 100000
set_option maxHeartbeats 4000000
open Go.RowKit
attribute [local go_sem ↓] Go.wp_at_zero Go.wp_at_succ
abbrev wrF (fb xb:Nat):Value:=.func (.func 208) #[] #[.pointer (some ⟨fb,0,none⟩),.pointer (some ⟨xb,0,none⟩)]
abbrev rmF (xb nb:Nat):Value:=.func (.func 212) #[] #[.pointer (some ⟨xb,0,none⟩),.pointer (some ⟨nb,0,none⟩)]
abbrev syF (db:Nat):Value:=.func (.method "Sync") #[dskV db] #[]
theorem PDk.notT {B k:Nat} {cs:Array Value} {t:TypeId} (h1:t≠84) (h2:t≠116):¬ PDk B k (.cells cs t):=by
 rintro ⟨_,⟨cs',e⟩ | ⟨es,c,e⟩ | ⟨cs',e⟩⟩
 ·injection e with e1 e2;exact h1 e2
 ·cases e
 ·injection e with e1 e2;exact h2 e2
theorem FilE.fr {P:Nat→Obj→Prop} {w w':World} {v:Value} {l:List Fl} (h:FilE w v l) (hf:Fr P w w') (hp:∀ k cs,¬ P k (.cells cs 86)):FilE w' v l:=by
 obtain ⟨a,c,hv,hc⟩:=h
 refine ⟨a,c,hv,fun hne=>?_⟩
 obtain ⟨g,cs,ha,hb,hcc⟩:=hc hne
 have hb':=hf.block _ _ hb (hp _ _)
 refine ⟨g,cs,ha,hb',fun j hj=>?_⟩
 rw [World.cell?_of_block (a:=⟨g,j*2,none⟩) (hb'.trans hb.symm),World.cell?_of_block (a:=⟨g,j*2+1,none⟩) (hb'.trans hb.symm)]
 exact hcc j hj
end Go.Proofs.YtenahlandohgaaaGreatDoor
