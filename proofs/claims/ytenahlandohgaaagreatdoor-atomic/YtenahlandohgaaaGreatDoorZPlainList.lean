import Derived.Lib.SlicesS
import Derived.Lib.Index
import Derived.Lib.Bytealg
import Derived.Lib.Strings
import Derived.Sort.KeysCollected
namespace Go.Proofs.YtenahlandohgaaaGreatDoor
set_option linter.unusedVariables false
set_option linter.unusedSimpArgs false
set_option maxRecDepth 100000
set_option maxHeartbeats 4000000
def isDigitN (c:Int):Bool:=decide (48≤c) && decide (c≤57)
def isCapN (c:Int):Bool:=decide (65≤c) && decide (c≤90)
def isSmN (c:Int):Bool:=decide (97≤c) && decide (c≤122)
def isLetN (c:Int):Bool:=(decide (97≤c) && decide (c≤122)) || isCapN c || c == 95
theorem isLetN_eq (c:Int):isLetN c=(isSmN c || isCapN c || c == 95):=rfl
def letdig (c:UInt8):Bool:=isLetN c.toNat || isDigitN c.toNat
def strA (x:List UInt8):ByteArray:=⟨x.toArray⟩
theorem strA_inj {x y:List UInt8} (h:strA x=strA y):x=y:=by
 have:=congrArg (fun b:ByteArray=>b.data.toList) h
 simpa [strA] using this
abbrev FsP:=List UInt8→Option (List UInt8)
def Lists (F:FsP) (l:List (List UInt8×List UInt8)):Prop:=l.Pairwise (fun a b=>a.1 < b.1)∧∀ x s,(x,s)∈l↔F x=some s
theorem lists_nodup {l:List (List UInt8×List UInt8)} (h:l.Pairwise (fun a b=>a.1 < b.1)):l.Nodup:=h.imp (fun {a b} hab e=>by rw [e] at hab;exact List.lt_irrefl _ hab)
theorem lists_one {F:FsP} {l l':List (List UInt8×List UInt8)} (h:Lists F l) (h':Lists F l'):l=l':=by
 refine List.Perm.eq_of_pairwise (le:=fun a b:List UInt8×List UInt8=>a.1 < b.1) (fun a b _ _ h1 h2=>absurd (List.lt_trans h1 h2) (List.lt_irrefl _)) h.1 h'.1 ?_
 refine (List.perm_ext_iff_of_nodup (lists_nodup h.1) (lists_nodup h'.1)).2 (fun a=>?_)
 obtain ⟨x,s⟩:=a
 rw [h.2,h'.2]
theorem lt_of_not {a b:List UInt8} (h:¬ b < a) (hn:a≠b):a < b:=by
 by_cases h2:a < b
 ·exact h2
 ·exact absurd (List.le_antisymm (List.not_lt.1 h) (List.not_lt.1 h2)) hn
end Go.Proofs.YtenahlandohgaaaGreatDoor
