/- The plain functions of the scanner: words of a text. It imports nothing of the program. -/
import Derived.Lib.Index
import Derived.Lib.Bytealg
import Derived.Lib.Strings
import Derived.Test.YtbiclelojbfnbaaGreatDoorPlain
namespace Go.Proofs.YtbiclelojbfnbaaGreatDoor

/-- A fault: an error's number and a place. -/
structure Flt where
  err : Nat
  pos : Nat

/-- A word of a text, or its end. -/
structure Wd where
  kind : Nat
  pos : Nat
  spelt : List UInt8
  said : List UInt8
  num : Nat

def lineLen (l : List UInt8) : Nat := if Lib.indexByte l 10 < 0 then l.length else (Lib.indexByte l 10).toNat + 1

theorem indexByte_lt (l : List UInt8) (c : UInt8) : Lib.indexByte l c < l.length := by
  induction l with
  | nil => simp [Lib.indexByte]
  | cons b l ih =>
    unfold Lib.indexByte
    rw [List.length_cons]
    split
    · omega
    · split <;> omega
theorem index_room (l sub : List UInt8) : Lib.index l sub < 0 ∨ Lib.index l sub + sub.length ≤ l.length := by
  induction l with
  | nil =>
    unfold Lib.index
    cases sub with
    | nil => right; decide
    | cons a t => left; simp
  | cons b l ih =>
    unfold Lib.index
    split
    · rename_i h
      right
      have := (List.isPrefixOf_iff_prefix.1 h).length_le
      simp at this ⊢
      omega
    · split
      · left; decide
      · have := Lib.index_ge l sub
        rename_i h1 h2
        have h3 : ¬ Lib.index l sub = -1 := by simpa using h2
        simp
        omega
theorem lineLen_le (l : List UInt8) : lineLen l ≤ l.length := by
  have := indexByte_lt l 10
  unfold lineLen; split <;> omega
theorem lineLen_pos (c : UInt8) (l : List UInt8) : 1 ≤ lineLen (c :: l) := by
  unfold lineLen; split
  · simp
  · omega

/-- Where the next word begins: behind blanks and comments (fuel, what is left of the text, its place). -/
def skipF : Nat → List UInt8 → Nat → Except Flt Nat
  | 0, _, p => .ok p
  | _ + 1, [], p => .ok p
  | f + 1, c :: r, p =>
    if isBlankN c.toNat then skipF f r (p + 1)
    else if c.toNat = 35 then skipF f ((c :: r).drop (lineLen (c :: r))) (p + lineLen (c :: r))
    else if Lib.hasPrefix (c :: r) [47, 42] then
      if Lib.index (r.drop 1) [42, 47] < 0 then .error ⟨2, p⟩
      else skipF f ((c :: r).drop (4 + (Lib.index (r.drop 1) [42, 47]).toNat)) (p + (4 + (Lib.index (r.drop 1) [42, 47]).toNat))
    else .ok p

def spellL (k : Nat) (rest : List UInt8) (p n : Nat) : Wd × Nat := (⟨k, p, smallL (rest.take n), [], 0⟩, p + n)

def digLen (l : List UInt8) : Nat := (l.takeWhile fun c => isDigitN c.toNat).length
def numStep (v : Nat) (c : UInt8) : Nat := min (v * 10 + (c.toNat - 48)) 2147483648
def numVal (l : List UInt8) : Nat := (l.takeWhile fun c => isDigitN c.toNat).foldl numStep 0
def isM (c : UInt8) : Bool := c.toNat == 77 || c.toNat == 109
def isK (c : UInt8) : Bool := c.toNat == 75 || c.toNat == 107
def scanNumL (rest : List UInt8) (p : Nat) : Except Flt (Wd × Nat) :=
  let n := digLen rest
  let v := numVal rest
  let c := rest.getD n 0
  let v' := if isM c then v * 1048576 else if isK c then v * 1024 else v
  let n' := if isM c || isK c then n + 1 else n
  if letdig (rest.getD n' 0) then .error ⟨2, p⟩
  else if 2147483647 < v' then .error ⟨3, p⟩
  else .ok (⟨4, p, [], [], v'⟩, p + n')

/-- What a string says, and how many bytes it has, behind its first quote: none where it does not end. -/
def quoteL : List UInt8 → Option (List UInt8 × Nat)
  | [] => none
  | c :: r =>
    if c.toNat = 34 then some ([], 1)
    else if c.toNat = 92 then
      match r with
      | [] => none
      | d :: r' => (quoteL r').map fun x => (d :: x.1, x.2 + 2)
    else (quoteL r).map fun x => (c :: x.1, x.2 + 1)

/-- The string that begins at place p, what is behind its quote being r. -/
def quoteR (r : List UInt8) (p : Nat) : Except Flt (Wd × Nat) :=
  match quoteL r with
  | none => .error ⟨2, p⟩
  | some x => .ok (⟨5, p, [], x.1, 0⟩, p + (1 + x.2))

def isSign (c : UInt8) : Bool := decide (0 ≤ Lib.indexByte [59, 44, 40, 41, 123, 125, 91, 93] c)

/-- The word that what is left of the text begins with, and where it ends. -/
def scanL (rest : List UInt8) (p : Nat) : Except Flt (Wd × Nat) :=
  match rest with
  | [] => .ok (⟨0, p, [], [], 0⟩, p)
  | c :: r =>
    if isLetN c.toNat then .ok (spellL 1 (c :: r) p (nameLen (c :: r)))
    else if c.toNat = 58 then
      if nameLen r = 0 then .error ⟨2, p⟩ else .ok (spellL 2 (c :: r) p (1 + nameLen r))
    else if isDigitN c.toNat then scanNumL (c :: r) p
    else if c.toNat = 34 then quoteR r p
    else if isSign c then .ok (spellL 3 (c :: r) p 1)
    else .error ⟨2, p⟩

end Go.Proofs.YtbiclelojbfnbaaGreatDoor
