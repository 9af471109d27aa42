/- The plain functions: what the program's functions compute, over lists of bytes. It imports nothing of the program. -/
namespace Go.Proofs.YtbiclelojbfnbaaGreatDoor

def isDigitN (c : Int) : Bool := decide (48 ≤ c) && decide (c ≤ 57)
def isBlankN (c : Int) : Bool := c == 32 || c == 9 || c == 10 || c == 13
def isCapN (c : Int) : Bool := decide (65 ≤ c) && decide (c ≤ 90)
def isSmN (c : Int) : Bool := decide (97 ≤ c) && decide (c ≤ 122)
def isLetN (c : Int) : Bool := (decide (97 ≤ c) && decide (c ≤ 122)) || isCapN c || c == 95
theorem isLetN_eq (c : Int) : isLetN c = (isSmN c || isCapN c || c == 95) := rfl
def letdig (c : UInt8) : Bool := isLetN c.toNat || isDigitN c.toNat
def nameTail (l : List UInt8) : Nat := (l.takeWhile letdig).length
def nameLen : List UInt8 → Nat
  | [] => 0
  | c :: r => if isLetN c.toNat then 1 + nameTail r else 0
def isNameL (l : List UInt8) : Bool := !l.isEmpty && nameLen l == l.length
def smallB (c : UInt8) : UInt8 := if isCapN c.toNat then c - 65 + 97 else c
def smallL (l : List UInt8) : List UInt8 := l.map smallB

theorem nameTail_nil : nameTail [] = 0 := rfl
theorem nameTail_cons (c : UInt8) (r : List UInt8) : nameTail (c :: r) = if letdig c then 1 + nameTail r else 0 := by
  unfold nameTail
  rw [List.takeWhile_cons]
  split
  · rw [List.length_cons]; omega
  · rfl
theorem nameTail_le (l : List UInt8) : nameTail l ≤ l.length := by
  induction l with
  | nil => simp [nameTail]
  | cons c r ih => rw [nameTail_cons]; split <;> simp <;> omega
theorem nameLen_le (l : List UInt8) : nameLen l ≤ l.length := by
  cases l with
  | nil => simp [nameLen]
  | cons c r => have := nameTail_le r; simp only [nameLen]; split <;> simp <;> omega

end Go.Proofs.YtbiclelojbfnbaaGreatDoor
