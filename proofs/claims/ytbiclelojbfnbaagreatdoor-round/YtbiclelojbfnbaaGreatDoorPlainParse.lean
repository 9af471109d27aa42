/- The plain functions of the parser: a text is read into a tree. It imports nothing of the program. -/
import Derived.Test.YtbiclelojbfnbaaGreatDoorPlainAsk
namespace Go.Proofs.YtbiclelojbfnbaaGreatDoor

def kKeep : List UInt8 := [107, 101, 101, 112]
def kDiscard : List UInt8 := [100, 105, 115, 99, 97, 114, 100]
def kStop : List UInt8 := [115, 116, 111, 112]
def kFileinto : List UInt8 := [102, 105, 108, 101, 105, 110, 116, 111]
def kRedirect : List UInt8 := [114, 101, 100, 105, 114, 101, 99, 116]
def kReject : List UInt8 := [114, 101, 106, 101, 99, 116]
def kSet : List UInt8 := [115, 101, 116]
def kIf : List UInt8 := [105, 102]
def kTrue : List UInt8 := [116, 114, 117, 101]
def kFalse : List UInt8 := [102, 97, 108, 115, 101]
def kNot : List UInt8 := [110, 111, 116]
def kAllof : List UInt8 := [97, 108, 108, 111, 102]
def kAnyof : List UInt8 := [97, 110, 121, 111, 102]
def kHeader : List UInt8 := [104, 101, 97, 100, 101, 114]
def kEnvelope : List UInt8 := [101, 110, 118, 101, 108, 111, 112, 101]
def kString : List UInt8 := [115, 116, 114, 105, 110, 103]
def kExists : List UInt8 := [101, 120, 105, 115, 116, 115]
def kSize : List UInt8 := [115, 105, 122, 101]
def kElsif : List UInt8 := [101, 108, 115, 105, 102]
def kElse : List UInt8 := [101, 108, 115, 101]
def kRequire : List UInt8 := [114, 101, 113, 117, 105, 114, 101]
def kVariables : List UInt8 := [118, 97, 114, 105, 97, 98, 108, 101, 115]
def kFrom : List UInt8 := [102, 114, 111, 109]
def kTo : List UInt8 := [116, 111]
def tLower : List UInt8 := [58, 108, 111, 119, 101, 114]
def tUpper : List UInt8 := [58, 117, 112, 112, 101, 114]
def tLength : List UInt8 := [58, 108, 101, 110, 103, 116, 104]
def tIs : List UInt8 := [58, 105, 115]
def tContains : List UInt8 := [58, 99, 111, 110, 116, 97, 105, 110, 115]
def tMatches : List UInt8 := [58, 109, 97, 116, 99, 104, 101, 115]
def tOver : List UInt8 := [58, 111, 118, 101, 114]
def tUnder : List UInt8 := [58, 117, 110, 100, 101, 114]
def tComparator : List UInt8 := [58, 99, 111, 109, 112, 97, 114, 97, 116, 111, 114]
def cOctet : List UInt8 := [105, 59, 111, 99, 116, 101, 116]
def cCasemap : List UInt8 := [105, 59, 97, 115, 99, 105, 105, 45, 99, 97, 115, 101, 109, 97, 112]

def cmdNames : List (List UInt8) := [kKeep, kDiscard, kStop, kFileinto, kRedirect, kReject, kSet, kIf]
def testNames : List (List UInt8) := [kTrue, kFalse, kNot, kAllof, kAnyof, kHeader, kEnvelope, kString, kExists, kSize]

/-- What a test says, but for the tests that it is made of. -/
structure TLab where
  kind : Nat
  pos : Nat
  tag : Nat
  octet : Bool
  fr : List (List UInt8)
  keys : List (List UInt8)
  num : Nat

/-- A test with at most so many levels. -/
def TestT : Nat → Type
  | 0 => Unit
  | n + 1 => TLab × List (TestT n)

/-- What a command says, but for the tests and commands that it is made of. -/
structure CLab where
  kind : Nat
  pos : Nat
  tag : Nat
  arg : List UInt8
  var : List UInt8
  els : Bool

/-- A command with at most so many levels: its arms, and what is behind else. -/
def CmdT : Nat → Type
  | 0 => Unit
  | n + 1 => CLab × List (TestT n × List (CmdT n)) × List (CmdT n)

/-- Is that required which the word needs? -/
def useOk (req : List (List UInt8)) (sp : List UInt8) : Bool :=
  if sp = kFileinto ∨ sp = kReject ∨ sp = kEnvelope then decide (0 < whichL req sp)
  else if sp = kSet ∨ sp = kString then decide (0 < whichL req kVariables)
  else true

/-- What is read behind another thing. -/
def thenL {α β : Type} (r : Except Flt (α × PS)) (k : α → PS → Except Flt (β × PS)) : Except Flt (β × PS) :=
  match r with
  | .error f => .error f
  | .ok y => k y.1 y.2
def nextThen {β : Type} (l : List UInt8) (s : PS) (k : PS → Except Flt (β × PS)) : Except Flt (β × PS) :=
  match nextL l s.2 with
  | .error f => .error f
  | .ok y => k y

theorem thenL_err {α β : Type} {r : Except Flt (α × PS)} {k : α → PS → Except Flt (β × PS)} {f : Flt} (h : r = .error f) : thenL r k = .error f := by subst h; rfl
theorem thenL_ok {α β : Type} {r : Except Flt (α × PS)} {k : α → PS → Except Flt (β × PS)} {y : α × PS} (h : r = .ok y) : thenL r k = k y.1 y.2 := by subst h; rfl
theorem nextThen_err {β : Type} {l : List UInt8} {s : PS} {k : PS → Except Flt (β × PS)} {f : Flt} (h : nextL l s.2 = .error f) : nextThen l s k = .error f := by unfold nextThen; rw [h]
theorem nextThen_ok {β : Type} {l : List UInt8} {s y : PS} {k : PS → Except Flt (β × PS)} (h : nextL l s.2 = .ok y) : nextThen l s k = k y := by unfold nextThen; rw [h]

/-- Options of header, envelope, string: the tag, is it octet, was a comparator named (fuel ahead). -/
def optL (l : List UInt8) : Nat → Nat → Bool → Bool → PS → Except Flt ((Nat × Bool) × PS)
  | 0, tag, oct, _, s => .ok ((tag, oct), s)
  | f + 1, tag, oct, cmp, s =>
    if whichL [tIs, tContains, tMatches] s.1.spelt = 0 then
      if whichL [tComparator] s.1.spelt = 0 then .ok ((max tag 1, oct), s)
      else if cmp then .error ⟨7, s.1.pos⟩
      else nextThen l s fun s1 => thenL (stringL l (fun x => if 0 < whichL [cOctet, cCasemap] x then 0 else 7) s1) fun x s2 => optL l f tag (decide (x = cOctet)) true s2
    else if tag = 0 then nextThen l s fun s1 => optL l f (whichL [tIs, tContains, tMatches] s.1.spelt) oct cmp s1
    else .error ⟨7, s.1.pos⟩

def matchL (l : List UInt8) (F : Nat) (chk : List UInt8 → Nat) (k pos : Nat) (s : PS) : Except Flt (TLab × PS) :=
  thenL (optL l F 0 false false s) fun o s1 => thenL (stringsL l chk F s1) fun fr s2 => thenL (stringsL l (fun _ => 0) F s2) fun ks s3 =>
    .ok (⟨k, pos, o.1, o.2, fr, ks, 0⟩, s3)

/-- Tests in brackets, each behind a comma. -/
def groupMore {α : Type} (l : List UInt8) (sub : PS → Except Flt (α × PS)) : Nat → List α → PS → Except Flt (List α × PS)
  | 0, acc, s => .ok (acc, s)
  | f + 1, acc, s => thenL (passL l [[44], [41]] s) fun i s1 =>
      if i = 1 then thenL (sub s1) fun t s2 => groupMore l sub f (acc ++ [t]) s2 else .ok (acc, s1)
def groupL {α : Type} (l : List UInt8) (F : Nat) (sub : PS → Except Flt (α × PS)) (s : PS) : Except Flt (List α × PS) :=
  thenL (passL l [[40]] s) fun _ s1 => thenL (sub s1) fun t s2 => groupMore l sub F [t] s2

def sizeL (l : List UInt8) (pos : Nat) (s : PS) : Except Flt (TLab × PS) :=
  thenL (passL l [tOver, tUnder] s) fun i s1 =>
    if s1.1.kind = 4 then nextThen l s1 fun s2 => .ok (⟨9, pos, i, false, [], [], s1.1.num⟩, s2) else .error ⟨4, s1.1.pos⟩

/-- What is read behind the word of a test. -/
def testBody {α : Type} (l : List UInt8) (F : Nat) (sub : PS → Except Flt (α × PS)) (k pos : Nat) (s : PS) : Except Flt ((TLab × List α) × PS) :=
  match k with
  | 0 => .ok ((⟨0, pos, 0, false, [], [], 0⟩, []), s)
  | 1 => .ok ((⟨1, pos, 0, false, [], [], 0⟩, []), s)
  | 2 => thenL (sub s) fun t s1 => .ok ((⟨2, pos, 0, false, [], [], 0⟩, [t]), s1)
  | 3 => thenL (groupL l F sub s) fun ts s1 => .ok ((⟨3, pos, 0, false, [], [], 0⟩, ts), s1)
  | 4 => thenL (groupL l F sub s) fun ts s1 => .ok ((⟨4, pos, 0, false, [], [], 0⟩, ts), s1)
  | 5 => thenL (matchL l F (fun _ => 0) 5 pos s) fun x s1 => .ok ((x, []), s1)
  | 6 => thenL (matchL l F (fun x => if 0 < whichL [kFrom, kTo] (smallL x) then 0 else 7) 6 pos s) fun x s1 => .ok ((x, []), s1)
  | 7 => thenL (matchL l F (fun _ => 0) 7 pos s) fun x s1 => .ok ((x, []), s1)
  | 8 => thenL (stringsL l (fun _ => 0) F s) fun xs s1 => .ok ((⟨8, pos, 0, false, xs, [], 0⟩, []), s1)
  | _ => thenL (sizeL l pos s) fun x s1 => .ok ((x, []), s1)

def testL (l : List UInt8) (req : List (List UInt8)) (F : Nat) : (n : Nat) → PS → Except Flt (TestT n × PS)
  | 0, s => if s.1.kind = 1 then .error ⟨5, s.1.pos⟩ else .error ⟨4, s.1.pos⟩
  | n + 1, s =>
    if whichL testNames s.1.spelt = 0 then .error ⟨4, s.1.pos⟩
    else if useOk req s.1.spelt then nextThen l s fun s1 => testBody l F (testL l req F n) (whichL testNames s.1.spelt - 1) s.1.pos s1
    else .error ⟨6, s.1.pos⟩

/-- Commands up to the bracket that ends a block. -/
def blockMore {α : Type} (l : List UInt8) (sub : PS → Except Flt (α × PS)) : Nat → List α → PS → Except Flt (List α × PS)
  | 0, acc, s => .ok (acc, s)
  | f + 1, acc, s => thenL (mayL l [[125]] s) fun i s1 =>
      if i = 0 then thenL (sub s1) fun c s2 => blockMore l sub f (acc ++ [c]) s2 else .ok (acc, s1)
def blockL {α : Type} (l : List UInt8) (F : Nat) (sub : PS → Except Flt (α × PS)) (s : PS) : Except Flt (List α × PS) :=
  thenL (passL l [[123]] s) fun _ s1 => blockMore l sub F [] s1

def armL {α β : Type} (l : List UInt8) (F : Nat) (tst : PS → Except Flt (β × PS)) (sub : PS → Except Flt (α × PS)) (s : PS) : Except Flt ((β × List α) × PS) :=
  thenL (tst s) fun t s1 => thenL (blockL l F sub s1) fun cs s2 => .ok ((t, cs), s2)
def armsMore {α β : Type} (l : List UInt8) (F : Nat) (tst : PS → Except Flt (β × PS)) (sub : PS → Except Flt (α × PS)) : Nat → List (β × List α) → PS → Except Flt (List (β × List α) × PS)
  | 0, acc, s => .ok (acc, s)
  | f + 1, acc, s => thenL (mayL l [kElsif] s) fun i s1 =>
      if i = 0 then .ok (acc, s1) else thenL (armL l F tst sub s1) fun a s2 => armsMore l F tst sub f (acc ++ [a]) s2

def semi {α : Type} (l : List UInt8) (s : PS) (a : α) : Except Flt (α × PS) := thenL (passL l [[59]] s) fun _ s1 => .ok (a, s1)

/-- What is read behind the word of a command. -/
def cmdBody {α β : Type} (l : List UInt8) (F : Nat) (tst : PS → Except Flt (β × PS)) (sub : PS → Except Flt (α × PS)) (k pos : Nat) (s : PS) : Except Flt ((CLab × List (β × List α) × List α) × PS) :=
  match k with
  | 0 => semi l s (⟨0, pos, 0, [], [], false⟩, [], [])
  | 1 => semi l s (⟨1, pos, 0, [], [], false⟩, [], [])
  | 2 => semi l s (⟨2, pos, 0, [], [], false⟩, [], [])
  | 3 => thenL (stringL l (fun _ => 0) s) fun x s1 => semi l s1 (⟨3, pos, 0, x, [], false⟩, [], [])
  | 4 => thenL (stringL l (fun _ => 0) s) fun x s1 => semi l s1 (⟨4, pos, 0, x, [], false⟩, [], [])
  | 5 => thenL (stringL l (fun _ => 0) s) fun x s1 => semi l s1 (⟨5, pos, 0, x, [], false⟩, [], [])
  | 6 => thenL (mayL l [tLower, tUpper, tLength] s) fun tag s1 => thenL (stringL l (fun x => if isNameL x then 0 else 7) s1) fun v s2 =>
      thenL (stringL l (fun _ => 0) s2) fun x s3 => semi l s3 (⟨6, pos, tag, x, smallL v, false⟩, [], [])
  | _ => thenL (armL l F tst sub s) fun a s1 => thenL (armsMore l F tst sub F [a] s1) fun arms s2 => thenL (mayL l [kElse] s2) fun i s3 =>
      if i = 0 then .ok ((⟨7, pos, 0, [], [], false⟩, arms, []), s3)
      else thenL (blockL l F sub s3) fun cs s4 => .ok ((⟨7, pos, 0, [], [], true⟩, arms, cs), s4)

def cmdL (l : List UInt8) (req : List (List UInt8)) (F : Nat) : (n : Nat) → PS → Except Flt (CmdT n × PS)
  | 0, s => if s.1.kind = 1 then .error ⟨5, s.1.pos⟩ else .error ⟨4, s.1.pos⟩
  | n + 1, s =>
    if whichL cmdNames s.1.spelt = 0 then .error ⟨4, s.1.pos⟩
    else if useOk req s.1.spelt then nextThen l s fun s1 => cmdBody l F (testL l req F n) (cmdL l req F n) (whichL cmdNames s.1.spelt - 1) s.1.pos s1
    else .error ⟨6, s.1.pos⟩

/-- Each once, in the order in which they were required first. -/
def addReq (req : List (List UInt8)) (x : List UInt8) : List (List UInt8) := if 0 < whichL req x then req else req ++ [x]
def reqMore (l : List UInt8) (F : Nat) : Nat → List (List UInt8) → PS → Except Flt (List (List UInt8) × PS)
  | 0, req, s => .ok (req, s)
  | f + 1, req, s => thenL (mayL l [kRequire] s) fun i s1 =>
      if i = 0 then .ok (req, s1)
      else thenL (stringsL l (fun x => if 0 < whichL [kEnvelope, kFileinto, kReject, kVariables] x then 0 else 6) F s1) fun xs s2 =>
        thenL (passL l [[59]] s2) fun _ s3 => reqMore l F f (xs.foldl addReq req) s3

def cmdsMore {α : Type} (sub : PS → Except Flt (α × PS)) : Nat → List α → PS → Except Flt (List α)
  | 0, acc, _ => .ok acc
  | f + 1, acc, s => if s.1.kind = 0 then .ok acc else
      match sub s with
      | .error e => .error e
      | .ok y => cmdsMore sub f (acc ++ [y.1]) y.2

/-- A script: what it requires, and its commands. -/
def parseL (l : List UInt8) : Except Flt (List (List UInt8) × List (CmdT 7)) :=
  let F := 2 * l.length + 10
  match nextL l 0 with
  | .error f => .error f
  | .ok s =>
    match reqMore l F F [] s with
    | .error f => .error f
    | .ok y =>
      match cmdsMore (cmdL l y.1 F 7) F [] y.2 with
      | .error f => .error f
      | .ok cs => .ok (y.1, cs)

end Go.Proofs.YtbiclelojbfnbaaGreatDoor
