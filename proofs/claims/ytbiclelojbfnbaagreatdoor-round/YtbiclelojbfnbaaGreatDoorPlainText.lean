/- The plain functions of writing: a tree as a text. It imports nothing of the program. -/
import Derived.Test.YtbiclelojbfnbaaGreatDoorPlainSpace2
import Derived.Lib.ItoaLen
import Derived.Lib.Join
namespace Go.Proofs.YtbiclelojbfnbaaGreatDoor

def quoteB (c : UInt8) : List UInt8 := if c = 34 ∨ c = 92 then [92, c] else [c]
def quotedL (x : List UInt8) : List UInt8 := 34 :: (x.flatMap quoteB ++ [34])
def joinL (sep : List UInt8) : List (List UInt8) → List UInt8
  | [] => []
  | [x] => x
  | x :: y :: r => x ++ sep ++ joinL sep (y :: r)
theorem joinL_eq (sep : List UInt8) : ∀ xs : List (List UInt8), joinL sep xs = Lib.join xs sep
  | [] => rfl
  | [x] => (Lib.join_one x sep).symm
  | x :: y :: r => by
    rw [joinL, joinL_eq sep (y :: r), Lib.join_cons, Lib.join_cons]
    simp [Lib.joinTail]
def quotesL (xs : List (List UInt8)) : List UInt8 :=
  match xs with
  | [x] => quotedL x
  | xs => [91] ++ joinL [44, 32] (xs.map quotedL) ++ [93]
def phraseStep (t p : List UInt8) : List UInt8 := (if t ≠ [] ∧ p ≠ [] then t ++ [32] else t) ++ p
def phraseL (parts : List (List UInt8)) : List UInt8 := parts.foldl phraseStep []
def tagTextL (tag : Nat) (tags : List (List UInt8)) : List UInt8 := if tag = 0 then [] else tags.getD (tag - 1) []
def itoaL (n : Nat) : List UInt8 := Lib.decDigits n

def matchTxt (hw : List UInt8) (x : TLab) : List UInt8 :=
  phraseL [hw, if x.octet then phraseL [tComparator, quotedL cOctet] else [], if x.tag ≠ 1 then tagTextL x.tag [tIs, tContains, tMatches] else [], quotesL x.fr, quotesL x.keys]
def groupTxt (hw : List UInt8) (ts : List (List UInt8)) : List UInt8 := hw ++ [32, 40] ++ joinL [44, 32] ts ++ [41]
def testNode (x : TLab) (ts : List (List UInt8)) : List UInt8 :=
  match x.kind with
  | 0 => kTrue
  | 1 => kFalse
  | 2 => phraseL (kNot :: ts)
  | 3 => groupTxt kAllof ts
  | 4 => groupTxt kAnyof ts
  | 5 => matchTxt kHeader x
  | 6 => matchTxt kEnvelope x
  | 7 => matchTxt kString x
  | 8 => phraseL [kExists, quotesL x.fr]
  | _ => phraseL [kSize, tagTextL x.tag [tOver, tUnder], itoaL x.num]
def testTxt : (n : Nat) → TestT n → List UInt8
  | 0, _ => []
  | n + 1, x => testNode x.1 (x.2.map (testTxt n))

/-- '} elsif', '{' and a line feed, and the like. -/
def kElsifB : List UInt8 := 125 :: 32 :: kElsif
def openB : List UInt8 := [123, 10]
def elseB : List UInt8 := 125 :: 32 :: (kElse ++ [32, 123, 10])
/-- Lines, each so far in. -/
def linesL {α : Type} (txt : α → List UInt8 → List UInt8) (cs : List α) (i : List UInt8) : List UInt8 := cs.flatMap fun c => i ++ txt c i ++ [10]
def armTxt (word i : List UInt8) (t b : List UInt8) : List UInt8 := phraseL [word, t, openB] ++ b ++ i
/-- The arms of an if: the first behind the word if, the others behind elsif. -/
def armsTxt (i : List UInt8) : List UInt8 → List (List UInt8 × List UInt8) → List UInt8
  | _, [] => []
  | word, a :: r => armTxt word i a.1 a.2 ++ armsTxt i kElsifB r
def cmdNode (x : CLab) (i : List UInt8) (arms : List (List UInt8 × List UInt8)) (els : List UInt8) : List UInt8 :=
  match x.kind with
  | 0 => kKeep ++ [59]
  | 1 => kDiscard ++ [59]
  | 2 => kStop ++ [59]
  | 3 => phraseL [kFileinto, quotedL x.arg] ++ [59]
  | 4 => phraseL [kRedirect, quotedL x.arg] ++ [59]
  | 5 => phraseL [kReject, quotedL x.arg] ++ [59]
  | 6 => phraseL [kSet, tagTextL x.tag [tLower, tUpper, tLength], quotedL x.var, quotedL x.arg] ++ [59]
  | _ => armsTxt i kIf arms ++ (if x.els then elseB ++ els ++ i else []) ++ [125]
def cmdTxt : (n : Nat) → CmdT n → List UInt8 → List UInt8
  | 0, _, _ => []
  | n + 1, x, i => cmdNode x.1 i (x.2.1.map fun a => (testTxt n a.1, linesL (cmdTxt n) a.2 (i ++ [32, 32]))) (linesL (cmdTxt n) x.2.2 (i ++ [32, 32]))
def requireTxt (req : List (List UInt8)) : List UInt8 := if req = [] then [] else kRequire ++ [32] ++ quotesL req ++ [59, 10]
def textL (t : List (List UInt8) × List (CmdT 7)) : List UInt8 := requireTxt t.1 ++ linesL (cmdTxt 7) t.2 []

theorem testNode_z (x : TLab) (ts : List (List UInt8)) : testNode (zT x) ts = testNode x ts := rfl
theorem testTxt_z : ∀ (n : Nat) (x : TestT n), testTxt n (zTest n x) = testTxt n x
  | 0, _ => rfl
  | n + 1, x => by
    show testNode (zT x.1) ((x.2.map (zTest n)).map (testTxt n)) = _
    rw [testNode_z, List.map_map]
    show testNode x.1 _ = testNode x.1 (x.2.map (testTxt n))
    congr 1
    apply List.map_congr_left
    intro a _
    exact testTxt_z n a
theorem linesL_map {α : Type} (txt : α → List UInt8 → List UInt8) (g : α → α) (h : ∀ a i, txt (g a) i = txt a i) (cs : List α) (i : List UInt8) : linesL txt (cs.map g) i = linesL txt cs i := by
  unfold linesL
  induction cs with
  | nil => rfl
  | cons c r ih => rw [List.map_cons, List.flatMap_cons, List.flatMap_cons, ih, h]
theorem cmdTxt_z : ∀ (n : Nat) (x : CmdT n) (i : List UInt8), cmdTxt n (zCmd n x) i = cmdTxt n x i
  | 0, _, _ => rfl
  | n + 1, x, i => by
    show cmdNode (zC x.1) i ((x.2.1.map (fun a => (zTest n a.1, a.2.map (zCmd n)))).map fun a => (testTxt n a.1, linesL (cmdTxt n) a.2 (i ++ [32, 32]))) (linesL (cmdTxt n) (x.2.2.map (zCmd n)) (i ++ [32, 32])) = _
    rw [linesL_map _ _ (cmdTxt_z n), List.map_map]
    show cmdNode x.1 i _ _ = cmdNode x.1 i (x.2.1.map fun a => (testTxt n a.1, linesL (cmdTxt n) a.2 (i ++ [32, 32]))) (linesL (cmdTxt n) x.2.2 (i ++ [32, 32]))
    congr 1
    apply List.map_congr_left
    intro a _
    show (testTxt n (zTest n a.1), linesL (cmdTxt n) (a.2.map (zCmd n)) (i ++ [32, 32])) = _
    rw [testTxt_z, linesL_map _ _ (cmdTxt_z n)]
theorem lines_z (cs ds : List (CmdT 7)) (h : cs.map (zCmd 7) = ds.map (zCmd 7)) : linesL (cmdTxt 7) cs [] = linesL (cmdTxt 7) ds [] := by
  rw [← linesL_map (cmdTxt 7) (zCmd 7) (cmdTxt_z 7) cs, h, linesL_map (cmdTxt 7) (zCmd 7) (cmdTxt_z 7) ds]

end Go.Proofs.YtbiclelojbfnbaaGreatDoor
