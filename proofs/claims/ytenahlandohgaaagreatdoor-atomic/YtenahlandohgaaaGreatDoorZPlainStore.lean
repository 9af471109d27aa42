import Derived.Lib.ItoaNum
import Derived.Lib.Index
import Derived.Lib.ItoaLen
import Derived.Lib.Join
import Derived.Test.YtenahlandohgaaaGreatDoorZPlainList
namespace Go.Proofs.YtenahlandohgaaaGreatDoor
set_option linter.unusedVariables false
set_option linter.unusedSimpArgs false
set_option maxRecDepth 100000
set_option maxHeartbeats 4000000
def boxB (c:UInt8):Bool:=letdig c || c == 45 || c == 46
def isBoxL (x:List UInt8):Bool:=!x.isEmpty && (decide (x.length≤16) && (x.head? != some 46 && x.all boxB))
def itoaL (n:Nat):List UInt8:=Lib.decDigits n
theorem itoaL_len (n:Nat) (h:n≤2147483647):(itoaL n).length≤21:=by
 have:=Lib.itoa_length_le n (by omega) (by omega)
 rw [Lib.itoa_nonneg] at this
 exact this
def idB (c:UInt8):Bool:=isLetN c.toNat || isDigitN c.toNat
def isIDL (s:List UInt8):Bool:=!s.isEmpty && (decide (s.length≤8) && s.all idB)
def kInbox:List UInt8:=[105,110,98,111,120,47]
def kBox:List UInt8:=[98,111,120,47]
def kOut:List UInt8:=[111,117,116,47]
def kToB:List UInt8:=[116,111,32]
def kRejectB:List UInt8:=[114,101,106,101,99,116,32]
def outL (id text:List UInt8) (n:Nat) (line:List UInt8):List UInt8×List UInt8:=(kOut++id++[46]++itoaL n,line++[10]++text)
def fileL (id text:List UInt8) (n:Nat) (a:Int×List UInt8):Except Nat (List UInt8×List UInt8):=
 if a.1=1 then .ok (kInbox++id,text)
 else if a.1=2 then if isBoxL a.2 then .ok (kBox++a.2++[47]++id,text) else .error 8
 else if a.1=3 then .ok (outL id text n (kToB++a.2))
 else if a.1=4 then .ok (outL id text n (kRejectB++a.2))
 else .error 7
def filesTo (id text:List UInt8):Nat→List (Int×List UInt8)→Except Nat (List (List UInt8×List UInt8))
 | _,[]=>.ok []
 | n,a :: r=>
  match fileL id text n a with
  | .error e=>.error e
  | .ok f=>match filesTo id text (n+1) r with
   | .error e=>.error e
   | .ok l=>.ok (f :: l)
def filesL (id:List UInt8) (acts:List (Int×List UInt8)) (text:List UInt8):Except Nat (List (List UInt8×List UInt8)):=
 if isIDL id then if 6 < acts.length then .error 11 else filesTo id text 0 acts else .error 13
def appR (fs:List (List UInt8×List UInt8)) (r:Except Nat (List (List UInt8×List UInt8))):Except Nat (List (List UInt8×List UInt8)):=
 match r with
 | .ok l=>.ok (fs++l)
 | .error e=>.error e
theorem appR_nil (r:Except Nat (List (List UInt8×List UInt8))):appR [] r=r:=by cases r <;> rfl
theorem filesTo_err {id text:List UInt8} {n e:Nat} {a:Int×List UInt8} {r:List (Int×List UInt8)} (fs:List (List UInt8×List UInt8)) (h:fileL id text n a=.error e):appR fs (filesTo id text n (a :: r))=.error e:=by
 rw [filesTo,h];rfl
theorem filesTo_ok {id text:List UInt8} {n:Nat} {a:Int×List UInt8} {r:List (Int×List UInt8)} {f:List UInt8×List UInt8} (fs:List (List UInt8×List UInt8)) (h:fileL id text n a=.ok f):appR fs (filesTo id text n (a :: r))=appR (fs++[f]) (filesTo id text (n+1) r):=by
 rw [filesTo,h]
 dsimp only
 cases filesTo id text (n+1) r with
 | error e=>rfl
 | ok l=>simp [appR]
theorem filesTo_len {id text:List UInt8}:∀ (r:List (Int×List UInt8)) (n:Nat) (l:List (List UInt8×List UInt8)),filesTo id text n r=.ok l→l.length=r.length
 | [],n,l,h=>by rw [filesTo] at h;cases h;rfl
 | a :: r,n,l,h=>by
  rw [filesTo] at h
  cases hf:fileL id text n a with
  | error e=>rw [hf] at h;cases h
  | ok f=>
   rw [hf] at h
   dsimp only at h
   cases hr:filesTo id text (n+1) r with
   | error e=>rw [hr] at h;cases h
   | ok l'=>
    rw [hr] at h
    cases h
    simp [filesTo_len r (n+1) l' hr]
def NameOk (x:List UInt8):Prop:=x.length≤100∧∃ c r,x=c :: r∧c≠46
theorem box_len {x:List UInt8} (h:isBoxL x=true):x.length≤16:=by
 unfold isBoxL at h
 simp at h
 omega
theorem id_len {x:List UInt8} (h:isIDL x=true):x.length≤8:=by
 unfold isIDL at h
 simp at h
 omega
theorem file_ok {id text:List UInt8} {n:Nat} {a:Int×List UInt8} {f:List UInt8×List UInt8} (hi:id.length≤8) (hn:(itoaL n).length≤21) (h:fileL id text n a=.ok f):NameOk f.1∧f.2.length≤a.2.length+text.length+8:=by
 unfold fileL at h
 split at h
 ·cases h
  exact ⟨⟨by simp [kInbox];omega,105,_,rfl,by decide⟩,by simp;omega⟩
 ·split at h
  ·split at h
   ·rename_i hb
    have:=box_len hb
    cases h
    exact ⟨⟨by simp [kBox];omega,98,_,rfl,by decide⟩,by simp;omega⟩
   ·cases h
  ·split at h
   ·cases h
    exact ⟨⟨by simp [outL,kOut];omega,111,_,rfl,by decide⟩,by simp [outL,kToB];omega⟩
   ·split at h
    ·cases h
     exact ⟨⟨by simp [outL,kOut];omega,111,_,rfl,by decide⟩,by simp [outL,kRejectB];omega⟩
    ·cases h
theorem filesTo_ok_all {id text:List UInt8} (hi:id.length≤8) (M:Nat) (hD:∀ n,n≤6→(itoaL n).length≤21):∀ (r:List (Int×List UInt8)) (n:Nat) (l:List (List UInt8×List UInt8)),n+r.length≤6→(∀ a∈r,a.2.length≤M)→filesTo id text n r=.ok l→∀ f∈l,NameOk f.1∧f.2.length≤M+text.length+8
 | [],n,l,_,_,h=>by rw [filesTo] at h;cases h;intro f hf;cases hf
 | a :: r,n,l,hn,hM,h=>by
  rw [filesTo] at h
  simp only [List.length_cons] at hn
  cases hf:fileL id text n a with
  | error e=>rw [hf] at h;cases h
  | ok f=>
   rw [hf] at h
   dsimp only at h
   cases hr:filesTo id text (n+1) r with
   | error e=>rw [hr] at h;cases h
   | ok l'=>
    rw [hr] at h
    cases h
    intro g hg
    rcases List.mem_cons.1 hg with hg | hg
    ·subst hg
     have h1:=file_ok hi (hD n (by omega)) hf
     exact ⟨h1.1,by have:=hM a (by simp);omega⟩
    ·exact filesTo_ok_all hi M hD r (n+1) l' (by omega) (fun b hb=>hM b (by simp [hb])) hr g hg
end Go.Proofs.YtenahlandohgaaaGreatDoor
