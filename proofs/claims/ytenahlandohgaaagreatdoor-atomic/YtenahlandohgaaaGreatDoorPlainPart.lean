import Derived.Lib.Atoi
import Derived.Test.YtenahlandohgaaaGreatDoorGJour
namespace Go.Proofs.YtenahlandohgaaaGreatDoor
set_option linter.unusedVariables false
set_option linter.unusedSimpArgs false
set_option maxRecDepth 100000
set_option maxHeartbeats 4000000
theorem decFrom_snoc (l:List UInt8) (b:UInt8) (d:Nat) (hd:Lib.digitVal b=some d):∀ acc n,Lib.decFrom acc l=some n→Lib.decFrom acc (l++[b])=some (n*10+d):=by
 induction l with
 | nil=>intro acc n h;cases h;simp [Lib.decFrom,hd]
 | cons a r ih=>
  intro acc n h
  rw [List.cons_append]
  unfold Lib.decFrom at h ⊢
  cases ha:Lib.digitVal a with
  | none=>rw [ha] at h;cases h
  | some x=>rw [ha] at h;exact ih _ _ h
theorem digit_val (d:Nat) (h:d < 10):Lib.digitVal (UInt8.ofNat (48+d))=some d:=by
 unfold Lib.digitVal
 have:(UInt8.ofNat (48+d)).toNat=48+d:=by simp;omega
 rw [this,if_pos (by omega)]
 simp
theorem dec_back:∀ n:Nat,Lib.decFrom 0 (itoaL n)=some n:=by
 intro n
 induction n using Nat.strongRecOn with
 | _ n ih=>
  unfold itoaL Lib.decDigits
  split
  ·rename_i h
   show (match Lib.digitVal (UInt8.ofNat (48+n)) with
    | some d=>Lib.decFrom (0*10+d) []
    | none=>none)=some n
   rw [digit_val n h]
   show some (0*10+n)=some n
   rw [Nat.zero_mul,Nat.zero_add]
  ·rename_i h
   have:=decFrom_snoc (Lib.decDigits (n / 10)) (UInt8.ofNat (48+n % 10)) (n % 10) (digit_val _ (by omega)) 0 (n / 10) (ih (n / 10) (by omega))
   rw [this]
   congr 1
   omega
def isDig (b:UInt8):Prop:=48≤b.toNat∧b.toNat≤57
theorem itoa_digs:∀ n:Nat,∀ b∈itoaL n,isDig b:=by
 intro n
 induction n using Nat.strongRecOn with
 | _ n ih=>
  unfold itoaL Lib.decDigits
  intro b hb
  have hd:∀ d,d < 10→isDig (UInt8.ofNat (48+d)):=fun d h=>by
   have:(UInt8.ofNat (48+d)).toNat=48+d:=by simp;omega
   unfold isDig
   omega
  split at hb
  ·rename_i h
   rw [List.mem_singleton.1 hb]
   exact hd n h
  ·rename_i h
   rcases List.mem_append.1 hb with hb | hb
   ·exact ih (n / 10) (by omega) b hb
   ·rw [List.mem_singleton.1 hb];exact hd _ (by omega)
theorem itoa_ne (n:Nat):itoaL n≠[]:=by
 unfold itoaL Lib.decDigits
 split <;> simp
theorem atoi_back (n:Nat):Lib.atoi (itoaL n)=some (n:Int):=by
 have h1:=dec_back n
 have h2:=itoa_digs n
 have h3:=itoa_ne n
 generalize itoaL n=l at *
 cases l with
 | nil=>exact absurd rfl h3
 | cons b r=>
  have hb:=h2 b (by simp)
  unfold isDig at hb
  have e1:(b == 45)=false:=by
   rw [beq_eq_false_iff_ne];intro e;subst e;exact absurd hb (by decide)
  have e2:(b == 43)=false:=by
   rw [beq_eq_false_iff_ne];intro e;subst e;exact absurd hb (by decide)
  show (if (b == 45)=true then (Lib.decNat r).map (fun (m:Nat)=>-(m:Int)) else if (b == 43)=true then (Lib.decNat r).map (fun (m:Nat)=>(m:Int)) else (Lib.decNat (b :: r)).map (fun (m:Nat)=>(m:Int)))=some (n:Int)
  rw [e1,e2]
  simp [Lib.decNat,h1]
theorem dig_ne {b:UInt8} (h:isDig b) {c:UInt8} (hc:¬ isDig c):b≠c:=fun e=>hc (e ▸ h)
theorem index_at (c:UInt8) (y:List UInt8):∀ x:List UInt8,(∀ b∈x,b≠c)→Lib.indexByte (x++c :: y) c=(x.length:Int)
 | [],_=>by simp [Lib.indexByte]
 | a :: r,h=>by
  have ha:(a == c)=false:=by simpa using h a (by simp)
  have ih:=index_at c y r (fun b hb=>h b (by simp [hb]))
  rw [List.cons_append]
  unfold Lib.indexByte
  rw [ha,ih]
  have:((r.length:Int) == -1)=false:=by rw [beq_eq_false_iff_ne];omega
  rw [this]
  simp
theorem index_none (c:UInt8):∀ x:List UInt8,(∀ b∈x,b≠c)→Lib.indexByte x c = -1
 | [],_=>rfl
 | a :: r,h=>by
  have ha:(a == c)=false:=by simpa using h a (by simp)
  have ih:=index_none c r (fun b hb=>h b (by simp [hb]))
  unfold Lib.indexByte
  rw [ha,ih]
  rfl
theorem hexD_ne (m:Nat):hexD m≠10∧hexD m≠32:=by
 have hall:∀ k,digs.data.toList.getD k 0≠10∧digs.data.toList.getD k 0≠32:=fun k=>by
  by_cases hk:k < 36
  ·have:∀ k,k < 36→digs.data.toList.getD k 0≠10∧digs.data.toList.getD k 0≠32:=by decide
   exact this k hk
  ·rw [List.getD_eq_getElem?_getD,List.getElem?_eq_none (by show 36≤k;omega)]
   decide
 exact hall _
theorem hexF_ne:∀ (k m:Nat),∀ b∈hexF k m,b≠10
 | 0,m,b,hb=>by rw [hexF] at hb;rw [List.mem_singleton.1 hb];exact (hexD_ne m).1
 | k+1,m,b,hb=>by
  rw [hexF] at hb
  split at hb
  ·rcases List.mem_append.1 hb with hb | hb
   ·exact hexF_ne k _ b hb
   ·rw [List.mem_singleton.1 hb];exact (hexD_ne m).1
  ·rw [List.mem_singleton.1 hb];exact (hexD_ne m).1
def headL (name body:List UInt8):List UInt8:=itoaL body.length++[32]++hexL (fnvL [name,[10],body])
theorem sealed_head (name body:List UInt8):sealedL name body=headL name body++10 :: body:=by
 unfold sealedL headL
 simp
theorem head_ne (name body:List UInt8):∀ b∈headL name body,b≠10:=by
 intro b hb
 unfold headL at hb
 rcases List.mem_append.1 hb with hb | hb
 ·rcases List.mem_append.1 hb with hb | hb
  ·exact dig_ne (itoa_digs _ b hb) (by unfold isDig;decide)
  ·rw [List.mem_singleton.1 hb];decide
 ·exact hexF_ne _ _ b hb
theorem split_one (c:UInt8):∀ (x x' y y':List UInt8),(∀ b∈x,b≠c)→(∀ b∈x',b≠c)→x++c :: y=x'++c :: y'→x=x'∧y=y'
 | [],[],y,y',_,_,h=>⟨rfl,by injection h⟩
 | [],a :: r,y,y',_,h2,h=>by injection h with h3 _;exact absurd h3.symm (h2 a (by simp))
 | a :: r,[],y,y',h1,_,h=>by injection h with h3 _;exact absurd h3 (h1 a (by simp))
 | a :: r,a' :: r',y,y',h1,h2,h=>by
  injection h with h3 h4
  obtain ⟨h5,h6⟩:=split_one c r r' y y' (fun b hb=>h1 b (by simp [hb])) (fun b hb=>h2 b (by simp [hb])) h4
  exact ⟨by rw [h3,h5],h6⟩
theorem torn_head (name body:List UInt8) (k:Nat) (hk:k < (sealedL name body).length) :
 (∀ b∈(sealedL name body).take k,b≠10)∨∃ z,(sealedL name body).take k=headL name body++10 :: z∧z.length < body.length∧sealedL name z≠(sealedL name body).take k:=by
 rw [sealed_head] at hk ⊢
 by_cases h:k≤(headL name body).length
 ·refine Or.inl (fun b hb=>head_ne name body b ?_)
  rw [List.take_append_of_le_length h] at hb
  exact List.mem_of_mem_take hb
 ·have hk2:k=(headL name body).length+(k - (headL name body).length):=by omega
  obtain ⟨j,hj⟩:∃ j,k - (headL name body).length=j+1:=⟨k - (headL name body).length - 1,by omega⟩
  have hl:(headL name body++10 :: body).length=(headL name body).length+(body.length+1):=by simp
  have ht:(headL name body++10 :: body).take k=headL name body++10 :: body.take j:=by
   rw [hk2,List.take_length_add_append,hj,List.take_succ_cons]
  refine Or.inr ⟨body.take j,ht,by rw [List.length_take];omega,fun e=>?_⟩
  rw [ht,sealed_head] at e
  obtain ⟨e1,_⟩:=split_one 10 _ _ _ _ (head_ne name _) (head_ne name _) e
  unfold headL at e1
  rw [List.append_assoc,List.append_assoc] at e1
  have hd:∀ n,∀ b∈itoaL n,b≠32:=fun n b hb=>dig_ne (itoa_digs n b hb) (by unfold isDig;decide)
  obtain ⟨e2,_⟩:=split_one 32 _ _ _ _ (hd _) (hd _) e1
  have e3:((body.take j).length)=body.length:=by
   have h1:=dec_back (body.take j).length
   rw [e2,dec_back] at h1
   injection h1 with h1
   omega
  rw [List.length_take] at e3
  omega
end Go.Proofs.YtenahlandohgaaaGreatDoor
