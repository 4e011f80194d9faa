import PyProof.Rows.All
import Wide.All
import OpenK.AllK
import Wide.FinOn
import HandS.ForMost
import HandS.Wide
import HandS.WideBits
import HandS.IsInst
import HandS.Flow
import HandS.ExcInit
import HandS.EndBits
import HandS.Codes
import HandS.Star
import HandS.Conv
import HandS.FStr
import PySem.Challenge.RW_swapkinds_k17_whole_yards_added
import KE.GoesEnum
import KE.KTupSum
import KE.KCallOwn
import HandS.ClsMeth
import HandS.Property
import HandS.MakeKw
import HandS.Small
import HandS.Zip
import HandS.MakeKwOnly
import PyProof.ReprLen
import HandS.More
import KE.KExcInit
import KE.KExcIs
import HandS.LawCells
import HandS.ExcCtx
import HandS.HotCalls
import HandS.WordsExc
import KE.KTryMore
import PyProof.RulesAs
import HandS.Lambda
import HandS.EndTab
import HandS.Comp
import HandS.Deep
import KE.DataFind
import HandS.ExcField
import HandS.Dict
import HandS.TupMul
import PyProof.ListNew
import HandS.Rev
import HandS.Strs
import HandS.Style
import KE.DatumOrd
import HandS.Iter
import HandS.TupAny
import PyProof.EqKinds
import PyProof.NeKinds
import PyProof.FactsAll.dict
import PyProof.InstNe
import HandS.Head2
set_option Elab.async false
set_option linter.all false
set_option maxRecDepth 100000
set_option maxHeartbeats 4000000
namespace Sv
open PySem L2

/-- a value of the copy: tracked objects by their numbers, classes of the program by theirs -/
inductive W where
  | non | bl (b : Bool) | int (i : Int) | str (x : Str) | ref (i : Nat) | cl (n : Nat) | ty (s : String)
  deriving DecidableEq
inductive O where
  | lst (xs : List W) | tup (xs : List W) | dk (kvs : List (Key × W)) | exo (C d : Nat) | exd (fs : List (Str × W)) | exz (C : Nat)
  deriving DecidableEq

structure Kx where
  K : PySem.W.Frag
  cl : List Addr

def RelW (κ : Kx) (ρ : List Addr) : W → V → Prop
  | .non, v => v = .non
  | .bl b, v => v = .bl b
  | .int i, v => v = .int i
  | .str x, v => v = .str x
  | .ref i, v => ∃ a, ρ[i]? = some a ∧ v = .ref a
  | .cl n, v => ∃ a, κ.cl[n]? = some a ∧ v = .ref a
  | .ty s, v => v = .ty s
abbrev RelL (κ : Kx) (ρ : List Addr) : List W → List V → Prop := Paired (RelW κ ρ)
def RelP {α : Type} (κ : Kx) (ρ : List Addr) (p : α × W) (q : α × V) : Prop := p.1 = q.1 ∧ RelW κ ρ p.2 q.2

def ObjR (κ : Kx) (ρ : List Addr) (H : Hp) (a : Addr) : O → Prop
  | .lst xs => ∃ vs, H a = some (.lst vs) ∧ RelL κ ρ xs vs
  | .tup xs => ∃ vs, H a = some (.tup vs) ∧ RelL κ ρ xs vs
  | .dk kvs => ∃ vs, H a = some (.dK vs) ∧ Paired (RelP κ ρ) kvs vs
  | .exo C d => ∃ c b, κ.cl[C]? = some c ∧ ρ[d]? = some b ∧ H a = some (exo a c (some b))
  | .exd fs => ∃ gs, H a = some (exd a gs) ∧ Paired (RelP κ ρ) fs gs
  | .exz C => ∃ c, κ.cl[C]? = some c ∧ H a = some (exo a c none)

def Pre (ρ ρ' : List Addr) : Prop := ∀ (i : Nat) (a : Addr), ρ[i]? = some a → ρ'[i]? = some a
theorem Pre.refl (ρ : List Addr) : Pre ρ ρ := fun _ _ h => h
theorem Pre.trans {a b c : List Addr} (x : Pre a b) (y : Pre b c) : Pre a c := fun i p h => y i p (x i p h)
theorem Pre.snoc (ρ : List Addr) (p : Addr) : Pre ρ (ρ ++ [p]) := fun i a h => by
  have hi := (List.getElem?_eq_some_iff.mp h).1
  rw [List.getElem?_append_left hi]
  exact h

section
variable {κ : Kx} {ρ ρ' ρ'' : List Addr} {H H' H'' : Hp}
theorem RelW.mono (p : Pre ρ ρ') : ∀ {w : W} {v : V}, RelW κ ρ w v → RelW κ ρ' w v
  | .non, _, h => h
  | .bl _, _, h => h
  | .int _, _, h => h
  | .str _, _, h => h
  | .ref _, _, ⟨a, h, e⟩ => ⟨a, p _ _ h, e⟩
  | .cl _, _, h => h
  | .ty _, _, h => h
theorem Paired.mono {α β : Type} {F G : α → β → Prop} (h : ∀ a b, F a b → G a b) : ∀ {l₁ : List α} {l₂ : List β}, Paired F l₁ l₂ → Paired G l₁ l₂
  | _, _, .nil => .nil
  | _, _, .cons r t => .cons (h _ _ r) (Paired.mono h t)
theorem RelL.mono (p : Pre ρ ρ') {xs : List W} {vs : List V} (h : RelL κ ρ xs vs) : RelL κ ρ' xs vs := Paired.mono (fun _ _ => RelW.mono p) h
theorem RelP.mono {α : Type} (p : Pre ρ ρ') {x : α × W} {y : α × V} (h : RelP κ ρ x y) : RelP κ ρ' x y := ⟨h.1, h.2.mono p⟩
theorem ObjR.mono {a : Addr} (p : Pre ρ ρ') (e : H' a = H a) : ∀ {o : O}, ObjR κ ρ H a o → ObjR κ ρ' H' a o
  | .lst _, ⟨vs, h, r⟩ => ⟨vs, e.trans h, RelL.mono p r⟩
  | .tup _, ⟨vs, h, r⟩ => ⟨vs, e.trans h, RelL.mono p r⟩
  | .dk _, ⟨vs, h, r⟩ => ⟨vs, e.trans h, Paired.mono (fun _ _ => RelP.mono p) r⟩
  | .exo _ _, ⟨c, b, h1, h2, h3⟩ => ⟨c, b, h1, p _ _ h2, e.trans h3⟩
  | .exd _, ⟨gs, h, r⟩ => ⟨gs, e.trans h, Paired.mono (fun _ _ => RelP.mono p) r⟩
  | .exz _, ⟨c, h1, h3⟩ => ⟨c, h1, e.trans h3⟩
theorem ObjR.there {a : Addr} : ∀ {o : O}, ObjR κ ρ H a o → ∃ u, H a = some u
  | .lst _, ⟨_, h, _⟩ => ⟨_, h⟩
  | .tup _, ⟨_, h, _⟩ => ⟨_, h⟩
  | .dk _, ⟨_, h, _⟩ => ⟨_, h⟩
  | .exo _ _, ⟨_, _, _, _, h⟩ => ⟨_, h⟩
  | .exd _, ⟨_, h, _⟩ => ⟨_, h⟩
  | .exz _, ⟨_, _, h⟩ => ⟨_, h⟩

structure Rep (κ : Kx) (ρ : List Addr) (A : List O) (H : Hp) : Prop where
  len : ρ.length = A.length
  nd : ρ.Nodup
  ob : ∀ (i : Nat) (a : Addr) (o : O), ρ[i]? = some a → A[i]? = some o → ObjR κ ρ H a o

structure Go (ρ : List Addr) (H : Hp) (ρ' : List Addr) (H' : Hp) : Prop where
  pre : Pre ρ ρ'
  new : ∀ p, p ∈ ρ' → p ∈ ρ ∨ H p = none
  kp : ∀ b o, H b = some o → b ∉ ρ → H' b = some o
theorem Go.refl : Go ρ H ρ H := ⟨.refl _, fun _ h => .inl h, fun _ _ h _ => h⟩
theorem Go.trans (a : Go ρ H ρ' H') (b : Go ρ' H' ρ'' H'') : Go ρ H ρ'' H'' where
  pre := a.pre.trans b.pre
  new := fun p hp => by
    by_cases h1 : p ∈ ρ
    · exact .inl h1
    · refine .inr ?_
      rcases b.new p hp with h | h
      · rcases a.new p h with h | h
        · exact absurd h h1
        · exact h
      · cases e : H p with
        | none => rfl
        | some o =>
          rw [a.kp p o e h1] at h
          cases h
  kp := fun c o e h => b.kp c o (a.kp c o e h) fun h2 => by
    rcases a.new c h2 with h3 | h3
    · exact h h3
    · rw [e] at h3
      cases h3
variable {A : List O}
theorem Rep.at (R : Rep κ ρ A H) {i : Nat} {o : O} (h : A[i]? = some o) : ∃ a, ρ[i]? = some a ∧ ObjR κ ρ H a o := by
  have hi := (List.getElem?_eq_some_iff.mp h).1
  rw [← R.len] at hi
  exact ⟨ρ[i], List.getElem?_eq_getElem hi, R.ob i _ o (List.getElem?_eq_getElem hi) h⟩
theorem Rep.of (R : Rep κ ρ A H) {i : Nat} {a : Addr} {o : O} (ha : ρ[i]? = some a) (h : A[i]? = some o) : ObjR κ ρ H a o := R.ob i a o ha h
theorem Rep.fresh (R : Rep κ ρ A H) {p : Addr} (hp : H p = none) : p ∉ ρ := fun h => by
  obtain ⟨i, hi⟩ := List.getElem?_of_mem h
  have hl := (List.getElem?_eq_some_iff.mp hi).1
  rw [R.len] at hl
  obtain ⟨u, e⟩ := (R.ob i p _ hi (List.getElem?_eq_getElem hl)).there
  rw [hp] at e
  cases e
theorem Rep.push (R : Rep κ ρ A H) {p : Addr} {o : O} {u : HO} (hp : H p = none) (h : ObjR κ (ρ ++ [p]) (upd H p u) p o) : Rep κ (ρ ++ [p]) (A ++ [o]) (upd H p u) ∧ Go ρ H (ρ ++ [p]) (upd H p u) := by
  have nf := R.fresh hp
  refine ⟨⟨by simp [R.len], ?_, fun i a o' ha ho => ?_⟩, ⟨.snoc ρ p, fun q hq => ?_, fun b ob e hb => by rw [upd_ne (ne_of_none e hp)]; exact e⟩⟩
  · rw [List.nodup_append]
    refine ⟨R.nd, by simp, fun a ha b hb e => ?_⟩
    rw [List.mem_singleton.mp hb] at e
    exact nf (e ▸ ha)
  · by_cases hi : i < ρ.length
    · rw [List.getElem?_append_left hi] at ha
      rw [List.getElem?_append_left (by rw [← R.len]; exact hi)] at ho
      have hne : a ≠ p := fun e => nf (e ▸ List.mem_of_getElem? ha)
      exact (R.ob i a o' ha ho).mono (.snoc ρ p) (upd_ne hne)
    · have hi2 : i = ρ.length := by
        have := (List.getElem?_eq_some_iff.mp ha).1
        rw [List.length_append, List.length_singleton] at this
        omega
      subst hi2
      rw [List.getElem?_append_right (Nat.le_refl _), Nat.sub_self] at ha
      rw [R.len, List.getElem?_append_right (Nat.le_refl _), Nat.sub_self] at ho
      obtain rfl : p = a := Option.some.inj ha
      obtain rfl : o = o' := Option.some.inj ho
      exact h
  · rcases List.mem_append.mp hq with h1 | h1
    · exact .inl h1
    · exact .inr (by rw [List.mem_singleton.mp h1]; exact hp)
theorem snoc_at (ρ : List Addr) (p : Addr) : (ρ ++ [p])[ρ.length]? = some p := by simp
theorem Rep.set (R : Rep κ ρ A H) {i : Nat} {a : Addr} {o : O} {u : HO} (hi : ρ[i]? = some a) (h : ObjR κ ρ (upd H a u) a o) : Rep κ ρ (A.set i o) (upd H a u) ∧ Go ρ H ρ (upd H a u) := by
  refine ⟨⟨by simp [R.len], R.nd, fun j b o' hb ho => ?_⟩, ⟨.refl _, fun _ h => .inl h, fun b ob e hb => by
    have hba : b ≠ a := fun z => by
      subst z
      exact hb (List.mem_of_getElem? hi)
    rw [upd_ne hba]
    exact e⟩⟩
  by_cases hj : i = j
  · subst hj
    rw [hi] at hb
    obtain rfl : a = b := Option.some.inj hb
    have hl := (List.getElem?_eq_some_iff.mp hi).1
    rw [R.len] at hl
    rw [List.getElem?_set_self hl] at ho
    obtain rfl : o = o' := Option.some.inj ho
    exact h
  · rw [List.getElem?_set_ne hj] at ho
    have hne : b ≠ a := fun e => by
      subst e
      obtain ⟨h1, e1⟩ := List.getElem?_eq_some_iff.mp hi
      obtain ⟨h2, e2⟩ := List.getElem?_eq_some_iff.mp hb
      exact hj ((List.getElem_inj R.nd).mp (e1.trans e2.symm))
    exact (R.ob j b o' hb ho).mono (.refl _) (upd_ne hne)
end

/-! ### what a reading does to the copy -/
abbrev Sl := List (Option W)
abbrev ME := Sl → List O → Option (W × List O)
abbrev MT := Sl → List O → Option (Bool × List O)
abbrev MA := Sl → List O → Option (List W × List O)
inductive Out where
  | nx (e : Sl) | rt (w : W) | bk (e : Sl) | ct (e : Sl)
abbrev MS := Sl → List O → Option (Out × List O)
def RelE (κ : Kx) (ρ : List Addr) (e : Sl) (σ : St) : Prop := e.length = σ.length ∧ ∀ (i : Nat) (w : W), e[i]? = some (some w) → ∃ v, σ[i]? = some (some v) ∧ RelW κ ρ w v
theorem RelE.mono {κ : Kx} {ρ ρ' : List Addr} {e : Sl} {σ : St} (p : Pre ρ ρ') (h : RelE κ ρ e σ) : RelE κ ρ' e σ := ⟨h.1, fun i w q => by
  obtain ⟨v, h1, h2⟩ := h.2 i w q
  exact ⟨v, h1, h2.mono p⟩⟩
theorem RelE.set {κ : Kx} {ρ : List Addr} {e : Sl} {σ : St} (h : RelE κ ρ e σ) {w : W} {v : V} (r : RelW κ ρ w v) (i : Nat) : RelE κ ρ (e.set i (some w)) (σ.set i (some v)) := by
  refine ⟨by rw [List.length_set, List.length_set]; exact h.1, fun j x q => ?_⟩
  by_cases hj : i = j
  · subst hj
    have hl := (List.getElem?_eq_some_iff.mp q).1
    rw [List.length_set] at hl
    rw [List.getElem?_set_self hl] at q
    obtain rfl : w = x := Option.some.inj (Option.some.inj q)
    exact ⟨v, List.getElem?_set_self (by rw [← h.1]; exact hl), r⟩
  · rw [List.getElem?_set_ne hj] at q ⊢
    exact h.2 j x q

def SimE (κ : Kx) (t : TE) (m : ME) : Prop := ∀ (ρ : List Addr) (A : List O) (e : Sl) (σ : St) (H : Hp) (Q : VK) (w : W) (A' : List O), Rep κ ρ A H → RelE κ ρ e σ → m e A = some (w, A') →
  (∀ ρ' H' v, Rep κ ρ' A' H' → Go ρ H ρ' H' → RelW κ ρ' w v → Q v H') → t σ H Q
def SimT (κ : Kx) (t : TT) (m : MT) : Prop := ∀ (ρ : List Addr) (A : List O) (e : Sl) (σ : St) (H : Hp) (Q : Bool → Hp → Prop) (b : Bool) (A' : List O), Rep κ ρ A H → RelE κ ρ e σ → m e A = some (b, A') →
  (∀ ρ' H', Rep κ ρ' A' H' → Go ρ H ρ' H' → Q b H') → t σ H Q
def SimA (κ : Kx) (t : TA) (m : MA) : Prop := ∀ (ρ : List Addr) (A : List O) (e : Sl) (σ : St) (H : Hp) (Q : List V → Hp → Prop) (ws : List W) (A' : List O), Rep κ ρ A H → RelE κ ρ e σ → m e A = some (ws, A') →
  (∀ ρ' H' vs, Rep κ ρ' A' H' → Go ρ H ρ' H' → RelL κ ρ' ws vs → Q vs H') → t σ H Q
def OutR (κ : Kx) (ρ : List Addr) (D : Ends) (H : Hp) : Out → Prop
  | .nx e => ∀ σ, RelE κ ρ e σ → D.nx σ H
  | .rt w => ∀ v, RelW κ ρ w v → D.rt v H
  | .bk e => ∀ σ, RelE κ ρ e σ → D.bk σ H
  | .ct e => ∀ σ, RelE κ ρ e σ → D.ct σ H
def SimS (κ : Kx) (t : TS) (m : MS) : Prop := ∀ (ρ : List Addr) (A : List O) (e : Sl) (σ : St) (H : Hp) (D : Ends) (o : Out) (A' : List O), Rep κ ρ A H → RelE κ ρ e σ → m e A = some (o, A') →
  (∀ ρ' H', Rep κ ρ' A' H' → Go ρ H ρ' H' → OutR κ ρ' D H' o) → t D σ H
def SimR (κ : Kx) (r : R2) (f : W → W → List O → Option (W × List O)) : Prop := ∀ (ρ : List Addr) (A : List O) (H : Hp) (x y : W) (vx vy : V) (w : W) (A' : List O) (Q : VK), Rep κ ρ A H → RelW κ ρ x vx → RelW κ ρ y vy → f x y A = some (w, A') →
  (∀ ρ' H' v, Rep κ ρ' A' H' → Go ρ H ρ' H' → RelW κ ρ' w v → Q v H') → r vx vy H Q
def SimC (κ : Kx) (r : List V → Hp → VK → Prop) (f : List W → List O → Option (W × List O)) : Prop := ∀ (ρ : List Addr) (A : List O) (H : Hp) (xs : List W) (vs : List V) (w : W) (A' : List O) (Q : VK), Rep κ ρ A H → RelL κ ρ xs vs → f xs A = some (w, A') →
  (∀ ρ' H' v, Rep κ ρ' A' H' → Go ρ H ρ' H' → RelW κ ρ' w v → Q v H') → r vs H Q

structure GE (X : Cx) (κ : Kx) (e : Expr) (t : TE) (m : ME) : Prop where
  pe : X.K = κ.K → PE X e t
  sim : SimE κ t m
structure GT (X : Cx) (κ : Kx) (e : Expr) (t : TT) (m : MT) : Prop where
  pt : X.K = κ.K → PT X e t
  sim : SimT κ t m
structure GW (X : Cx) (κ : Kx) (e : Expr) (t : TT) (m : MT) : Prop where
  pw : X.K = κ.K → PW X e t
  sim : SimT κ t m
structure GA (X : Cx) (κ : Kx) (es : List Expr) (t : TA) (m : MA) : Prop where
  pa : X.K = κ.K → PA X es t
  sim : SimA κ t m
structure GS (X : Cx) (κ : Kx) (st : Stmt) (t : TS) (m : MS) : Prop where
  ps : X.K = κ.K → PS X st t
  sim : SimS κ t m
structure GSs (X : Cx) (κ : Kx) (st : List Stmt) (t : TS) (m : MS) : Prop where
  pss : X.K = κ.K → PSs X st t
  sim : SimS κ t m

/-! ### the copy's steps -/
def mVar (i : Nat) : ME := fun e A => match e[i]? with | some (some w) => some (w, A) | _ => none
def mC (w : W) : ME := fun _ A => some (w, A)
def mOp (f : W → W → List O → Option (W × List O)) (a b : ME) : ME := fun e A => match a e A with
  | some (x, A1) => match b e A1 with
    | some (y, A2) => f x y A2
    | none => none
  | none => none
def mNil : MA := fun _ A => some ([], A)
def mCons (a : ME) (r : MA) : MA := fun e A => match a e A with
  | some (x, A1) => match r e A1 with
    | some (xs, A2) => some (x :: xs, A2)
    | none => none
  | none => none
def mCB (f : List W → List O → Option (W × List O)) (a : MA) : ME := fun e A => match a e A with
  | some (xs, A1) => f xs A1
  | none => none
def mTup (a : MA) : ME := fun e A => match a e A with
  | some (xs, A1) => if xs.length ≤ 100000 then some (.ref A1.length, A1 ++ [.tup xs]) else none
  | none => none
def mLst (a : MA) : ME := fun e A => match a e A with
  | some (xs, A1) => if xs.length ≤ 100000 then some (.ref A1.length, A1 ++ [.lst xs]) else none
  | none => none
def mB (a : ME) : MT := fun e A => match a e A with
  | some (.bl b, A1) => some (b, A1)
  | _ => none
def mAnd (a b : MT) : MT := fun e A => match a e A with
  | some (true, A1) => b e A1
  | r => r
def mOr (a b : MT) : MT := fun e A => match a e A with
  | some (false, A1) => b e A1
  | r => r
def mNot (a : MT) : MT := fun e A => match a e A with
  | some (b, A1) => some (!b, A1)
  | none => none
def mIf (t : MT) (a b : ME) : ME := fun e A => match t e A with
  | some (true, A1) => a e A1
  | some (false, A1) => b e A1
  | none => none
def mAndV (a b : ME) : ME := fun e A => match a e A with
  | some (.bl true, A1) => b e A1
  | some (.bl false, A1) => some (.bl false, A1)
  | _ => none
def mOrV (a b : ME) : ME := fun e A => match a e A with
  | some (.bl false, A1) => b e A1
  | some (.bl true, A1) => some (.bl true, A1)
  | _ => none
def mNotV (a : ME) : ME := fun e A => match a e A with
  | some (.bl b, A1) => some (.bl (!b), A1)
  | _ => none
def mNext : MS := fun e A => some (.nx e, A)
def mSeq (a b : MS) : MS := fun e A => match a e A with
  | some (.nx e1, A1) => b e1 A1
  | r => r
def mRet (a : ME) : MS := fun e A => match a e A with
  | some (w, A1) => some (.rt w, A1)
  | none => none
def mDrop (a : ME) : MS := fun e A => match a e A with
  | some (_, A1) => some (.nx e, A1)
  | none => none
def mIfS (t : MT) (a b : MS) : MS := fun e A => match t e A with
  | some (true, A1) => a e A1
  | some (false, A1) => b e A1
  | none => none
def mSet (i : Nat) (a : ME) : MS := fun e A => match a e A with
  | some (w, A1) => some (.nx (e.set i (some w)), A1)
  | none => none

section
variable {κ : Kx} {ta tb te : TE} {ma mb me : ME} {tA : TA} {mA : MA} {t u : TT} {m n : MT} {ts tu : TS} {ms mu : MS}
theorem sim_var (i : Nat) : SimE κ (tVar i) (mVar i) := by
  intro ρ A e σ H Q w A' R E h k
  unfold mVar at h
  split at h
  · rename_i w0 hw
    cases h
    obtain ⟨v, h1, h2⟩ := E.2 i w hw
    exact ⟨v, h1, k ρ H v R .refl h2⟩
  · cases h
theorem sim_c {w0 : W} {v0 : V} (r : ∀ ρ, RelW κ ρ w0 v0) : SimE κ (tC v0) (mC w0) := by
  intro ρ A e σ H Q w A' R E h k
  cases h
  exact k ρ H v0 R .refl (r ρ)
theorem sim_op {r : R2} {f : W → W → List O → Option (W × List O)} (ha : SimE κ ta ma) (hb : SimE κ tb mb) (hr : SimR κ r f) : SimE κ (tOp r ta tb) (mOp f ma mb) := by
  intro ρ A e σ H Q w A' R E h k
  unfold mOp at h
  split at h
  · rename_i x A1 h1
    split at h
    · rename_i y A2 h2
      refine ha _ _ _ _ _ _ _ _ R E h1 fun ρ1 H1 vx R1 G1 rx => ?_
      refine hb _ _ _ _ _ _ _ _ R1 (E.mono G1.pre) h2 fun ρ2 H2 vy R2 G2 ry => ?_
      exact hr _ _ _ _ _ _ _ _ _ Q R2 (rx.mono G2.pre) ry h fun ρ3 H3 v R3 G3 rv => k ρ3 H3 v R3 (G1.trans (G2.trans G3)) rv
    · cases h
  · cases h
theorem sim_nil : SimA κ tNil mNil := by
  intro ρ A e σ H Q w A' R E h k
  cases h
  exact k ρ H [] R .refl .nil
theorem sim_cons (ha : SimE κ ta ma) (hb : SimA κ tA mA) : SimA κ (tCons ta tA) (mCons ma mA) := by
  intro ρ A e σ H Q w A' R E h k
  unfold mCons at h
  split at h
  · rename_i x A1 h1
    split at h
    · rename_i y A2 h2
      cases h
      refine ha _ _ _ _ _ _ _ _ R E h1 fun ρ1 H1 vx R1 G1 rx => ?_
      exact hb _ _ _ _ _ _ _ _ R1 (E.mono G1.pre) h2 fun ρ2 H2 vy R2 G2 ry => k ρ2 H2 _ R2 (G1.trans G2) (.cons (rx.mono G2.pre) ry)
    · cases h
  · cases h
theorem sim_cb {r : List V → Hp → VK → Prop} {f : List W → List O → Option (W × List O)} (ha : SimA κ tA mA) (hr : SimC κ r f) : SimE κ (tCB r tA) (mCB f mA) := by
  intro ρ A e σ H Q w A' R E h k
  unfold mCB at h
  split at h
  · rename_i x A1 h1
    refine ha _ _ _ _ _ _ _ _ R E h1 fun ρ1 H1 vx R1 G1 rx => ?_
    exact hr _ _ _ _ _ _ _ Q R1 rx h fun ρ2 H2 v R2 G2 rv => k ρ2 H2 v R2 (G1.trans G2) rv
  · cases h
theorem sz_line {n : Nat} (h : n ≤ 100000) : n ≤ sizeLine := Nat.le_trans h (by decide)
theorem sz_lineL {n : Nat} (h : n < 100000) : n < sizeLine := Nat.lt_of_lt_of_le h (by decide)
theorem RelL.len {ρ : List Addr} {xs : List W} {vs : List V} (h : RelL κ ρ xs vs) : xs.length = vs.length := Paired.length h
theorem Rep.newTup {ρ : List Addr} {A : List O} {H : Hp} {p : Addr} {xs : List W} {vs : List V} (R : Rep κ ρ A H) (hp : H p = none) (r : RelL κ ρ xs vs) :
    Rep κ (ρ ++ [p]) (A ++ [.tup xs]) (upd H p (.tup vs)) ∧ Go ρ H (ρ ++ [p]) (upd H p (.tup vs)) ∧ RelW κ (ρ ++ [p]) (.ref A.length) (.ref p) := by
  obtain ⟨h1, h2⟩ := R.push (o := .tup xs) (u := .tup vs) hp ⟨vs, upd_same, RelL.mono (.snoc ρ p) r⟩
  exact ⟨h1, h2, p, by rw [← R.len]; exact snoc_at ρ p, rfl⟩
theorem Rep.newLst {ρ : List Addr} {A : List O} {H : Hp} {p : Addr} {xs : List W} {vs : List V} (R : Rep κ ρ A H) (hp : H p = none) (r : RelL κ ρ xs vs) :
    Rep κ (ρ ++ [p]) (A ++ [.lst xs]) (upd H p (.lst vs)) ∧ Go ρ H (ρ ++ [p]) (upd H p (.lst vs)) ∧ RelW κ (ρ ++ [p]) (.ref A.length) (.ref p) := by
  obtain ⟨h1, h2⟩ := R.push (o := .lst xs) (u := .lst vs) hp ⟨vs, upd_same, RelL.mono (.snoc ρ p) r⟩
  exact ⟨h1, h2, p, by rw [← R.len]; exact snoc_at ρ p, rfl⟩
theorem sim_tup (ha : SimA κ tA mA) : SimE κ (tTup tA) (mTup mA) := by
  intro ρ A e σ H Q w A' R E h k
  unfold mTup at h
  split at h
  · rename_i xs A1 h1
    split at h
    · rename_i hz
      cases h
      refine ha _ _ _ _ _ _ _ _ R E h1 fun ρ1 H1 vs R1 G1 rs => ?_
      refine ⟨by rw [← rs.len]; exact sz_line hz, fun p hp => ?_⟩
      obtain ⟨R2, G2, r2⟩ := R1.newTup hp rs
      exact k _ _ _ R2 (G1.trans G2) r2
    · cases h
  · cases h
theorem sim_lst (ha : SimA κ tA mA) : SimE κ (tLst tA) (mLst mA) := by
  intro ρ A e σ H Q w A' R E h k
  unfold mLst at h
  split at h
  · rename_i xs A1 h1
    split at h
    · rename_i hz
      cases h
      refine ha _ _ _ _ _ _ _ _ R E h1 fun ρ1 H1 vs R1 G1 rs => ?_
      refine ⟨by rw [← rs.len]; exact sz_line hz, fun p hp => ?_⟩
      obtain ⟨R2, G2, r2⟩ := R1.newLst hp rs
      exact k _ _ _ R2 (G1.trans G2) r2
    · cases h
  · cases h
theorem sim_b (ha : SimE κ ta ma) : SimT κ (tB ta) (mB ma) := by
  intro ρ A e σ H Q w A' R E h k
  unfold mB at h
  split at h
  · rename_i b A1 h1
    cases h
    refine ha _ _ _ _ _ _ _ _ R E h1 fun ρ1 H1 v R1 G1 rv => ?_
    exact ⟨w, rv, k ρ1 H1 R1 G1⟩
  · cases h
theorem sim_test (ha : SimE κ ta ma) : SimT κ (tTest ta) (mB ma) := by
  intro ρ A e σ H Q w A' R E h k
  unfold mB at h
  split at h
  · rename_i b A1 h1
    cases h
    refine ha _ _ _ _ _ _ _ _ R E h1 fun ρ1 H1 v R1 G1 rv => ?_
    exact ⟨w, rv, k ρ1 H1 R1 G1⟩
  · cases h
theorem sim_and (ha : SimT κ t m) (hb : SimT κ u n) : SimT κ (tAnd t u) (mAnd m n) := by
  intro ρ A e σ H Q w A' R E h k
  unfold mAnd at h
  split at h
  · rename_i A1 h1
    refine ha _ _ _ _ _ _ _ _ R E h1 fun ρ1 H1 R1 G1 => ?_
    show u σ H1 Q
    exact hb _ _ _ _ _ _ _ _ R1 (E.mono G1.pre) h fun ρ2 H2 R2 G2 => k ρ2 H2 R2 (G1.trans G2)
  · rename_i r hr
    cases w with
    | true => exact absurd h (hr A')
    | false =>
      refine ha _ _ _ _ _ _ _ _ R E h fun ρ1 H1 R1 G1 => ?_
      show Q false H1
      exact k ρ1 H1 R1 G1
theorem sim_or (ha : SimT κ t m) (hb : SimT κ u n) : SimT κ (tOr t u) (mOr m n) := by
  intro ρ A e σ H Q w A' R E h k
  unfold mOr at h
  split at h
  · rename_i A1 h1
    refine ha _ _ _ _ _ _ _ _ R E h1 fun ρ1 H1 R1 G1 => ?_
    show u σ H1 Q
    exact hb _ _ _ _ _ _ _ _ R1 (E.mono G1.pre) h fun ρ2 H2 R2 G2 => k ρ2 H2 R2 (G1.trans G2)
  · rename_i r hr
    cases w with
    | false => exact absurd h (hr A')
    | true =>
      refine ha _ _ _ _ _ _ _ _ R E h fun ρ1 H1 R1 G1 => ?_
      show Q true H1
      exact k ρ1 H1 R1 G1
theorem sim_not (ha : SimT κ t m) : SimT κ (tNot t) (mNot m) := by
  intro ρ A e σ H Q w A' R E h k
  unfold mNot at h
  split at h
  · rename_i b A1 h1
    cases h
    exact ha _ _ _ _ _ _ _ _ R E h1 fun ρ1 H1 R1 G1 => k ρ1 H1 R1 G1
  · cases h
theorem sim_if (ht : SimT κ t m) (ha : SimE κ ta ma) (hb : SimE κ tb mb) : SimE κ (tIf t ta tb) (mIf m ma mb) := by
  intro ρ A e σ H Q w A' R E h k
  unfold mIf at h
  split at h
  · rename_i A1 h1
    refine ht _ _ _ _ _ _ _ _ R E h1 fun ρ1 H1 R1 G1 => ?_
    show ta σ H1 Q
    exact ha _ _ _ _ _ _ _ _ R1 (E.mono G1.pre) h fun ρ2 H2 v R2 G2 rv => k ρ2 H2 v R2 (G1.trans G2) rv
  · rename_i A1 h1
    refine ht _ _ _ _ _ _ _ _ R E h1 fun ρ1 H1 R1 G1 => ?_
    show tb σ H1 Q
    exact hb _ _ _ _ _ _ _ _ R1 (E.mono G1.pre) h fun ρ2 H2 v R2 G2 rv => k ρ2 H2 v R2 (G1.trans G2) rv
  · cases h
theorem sim_andV (ha : SimE κ ta ma) (hb : SimE κ tb mb) : SimE κ (tAndV ta tb) (mAndV ma mb) := by
  intro ρ A e σ H Q w A' R E h k
  unfold mAndV at h
  split at h
  · rename_i A1 h1
    refine ha _ _ _ _ _ _ _ _ R E h1 fun ρ1 H1 v R1 G1 rv => ⟨true, rv, ?_⟩
    show tb σ H1 Q
    exact hb _ _ _ _ _ _ _ _ R1 (E.mono G1.pre) h fun ρ2 H2 v R2 G2 rv => k ρ2 H2 v R2 (G1.trans G2) rv
  · rename_i A1 h1
    cases h
    refine ha _ _ _ _ _ _ _ _ R E h1 fun ρ1 H1 v R1 G1 rv => ⟨false, rv, ?_⟩
    show Q (.bl false) H1
    exact k ρ1 H1 _ R1 G1 rfl
  · cases h
theorem sim_orV (ha : SimE κ ta ma) (hb : SimE κ tb mb) : SimE κ (tOrV ta tb) (mOrV ma mb) := by
  intro ρ A e σ H Q w A' R E h k
  unfold mOrV at h
  split at h
  · rename_i A1 h1
    refine ha _ _ _ _ _ _ _ _ R E h1 fun ρ1 H1 v R1 G1 rv => ⟨false, rv, ?_⟩
    show tb σ H1 Q
    exact hb _ _ _ _ _ _ _ _ R1 (E.mono G1.pre) h fun ρ2 H2 v R2 G2 rv => k ρ2 H2 v R2 (G1.trans G2) rv
  · rename_i A1 h1
    cases h
    refine ha _ _ _ _ _ _ _ _ R E h1 fun ρ1 H1 v R1 G1 rv => ⟨true, rv, ?_⟩
    show Q (.bl true) H1
    exact k ρ1 H1 _ R1 G1 rfl
  · cases h
theorem sim_notV (ha : SimE κ ta ma) : SimE κ (tNotV ta) (mNotV ma) := by
  intro ρ A e σ H Q w A' R E h k
  unfold mNotV at h
  split at h
  · rename_i b A1 h1
    cases h
    exact ha _ _ _ _ _ _ _ _ R E h1 fun ρ1 H1 v R1 G1 rv => ⟨b, rv, k ρ1 H1 _ R1 G1 rfl⟩
  · cases h
/-! ### statements -/
theorem sim_next : SimS κ tNext mNext := by
  intro ρ A e σ H D o A' R E h k
  cases h
  exact k ρ H R .refl σ E
theorem sim_seq (ha : SimS κ ts ms) (hb : SimS κ tu mu) : SimS κ (tSeq ts tu) (mSeq ms mu) := by
  intro ρ A e σ H D o A' R E h k
  unfold mSeq at h
  split at h
  · rename_i e1 A1 h1
    refine ha _ _ _ _ _ _ _ _ R E h1 fun ρ1 H1 R1 G1 σ1 E1 => ?_
    exact hb _ _ _ _ _ _ _ _ R1 E1 h fun ρ2 H2 R2 G2 => k ρ2 H2 R2 (G1.trans G2)
  · rename_i r hr
    refine ha _ _ _ _ _ _ _ _ R E h fun ρ1 H1 R1 G1 => ?_
    have q := k ρ1 H1 R1 G1
    cases o with
    | nx e1 => exact absurd h (hr e1 A')
    | rt w => exact q
    | bk e1 => exact q
    | ct e1 => exact q
theorem sim_ret (ha : SimE κ ta ma) : SimS κ (tRet ta) (mRet ma) := by
  intro ρ A e σ H D o A' R E h k
  unfold mRet at h
  split at h
  · rename_i w A1 h1
    cases h
    exact ha _ _ _ _ _ _ _ _ R E h1 fun ρ1 H1 v R1 G1 rv => k ρ1 H1 R1 G1 v rv
  · cases h
theorem sim_drop (ha : SimE κ ta ma) : SimS κ (tDrop ta) (mDrop ma) := by
  intro ρ A e σ H D o A' R E h k
  unfold mDrop at h
  split at h
  · rename_i w A1 h1
    cases h
    exact ha _ _ _ _ _ _ _ _ R E h1 fun ρ1 H1 v R1 G1 rv => k ρ1 H1 R1 G1 σ (E.mono G1.pre)
  · cases h
theorem sim_ifS (ht : SimT κ t m) (ha : SimS κ ts ms) (hb : SimS κ tu mu) : SimS κ (tIfS t ts tu) (mIfS m ms mu) := by
  intro ρ A e σ H D o A' R E h k
  unfold mIfS at h
  split at h
  · rename_i A1 h1
    refine ht _ _ _ _ _ _ _ _ R E h1 fun ρ1 H1 R1 G1 => ?_
    show ts D σ H1
    exact ha _ _ _ _ _ _ _ _ R1 (E.mono G1.pre) h fun ρ2 H2 R2 G2 => k ρ2 H2 R2 (G1.trans G2)
  · rename_i A1 h1
    refine ht _ _ _ _ _ _ _ _ R E h1 fun ρ1 H1 R1 G1 => ?_
    show tu D σ H1
    exact hb _ _ _ _ _ _ _ _ R1 (E.mono G1.pre) h fun ρ2 H2 R2 G2 => k ρ2 H2 R2 (G1.trans G2)
  · cases h
theorem sim_set (i : Nat) (ha : SimE κ ta ma) : SimS κ (tAsg ta (gName i)) (mSet i ma) := by
  intro ρ A e σ H D o A' R E h k
  unfold mSet at h
  split at h
  · rename_i w A1 h1
    cases h
    exact ha _ _ _ _ _ _ _ _ R E h1 fun ρ1 H1 v R1 G1 rv => k ρ1 H1 R1 G1 _ ((E.mono G1.pre).set rv i)
  · cases h
end
end Sv

set_option Elab.async false
set_option linter.all false
set_option maxRecDepth 100000
set_option maxHeartbeats 4000000
namespace Sv
open PySem L2

/-! ### operators by values -/
abbrev F2 := W → W → List O → Option (W × List O)
def fII (c : Int → Int → Bool) (g : Int → Int → W) : F2
  | .int i, .int j, A => if c i j = true then some (g i j, A) else none
  | _, _, _ => none
def lstAt (A : List O) (l : Nat) : Option (List W) := match A[l]? with
  | some (.lst xs) => some xs
  | _ => none
def tupAt (A : List O) (l : Nat) : Option (List W) := match A[l]? with
  | some (.tup xs) => some xs
  | _ => none
def fCat : F2
  | .ref a, .ref b, A => match lstAt A a, lstAt A b with
    | some xs, some ys => if xs.length + ys.length ≤ 100000 then some (.ref A.length, A ++ [.lst (xs ++ ys)]) else none
    | _, _ => none
  | _, _, _ => none
def fRep : F2
  | .ref a, .int k, A => match lstAt A a with
    | some xs => if 0 ≤ k ∧ k ≤ 10000 ∧ xs.length ≤ 10 ∨ (0 ≤ k ∧ k ≤ 10 ∧ xs.length ≤ 10000) then some (.ref A.length, A ++ [.lst (List.replicate k.toNat xs).flatten]) else none
    | none => none
  | _, _, _ => none
def fIxL : F2
  | .ref a, .int k, A => match lstAt A a with
    | some xs => match atI xs k with
      | some w => some (w, A)
      | none => none
    | none => none
  | _, _, _ => none
def fIxT : F2
  | .ref a, .int k, A => match tupAt A a with
    | some xs => match atI xs k with
      | some w => some (w, A)
      | none => none
    | none => none
  | _, _, _ => none
def flatW : W → Bool
  | .non => true
  | .bl _ => true
  | .int _ => true
  | .str _ => true
  | _ => false
def eqW : W → W → Bool
  | .non, .non => true
  | .bl a, .bl b => a == b
  | .bl a, .int b => (if a then 1 else 0) == b
  | .int a, .bl b => a == (if b then 1 else 0)
  | .int a, .int b => a == b
  | .str a, .str b => a == b
  | _, _ => false
def seqAtO (A : List O) (l : Nat) : Option (List W) := match A[l]? with
  | some (.lst xs) => some xs
  | some (.tup xs) => some xs
  | _ => none
def fIn (neg : Bool) : F2
  | x, .ref b, A => match seqAtO A b with
    | some xs => if flatW x = true ∧ xs.all flatW = true then some (.bl (if neg then !(xs.any fun y => eqW y x) else xs.any fun y => eqW y x), A) else none
    | none => none
  | _, _, _ => none
/-- data, as == and repr see it -/
def toDs (f : W → Option PyData) : List W → Option (List PyData)
  | [] => some []
  | x :: xs => match f x with
    | some d => match toDs f xs with
      | some ds => some (d :: ds)
      | none => none
    | none => none
def toD (A : List O) : Nat → W → Option PyData
  | _, .non => some .none
  | _, .bl b => some (.bool b)
  | _, .int i => some (.int i)
  | _, .str x => some (.str x)
  | 0, _ => none
  | n + 1, .ref a => match A[a]? with
    | some (.lst xs) => match toDs (toD A n) xs with
      | some ds => some (.list ds)
      | none => none
    | some (.tup xs) => match toDs (toD A n) xs with
      | some ds => some (.tuple ds)
      | none => none
    | _ => none
  | _, _ => none
def fEqD (neg : Bool) : F2 := fun x y A => match toD A 8 x, toD A 8 y with
  | some d, some e => if SeqAt.shaped d = true ∧ SeqAt.shaped e = true then some (.bl (if neg then !PyData.eqv d e else PyData.eqv d e), A) else none
  | _, _ => none

section
variable {κ : Kx} {ρ : List Addr} {A : List O} {H : Hp}
theorem Rep.lstAt (R : Rep κ ρ A H) {l : Nat} {xs : List W} {v : V} (h : lstAt A l = some xs) (r : RelW κ ρ (.ref l) v) : ∃ a vs, v = .ref a ∧ ρ[l]? = some a ∧ H a = some (.lst vs) ∧ RelL κ ρ xs vs := by
  obtain ⟨a, ha, rfl⟩ := r
  unfold Sv.lstAt at h
  split at h
  · rename_i ys e
    cases h
    obtain ⟨vs, h1, h2⟩ := R.of ha e
    exact ⟨a, vs, rfl, ha, h1, h2⟩
  · cases h
theorem Rep.tupAt (R : Rep κ ρ A H) {l : Nat} {xs : List W} {v : V} (h : tupAt A l = some xs) (r : RelW κ ρ (.ref l) v) : ∃ a vs, v = .ref a ∧ ρ[l]? = some a ∧ H a = some (.tup vs) ∧ RelL κ ρ xs vs := by
  obtain ⟨a, ha, rfl⟩ := r
  unfold Sv.tupAt at h
  split at h
  · rename_i ys e
    cases h
    obtain ⟨vs, h1, h2⟩ := R.of ha e
    exact ⟨a, vs, rfl, ha, h1, h2⟩
  · cases h
theorem Rep.seqAt (R : Rep κ ρ A H) {l : Nat} {xs : List W} {v : V} (h : seqAtO A l = some xs) (r : RelW κ ρ (.ref l) v) : ∃ a vs, v = .ref a ∧ ρ[l]? = some a ∧ (H a = some (.lst vs) ∨ H a = some (.tup vs)) ∧ RelL κ ρ xs vs := by
  obtain ⟨a, ha, rfl⟩ := r
  unfold Sv.seqAtO at h
  split at h
  · rename_i ys e
    cases h
    obtain ⟨vs, h1, h2⟩ := R.of ha e
    exact ⟨a, vs, rfl, ha, .inl h1, h2⟩
  · rename_i ys e
    cases h
    obtain ⟨vs, h1, h2⟩ := R.of ha e
    exact ⟨a, vs, rfl, ha, .inr h1, h2⟩
  · cases h
theorem sr_I {C : Int → Int → Prop} {c : Int → Int → Bool} {g : Int → Int → V} {g' : Int → Int → W} (hc : ∀ i j, c i j = true → C i j) (hg : ∀ ρ i j, RelW κ ρ (g' i j) (g i j)) : SimR κ (rI C g) (fII c g') := by
  intro ρ A H x y vx vy w A' Q R rx ry h k
  unfold fII at h
  split at h
  · split at h
    · rename_i i j hij
      cases h
      exact ⟨i, j, rx, ry, hc _ _ hij, k ρ H _ R .refl (hg ρ i j)⟩
    · cases h
  · cases h
theorem sr_I0 {g : Int → Int → V} {g' : Int → Int → W} (hg : ∀ ρ i j, RelW κ ρ (g' i j) (g i j)) : SimR κ (rI0 g) (fII (fun _ _ => true) g') := by
  intro ρ A H x y vx vy w A' Q R rx ry h k
  unfold fII at h
  split at h
  · split at h
    · rename_i i j hij
      cases h
      exact ⟨i, j, rx, ry, k ρ H _ R .refl (hg ρ i j)⟩
    · cases h
  · cases h
theorem RelL.append {xs ys : List W} {vs us : List V} (a : RelL κ ρ xs vs) (b : RelL κ ρ ys us) : RelL κ ρ (xs ++ ys) (vs ++ us) := by
  induction a with
  | nil => exact b
  | cons r t ih => exact .cons r ih
theorem RelL.rep {xs : List W} {vs : List V} (a : RelL κ ρ xs vs) : ∀ n : Nat, RelL κ ρ (List.replicate n xs).flatten (List.replicate n vs).flatten
  | 0 => .nil
  | n + 1 => by
    rw [List.replicate_succ, List.replicate_succ, List.flatten_cons, List.flatten_cons]
    exact a.append (RelL.rep a n)
theorem RelL.get : ∀ {xs : List W} {vs : List V} {i : Nat} {w : W}, RelL κ ρ xs vs → xs[i]? = some w → ∃ v, vs[i]? = some v ∧ RelW κ ρ w v
  | _, _, _, _, .nil, e => by simp at e
  | _, _, 0, _, .cons r _, e => by
    simp at e
    subst e
    exact ⟨_, rfl, r⟩
  | _, _, i + 1, w, .cons _ t, e => by
    obtain ⟨v, h1, h2⟩ := RelL.get (i := i) (w := w) t (by simpa using e)
    exact ⟨v, by simpa using h1, h2⟩
theorem RelL.none_of : ∀ {xs : List W} {vs : List V} {i : Nat}, RelL κ ρ xs vs → xs[i]? = none → vs[i]? = none := fun {xs vs i} r e => by
  have h1 := r.len
  have h2 : xs.length ≤ i := List.getElem?_eq_none_iff.mp e
  exact List.getElem?_eq_none_iff.mpr (by omega)
theorem RelL.atI {xs : List W} {vs : List V} {k : Int} {w : W} (r : RelL κ ρ xs vs) (h : atI xs k = some w) : ∃ v, L2.atI vs k = some v ∧ RelW κ ρ w v := by
  unfold L2.atI at h ⊢
  obtain ⟨j, hj, hw⟩ := Option.bind_eq_some_iff.mp h
  obtain ⟨v, h1, h2⟩ := r.get hw
  exact ⟨v, by rw [← r.len, hj]; exact h1, h2⟩
theorem RelL.set {xs : List W} {vs : List V} {w : W} {v : V} (h : RelL κ ρ xs vs) (r : RelW κ ρ w v) : ∀ i : Nat, RelL κ ρ (xs.set i w) (vs.set i v) := by
  induction h with
  | nil => intro i; exact .nil
  | cons q t ih =>
    intro i
    cases i with
    | zero => exact .cons r t
    | succ i => exact .cons q (ih i)
theorem sr_cat : SimR κ rCat fCat := by
  intro ρ A H x y vx vy w A' Q R rx ry h k
  unfold fCat at h
  split at h
  · split at h
    · rename_i a b xs ys h1 h2
      split at h
      · rename_i hz
        cases h
        obtain ⟨p, vs, rfl, hp, e1, r1⟩ := R.lstAt h1 rx
        obtain ⟨q, us, rfl, hq, e2, r2⟩ := R.lstAt h2 ry
        refine ⟨p, q, vs, us, rfl, rfl, e1, e2, by rw [← r1.len, ← r2.len]; exact sz_line hz, fun t ht => ?_⟩
        obtain ⟨R2, G2, r3⟩ := R.newLst ht (r1.append r2)
        exact k _ _ _ R2 G2 r3
      · cases h
    · cases h
  · cases h
theorem sr_rep : SimR κ rRep fRep := by
  intro ρ A H x y vx vy w A' Q R rx ry h k
  unfold fRep at h
  split at h
  · split at h
    · rename_i a i x0 xs h1
      split at h
      · rename_i hz
        cases h
        obtain ⟨p, vs, rfl, hp, e1, r1⟩ := R.lstAt h1 rx
        have hl := r1.len
        have hb : 0 ≤ i ∧ i ≤ 10000 := by omega
        have hm : vs.length * i.toNat ≤ 100000 := by
          rcases hz with ⟨_, h2, h3⟩ | ⟨_, h2, h3⟩
          · exact Nat.le_trans (Nat.mul_le_mul (show vs.length ≤ 10 by omega) (show i.toNat ≤ 10000 by omega)) (by decide)
          · exact Nat.le_trans (Nat.mul_le_mul (show vs.length ≤ 10000 by omega) (show i.toNat ≤ 10 by omega)) (by decide)
        refine ⟨p, i, vs, rfl, ry, e1, by omega, by omega, sz_line hm, fun t ht => ?_⟩
        obtain ⟨R2, G2, r3⟩ := R.newLst ht (r1.rep i.toNat)
        exact k _ _ _ R2 G2 r3
      · cases h
    · cases h
  · cases h
theorem sr_ixL : SimR κ (rIxL κ.K) fIxL := by
  intro ρ A H x y vx vy w A' Q R rx ry h k
  unfold fIxL at h
  split at h
  · split at h
    · rename_i a i x0 xs h1
      split at h
      · rename_i u hu
        cases h
        obtain ⟨p, vs, rfl, hp, e1, r1⟩ := R.lstAt h1 rx
        obtain ⟨v, h2, h3⟩ := r1.atI hu
        exact ⟨p, vs, i, v, rfl, ry, SqL.of e1, h2, k ρ H v R .refl h3⟩
      · cases h
    · cases h
  · cases h
theorem sr_ixT : SimR κ (rIxT κ.K) fIxT := by
  intro ρ A H x y vx vy w A' Q R rx ry h k
  unfold fIxT at h
  split at h
  · split at h
    · rename_i a i x0 xs h1
      split at h
      · rename_i u hu
        cases h
        obtain ⟨p, vs, rfl, hp, e1, r1⟩ := R.tupAt h1 rx
        obtain ⟨v, h2, h3⟩ := r1.atI hu
        exact ⟨p, vs, i, v, rfl, ry, SqT.of e1, h2, k ρ H v R .refl h3⟩
      · cases h
    · cases h
  · cases h
theorem flat_of {w : W} {v : V} (r : RelW κ ρ w v) (h : flatW w = true) : flatV v = true := by
  cases w with
  | non => cases r; rfl
  | bl b => cases r; rfl
  | int b => cases r; rfl
  | str b => cases r; rfl
  | _ => exact absurd (show false = true from h) Bool.false_ne_true
theorem eq_of {w u : W} {v x : V} (r : RelW κ ρ w v) (q : RelW κ ρ u x) (h : flatW w = true) (g : flatW u = true) : eqV v x = eqW w u := by
  cases w with
  | non => cases r; cases u with
    | non => cases q; rfl
    | bl b => cases q; rfl
    | int b => cases q; rfl
    | str b => cases q; rfl
    | _ => exact absurd (show false = true from g) Bool.false_ne_true
  | bl b => cases r; cases u with
    | non => cases q; rfl
    | bl b => cases q; rfl
    | int b => cases q; rfl
    | str b => cases q; rfl
    | _ => exact absurd (show false = true from g) Bool.false_ne_true
  | int b => cases r; cases u with
    | non => cases q; rfl
    | bl b => cases q; rfl
    | int b => cases q; rfl
    | str b => cases q; rfl
    | _ => exact absurd (show false = true from g) Bool.false_ne_true
  | str b => cases r; cases u with
    | non => cases q; rfl
    | bl b => cases q; rfl
    | int b => cases q; rfl
    | str b => cases q; rfl
    | _ => exact absurd (show false = true from g) Bool.false_ne_true
  | _ => exact absurd (show false = true from h) Bool.false_ne_true
theorem flats_of {xs : List W} {vs : List V} (r : RelL κ ρ xs vs) : xs.all flatW = true → vs.all flatV = true := by
  induction r with
  | nil => intro _; rfl
  | cons q t ih =>
    intro h
    rw [List.all_cons, Bool.and_eq_true] at h ⊢
    exact ⟨flat_of q h.1, ih h.2⟩
theorem any_of {u : W} {x : V} (q : RelW κ ρ u x) (g : flatW u = true) {xs : List W} {vs : List V} (r : RelL κ ρ xs vs) : xs.all flatW = true → (vs.any fun y => eqV y x) = xs.any fun y => eqW y u := by
  induction r with
  | nil => intro _; rfl
  | cons r0 t ih =>
    intro h
    rw [List.all_cons, Bool.and_eq_true] at h
    rw [List.any_cons, List.any_cons, eq_of r0 q h.1 g, ih h.2]
theorem sr_in (neg : Bool) : SimR κ (rIn κ.K neg) (fIn neg) := by
  intro ρ A H x y vx vy w A' Q R rx ry h k
  unfold fIn at h
  split at h
  · split at h
    · rename_i b xs h1
      split at h
      · rename_i hf
        cases h
        obtain ⟨p, vs, rfl, hp, e1, r1⟩ := R.seqAt h1 ry
        refine ⟨p, vs, rfl, ?_, flat_of rx hf.1, flats_of r1 hf.2, ?_⟩
        · rcases e1 with e1 | e1
          · exact .inl (SqL.of e1)
          · exact .inr (SqT.of e1)
        · refine k ρ H _ R .refl ?_
          show V.bl _ = V.bl _
          unfold inV
          rw [any_of rx hf.1 r1 hf.2]
      · cases h
    · cases h
  · cases h
theorem toDs_all {K : PySem.W.Frag} {f : W → Option PyData} {xs : List W} {vs : List V} (r : RelL κ ρ xs vs) : (∀ w v d, w ∈ xs → f w = some d → RelW κ ρ w v → Dp K H v d) → ∀ ds, toDs f xs = some ds → DpAll K H vs ds := by
  induction r with
  | nil =>
    intro _ ds h
    cases h
    exact .nil
  | cons q t ih =>
    intro hf ds h
    unfold toDs at h
    split at h
    · rename_i d hd
      split at h
      · rename_i es hes
        cases h
        exact .cons (hf _ _ _ (List.mem_cons_self ..) hd q) (ih (fun w v d hw => hf w v d (List.mem_cons_of_mem _ hw)) _ hes)
      · cases h
    · cases h
theorem toD_dp {K : PySem.W.Frag} (R : Rep κ ρ A H) : ∀ (n : Nat) (w : W) (v : V) (d : PyData), toD A n w = some d → RelW κ ρ w v → Dp K H v d
  | n, .non, v, d, h, r => by
    unfold toD at h
    cases h
    cases r
    exact .non
  | n, .bl b, v, d, h, r => by
    unfold toD at h
    cases h
    cases r
    exact .bl b
  | n, .int b, v, d, h, r => by
    unfold toD at h
    cases h
    cases r
    exact .int b
  | n, .str b, v, d, h, r => by
    unfold toD at h
    cases h
    cases r
    exact .str b
  | 0, .ref a, v, d, h, r => by
    unfold toD at h
    cases h
  | n, .cl a, v, d, h, r => by
    unfold toD at h
    cases n <;> cases h
  | n, .ty a, v, d, h, r => by
    unfold toD at h
    cases n <;> cases h
  | n + 1, .ref l, v, d, h, r => by
    obtain ⟨a, ha, rfl⟩ := r
    unfold toD at h
    split at h
    · rename_i xs e
      split at h
      · rename_i ds hds
        cases h
        obtain ⟨vs, h1, h2⟩ := R.of ha e
        exact .lst (SqL.of h1) (toDs_all h2 (fun w v d _ => toD_dp R n w v d) _ hds)
      · cases h
    · rename_i xs e
      split at h
      · rename_i ds hds
        cases h
        obtain ⟨vs, h1, h2⟩ := R.of ha e
        exact .tup (SqT.of h1) (toDs_all h2 (fun w v d _ => toD_dp R n w v d) _ hds)
      · cases h
    · cases h
theorem sr_eqD : SimR κ (rEqD κ.K) (fEqD false) := by
  intro ρ A H x y vx vy w A' Q R rx ry h k
  unfold fEqD at h
  split at h
  · rename_i d e hd he
    split at h
    · rename_i hs
      cases h
      exact ⟨d, e, toD_dp R 8 _ _ _ hd rx, toD_dp R 8 _ _ _ he ry, hs.1, hs.2, k ρ H _ R .refl rfl⟩
    · cases h
  · cases h
theorem sr_neD : SimR κ (rNeD κ.K) (fEqD true) := by
  intro ρ A H x y vx vy w A' Q R rx ry h k
  unfold fEqD at h
  split at h
  · rename_i d e hd he
    split at h
    · rename_i hs
      cases h
      exact ⟨d, e, toD_dp R 8 _ _ _ hd rx, toD_dp R 8 _ _ _ he ry, hs.1, hs.2, k ρ H _ R .refl rfl⟩
    · cases h
  · cases h
end

/-! ### for -/
inductive Src where
  | lst (l : Nat) | tup (l : Nat) | rng (lo : Int) (n : Nat)
def srcGo : Src → Nat → List O → Option (Option (W × List O))
  | .lst l, i, A => match lstAt A l with
    | some xs => match xs[i]? with
      | some w => some (some (w, A))
      | none => some none
    | none => none
  | .tup l, i, A => match tupAt A l with
    | some xs => match xs[i]? with
      | some w => some (some (w, A))
      | none => some none
    | none => none
  | .rng lo n, i, A => if i < n then some (some (.int (lo + i), A)) else some none
def srcLen : Src → List O → Nat
  | .lst l, A => ((lstAt A l).getD []).length
  | .tup l, A => ((tupAt A l).getD []).length
  | .rng _ n, _ => n
def JR (κ : Kx) (ρ : List Addr) : Src → It → Prop
  | .lst l, J => ∃ a, ρ[l]? = some a ∧ J = Itl κ.K a
  | .tup l, J => ∃ a, ρ[l]? = some a ∧ J = Itt κ.K a
  | .rng lo n, J => J = Itr lo n
abbrev MI := Sl → List O → Option (Src × List O)
abbrev MG := W → Sl → List O → Option (Sl × List O)
def SimI (κ : Kx) (wi : TI) (m : MI) : Prop := ∀ (ρ : List Addr) (A : List O) (e : Sl) (σ : St) (H : Hp) (Q : It → Hp → Prop) (s : Src) (A' : List O), Rep κ ρ A H → RelE κ ρ e σ → m e A = some (s, A') →
  (∀ ρ' H' J, Rep κ ρ' A' H' → Go ρ H ρ' H' → JR κ ρ' s J → Q J H') → wi σ H Q
def SimG (κ : Kx) (g : TG) (m : MG) : Prop := ∀ (ρ : List Addr) (A : List O) (w : W) (e : Sl) (v : V) (σ : St) (H : Hp) (Q : St → Hp → Prop) (e' : Sl) (A' : List O), Rep κ ρ A H → RelE κ ρ e σ → RelW κ ρ w v → m w e A = some (e', A') →
  (∀ ρ' H' σ', Rep κ ρ' A' H' → Go ρ H ρ' H' → RelE κ ρ' e' σ' → Q σ' H') → g v σ H Q
structure GI (X : Cx) (κ : Kx) (tg e : Expr) (t : TI) (m : MI) : Prop where
  pi : X.K = κ.K → PI X tg e t
  sim : SimI κ t m
structure GG (X : Cx) (κ : Kx) (e : Expr) (t : TG) (m : MG) : Prop where
  pg : X.K = κ.K → PG X e t
  sim : SimG κ t m
section
variable {κ : Kx} {ρ ρ' : List Addr} {A A' : List O} {H : Hp} {J : It} {s : Src} {i : Nat}
theorem JR.mono (p : Pre ρ ρ') : ∀ {s : Src}, JR κ ρ s J → JR κ ρ' s J
  | .lst _, ⟨a, h, e⟩ => ⟨a, p _ _ h, e⟩
  | .tup _, ⟨a, h, e⟩ => ⟨a, p _ _ h, e⟩
  | .rng _ _, h => h
theorem Rep.list_at (R : Rep κ ρ A H) {l : Nat} {xs : List W} {a : Addr} (h : Sv.lstAt A l = some xs) (ha : ρ[l]? = some a) : ∃ vs, H a = some (.lst vs) ∧ RelL κ ρ xs vs := by
  obtain ⟨b, vs, e, hb, h1, h2⟩ := R.lstAt h ⟨a, ha, rfl⟩
  cases e
  exact ⟨vs, h1, h2⟩
theorem Rep.tup_at (R : Rep κ ρ A H) {l : Nat} {xs : List W} {a : Addr} (h : Sv.tupAt A l = some xs) (ha : ρ[l]? = some a) : ∃ vs, H a = some (.tup vs) ∧ RelL κ ρ xs vs := by
  obtain ⟨b, vs, e, hb, h1, h2⟩ := R.tupAt h ⟨a, ha, rfl⟩
  cases e
  exact ⟨vs, h1, h2⟩
theorem src_go {w : W} (R : Rep κ ρ A H) (j : JR κ ρ s J) (h : srcGo s i A = some (some (w, A'))) : J.go i H ∧ ∀ x H', J.yld i H x H' → ∃ ρ', Rep κ ρ' A' H' ∧ Go ρ H ρ' H' ∧ RelW κ ρ' w x := by
  cases s with
  | lst l =>
    obtain ⟨a, ha, rfl⟩ := j
    simp only [srcGo] at h
    split at h
    · rename_i xs hx
      split at h
      · rename_i u hu
        cases h
        obtain ⟨vs, h1, h2⟩ := R.list_at hx ha
        obtain ⟨v, h3, h4⟩ := h2.get hu
        refine ⟨⟨vs, v, SqL.of h1, h3⟩, fun x H' y => ?_⟩
        obtain ⟨rfl, y⟩ := y
        have q := y vs (SqL.of h1)
        rw [h3] at q
        cases q
        exact ⟨ρ, R, .refl, h4⟩
      · cases h
    · cases h
  | tup l =>
    obtain ⟨a, ha, rfl⟩ := j
    simp only [srcGo] at h
    split at h
    · rename_i xs hx
      split at h
      · rename_i u hu
        cases h
        obtain ⟨vs, h1, h2⟩ := R.tup_at hx ha
        obtain ⟨v, h3, h4⟩ := h2.get hu
        refine ⟨⟨vs, v, SqT.of h1, h3⟩, fun x H' y => ?_⟩
        obtain ⟨rfl, y⟩ := y
        have q := y vs (SqT.of h1)
        rw [h3] at q
        cases q
        exact ⟨ρ, R, .refl, h4⟩
      · cases h
    · cases h
  | rng lo n =>
    cases j
    simp only [srcGo] at h
    split at h
    · rename_i hi
      cases h
      refine ⟨hi, fun x H' y => ?_⟩
      obtain ⟨rfl, rfl⟩ := y
      exact ⟨ρ, R, .refl, rfl⟩
    · cases h
theorem src_stop (R : Rep κ ρ A H) (j : JR κ ρ s J) (h : srcGo s i A = some none) : J.stop i H := by
  cases s with
  | lst l =>
    obtain ⟨a, ha, rfl⟩ := j
    simp only [srcGo] at h
    split at h
    · rename_i xs hx
      split at h
      · cases h
      · rename_i hu
        obtain ⟨vs, h1, h2⟩ := R.list_at hx ha
        exact ⟨vs, SqL.of h1, by rw [← h2.len]; exact List.getElem?_eq_none_iff.mp hu⟩
    · cases h
  | tup l =>
    obtain ⟨a, ha, rfl⟩ := j
    simp only [srcGo] at h
    split at h
    · rename_i xs hx
      split at h
      · cases h
      · rename_i hu
        obtain ⟨vs, h1, h2⟩ := R.tup_at hx ha
        exact ⟨vs, SqT.of h1, by rw [← h2.len]; exact List.getElem?_eq_none_iff.mp hu⟩
    · cases h
  | rng lo n =>
    cases j
    simp only [srcGo] at h
    split at h
    · cases h
    · rename_i hi
      exact Nat.le_of_not_lt hi
end
def forM (s : Src) (mg : MG) (mb : MS) : Nat → Nat → Sl → List O → Option (Out × List O)
  | 0, _, _, _ => none
  | m + 1, i, e, A => match srcGo s i A with
    | none => none
    | some none => some (.nx e, A)
    | some (some (w, A1)) => match mg w e A1 with
      | none => none
      | some (e2, A2) => match mb e2 A2 with
        | some (.nx e3, A3) => forM s mg mb m (i + 1) e3 A3
        | some (.ct e3, A3) => forM s mg mb m (i + 1) e3 A3
        | some (.bk e3, A3) => some (.nx e3, A3)
        | some (.rt w, A3) => some (.rt w, A3)
        | none => none
def mFor (mi : MI) (mg : MG) (mb : MS) : MS := fun e A => match mi e A with
  | some (s, A1) => forM s mg mb (srcLen s A1 + 1) 0 e A1
  | none => none
def gmName (i : Nat) : MG := fun w e A => some (e.set i (some w), A)
def miL (a : ME) : MI := fun e A => match a e A with
  | some (.ref l, A1) => match lstAt A1 l with
    | some _ => some (.lst l, A1)
    | none => none
  | _ => none
def miT (a : ME) : MI := fun e A => match a e A with
  | some (.ref l, A1) => match tupAt A1 l with
    | some _ => some (.tup l, A1)
    | none => none
  | _ => none
def miR1 (a : MA) : MI := fun e A => match a e A with
  | some ([.int n], A1) => if -1000000 ≤ n ∧ n ≤ 1000000 then some (.rng 0 n.toNat, A1) else none
  | _ => none
def miR2 (a : MA) : MI := fun e A => match a e A with
  | some ([.int lo, .int n], A1) => if -1000000 ≤ lo ∧ lo ≤ 1000000 ∧ -1000000 ≤ n ∧ n ≤ 1000000 then some (.rng lo (n - lo).toNat, A1) else none
  | _ => none
section
variable {κ : Kx} {ta tb te : TE} {ma mb me : ME} {tA : TA} {mA : MA} {t u : TT} {m n : MT} {ts tu : TS} {ms mu : MS} {wi : TI} {mi : MI} {g : TG} {mg : MG}
theorem sim_gName (i : Nat) : SimG κ (gName i) (gmName i) := by
  intro ρ A w e v σ H Q e' A' R E rw' h k
  cases h
  exact k ρ H _ R .refl (E.set rw' i)
theorem sim_iL (ha : SimE κ ta ma) : SimI κ (iList κ.K ta) (miL ma) := by
  intro ρ A e σ H Q s A' R E h k
  unfold miL at h
  split at h
  · rename_i l A1 h1
    split at h
    · rename_i xs hx
      cases h
      refine ha _ _ _ _ _ _ _ _ R E h1 fun ρ1 H1 v R1 G1 rv => ?_
      obtain ⟨a, vs, rfl, ha', h2, h3⟩ := R1.lstAt hx rv
      exact ⟨a, rfl, ⟨vs, SqL.of h2⟩, k ρ1 H1 _ R1 G1 ⟨a, ha', rfl⟩⟩
    · cases h
  · cases h
theorem sim_iT (ha : SimE κ ta ma) : SimI κ (iTup κ.K ta) (miT ma) := by
  intro ρ A e σ H Q s A' R E h k
  unfold miT at h
  split at h
  · rename_i l A1 h1
    split at h
    · rename_i xs hx
      cases h
      refine ha _ _ _ _ _ _ _ _ R E h1 fun ρ1 H1 v R1 G1 rv => ?_
      obtain ⟨a, vs, rfl, ha', h2, h3⟩ := R1.tupAt hx rv
      exact ⟨a, rfl, ⟨vs, SqT.of h2⟩, k ρ1 H1 _ R1 G1 ⟨a, ha', rfl⟩⟩
    · cases h
  · cases h
theorem sim_iR1 (ha : SimA κ tA mA) : SimI κ (iRng1 tA) (miR1 mA) := by
  intro ρ A e σ H Q s A' R E h k
  unfold miR1 at h
  split at h
  · rename_i n A1 h1
    split at h
    · rename_i hn
      cases h
      refine ha _ _ _ _ _ _ _ _ R E h1 fun ρ1 H1 vs R1 G1 rv => ?_
      cases rv with
      | cons r0 t => cases t; cases r0; exact ⟨n, rfl, by omega, by omega, k ρ1 H1 _ R1 G1 rfl⟩
    · cases h
  · cases h
theorem sim_iR2 (ha : SimA κ tA mA) : SimI κ (iRng2 tA) (miR2 mA) := by
  intro ρ A e σ H Q s A' R E h k
  unfold miR2 at h
  split at h
  · rename_i lo n A1 h1
    split at h
    · rename_i hn
      cases h
      refine ha _ _ _ _ _ _ _ _ R E h1 fun ρ1 H1 vs R1 G1 rv => ?_
      cases rv with
      | cons r0 t => cases t with
        | cons r1 t => cases t; cases r0; cases r1; exact ⟨lo, n, rfl, ⟨by omega, by omega, by omega, by omega⟩, k ρ1 H1 _ R1 G1 rfl⟩
    · cases h
  · cases h
theorem sim_for (hi : SimI κ wi mi) (hg : SimG κ g mg) (hb : SimS κ ts ms) : SimS κ (tFor wi g ts) (mFor mi mg ms) := by
  intro ρ A e σ H D o A' R E h k
  unfold mFor at h
  split at h
  · rename_i s A1 h1
    refine hi _ _ _ _ _ _ _ _ R E h1 fun ρ1 H1 J R1 G1 j1 => ?_
    refine ⟨fun i m σ H => ∃ ρ A e, Rep κ ρ A H ∧ Go ρ1 H1 ρ H ∧ RelE κ ρ e σ ∧ forM s mg ms m i e A = some (o, A'), ⟨_, ρ1, A1, e, R1, .refl, E.mono G1.pre, h⟩, ?_⟩
    rintro i m σ2 H2 ⟨ρ2, A2, e2, R2, G2, E2, h2⟩
    cases m with
    | zero =>
      unfold forM at h2
      cases h2
    | succ m =>
      unfold forM at h2
      split at h2
      · cases h2
      · rename_i hs
        cases h2
        exact .inl ⟨src_stop R2 (j1.mono G2.pre) hs, k ρ2 H2 R2 (G1.trans G2) σ2 E2⟩
      · rename_i w A3 hs
        obtain ⟨hgo, hy⟩ := src_go R2 (j1.mono G2.pre) hs
        refine .inr ⟨hgo, fun σ' H' => ∃ ρ A e, Rep κ ρ A H' ∧ Go ρ1 H1 ρ H' ∧ RelE κ ρ e σ' ∧ forM s mg ms m (i + 1) e A = some (o, A'), fun σ' H' hN => ⟨m, Nat.lt_succ_self m, hN⟩, fun x H' y => ?_⟩
        obtain ⟨ρ3, R3, G3, r3⟩ := hy x H' y
        split at h2
        · cases h2
        · rename_i e4 A4 hg4
          refine hg _ _ _ _ _ _ _ _ _ _ R3 (E2.mono G3.pre) r3 hg4 fun ρ4 H4 σ4 R4 G4 E4 => ?_
          split at h2
          · rename_i e5 A5 hb5
            exact hb _ _ _ _ _ _ _ _ R4 E4 hb5 fun ρ5 H5 R5 G5 σ5 E5 => ⟨ρ5, A5, e5, R5, G2.trans (G3.trans (G4.trans G5)), E5, h2⟩
          · rename_i e5 A5 hb5
            exact hb _ _ _ _ _ _ _ _ R4 E4 hb5 fun ρ5 H5 R5 G5 σ5 E5 => ⟨ρ5, A5, e5, R5, G2.trans (G3.trans (G4.trans G5)), E5, h2⟩
          · rename_i e5 A5 hb5
            cases h2
            exact hb _ _ _ _ _ _ _ _ R4 E4 hb5 fun ρ5 H5 R5 G5 σ5 E5 => k ρ5 H5 R5 (G1.trans (G2.trans (G3.trans (G4.trans G5)))) σ5 E5
          · rename_i w5 A5 hb5
            cases h2
            exact hb _ _ _ _ _ _ _ _ R4 E4 hb5 fun ρ5 H5 R5 G5 v5 r5 => k ρ5 H5 R5 (G1.trans (G2.trans (G3.trans (G4.trans G5)))) v5 r5
          · cases h2
  · cases h
end
end Sv

set_option Elab.async false
set_option linter.all false
set_option maxRecDepth 100000
set_option maxHeartbeats 4000000
namespace Sv
open PySem L2
open PyProof.Rows (envOfC)

/-! ### a comprehension -/
def wipeW (e : Sl) : List Nat → Sl
  | [] => e
  | v :: vs => (wipeW e vs).set v none
theorem wipeW_get (e : Sl) (i : Nat) : ∀ vs : List Nat, (wipeW e vs)[i]? = if i ∈ vs then (e[i]?).map (fun _ => none) else e[i]?
  | [] => by simp [wipeW]
  | v :: vs => by
    unfold wipeW
    rw [List.getElem?_set, wipeW_get e i vs]
    have hlen : ∀ ws : List Nat, (wipeW e ws).length = e.length := by
      intro ws
      induction ws with
      | nil => rfl
      | cons a r ih => unfold wipeW; rw [List.length_set, ih]
    rw [hlen]
    by_cases h : v = i
    · subst h
      simp only [List.mem_cons, true_or, if_true]
      by_cases hl : v < e.length
      · rw [if_pos hl, List.getElem?_eq_getElem hl]; rfl
      · rw [if_neg hl, List.getElem?_eq_none (by omega)]; rfl
    · have : i ∈ v :: vs ↔ i ∈ vs := by simp [List.mem_cons, Ne.symm h]
      rw [if_neg h]
      by_cases hm : i ∈ vs
      · rw [if_pos hm, if_pos (this.mpr hm)]
      · rw [if_neg hm, if_neg (fun z => hm (this.mp z))]
theorem wipe_get (e : St) (i : Nat) : ∀ vs : List Nat, (wipe e vs)[i]? = if i ∈ vs then (e[i]?).map (fun _ => none) else e[i]?
  | [] => by simp [wipe]
  | v :: vs => by
    unfold wipe
    rw [List.getElem?_set, wipe_get e i vs, wipe_length]
    by_cases h : v = i
    · subst h
      simp only [List.mem_cons, true_or, if_true]
      by_cases hl : v < e.length
      · rw [if_pos hl, List.getElem?_eq_getElem hl]; rfl
      · rw [if_neg hl, List.getElem?_eq_none (by omega)]; rfl
    · have : i ∈ v :: vs ↔ i ∈ vs := by simp [List.mem_cons, Ne.symm h]
      rw [if_neg h]
      by_cases hm : i ∈ vs
      · rw [if_pos hm, if_pos (this.mpr hm)]
      · rw [if_neg hm, if_neg (fun z => hm (this.mp z))]
theorem wipeW_length (e : Sl) : ∀ vs : List Nat, (wipeW e vs).length = e.length
  | [] => rfl
  | v :: vs => by unfold wipeW; rw [List.length_set, wipeW_length e vs]
theorem RelE.wipe {κ : Kx} {ρ : List Addr} {e : Sl} {σ : St} (h : RelE κ ρ e σ) (vs : List Nat) : RelE κ ρ (wipeW e vs) (wipe σ vs) := by
  refine ⟨by rw [wipeW_length, wipe_length]; exact h.1, fun i w q => ?_⟩
  rw [wipeW_get] at q
  rw [wipe_get]
  by_cases hm : i ∈ vs
  · rw [if_pos hm] at q
    cases e[i]? <;> simp at q
  · rw [if_neg hm] at q ⊢
    exact h.2 i w q
def WipeOk (g : TG) (vs : List Nat) : Prop := ∀ (x : V) (σ : St) (H : Hp) (Q : St → Hp → Prop), (g x (wipe σ vs) H Q) → g x (wipe σ vs) H fun σ2 H2 => wipe σ2 vs = wipe σ vs ∧ Q σ2 H2
theorem wipeOk_name (j : Nat) : WipeOk (gName j) [j] := by
  intro x σ H Q h
  refine ⟨?_, h⟩
  apply List.ext_getElem?
  intro i
  rw [wipe_get, List.getElem?_set]
  rw [wipe_get, wipe_length]
  by_cases hi : j = i
  · subst hi
    simp only [List.mem_singleton, if_true]
    by_cases hl : j < σ.length
    · rw [if_pos hl, List.getElem?_eq_getElem hl]; rfl
    · rw [if_neg hl, List.getElem?_eq_none (by omega)]
  · have : i ∉ [j] := by simp [Ne.symm hi]
    rw [if_neg hi, if_neg this, if_neg this]
def lcM (s : Src) (mg : MG) (mt : MT) (me : ME) (ew : Sl) (d : Nat) : Nat → Nat → List O → Option (List O)
  | 0, _, _ => none
  | m + 1, i, A => match srcGo s i A with
    | none => none
    | some none => some A
    | some (some (w, A1)) => match mg w ew A1 with
      | none => none
      | some (e2, A2) => match mt e2 A2 with
        | none => none
        | some (false, A3) => lcM s mg mt me ew d m (i + 1) A3
        | some (true, A3) => match me e2 A3 with
          | none => none
          | some (y, A4) => match lstAt A4 d with
            | none => none
            | some acc => if acc.length < 100000 then lcM s mg mt me ew d m (i + 1) (A4.set d (.lst (acc ++ [y]))) else none
def mLc (mi : MI) (mg : MG) (mt : MT) (me : ME) (vs : List Nat) : ME := fun e A => match mi e A with
  | some (s, A1) => match lcM s mg mt me (wipeW e vs) A1.length (srcLen s A1 + 1) 0 (A1 ++ [.lst []]) with
    | some A2 => some (.ref A1.length, A2)
    | none => none
  | none => none
def mYes : MT := fun _ A => some (true, A)
/-! ### targets -/
abbrev MGs := List W → Sl → List O → Option (Sl × List O)
def gmNil : MGs := fun ws e A => match ws with
  | [] => some (e, A)
  | _ => none
def gmCons (a : MG) (r : MGs) : MGs := fun ws e A => match ws with
  | w :: rest => match a w e A with
    | some (e1, A1) => r rest e1 A1
    | none => none
  | [] => none
def gmTup (n : Nat) (r : MGs) : MG := fun w e A => match w with
  | .ref l => match tupAt A l with
    | some xs => if xs.length = n then r xs e A else none
    | none => none
  | _ => none
def gmSub (o i : ME) : MG := fun w e A => match o e A with
  | some (.ref l, A1) => match i e A1 with
    | some (.int k, A2) => match lstAt A2 l with
      | some xs => match ixN xs.length k with
        | some j => some (e, A2.set l (.lst (xs.set j w)))
        | none => none
      | none => none
    | _ => none
  | _ => none
def SimGs (κ : Kx) (g : TGs) (m : MGs) : Prop := ∀ (ρ : List Addr) (A : List O) (ws : List W) (e : Sl) (vs : List V) (σ : St) (H : Hp) (Q : St → Hp → Prop) (e' : Sl) (A' : List O), Rep κ ρ A H → RelE κ ρ e σ → RelL κ ρ ws vs → m ws e A = some (e', A') →
  (∀ ρ' H' σ', Rep κ ρ' A' H' → Go ρ H ρ' H' → RelE κ ρ' e' σ' → Q σ' H') → g vs σ H Q
def mAsg (a : ME) (g : MG) : MS := fun e A => match a e A with
  | some (w, A1) => match g w e A1 with
    | some (e1, A2) => some (.nx e1, A2)
    | none => none
  | none => none
section
variable {κ : Kx} {ta tb te : TE} {ma mb me : ME} {tA : TA} {mA : MA} {t u tt : TT} {m n mt : MT} {ts tu : TS} {ms mu : MS} {wi : TI} {mi : MI} {g : TG} {mg : MG} {gs : TGs} {mgs : MGs}
theorem sim_yes : SimT κ tYes mYes := by
  intro ρ A e σ H Q b A' R E h k
  cases h
  exact k ρ H R .refl
theorem sim_lc {vs : List Nat} (hi : SimI κ wi mi) (hg : SimG κ g mg) (ht : SimT κ tt mt) (he : SimE κ te me) (hw : WipeOk g vs) : SimE κ (tLc wi g tt te vs) (mLc mi mg mt me vs) := by
  intro ρ A e σ H Q w A' R E h k
  unfold mLc at h
  split at h
  · rename_i s A1 h1
    split at h
    · rename_i A2 h2
      cases h
      refine hi _ _ _ _ _ _ _ _ R E h1 fun ρ1 H1 J R1 G1 j1 D hD => ?_
      obtain ⟨R0, G0, r0⟩ := R1.newLst (xs := []) (vs := []) hD .nil
      have hd0 : (ρ1 ++ [D])[A1.length]? = some D := by rw [← R1.len]; exact snoc_at ρ1 D
      refine ⟨fun i m H => ∃ ρ A, Rep κ ρ A H ∧ Go (ρ1 ++ [D]) (upd H1 D (.lst [])) ρ H ∧ lcM s mg mt me (wipeW e vs) A1.length m i A = some A', ⟨_, _, _, R0, .refl, h2⟩, ?_⟩
      rintro i m H2 ⟨ρ2, A2', R2, G2, h3⟩
      have Eb : RelE κ ρ2 (wipeW e vs) (wipe σ vs) := ((E.mono G1.pre).mono (G0.pre.trans G2.pre)).wipe vs
      have j2 := (j1.mono G0.pre).mono G2.pre
      cases m with
      | zero =>
        unfold lcM at h3
        cases h3
      | succ m =>
        unfold lcM at h3
        split at h3
        · cases h3
        · rename_i hs
          cases h3
          exact .inl ⟨src_stop R2 j2 hs, k ρ2 H2 _ R2 (G1.trans (G0.trans G2)) ⟨D, G2.pre _ _ hd0, rfl⟩⟩
        · rename_i w3 A3 hs
          obtain ⟨hgo, hy⟩ := src_go R2 j2 hs
          refine .inr ⟨hgo, fun H' => ∃ ρ A, Rep κ ρ A H' ∧ Go (ρ1 ++ [D]) (upd H1 D (.lst [])) ρ H' ∧ lcM s mg mt me (wipeW e vs) A1.length m (i + 1) A = some A', fun H' hN => ⟨m, Nat.lt_succ_self m, hN⟩, fun x H' y => ?_⟩
          obtain ⟨ρ3, R3, G3, r3⟩ := hy x H' y
          split at h3
          · cases h3
          · rename_i e4 A4 hg4
            refine hw _ _ _ _ ?_
            refine hg _ _ _ _ _ _ _ _ _ _ R3 (Eb.mono G3.pre) r3 hg4 fun ρ4 H4 σ4 R4 G4 E4 => ?_
            split at h3
            · cases h3
            · rename_i A5 ht5
              refine ht _ _ _ _ _ _ _ _ R4 E4 ht5 fun ρ5 H5 R5 G5 => ?_
              show if false = true then _ else _
              rw [if_neg Bool.false_ne_true]
              exact ⟨ρ5, A5, R5, G2.trans (G3.trans (G4.trans G5)), h3⟩
            · rename_i A5 ht5
              refine ht _ _ _ _ _ _ _ _ R4 E4 ht5 fun ρ5 H5 R5 G5 => ?_
              show if true = true then _ else _
              rw [if_pos rfl]
              split at h3
              · cases h3
              · rename_i y6 A6 he6
                refine he _ _ _ _ _ _ _ _ R5 (E4.mono G5.pre) he6 fun ρ6 H6 v6 R6 G6 r6 => ?_
                split at h3
                · cases h3
                · rename_i acc hacc
                  split at h3
                  · rename_i hz
                    have hd6 : ρ6[A1.length]? = some D := G6.pre _ _ (G5.pre _ _ (G4.pre _ _ (G3.pre _ _ (G2.pre _ _ hd0))))
                    obtain ⟨us, e1, e2⟩ := R6.list_at hacc hd6
                    refine ⟨us, e1, by rw [← e2.len]; exact sz_lineL hz, ?_⟩
                    obtain ⟨R7, G7⟩ := R6.set (o := .lst (acc ++ [y6])) (u := .lst (us ++ [v6])) hd6 ⟨_, upd_same, e2.append (.cons r6 .nil)⟩
                    exact ⟨ρ6, _, R7, G2.trans (G3.trans (G4.trans (G5.trans (G6.trans G7)))), h3⟩
                  · cases h3
    · cases h
  · cases h
theorem sim_gNil : SimGs κ gNil gmNil := by
  intro ρ A ws e vs σ H Q e' A' R E r h k
  unfold gmNil at h
  split at h
  · cases h
    cases r
    exact ⟨rfl, k ρ H σ R .refl E⟩
  · cases h
theorem sim_gCons (ha : SimG κ g mg) (hb : SimGs κ gs mgs) : SimGs κ (gCons g gs) (gmCons mg mgs) := by
  intro ρ A ws e vs σ H Q e' A' R E r h k
  unfold gmCons at h
  split at h
  · rename_i w rest
    split at h
    · rename_i e1 A1 h1
      cases r with
      | cons r0 t =>
        refine ⟨_, _, rfl, ?_⟩
        refine ha _ _ _ _ _ _ _ _ _ _ R E r0 h1 fun ρ1 H1 σ1 R1 G1 E1 => ?_
        exact hb _ _ _ _ _ _ _ _ _ _ R1 E1 (RelL.mono G1.pre t) h fun ρ2 H2 σ2 R2 G2 E2 => k ρ2 H2 σ2 R2 (G1.trans G2) E2
    · cases h
  · cases h
theorem sim_gTup {n : Nat} (hb : SimGs κ gs mgs) : SimG κ (gTup κ.K n gs) (gmTup n mgs) := by
  intro ρ A w e v σ H Q e' A' R E r h k
  unfold gmTup at h
  split at h
  · split at h
    · rename_i xs hx
      split at h
      · rename_i hn
        obtain ⟨a, vs, rfl, ha, h1, h2⟩ := R.tupAt hx r
        exact ⟨a, vs, rfl, SqT.of h1, by rw [← h2.len]; exact hn, hb _ _ _ _ _ _ _ _ _ _ R E h2 h k⟩
      · cases h
    · cases h
  · cases h
theorem sim_gSub (ha : SimE κ ta ma) (hb : SimE κ tb mb) : SimG κ (gSub ta tb rSetL) (gmSub ma mb) := by
  intro ρ A w e v σ H Q e' A' R E r h k
  unfold gmSub at h
  split at h
  · rename_i l A1 h1
    split at h
    · rename_i k0 A2 h2
      split at h
      · rename_i xs hx
        split at h
        · rename_i j hj
          cases h
          refine ha _ _ _ _ _ _ _ _ R E h1 fun ρ1 H1 v1 R1 G1 r1 => ?_
          refine hb _ _ _ _ _ _ _ _ R1 (E.mono G1.pre) h2 fun ρ2 H2 v2 R2 G2 r2 => ?_
          obtain ⟨a, vs, rfl, ha', e1, e2⟩ := R2.lstAt hx (r1.mono G2.pre)
          obtain ⟨R3, G3⟩ := R2.set (o := .lst (xs.set j w)) (u := .lst (vs.set j v)) ha' ⟨_, upd_same, e2.set (r.mono (G1.pre.trans G2.pre)) j⟩
          exact ⟨a, vs, k0, j, rfl, r2, e1, by rw [← e2.len]; exact hj, k ρ2 _ σ R3 (G1.trans (G2.trans G3)) (E.mono (G1.pre.trans G2.pre))⟩
        · cases h
      · cases h
    · cases h
  · cases h
theorem sim_asg (ha : SimE κ ta ma) (hg : SimG κ g mg) : SimS κ (tAsg ta g) (mAsg ma mg) := by
  intro ρ A e σ H D o A' R E h k
  unfold mAsg at h
  split at h
  · rename_i w A1 h1
    split at h
    · rename_i e1 A2 h2
      cases h
      refine ha _ _ _ _ _ _ _ _ R E h1 fun ρ1 H1 v1 R1 G1 r1 => ?_
      exact hg _ _ _ _ _ _ _ _ _ _ R1 (E.mono G1.pre) r1 h2 fun ρ2 H2 σ2 R2 G2 E2 => k ρ2 H2 R2 (G1.trans G2) σ2 E2
    · cases h
  · cases h
end

/-! ### built-ins by values -/
abbrev FC := List W → List O → Option (W × List O)
def fLen : FC
  | [.ref l], A => match seqAtO A l with
    | some xs => some (.int xs.length, A)
    | none => none
  | _, _ => none
def fInt1 : FC
  | [.int i], A => some (.int i, A)
  | _, _ => none
def fAbs : FC
  | [.int i], A => some (.int (if i < 0 then -i else i), A)
  | _, _ => none
def fDivmod : FC
  | [.int i, .int j], A => if 0 < j ∧ j < 1073741824 then some (.ref A.length, A ++ [.tup [.int (i / j), .int (i % j)]]) else none
  | _, _ => none
def fList1 : FC
  | [.ref l], A => match seqAtO A l with
    | some xs => some (.ref A.length, A ++ [.lst xs])
    | none => none
  | _, _ => none
def fTuple1 : FC
  | [.ref l], A => match A[l]? with
    | some (.lst xs) => some (.ref A.length, A ++ [.tup xs])
    | some (.tup _) => some (.ref l, A)
    | _ => none
  | _, _ => none
section
variable {κ : Kx}
theorem sc_len : SimC κ (fun xs H Q => ∃ p ys, xs = [.ref p] ∧ (SqL κ.K H p ys ∨ SqT κ.K H p ys) ∧ Q (.int ys.length) H) fLen := by
  intro ρ A H xs vs w A' Q R r h k
  unfold fLen at h
  split at h
  · split at h
    · rename_i l x0 ys hx
      cases h
      cases r with
      | cons r0 t =>
        cases t
        obtain ⟨a, us, rfl, ha, e1, e2⟩ := R.seqAt hx r0
        refine ⟨a, us, rfl, ?_, ?_⟩
        · rcases e1 with e1 | e1
          · exact .inl (SqL.of e1)
          · exact .inr (SqT.of e1)
        · rw [← e2.len]
          exact k ρ H _ R .refl rfl
    · cases h
  · cases h
theorem sc_int1 : SimC κ (fun xs H Q => (∃ i, xs = [.int i] ∧ Q (.int i) H) ∨ ∃ k, xs = [.bl k] ∧ Q (.int (if k then 1 else 0)) H) fInt1 := by
  intro ρ A H xs vs w A' Q R r h k
  unfold fInt1 at h
  split at h
  · rename_i i
    cases h
    cases r with
    | cons r0 t =>
      cases t
      cases r0
      exact .inl ⟨i, rfl, k ρ H _ R .refl rfl⟩
  · cases h
theorem sc_abs : SimC κ (fun xs H Q => ∃ i, xs = [.int i] ∧ Q (.int (if i < 0 then -i else i)) H) fAbs := by
  intro ρ A H xs vs w A' Q R r h k
  unfold fAbs at h
  split at h
  · rename_i i
    cases h
    cases r with
    | cons r0 t =>
      cases t
      cases r0
      exact ⟨i, rfl, k ρ H _ R .refl rfl⟩
  · cases h
theorem sc_divmod : SimC κ (fun xs H Q => ∃ i j, xs = [.int i, .int j] ∧ CDiv i j ∧ ∀ p, H p = none → Q (.ref p) (upd H p (.tup [.int (i / j), .int (i % j)]))) fDivmod := by
  intro ρ A H xs vs w A' Q R r h k
  unfold fDivmod at h
  split at h
  · rename_i i j
    split at h
    · rename_i hj
      cases h
      cases r with
      | cons r0 t =>
        cases t with
        | cons r1 t =>
          cases t
          cases r0
          cases r1
          refine ⟨i, j, rfl, hj, fun p hp => ?_⟩
          obtain ⟨R2, G2, r2⟩ := R.newTup (xs := [.int (i / j), .int (i % j)]) (vs := [.int (i / j), .int (i % j)]) hp (.cons rfl (.cons rfl .nil))
          exact k _ _ _ R2 G2 r2
    · cases h
  · cases h
theorem sc_list1 : SimC κ (fun xs H Q => ∃ p ys, xs = [.ref p] ∧ (SqL κ.K H p ys ∨ SqT κ.K H p ys) ∧ ∀ l, H l = none → Q (.ref l) (upd H l (.lst ys))) fList1 := by
  intro ρ A H xs vs w A' Q R r h k
  unfold fList1 at h
  split at h
  · split at h
    · rename_i l x0 ys hx
      cases h
      cases r with
      | cons r0 t =>
        cases t
        obtain ⟨a, us, rfl, ha, e1, e2⟩ := R.seqAt hx r0
        refine ⟨a, us, rfl, ?_, fun l hl => ?_⟩
        · rcases e1 with e1 | e1
          · exact .inl (SqL.of e1)
          · exact .inr (SqT.of e1)
        · obtain ⟨R2, G2, r2⟩ := R.newLst hl e2
          exact k _ _ _ R2 G2 r2
    · cases h
  · cases h
theorem sc_tuple1 : SimC κ (fun xs H Q => ∃ p ys, xs = [.ref p] ∧ ((SqL κ.K H p ys ∧ ∀ l, H l = none → Q (.ref l) (upd H l (.tup ys))) ∨ (SqT κ.K H p ys ∧ Q (.ref p) H))) fTuple1 := by
  intro ρ A H xs vs w A' Q R r h k
  unfold fTuple1 at h
  split at h
  · split at h
    · rename_i l x0 ys hx
      cases h
      cases r with
      | cons r0 t =>
        cases t
        obtain ⟨a, ha, rfl⟩ := r0
        obtain ⟨us, e1, e2⟩ := R.of ha hx
        refine ⟨a, us, rfl, .inl ⟨SqL.of e1, fun l hl => ?_⟩⟩
        obtain ⟨R2, G2, r2⟩ := R.newTup hl e2
        exact k _ _ _ R2 G2 r2
    · rename_i l x0 ys hx
      cases h
      cases r with
      | cons r0 t =>
        cases t
        obtain ⟨a, ha, rfl⟩ := r0
        obtain ⟨us, e1, e2⟩ := R.of ha hx
        exact ⟨a, us, rfl, .inr ⟨SqT.of e1, k ρ H _ R .refl ⟨a, ha, rfl⟩⟩⟩
    · cases h
  · cases h
end

/-! ### own defs -/
def callM (N : Nat) (m : MS) (ws : List W) (A : List O) : Option (W × List O) := match m (ws.map some ++ List.replicate (N - ws.length) none) A with
  | some (.rt w, A') => some (w, A')
  | some (.nx _, A') => some (.non, A')
  | _ => none
def spM (κ : Kx) (np N : Nat) (m : MS) : Sp := fun vs H Q _ => vs.length = np ∧ ∃ ρ A ws w A', Rep κ ρ A H ∧ RelL κ ρ ws vs ∧ callM N m ws A = some (w, A') ∧ ∀ ρ' H' v, Rep κ ρ' A' H' → Go ρ H ρ' H' → RelW κ ρ' w v → Q v H'
def mCall (N : Nat) (m : MS) (a : MA) : ME := fun e A => match a e A with
  | some (ws, A1) => callM N m ws A1
  | none => none
section
variable {κ : Kx} {P : Program} {w : World} {mg : Str → Option Value} {base : Heap}
theorem RelE.start {ρ : List Addr} {ws : List W} {vs : List V} (r : RelL κ ρ ws vs) (N : List Str) : RelE κ ρ (ws.map some ++ List.replicate (N.length - ws.length) none) (L2.start N vs) := by
  unfold L2.start
  refine ⟨by simp [r.len], fun i w q => ?_⟩
  by_cases hi : i < ws.length
  · rw [List.getElem?_append_left (by rw [List.length_map]; exact hi), List.getElem?_map] at q
    obtain ⟨x, hx, e⟩ := Option.map_eq_some_iff.mp q
    obtain rfl : x = w := Option.some.inj e
    obtain ⟨v, h1, h2⟩ := r.get hx
    refine ⟨v, ?_, h2⟩
    have hv := (List.getElem?_eq_some_iff.mp h1).1
    rw [List.getElem?_append_left (by rw [List.length_map]; exact hv), List.getElem?_map, h1]
    rfl
  · rw [List.getElem?_append_right (by rw [List.length_map]; omega)] at q
    have := List.mem_of_getElem? q
    rw [List.mem_replicate] at this
    exact absurd this.2 (by simp)
theorem ok_m {x qual : Str} {st : Stmt} {f : Addr} {fd : FuncData} {N ps : List Str} {k : Nat} {m : MS} (F : Fun κ.K x qual st f fd) (S : FnScope N ps (defScope st))
    (hb : ∀ (cdv : Value) (A : Around) (outer : List Env) (s : Shared) (H : Hp) (E : XK), Room k (A.deeper (envOfC qual (defScope st) s.heap.objs.size f cdv)) →
      ∃ t, GSs (cxOf CX0 P w κ.K mg base N qual (defScope st) f cdv A outer s H E).nox κ (defBody st) t m) : FnOk P w κ.K mg base CX0 (k + 1) f fd ps (spM κ ps.length N.length m) := by
  refine F.ok S (fun vs H Q E h => h.1) (fun cdv A outer s H vs Q E hr h => ?_)
  obtain ⟨t, G⟩ := hb cdv A outer s H E hr
  obtain ⟨hl, ρ, Ah, ws, wv, A', R, r, hc, hk⟩ := h
  refine ⟨t, G.pss rfl, ?_⟩
  unfold callM at hc
  split at hc
  · rename_i w1 A1 h1
    cases hc
    exact G.sim _ _ _ _ _ _ _ _ R (RelE.start r N) h1 fun ρ' H' R' G' v rv => hk ρ' H' v R' G' rv
  · rename_i e1 A1 h1
    cases hc
    exact G.sim _ _ _ _ _ _ _ _ R (RelE.start r N) h1 fun ρ' H' R' G' σ' E' => hk ρ' H' _ R' G' rfl
  · cases hc
theorem sim_call {np N : Nat} {m : MS} {tA : TA} {mA : MA} {E : XK} (ha : SimA κ tA mA) (hn : ∀ ρ A e σ ws A', RelE κ ρ e σ → mA e A = some (ws, A') → ws.length = np) : SimE κ (tCall (spM κ np N m) [] E tA) (mCall N m mA) := by
  intro ρ A e σ H Q w A' R E' h k
  unfold mCall at h
  split at h
  · rename_i ws A1 h1
    refine ha _ _ _ _ _ _ _ _ R E' h1 fun ρ1 H1 vs R1 G1 rs => ?_
    refine ⟨by rw [List.append_nil, ← rs.len]; exact hn _ _ _ _ _ _ E' h1, ρ1, A1, ws, w, A', R1, by rw [List.append_nil]; exact rs, h, fun ρ' H' v R' G' rv => k ρ' H' v R' (G1.trans G') rv⟩
  · cases h
end
def ArgN (mA : MA) (n : Nat) : Prop := ∀ e A ws A', mA e A = some (ws, A') → ws.length = n
theorem argN_nil : ArgN mNil 0 := by
  intro e A ws A' h
  cases h
  rfl
theorem argN_cons {ma : ME} {mA : MA} {n : Nat} (h : ArgN mA n) : ArgN (mCons ma mA) (n + 1) := by
  intro e A ws A' q
  unfold mCons at q
  split at q
  · split at q
    · rename_i xs A2 h2
      cases q
      rw [List.length_cons, h _ _ _ _ h2]
    · cases q
  · cases q
end Sv

set_option Elab.async false
set_option linter.all false
set_option maxRecDepth 100000
set_option maxHeartbeats 4000000
namespace L2
open PySem PySem.Spec PyProof.Rows
/-- a def's promise where nothing is being shown (repr) around it -/
structure FnG (P : Program) (w : World) (K : PySem.W.Frag) (mg : Str → Option Value) (base : Heap) (k : Nat) (f : Addr) (fd : FuncData) (ps : List Str) (sp : Sp) : Prop where
  len : ∀ vs H Q E, sp vs H Q E → vs.length = ps.length
  run : ∀ (A : Around) (outer : List Env) (s : Shared) (H : Hp) (args : Args) (us : List Value) (vs : List V) (Q : VK) (E : XK), Room k A → A.guards = some [] → Env0 P w K mg base A outer s H →
    BindsTo s fd args (ps.zip us) → Vals vs us → sp vs H Q E → codeAny (model P w) A (.call (.ref f) args) (CR CX0 outer P w H s Q E) s
section
variable {P : Program} {w : World} {K : PySem.W.Frag} {mg : Str → Option Value} {base : Heap}
theorem FnG.of {k : Nat} {f : Addr} {fd : FuncData} {ps : List Str} {sp : Sp} (F : FnOk P w K mg base CX0 k f fd ps sp) : FnG P w K mg base k f fd ps sp :=
  ⟨F.len, fun A outer s H args us vs Q E hr _ => F.run A outer s H args us vs Q E hr⟩
theorem FnG.lift {j k : Nat} {f : Addr} {fd : FuncData} {ps : List Str} {sp : Sp} (F : FnG P w K mg base j f fd ps sp) (h : j ≤ k) : FnG P w K mg base k f fd ps sp :=
  ⟨F.len, fun A outer s H args us vs Q E hr => F.run A outer s H args us vs Q E (hr.mono h)⟩
theorem deeper_guards (A : Around) (env : Env) : (A.deeper env).guards = A.guards := rfl
theorem okG {x qual : Str} {st : Stmt} {f : Addr} {fd : FuncData} {N ps : List Str} {k : Nat} {sp : Sp} (F : Fun K x qual st f fd) (S : FnScope N ps (defScope st)) (len : ∀ vs H Q E, sp vs H Q E → vs.length = ps.length)
    (hbody : ∀ (cdv : Value) (A : Around) (outer : List Env) (s : Shared) (H : Hp) (vs : List V) (Q : VK) (E : XK), Room k (A.deeper (envOfC qual (defScope st) s.heap.objs.size f cdv)) → A.guards = some [] → sp vs H Q E →
      ∃ t, PSs (cxOf CX0 P w K mg base N qual (defScope st) f cdv A outer s H E).nox (defBody st) t ∧ t { nx := fun _ H' => Q .non H', rt := Q } (start N vs) H) : FnG P w K mg base (k + 1) f fd ps sp := by
  obtain ⟨oc, od, kV, doc, pm, an, cdv, ct, osl, rfl, lk, hcd⟩ := F.ex
  refine ⟨len, fun A outer s H args us vs Q E hr hA e0 hb r hsp => ?_⟩
  have kept : ∀ b o, base.get? b = some o → s.heap.get? b = some o := fun b o e => (e0.bs b o e).1
  have KX : K.In s.heap := e0.mod.kin.keeps kept
  have lim : s.heap.NoLimit := e0.mod.nolimit.keeps kept
  refine codeAny_call_function hr.depth (KX _ _ lk) rfl S.co S.gen rfl (PySem.W.codeRec_of KX hcd) (hb _ _ _ _ ?_)
  refine wpAny_newFunctionEnv_cells S.kind (fun ⟨n, v⟩ hy => ?_) fun env he s1 x => ?_
  · rcases S.par n (List.of_mem_zip hy).1 with q | q
    · exact .inl q
    · exact .inr ⟨q, PySem.W.cellsFrom_some _ _ _ (.inl q)⟩
  · subst he
    refine ⟨lim.keeps x.toInCall.keep, codeAny_func ?_⟩
    obtain ⟨t, ht, hq⟩ := hbody cdv A outer s H vs Q E (hr.deeper _) hA hsp
    have I : Inv (cxOf CX0 P w K mg base N qual (defScope st) f cdv A outer s H E) [] (start N vs) H s1 := inv_start S hr.hd e0 (len _ _ _ _ hsp) r x
    refine wpAny_mono (ht.nox.run [] s1 (start N vs) H _ I hq) (fun fl s' hs => ?_) fun e s' hs => hs
    cases fl with
    | ret u =>
      obtain ⟨v, σ', H', J, rv, q⟩ := hs
      exact ⟨v, H', J.os, J.bare, J.base, J.hok, rv, q⟩
    | next =>
      obtain ⟨σ', H', J, q⟩ := hs
      exact ⟨.non, H', J.os, J.bare, J.base, J.hok, rfl, q⟩
    | brk => exact hs.elim fun _ z => z.elim fun _ y => y.2.elim
    | cont => exact hs.elim fun _ z => z.elim fun _ y => y.2.elim
end
section
variable {X : Cx} {k : Nat} {f : Addr} {fd : FuncData} {ps : List Str} {sp : Sp} {x : Str} {p pos : Pos} {e : Expr} {es : List Expr} {t : TA}
theorem run_fnG {pins : List (Addr × Obj)} {σ : St} {H : Hp} {s : Shared} {Q : VK} {us : List Value} {vs : List V} (F : FnG X.prog X.w X.K X.mg X.base k f fd ps sp) (hr : Room k X.A) (hG : X.A.guards = some []) (hb : Binds X.K fd ps [])
    (I : Inv X pins σ H s) (r : Vals vs us) (h : sp vs H Q E0) : wpAny (model X.prog X.w) X.A (call (.ref f) us) (EP X pins σ Q) X.xe s := by
  have hl : us.length = ps.length := by rw [← r.length]; exact F.len _ _ _ _ h
  have hb' : BindsTo s fd ⟨us, []⟩ (ps.zip us) := by
    have q := hb s us I.kIn (by rw [List.append_nil]; exact hl)
    rw [List.append_nil] at q
    exact q
  refine wpAny_call (codeAny_mono (F.run X.A X.stack s H ⟨us, []⟩ us vs Q E0 hr hG I.env0 hb' r h) fun r' s' hq => ?_)
  cases r' with
  | error e => exact False.elim hq
  | ok fl =>
    cases fl with
    | ret u => exact I.after hq
    | next => exact False.elim hq
    | brk => exact False.elim hq
    | cont => exact False.elim hq
theorem pe_callG (F : FnG X.prog X.w X.K X.mg X.base k f fd ps sp) (hr : Room k X.A) (hG : X.A.guards = some []) (hm : X.mg x = some (.ref f)) (hk : PySem.W.keepIn X.K (.ref f) = true) (hb : Binds X.K fd ps []) (ha : PA X (e :: es) t) (hg : Gl X x := by rfl)
    (hdb : (x == ("__debug__" : Str)) = false := by decide) (he : starEach (e :: es) X.env = (false, eval e X.env) :: starEach es X.env := by rfl) (hpl : (backTo pos (starEach es X.env)).any (·.1) = false := by rfl) :
    PE X (.Call (.Name x p) (e :: es) [] pos) (tCall sp [] E0 t) := by
  refine ⟨fun pins s σ H Q I h => wpAny_Call_Name_kw (ld_glob I hg hm ?_ hdb)⟩
  refine PySem.W.callWith_K (h₀ := X.base) I.ok.mod.kin hk (thn (ha.run pos pins s σ H _ I h) fun us s1 ⟨vs, H1, I1, r1, q1⟩ => ⟨I1.kIn, ?_⟩) he hpl
  have q0 : sp (vs ++ []) H1 Q E0 := q1
  have q1' : sp vs H1 Q E0 := by
    rw [List.append_nil] at q0
    exact q0
  exact run_fnG F hr hG hb I1 r1 q1'
end
/-! ### repr -/
def rRepr (K : PySem.W.Frag) : List V → Hp → VK → Prop := fun xs H Q => ∃ v d, xs = [v] ∧ Dp K H v d ∧ d.showable = true ∧ d.shown.length ≤ sizeLine ∧ d.depth ≤ 10 ∧ Q (.str d.shown) H
mutual
theorem dp_noDict {K : PySem.W.Frag} {H : Hp} : ∀ (d : PyData) (v : V), Dp K H v d → d.hasDict = false
  | .none, _, _ => by simp [PyData.hasDict]
  | .bool _, _, _ => by simp [PyData.hasDict]
  | .int _, _, _ => by simp [PyData.hasDict]
  | .str _, _, _ => by simp [PyData.hasDict]
  | .list ds, _, h => by
    cases h with
    | lst _ ha => simp only [PyData.hasDict]; exact dp_noDicts ds _ ha
  | .tuple ds, _, h => by
    cases h with
    | tup _ ha => simp only [PyData.hasDict]; exact dp_noDicts ds _ ha
  | .dict _, _, h => by cases h
theorem dp_noDicts {K : PySem.W.Frag} {H : Hp} : ∀ (ds : List PyData) (vs : List V), DpAll K H vs ds → PyData.hasDictAll ds = false
  | [], _, _ => by simp [PyData.hasDictAll]
  | d :: ds, _, h => by
    cases h with
    | cons h1 h2 => simp only [PyData.hasDictAll, dp_noDict d _ h1, dp_noDicts ds _ h2, Bool.or_self]
end
theorem call_reprU {X : Cx} (hu : X.A.units + 64 < cLine) (hG : X.A.guards = some []) : CallR X (.builtin "repr") (rRepr X.K) := by
  intro pins s σ H xs us Q I r h
  obtain ⟨v, d, rfl, hd, hs, hz, hdep, q⟩ := h
  obtain ⟨u, rfl, rv⟩ := vals1 r
  have big : ∀ {a : Addr} {as : List Addr}, Reads s.heap (.ref a) d as → wpAny (model X.prog X.w) X.A (call (.builtin "repr") [.ref a]) (EP X pins σ Q) X.xe s := fun {a as} rd =>
    repr_of_reads' rd hs (PyData.noDict_hsm (dp_noDict d v hd)) hG (by omega) (fun _ _ e => e) (fun h' u tk hk => ⟨.str d.shown, H, I.kept hk, ⟨u, rfl⟩, q⟩) hz
  obtain ⟨as, rd⟩ := Dp.reads I d v u hd rv
  cases hd with
  | non =>
    cases rv
    simp only [PyData.shown] at q
    exact PySem.P.repr_of_none ⟨.str "None", H, I.tok _, ⟨_, rfl⟩, q⟩
  | bl b =>
    cases rv
    simp only [PyData.shown] at q
    exact PySem.P.repr_of_bool ⟨.str _, H, I.tok _, ⟨_, rfl⟩, q⟩
  | int i =>
    obtain ⟨t, rfl⟩ := rv
    simp only [PyData.shown] at q
    exact PySem.P.repr_of_int (by simpa [PyData.showable] using hs) ⟨.str _, H, I.tok _, ⟨_, rfl⟩, q⟩
  | str x =>
    obtain ⟨t, rfl⟩ := rv
    simp only [PyData.shown] at q hz
    exact PySem.P.repr_of_str ⟨.str _, H, I.tok _, ⟨_, rfl⟩, q⟩ hz
  | lst h1 h2 =>
    cases rv
    exact big rd
  | tup h1 h2 =>
    cases rv
    exact big rd
theorem call_repr {X : Cx} {k : Nat} (hr : Room k X.A) (hG : X.A.guards = some []) : CallR X (.builtin "repr") (rRepr X.K) := call_reprU hr.units hG
/-- a dict of flat texts, bools and ints under flat keys -/
def flatD : V → Option PyData
  | .non => some .none
  | .bl b => some (.bool b)
  | .int i => some (.int i)
  | .str x => some (.str x)
  | _ => none
end L2
namespace L2
open PySem PySem.Spec PyProof.Rows
def keyD : Key → PyData
  | .inl i => .int i
  | .inr x => .str x
def kvsD (f : V → Option PyData) : List (Key × V) → Option (List (PyData × PyData))
  | [] => some []
  | (k, v) :: r => match f v with
    | some d => match kvsD f r with
      | some ds => some ((keyD k, d) :: ds)
      | none => none
    | none => none
end L2

set_option Elab.async false
set_option linter.all false
set_option maxRecDepth 100000
set_option maxHeartbeats 4000000
namespace L2
open PySem PySem.Spec PyProof.Rows
theorem flat_reads {v : V} {u : Value} {d : PyData} {h : Heap} (e : flatD v = some d) (r : RelV v u) : Reads h u d [] := by
  cases v with
  | non => cases r; cases e; exact .none
  | bl b => cases r; cases e; exact .bool b
  | int i => obtain ⟨t, rfl⟩ := r; cases e; exact .int i t
  | str x => obtain ⟨t, rfl⟩ := r; cases e; exact .str x t
  | _ => cases e
theorem key_reads {k : Key} {u : Value} {h : Heap} (e : keyIs k u = true) : Reads h u (keyD k) [] := by
  rcases keyIs_shape e with ⟨i, t, rfl, rfl⟩ | ⟨x, t, rfl, rfl⟩
  · exact .int i t
  · exact .str x t
theorem pairs_reads {P : Program} {w : World} {h : Heap} : ∀ {kvs : List (Key × V)} {vs : List (Key × Value)} {es : List DictEntry} {ds : List (PyData × PyData)}, KV kvs vs → Pairs (mixKind P w) es vs → kvsD flatD kvs = some ds →
    ReadsAll h (es.map (·.key)) (ds.map (·.1)) [] ∧ ReadsAll h (es.map (·.val)) (ds.map (·.2)) []
  | _, _, _, _, .nil, .nil, e => by
    cases e
    exact ⟨.nil, .nil⟩
  | _, _, _, _, .cons (a := (k, v)) (b := (k', u)) r t, .cons h1 h2 t2, e => by
    unfold kvsD at e
    split at e
    · rename_i d hd
      split at e
      · rename_i ds hds
        cases e
        obtain ⟨q1, q2⟩ := pairs_reads (h := h) t t2 hds
        obtain ⟨rk, rv⟩ := r
        have rk : k = k' := rk
        subst rk
        have a1 : Reads h _ (keyD k) [] := key_reads h1
        have a2 : Reads h _ d [] := flat_reads hd rv
        rw [← h2] at a2
        exact ⟨ReadsAll.cons (as := []) (bs := []) a1 q1, ReadsAll.cons (as := []) (bs := []) a2 q2⟩
      · cases e
    · cases e
def rReprK : List V → Hp → VK → Prop := fun xs H Q => ∃ a kvs ds, xs = [.ref a] ∧ H a = some (.dK kvs) ∧ kvsD flatD kvs = some ds ∧ (PyData.dict ds).showable = true ∧ (PyData.dict ds).shown.length ≤ sizeLine ∧ (PyData.dict ds).depth ≤ 10 ∧ Q (.str (PyData.dict ds).shown) H
theorem call_reprKU {X : Cx} (hu : X.A.units + 64 < cLine) (hG : X.A.guards = some []) : CallR X (.builtin "repr") rReprK := by
  intro pins s σ H xs us Q I r h
  obtain ⟨a, kvs, ds, rfl, ha, hds, hs, hz, hdep, q⟩ := h
  obtain ⟨u, rfl, rv⟩ := vals1 r
  cases rv
  obtain ⟨_, hsys, vs, rkv, o, es, ep, h1, h2, h3, _, h4, _⟩ := I.hok a _ ha
  obtain ⟨q1, q2⟩ := pairs_reads (h := s.heap) rkv h4 hds
  have rd : Reads s.heap (.ref a) (.dict ds) (a :: [] ++ []) := Reads.dict h1 h2.1 h3 q1 q2
  refine repr_of_reads' rd hs (fun _ hm => ?_) hG (by omega) (fun _ _ e => e) (fun h' u tk hk => ⟨.str (PyData.dict ds).shown, H, I.kept hk, ⟨u, rfl⟩, q⟩) hz
  have e : sysModules = a := by simpa using hm
  rw [← e] at hsys
  simp at hsys
theorem call_reprK {X : Cx} {k : Nat} (hr : Room k X.A) (hG : X.A.guards = some []) : CallR X (.builtin "repr") rReprK := call_reprKU hr.units hG
/-! ### the law's own end -/
theorem law_callG {P : Program} {w : World} {K : PySem.W.Frag} {mg mb : Str → Option Value} {k : Nat} {fa a : Addr} {fd : FuncData} {x : Str} {sp : Sp} {s₁ : Shared} {vs : List Value} {ns : List Int}
    (KX : K.In s₁.heap) (hns : s₁.heap.Ns mainGlobals mg) (hb : s₁.heap.Ns builtinsNs mb) (hbb : ∀ x : Str, x ≠ "__name__" → mb x = bootBuiltins x) (hlim : s₁.heap.NoLimit) (hg : s₁.gens = #[])
    (ha : s₁.heap.get? a = some { cls := .type "list", data := .seq vs.toArray }) (hi : IntsAre vs ns) (hl : ns.length ≤ sizeLine) (hr : Room k callerA)
    (F : ∀ base : Heap, K.In base → base.Ns mainGlobals mg → FnG P w K mg base k fa fd [x] sp) (hbind : ∀ (s : Shared) (u : Value), BindsTo s fd ⟨[u], []⟩ [(x, u)])
    (hsp : ∀ H : Hp, Only H → SqL K H a (ns.map V.int) → sp [.ref a] H (fun v _ => v = .bl true) fun _ _ _ => False) :
    codeAny (model P w) callerA (.call (.ref fa) ⟨[.ref a], []⟩) (fun r s' => r = .ok (.ret (.bool true)) ∧ OldK s₁.heap s'.heap ∧ s'.os = s₁.os ∧ AllBare s'.gens) s₁ := by
  have start : ∀ H : Hp, Only H → SqL K H a (ns.map V.int) → HOk P w H s₁.heap → (∀ b, H b ≠ none → b = a) → (H a ≠ none → K.lookup a = none) →
      codeAny (model P w) callerA (.call (.ref fa) ⟨[.ref a], []⟩) (fun r s' => r = .ok (.ret (.bool true)) ∧ OldK s₁.heap s'.heap ∧ s'.os = s₁.os ∧ AllBare s'.gens) s₁ := by
    intro H hO hS hok hA hK
    have free : ∀ {b : Addr} {o : Obj}, s₁.heap.get? b = some o → (∀ es ep, o.data = .dict es ep → H b = none) := fun {b o} e es ep d => by
      refine Classical.byContradiction fun q => ?_
      have eb := hA b q
      subst eb
      rw [ha] at e
      cases e
      cases d
    have nsK : ∀ {b : Addr} {m : Str → Option Value}, s₁.heap.Ns b m → (hidT s₁.heap H).Ns b m := fun {b m} ⟨o, es, ep, e, d, r⟩ => ⟨o, es, ep, hidT_get e (free e es ep d), d, r⟩
    have hKb : K.In (hidT s₁.heap H) := fun b o e => hidT_get (KX b o e) (by
      refine Classical.byContradiction fun q => ?_
      have eb := hA b q
      subst eb
      rw [hK q] at e
      cases e)
    have lim' : (hidT s₁.heap H).NoLimit := hlim.elim fun mc z => ⟨mc, nsK z.1, z.2⟩
    have hM : Mod K mg (hidT s₁.heap H) := ⟨hKb, nsK hns, ⟨mb, nsK hb, hbb⟩, lim'⟩
    have e0 : Env0 P w K mg (hidT s₁.heap H) callerA [] s₁ H := ⟨rfl, hM, fun b o e => of_hidT e, Nat.le_of_eq (hidT_size _ _), trivial, fun b z => (nomatch z), hok, .of_eq hg⟩
    refine codeAny_mono ((F _ hKb (nsK hns)).run callerA [] s₁ H ⟨[.ref a], []⟩ [.ref a] [.ref a] _ _ hr rfl e0 (hbind s₁ (.ref a)) (.cons rfl .nil) (hsp H hO hS)) fun r s' h => ?_
    match r, h with
    | .ok (.ret u), ⟨v, H', os, bare, un, hok', r', q⟩ =>
      have qv : v = .bl true := q
      subst qv
      obtain rfl : u = Value.bool true := r'
      refine ⟨rfl, OldK.of_keep fun b o e => ?_, os, bare⟩
      rcases hO b with z | ⟨ob, xs, z⟩
      · exact un.keep b o e z (fun m => (nomatch m)) (fun m => (nomatch m))
      · have z2 := un.frzs b ob _ z
        obtain ⟨e1, _⟩ := hok b _ z
        obtain ⟨e2, _⟩ := hok' b _ z2
        rw [e] at e1
        cases e1
        exact e2
  cases hk : K.lookup a with
  | some o =>
    have e := KX a o hk
    rw [ha] at e
    cases e
    exact start (fun _ => none) (fun _ => .inl rfl) (.inr ⟨_, vs.toArray, _, hk, rfl, rfl, rfl, by rw [List.size_toArray, hi.length]; exact hl, by simpa using vals_ints hi⟩)
      (fun b u z => (nomatch (show (none : Option HO) = some u from z))) (fun b z => absurd rfl z) fun z => absurd rfl z
  | none =>
    let o0 : Obj := { cls := .type "list", data := .seq vs.toArray }
    have at_a : ∀ {b : Addr} {u : HO}, (if b = a then some (HO.frz o0 (.lst (ns.map V.int))) else none) = some u → b = a ∧ u = .frz o0 (.lst (ns.map V.int)) := fun {b u} z => by
      by_cases hb : b = a
      · rw [if_pos hb] at z
        exact ⟨hb, (Option.some.inj z).symm⟩
      · rw [if_neg hb] at z
        cases z
    refine start (fun b => if b = a then some (.frz o0 (.lst (ns.map V.int))) else none) (fun b => ?_) (.inl (.inr ⟨o0, if_pos rfl⟩)) (fun b u z => ?_) (fun b z => ?_) fun _ => hk
    · by_cases hb : b = a
      · exact .inr ⟨_, _, if_pos hb⟩
      · exact .inl (if_neg hb)
    · obtain ⟨rfl, rfl⟩ := at_a z
      exact ⟨ha, by rw [List.length_map]; exact hl, vs, _, vals_ints hi, ha⟩
    · refine Classical.byContradiction fun hb => z (if_neg hb)
theorem walk_ofG {l : PySem.W.OpenLaw} {n k : Nat} {q : Program} {loose : List Str} {XP : (Str → Option Value) → Heap → Prop} {YP : World → Heap → Prop} {d : DefRec} {K : Params → PySem.W.Frag} {sp : World → Sp} {x : Str}
    (hn : l.most = some n) (hn2 : n ≤ sizeLine) (hdf : d.params.defaults = []) (hr : Room k callerA)
    (hY : ∀ (w : World) (h : Heap), YP w h → (K w.params).In h)
    (F : ∀ (w : World) (s₀ : Shared) (mg mb : Str → Option Value) (fa : Addr) (h : Heap), PySem.W.Ground q loose [] XP w s₀ mg mb h → (K w.params).In h → h.Ns mainGlobals mg → mg d.name = some (.ref fa) →
      ∃ fd : FuncData, (∀ (s : Shared) (u : Value), BindsTo s fd ⟨[u], []⟩ [(x, u)]) ∧ ∀ base : Heap, (K w.params).In base → base.Ns mainGlobals mg → FnG l.prog w (K w.params) mg base k fa fd [x] (sp w))
    (hsp : ∀ (w : World) (H : Hp) (a : Addr) (ns : List Int), ns.length ≤ n → (∀ z ∈ ns, Builtin.Int.intBits z ≤ 1048576) → Only H → SqL (K w.params) H a (ns.map V.int) → sp w [.ref a] H (fun v _ => v = .bl true) fun _ _ _ => False) :
    PySem.W.WalkO q loose XP YP l.row.toRowW d [] (fun f vs => PySem.call f vs) := by
  refine Att.attach_callB hn hdf fun w s₀ s₁ mg mb fa o pm cd doc a vs ns G Y ho hd hcd hmg hobj hints hlen hbits hg => ?_
  have KX := hY w _ Y
  obtain ⟨fd, hb, hF⟩ := F w s₀ mg mb fa _ G KX G.T.g hmg
  exact law_callG KX G.T.g G.T.b G.T.builtins G.T.nolimit hg hobj hints (Nat.le_trans hlen hn2) hr hF hb fun H hO hS => hsp w H a ns hlen hbits hO hS
end L2

set_option Elab.async false
set_option linter.all false
set_option maxRecDepth 100000
set_option maxHeartbeats 4000000
namespace Y
open PySem L2
open SX (S)
open C8 (Cal pe_c pe_gc)
/-! ### defs by their names, where nothing is being shown -/
structure CalG (P : Program) (w : World) (K : PySem.W.Frag) (mg : Str → Option Value) (base : Heap) (k : Nat) (x : Str) (sp : Sp) : Prop where
  ex : ∃ (f : Addr) (fd : FuncData) (ps : List Str), FnG P w K mg base k f fd ps sp ∧ mg x = some (.ref f) ∧ PySem.W.keepIn K (.ref f) = true ∧ Binds K fd ps []
section
variable {X : Cx} {k j : Nat} {x : Str} {sp : Sp} {p pos : Pos} {e : Expr} {es : List Expr} {t : TA}
theorem pe_cG (c : CalG X.prog X.w X.K X.mg X.base k x sp) (hr : Room j X.A) (hk : k ≤ j) (hG : X.A.guards = some []) (hg : Gl X x) (ha : PA X (e :: es) t)
    (hdb : (x == ("__debug__" : Str)) = false := by decide) (he : starEach (e :: es) X.env = (false, eval e X.env) :: starEach es X.env := by rfl) (hpl : (backTo pos (starEach es X.env)).any (·.1) = false := by rfl) :
    PE X (.Call (.Name x p) (e :: es) [] pos) (tCall sp [] E0 t) := by
  obtain ⟨f, fd, ps, F, hm, kp, b⟩ := c.ex
  exact pe_callG F (hr.mono hk) hG hm kp b ha hg hdb he hpl
end
section
variable {P : Program} {w : World} {K : PySem.W.Frag} {mg : Str → Option Value} {base : Heap}
/-- a def of the text, by its name and its place -/
structure DfT (K : PySem.W.Frag) (mg : Str → Option Value) (x : Str) (st : Stmt) (ps : List Str) : Prop where
  ex : ∃ (f : Addr) (fd : FuncData), Fun K x x st f fd ∧ Binds K fd ps [] ∧ mg x = some (.ref f)
theorem calS {x : Str} {st : Stmt} {N ps : List Str} {k : Nat} {sp : Sp} (D : DfT K mg x st ps) (S : FnScope N ps (defScope st)) (len : ∀ vs H Q E, sp vs H Q E → vs.length = ps.length)
    (hbody : ∀ (f : Addr) (cdv : Value) (A : Around) (outer : List Env) (s : Shared) (H : Hp) (vs : List V) (Q : VK) (E : XK), Room k (A.deeper (PyProof.Rows.envOfC x (defScope st) s.heap.objs.size f cdv)) → sp vs H Q E →
      ∃ t, PSs (cxOf CX0 P w K mg base N x (defScope st) f cdv A outer s H E).nox (defBody st) t ∧ t { nx := fun _ H' => Q .non H', rt := Q } (L2.start N vs) H) : Cal P w K mg base (k + 1) x sp [] := by
  obtain ⟨f, fd, F, b, g⟩ := D.ex
  have F1 : FnOk P w K mg base CX0 (k + 1) f fd ps sp := F.ok S len fun cdv A outer s H vs Q E hr h => hbody f cdv A outer s H vs Q E hr h
  exact ⟨f, fd, ps, [], F1, g, F.kp, b, .nil⟩
theorem calG {x : Str} {st : Stmt} {N ps : List Str} {k : Nat} {sp : Sp} (D : DfT K mg x st ps) (S : FnScope N ps (defScope st)) (len : ∀ vs H Q E, sp vs H Q E → vs.length = ps.length)
    (hbody : ∀ (f : Addr) (cdv : Value) (A : Around) (outer : List Env) (s : Shared) (H : Hp) (vs : List V) (Q : VK) (E : XK), Room k (A.deeper (PyProof.Rows.envOfC x (defScope st) s.heap.objs.size f cdv)) → A.guards = some [] → sp vs H Q E →
      ∃ t, PSs (cxOf CX0 P w K mg base N x (defScope st) f cdv A outer s H E).nox (defBody st) t ∧ t { nx := fun _ H' => Q .non H', rt := Q } (L2.start N vs) H) : CalG P w K mg base (k + 1) x sp := by
  obtain ⟨f, fd, F, b, g⟩ := D.ex
  have F1 : FnG P w K mg base (k + 1) f fd ps sp := okG F S len fun cdv A outer s H vs Q E hr hG h => hbody f cdv A outer s H vs Q E hr hG h
  exact ⟨f, fd, ps, F1, g, F.kp, b⟩
end
def rLenQ (K : PySem.W.Frag) : List V → Hp → VK → Prop := fun xs H Q => ∃ p ys, xs = [.ref p] ∧ (SqL K H p ys ∨ SqT K H p ys) ∧ Q (.int ys.length) H
def rListOf (K : PySem.W.Frag) : List V → Hp → VK → Prop := fun xs H Q => ∃ p ys, xs = [.ref p] ∧ (SqL K H p ys ∨ SqT K H p ys) ∧ ∀ l, H l = none → Q (.ref l) (upd H l (.lst ys))
def rTupOf (K : PySem.W.Frag) : List V → Hp → VK → Prop := fun xs H Q => ∃ p ys, xs = [.ref p] ∧ ((SqL K H p ys ∧ ∀ l, H l = none → Q (.ref l) (upd H l (.tup ys))) ∨ (SqT K H p ys ∧ Q (.ref p) H))
/-! ### heaps: all kept but the pail -/
def KpX (p : Addr) (H H' : Hp) : Prop := ∀ b o, H b = some o → b ≠ p → H' b = some o
structure PailAt (H : Hp) (p : Addr) : Prop where
  ex : ∃ a b c : Int, (0 ≤ b ∧ b < 2 ^ 63) ∧ H p = some (.lst [.int a, .int b, .int c])
section
variable {H H1 H2 : Hp} {p a : Addr} {K : PySem.W.Frag} {xs : List V} {o : HO}
theorem KpX.refl : KpX p H H := fun _ _ h _ => h
theorem KpX.trans (x : KpX p H H1) (y : KpX p H1 H2) : KpX p H H2 := fun b o h n => y b o (x b o h n) n
theorem KpX.of (h : Same H H1) : KpX p H H1 := fun b o e _ => h b o e
theorem KpX.new (h : H a = none) : KpX p H (upd H a o) := fun b u e _ => by rw [upd_ne (ne_of_none e h)]; exact e
theorem Same.new (h : H a = none) : Same H (upd H a o) := fun b u e => by rw [upd_ne (ne_of_none e h)]; exact e
theorem PailAt.there (h : PailAt H p) : ∃ u, H p = some u := by
  obtain ⟨a, b, c, _, e⟩ := h.ex
  exact ⟨_, e⟩
theorem PailAt.same (h : PailAt H p) (k : Same H H1) : PailAt H1 p := by
  obtain ⟨a, b, c, hb, e⟩ := h.ex
  exact ⟨a, b, c, hb, k _ _ e⟩
/-- a tuple is never the pail -/
theorem tup_ne (h : PailAt H p) (t : SqT K H a xs) (hk : K.lookup p = none) : a ≠ p := by
  obtain ⟨x, b, c, _, e⟩ := h.ex
  rintro rfl
  rcases t with (t | ⟨o, t⟩) | ⟨o, its, n, t, _⟩
  · rw [e] at t; cases t
  · rw [e] at t; cases t
  · rw [hk] at t; cases t
theorem KpX.tup (k : KpX p H H1) (h : PailAt H p) (t : SqT K H a xs) : SqT K H1 a xs := by
  obtain ⟨x, b, c, _, e⟩ := h.ex
  rcases t with (t | ⟨o, t⟩) | t
  · exact .inl (.inl (k _ _ t (fun z => by subst z; rw [e] at t; cases t)))
  · exact .inl (.inr ⟨o, k _ _ t (fun z => by subst z; rw [e] at t; cases t)⟩)
  · exact .inr t
theorem KpX.seq (k : KpX p H H1) (hne : a ≠ p) (t : SqL K H a xs) : SqL K H1 a xs := by
  rcases t with (t | ⟨o, t⟩) | t
  · exact .inl (.inl (k _ _ t hne))
  · exact .inl (.inr ⟨o, k _ _ t hne⟩)
  · exact .inr t
theorem Same.tup (k : Same H H1) (t : SqT K H a xs) : SqT K H1 a xs := by
  rcases t with (t | ⟨o, t⟩) | t
  · exact .inl (.inl (k _ _ t))
  · exact .inl (.inr ⟨o, k _ _ t⟩)
  · exact .inr t
end
end Y
/-! ### a tuple that has no dict: its methods can be called -/
namespace Y
open PySem L2 PySem.Spec PyProof.Rows
/-- a tuple laid by tuple(list): no more than its items -/
def KTup (H : Hp) (a : Addr) (xs : List V) : Prop := ∃ o : Obj, H a = some (.frz o (.tup xs)) ∧ o.dict = none
theorem KTup.sq {K : PySem.W.Frag} {H : Hp} {a : Addr} {xs : List V} (h : KTup H a xs) : SqT K H a xs := by
  obtain ⟨o, e, _⟩ := h
  exact .inl (.inr ⟨o, e⟩)
theorem Same.kt {H H' : Hp} {a : Addr} {xs : List V} (k : Same H H') (h : KTup H a xs) : KTup H' a xs := by
  obtain ⟨o, e, d⟩ := h
  exact ⟨o, k _ _ e, d⟩
theorem KpX.kt {p : Addr} {H H' : Hp} {a : Addr} {xs : List V} (k : KpX p H H') (hP : PailAt H p) (h : KTup H a xs) : KTup H' a xs := by
  obtain ⟨o, e, d⟩ := h
  obtain ⟨x, b, c, _, e2⟩ := hP.ex
  exact ⟨o, k _ _ e (fun z => by subst z; rw [e2] at e; cases e), d⟩
def rTupF (K : PySem.W.Frag) : List V → Hp → VK → Prop := fun xs H Q => ∃ p ys, xs = [.ref p] ∧ SqL K H p ys ∧ ∀ l o, H l = none → o.dict = none → Q (.ref l) (upd H l (.frz o (.tup ys)))
theorem call_tuple_ofF {X : Cx} : CallR X (.type "tuple") (rTupF X.K) := by
  intro pins s σ H xs us Q I r h
  obtain ⟨p, ys, rfl, hq, q⟩ := h
  obtain ⟨u, rfl, rx⟩ := vals1 r
  cases rx
  obtain ⟨its, r', pl, hz⟩ := I.list hq
  have hlen := r'.length
  refine call_tuple_list pl.isList (fun h' kp => ?_) (by simp only [List.size_toArray] <;> omega)
  have I1 : Inv X pins σ H { s with heap := h' } := I.kept (t' := s.toks) kp
  have I2 : Inv X pins σ (upd H h'.objs.size (.frz { cls := .type "tuple", data := .seq its.toArray } (.tup ys))) { s with heap := h'.push { cls := .type "tuple", data := .seq its.toArray } } :=
    I1.laid (t' := s.toks) (fun b o e => Heap.get?_push_of_some _ e) (Nat.le_refl _) (show ObjOk X.prog X.w _ _ _ (.frz _ (.tup ys)) from ⟨Heap.get?_push_size _ rfl, hz, its, r', IsTup.new _ _⟩)
  exact ⟨.ref h'.objs.size, _, I2, rfl, q _ _ (I1.hok.fresh (Nat.le_refl _)) rfl⟩
/-- t.m(..) of such a tuple -/
def tBMT (r : V → List V → Hp → VK → Prop) (to : TE) (t : TA) : TE := fun σ H Q => to σ H fun x H1 => (∃ p xs, x = .ref p ∧ KTup H1 p xs) ∧ t σ H1 fun xs H2 => r x xs H2 Q
theorem pe_bmT {X : Cx} {o e : Expr} {es : List Expr} {to : TE} {t : TA} {name : Str} {apos cpos : Pos} {id : String} {r : V → List V → Hp → VK → Prop}
    (pa : PlainAttrs "tuple") (slot : Slot "tuple" name id) (hty : typeOf (.builtin id) = pure (.type "method_descriptor")) (hm : MtR X id r) (ho : PE X o to) (ha : PA X (e :: es) t)
    (hbase : attributeBase o name X.env (eval o X.env) = eval o X.env := by rfl)
    (hfew : ((backTo cpos (starEach (e :: es) X.env)).all (fun x => !x.1) && (backToKw cpos (keywordEach [] X.env)).all (fun x => x.1.isSome)
      && decide ((e :: es).length + ([] : List Keyword).length + (if ([] : List Keyword).isEmpty then 0 else 1) < 30)) = true := by rfl)
    (hline : (apos.endLine == cpos.line) = true := by rfl) (hs : starEach (e :: es) X.env = (false, eval e X.env) :: starEach es X.env := by rfl) (hplain : (backTo cpos (starEach es X.env)).any (·.1) = false := by rfl) :
    PE X (.Call (.Attribute o name apos) (e :: es) [] cpos) (tBMT r to t) := by
  refine ⟨fun pins s σ H Q I h => ?_⟩
  refine wpAny_Call_method_late hbase hfew hline rfl (thn (ho.run pins s σ H _ I h) fun v s1 ⟨x, H1, I1, r1, ⟨p, xs, hx, ob, e1, e2⟩, q1⟩ => ?_)
  subst hx
  cases r1
  have g1 := (show ObjOk X.prog X.w H1 s1.heap p (.frz ob (.tup xs)) from I1.hok p _ e1)
  obtain ⟨g2, _, its, _, o2, g3, g4, _⟩ := g1
  rw [g2] at g3
  cases g3
  refine ⟨"tuple", id, pa, slot, hty, ⟨ob, g2, g4⟩, fun a e => by cases e; exact ⟨ob, g2, e2⟩, ?_⟩
  have hA := ha.run cpos pins s1 σ H1 _ I1 q1
  rw [hs] at hA ⊢
  refine Calls.callWith_builtin (by show (false || (backTo cpos (starEach es X.env)).any (·.1)) = false; rw [hplain] <;> rfl) (Calls.evalArgs_plain ?_)
  exact thn hA fun us s2 ⟨vs, H2, I2, r2, q2⟩ => hm pins s2 σ H2 (.ref p) vs (.ref p) us Q I2 rfl r2 q2
end Y

set_option Elab.async false
set_option linter.all false
set_option maxRecDepth 100000
set_option maxHeartbeats 4000000
namespace Y
open PySem L2
open SX (S)
open C8 (Cal pe_c pe_gc)
def top (i : Nat) : Stmt := PySem.Challenge.pw_swapkinds_k17_whole_yards_added.main.body.getD i (.Pass ⟨0, 0, 0, 0⟩)
/-- the names that the text finds -/
structure Tx (K : PySem.W.Frag) (mg : Str → Option Value) : Prop where
  n_len : mg "len" = none
  n_int : mg "int" = none
  n_abs : mg "abs" = none
  n_str : mg "str" = none
  n_list : mg "list" = none
  n_tuple : mg "tuple" = none
  n_divmod : mg "divmod" = none
  n_isinstance : mg "isinstance" = none
  n_range : mg "range" = none
  n_enumerate : mg "enumerate" = none
  n_zip : mg "zip" = none
  n_repr : mg "repr" = none
  n_bool : mg "bool" = none
  n_sum : mg "sum" = none
  n_all : mg "all" = none
  n_max : mg "max" = none
  n_min : mg "min" = none
  g_LETTERS : ∃ u, mg "LETTERS" = some u ∧ RelV (.str "abcdefghijklmnopqrstuvwxyz") u
  g_DIGITS : ∃ u, mg "DIGITS" = some u ∧ RelV (.str "0123456789") u
  g_LONGEST_NAME : ∃ u, mg "LONGEST_NAME" = some u ∧ RelV (.int 8) u
  g_MOST_COUNT : ∃ u, mg "MOST_COUNT" = some u ∧ RelV (.int 1000000000000000000000000000000) u
  g_MOST_KINDS : ∃ u, mg "MOST_KINDS" = some u ∧ RelV (.int 4) u
section
variable {P : Program} {w : World} {K : PySem.W.Frag} {mg : Str → Option Value} {base : Heap}
/-! ### draws -/
abbrev s_cast : Stmt := top 62
theorem sc_cast : FnScope ["_law_pail", "_law_many", "_law_state", "_law_figure"] ["_law_pail", "_law_many"] (defScope s_cast) := ⟨rfl, rfl, rfl, by decide +kernel, rfl, by decide +kernel, by decide +kernel⟩
def spCast : Sp := fun vs H Q _ => ∃ (p : Addr) (n : Int), vs = [.ref p, .int n] ∧ PailAt H p ∧ (0 < n ∧ n < 1073741824) ∧ ∀ (r : Int) (H' : Hp), 0 ≤ r → r < n → PailAt H' p → KpX p H H' → Q (.int r) H'
theorem ok_cast (D : DfT K mg "_law_cast" s_cast ["_law_pail", "_law_many"]) (T : Tx K mg) : Cal P w K mg base 1 "_law_cast" spCast [] := by
  have nd := sc_cast.nd
  refine calS D sc_cast (fun vs H Q E h => by obtain ⟨p, n, rfl, _⟩ := h; rfl) fun f cdv A outer s H vs Q E hr h => ?_
  let sc : Scope := defScope s_cast
  refine ⟨_, (pss_cons (ps_if (pt_cmpR op_gt (pe_ix (r := rIxL K) ix_list (pv 0) pe_int (fun _ _ => rfl)) pe_int (nomark _)) (pss_cons (ps_asg (pe_callB call_divmod (by rfl) T.n_divmod (by decide +kernel) (pa_cons (pe_ix (r := rIxL K) ix_list (pv 0) pe_int (fun _ _ => rfl)) (pa_cons (pv 1) pa_nil))) (pg_tup (by rfl) (pgs_cons (pg_sub (pv 0) pe_int set_list) (pgs_cons (pg_name (i := 3) nd rfl (by first | exact Or.inl rfl | exact Or.inr rfl)) pgs_nil))))
    (pss_one (ps_ret (pv 3)))) pss_nil)
    (pss_cons (ps_asg (pe_op op_add (pe_ix (r := rIxL K) ix_list (pv 0) pe_int (fun _ _ => rfl)) pe_int) (pg_sub (pv 0) pe_int set_list))
    (pss_cons (ps_set (i := 2) nd rfl (by first | exact Or.inl rfl | exact Or.inr rfl) (pe_op op_mod (pe_callTy call_int1 (by rfl) T.n_int (by decide +kernel) (pa_cons (pe_op op_add (pe_op op_add (pe_op op_mul (pe_ix (r := rIxL K) ix_list (pv 0) pe_int (fun _ _ => rfl)) (pe_op op_add pe_int (pe_op op_mul pe_int (pe_ix (r := rIxL K) ix_list (pv 0) pe_int (fun _ _ => rfl))))) (pe_op op_mul pe_int (pe_ix (r := rIxL K) ix_list (pv 0) pe_int (fun _ _ => rfl)))) pe_int) pa_nil)) pe_int))
    (pss_cons (ps_asg (pe_op op_mod (pe_callTy call_int1 (by rfl) T.n_int (by decide +kernel) (pa_cons (pe_op op_add (pe_op op_add (pe_op op_mul (pv 2) pe_int) (pe_op op_mul pe_int (pe_ix (r := rIxL K) ix_list (pv 0) pe_int (fun _ _ => rfl)))) pe_int) pa_nil)) pe_int) (pg_sub (pv 0) pe_int set_list))
    (pss_one (ps_ret (pe_op op_mod (pe_callTy call_int1 (by rfl) T.n_int (by decide +kernel) (pa_cons (pe_op op_fdiv (pe_ix (r := rIxL K) ix_list (pv 0) pe_int (fun _ _ => rfl)) pe_int) pa_nil)) (pv 1)))))))), ?_⟩
  obtain ⟨p, n, rfl, hP, hn, hk⟩ := h
  obtain ⟨a, b, c, hb, hp⟩ := hP.ex
  have at0 : ∀ {H : Hp} {x y z : V}, H p = some (.lst [x, y, z]) → SqL K H p [x, y, z] := fun h => .inl (.inl h)
  refine ⟨_, rfl, p, _, 0, _, rfl, rfl, at0 hp, rfl, _, _, rfl, rfl, _, rfl, ?_⟩
  refine ite2 (fun h => ?_) (fun h => ?_)
  · refine ⟨_, rfl, p, _, 0, _, rfl, rfl, at0 hp, rfl, .int n, rfl, _, _, rfl, ⟨hn.1, hn.2⟩, fun t ht => ?_⟩
    have htp : t ≠ p := fun z => by subst z; rw [hp] at ht; cases ht
    have hp1 : (upd H t (.tup [.int (a / n), .int (a % n)])) p = some (.lst [.int a, .int b, .int c]) := by rw [upd_ne htp.symm]; exact hp
    refine ⟨t, _, rfl, SqT.of upd_same, rfl, _, _, rfl, ?_⟩
    refine ⟨_, rfl, p, _, 0, 0, rfl, rfl, hp1, rfl, _, _, rfl, ?_⟩
    refine ⟨rfl, ?_⟩
    refine ⟨.int (a % n), rfl, ?_⟩
    refine hk _ _ (Int.emod_nonneg _ (by omega)) (Int.emod_lt_of_pos _ hn.1) ⟨a / n, b, c, hb, upd_same⟩ fun d o e hd => ?_
    rw [upd_ne hd]
    exact KpX.new ht d o e hd
  · refine ⟨_, rfl, p, _, 2, _, rfl, rfl, at0 hp, rfl, _, _, rfl, rfl, _, rfl, p, _, 2, 2, rfl, rfl, hp, rfl, ?_⟩
    have h1 : (upd H p (.lst [.int a, .int b, .int (c + 1)])) p = some (.lst [.int a, .int b, .int (c + 1)]) := upd_same
    refine ⟨_, rfl, p, _, 1, _, rfl, rfl, at0 h1, rfl, _, rfl, p, _, 2, _, rfl, rfl, at0 h1, rfl, 2, _, rfl, rfl, .inl ⟨by decide, by decide⟩, 36809, _, rfl, rfl, b, _, rfl, rfl, .inl ⟨by omega, by omega⟩,
      _, rfl, p, _, 2, _, rfl, rfl, at0 h1, rfl, 5303, _, rfl, rfl, .inl ⟨by decide, by decide⟩, _, _, rfl, rfl, _, 7, rfl, rfl, .inl ⟨_, rfl, _, 2147483629, rfl, rfl, (show (0 : Int) < 2147483629 by decide), ?_⟩⟩
    refine ⟨_, rfl, _, 45413, rfl, rfl, .inr ⟨by decide, by decide⟩, _, rfl, p, _, 2, _, rfl, rfl, at0 h1, rfl, 3, _, rfl, rfl, .inl ⟨by decide, by decide⟩, _, _, rfl, rfl, _, 1, rfl, rfl,
      .inl ⟨_, rfl, _, 2147483587, rfl, rfl, (show (0 : Int) < 2147483587 by decide), _, rfl, p, _, 1, 1, rfl, rfl, h1, rfl, ?_⟩⟩
    refine ⟨_, rfl, p, _, 1, _, rfl, rfl, at0 upd_same, rfl, _, 256, rfl, rfl, ⟨by decide, by decide⟩, .inl ⟨_, rfl, .int n, rfl, _, _, rfl, rfl, hn.1, ?_⟩⟩
    refine hk _ _ (Int.emod_nonneg _ (by omega)) (Int.emod_lt_of_pos _ hn.1) ⟨a, _, c + 1, ⟨Int.emod_nonneg _ (by decide), Int.lt_trans (Int.emod_lt_of_pos _ (show (0 : Int) < 2147483587 by decide)) (by decide)⟩, upd_same⟩ fun d o e hd => ?_
    rw [upd_ne hd, upd_ne hd]
    exact e
abbrev s_any_of : Stmt := top 63
theorem sc_any_of : FnScope ["_law_pail", "_law_some"] ["_law_pail", "_law_some"] (defScope s_any_of) := ⟨rfl, rfl, rfl, by decide +kernel, rfl, by decide +kernel, by decide +kernel⟩
def spAny (K : PySem.W.Frag) : Sp := fun vs H Q _ => ∃ (p q : Addr) (xs : List V), vs = [.ref p, .ref q] ∧ PailAt H p ∧ SqL K H q xs ∧ q ≠ p ∧ (0 < xs.length ∧ xs.length < 1000) ∧ ∀ (v : V) (H' : Hp), v ∈ xs → PailAt H' p → KpX p H H' → Q v H'
theorem ok_any_of (D : DfT K mg "_law_any_of" s_any_of ["_law_pail", "_law_some"]) (T : Tx K mg) (h_cast : Cal P w K mg base 1 "_law_cast" spCast []) : Cal P w K mg base 2 "_law_any_of" (spAny K) [] := by
  have nd := sc_any_of.nd
  refine calS (k := 1) D sc_any_of (fun vs H Q E h => by obtain ⟨p, q, xs, rfl, _⟩ := h; rfl) fun f cdv A outer s H vs Q E hr h => ?_
  let sc : Scope := defScope s_any_of
  refine ⟨_, (pss_one (ps_ret (pe_ix (r := rIxL K) ix_list (pv 1) (pe_c h_cast hr (by decide) (by rfl) (pa_cons (pv 0) (pa_cons (pe_callB (r := rLenQ K) call_len_seq (by rfl) T.n_len (by decide +kernel) (pa_cons (pv 1) pa_nil)) pa_nil))) (fun _ _ => rfl)))), ?_⟩
  obtain ⟨p, q, xs, rfl, hP, hq, hqp, hl, hk⟩ := h
  refine ⟨.ref q, rfl, .ref p, rfl, .ref q, rfl, q, xs, rfl, .inl hq, p, _, rfl, hP, ⟨by omega, by omega⟩, fun r H' h0 h1 hP' hk' => ?_⟩
  have hr : r.toNat < xs.length := by omega
  have e : atI xs r = some (xs[r.toNat]'hr) := by
    have := atI_nat (xs := xs) (j := r.toNat) (List.getElem?_eq_getElem hr)
    rwa [Int.toNat_of_nonneg h0] at this
  exact ⟨q, xs, r, _, rfl, rfl, hk'.seq hqp hq, e, hk _ _ (List.getElem_mem hr) hP' hk'⟩
abbrev s_vast : Stmt := top 64
theorem sc_vast : FnScope ["_law_pail", "_law_many", "_law_found", "_law_turn"] ["_law_pail", "_law_many"] (defScope s_vast) := ⟨rfl, rfl, rfl, by decide +kernel, rfl, by decide +kernel, by decide +kernel⟩
def spVast : Sp := fun vs H Q _ => ∃ (p : Addr) (n : Int), vs = [.ref p, .int n] ∧ PailAt H p ∧ 0 < n ∧ ∀ (r : Int) (H' : Hp), 0 ≤ r → r < n → PailAt H' p → KpX p H H' → Q (.int r) H'
theorem ok_vast (D : DfT K mg "_law_vast" s_vast ["_law_pail", "_law_many"]) (T : Tx K mg) (h_cast : Cal P w K mg base 1 "_law_cast" spCast []) : Cal P w K mg base 2 "_law_vast" spVast [] := by
  have nd := sc_vast.nd
  refine calS (k := 1) D sc_vast (fun vs H Q E h => by obtain ⟨p, n, rfl, _⟩ := h; rfl) fun f cdv A outer s H vs Q E hr h => ?_
  let sc : Scope := defScope s_vast
  refine ⟨_, (pss_cons (ps_set (i := 2) nd rfl (by first | exact Or.inl rfl | exact Or.inr rfl) pe_int)
    (pss_cons (ps_for PassesOwn.never rfl (pi_range1 (by rfl) T.n_range (pa_cons pe_int pa_nil)) (pg_name (i := 3) nd rfl (by first | exact Or.inl rfl | exact Or.inr rfl)) (pss_one (ps_set (i := 2) nd rfl (by first | exact Or.inl rfl | exact Or.inr rfl) (pe_op op_add (pe_op op_mul (pv 2) pe_int) (pe_c h_cast hr (by decide) (by rfl) (pa_cons (pv 0) (pa_cons pe_int pa_nil)))))))
    (pss_one (ps_ret (pe_op op_mod (pe_callTy call_int1 (by rfl) T.n_int (by decide +kernel) (pa_cons (pv 2) pa_nil)) (pv 1)))))), ?_⟩
  obtain ⟨p, n, rfl, hP, hn, hk⟩ := h
  refine ⟨6, rfl, by decide, by decide, for_range (n := 6) (fun i σ H' => ∃ (x : Int) (e : Option V), σ = [some (.ref p), some (.int n), some (.int x), e] ∧ PailAt H' p ∧ KpX p H H') ⟨0, none, rfl, hP, .refl⟩ ?_ ?_⟩
  · rintro i σ H1 hi ⟨x, e, rfl, hP1, hk1⟩
    refine ⟨_, rfl, x, 1000003, rfl, rfl, .inr ⟨by decide, by decide⟩, .ref p, rfl, p, 1000003, rfl, hP1, ⟨by decide, by decide⟩, fun r H2 _ _ hP2 hk2 => ?_⟩
    exact ⟨_, _, rfl, rfl, _, _, rfl, hP2, hk1.trans hk2⟩
  · rintro σ H1 ⟨x, e, rfl, hP1, hk1⟩
    refine ⟨_, rfl, .inl ⟨_, rfl, .int n, rfl, _, _, rfl, rfl, hn, ?_⟩⟩
    exact hk _ _ (Int.emod_nonneg _ (by omega)) (Int.emod_lt_of_pos _ hn) hP1 hk1
abbrev s_amount : Stmt := top 65
theorem sc_amount : FnScope ["_law_pail", "_law_way"] ["_law_pail"] (defScope s_amount) := ⟨rfl, rfl, rfl, by decide +kernel, rfl, by decide +kernel, by decide +kernel⟩
def spAmt : Sp := fun vs H Q _ => ∃ (p : Addr), vs = [.ref p] ∧ PailAt H p ∧ ∀ (r : Int) (H' : Hp), 0 ≤ r → r < 100000000000000000000000000000 → PailAt H' p → KpX p H H' → Q (.int r) H'
theorem ok_amount (D : DfT K mg "_law_amount" s_amount ["_law_pail"]) (T : Tx K mg) (h_cast : Cal P w K mg base 1 "_law_cast" spCast []) (h_vast : Cal P w K mg base 2 "_law_vast" spVast []) : Cal P w K mg base 3 "_law_amount" spAmt [] := by
  have nd := sc_amount.nd
  refine calS (k := 2) D sc_amount (fun vs H Q E h => by obtain ⟨p, rfl, _⟩ := h; rfl) fun f cdv A outer s H vs Q E hr h => ?_
  let sc : Scope := defScope s_amount
  refine ⟨_, (pss_cons (ps_set (i := 1) nd rfl (by first | exact Or.inl rfl | exact Or.inr rfl) (pe_c h_cast hr (by decide) (by rfl) (pa_cons (pv 0) (pa_cons pe_int pa_nil))))
    (pss_cons (ps_if (pt_cmpR op_lt (pv 1) pe_int (nomark _)) (pss_one (ps_ret (pe_c h_cast hr (by decide) (by rfl) (pa_cons (pv 0) (pa_cons (pe_ix (r := rIxL K) ix_list (pe_lst (pa_cons pe_int (pa_cons pe_int (pa_cons pe_int (pa_cons pe_int (pa_cons pe_int pa_nil)))))) (pv 1) (fun _ _ => rfl)) pa_nil))))) pss_nil)
    (pss_one (ps_ret (pe_ifExp (pt_cmpR op_eq (pv 1) pe_int (nomark _)) (pe_c h_cast hr (by decide) (by rfl) (pa_cons (pv 0) (pa_cons (pe_op op_pow pe_int pe_int) pa_nil))) (pe_c h_vast hr (by decide) (by rfl) (pa_cons (pv 0) (pa_cons (pe_op op_pow pe_int pe_int) pa_nil)))))))), ?_⟩
  obtain ⟨p, rfl, hP, hk⟩ := h
  refine ⟨.ref p, rfl, p, 7, rfl, hP, ⟨by decide, by decide⟩, fun way H1 w0 w1 hP1 hk1 => ?_⟩
  refine ⟨_, rfl, way, 5, rfl, rfl, _, rfl, ?_⟩
  refine ite2 (fun h => ?_) (fun h => ?_)
  · have h5 : way < 5 := of_decide_eq_true h
    refine ⟨.ref p, rfl, (by show 5 ≤ sizeLine; decide), fun l hl => ?_⟩
    have hz : ∃ m : Int, (2 ≤ m ∧ m ≤ 12) ∧ atI ([.int 2, .int 3, .int 4, .int 7, .int 12] : List V) way = some (.int m) := by
      obtain ⟨k, rfl⟩ := Int.eq_ofNat_of_zero_le w0
      have hk : k < 5 := by omega
      match k, hk with
      | 0, _ => exact ⟨2, by decide, rfl⟩
      | 1, _ => exact ⟨3, by decide, rfl⟩
      | 2, _ => exact ⟨4, by decide, rfl⟩
      | 3, _ => exact ⟨7, by decide, rfl⟩
      | 4, _ => exact ⟨12, by decide, rfl⟩
      | k + 5, h => omega
    obtain ⟨m, hm, em⟩ := hz
    have hlp : l ≠ p := fun z => by subst z; obtain ⟨u, e⟩ := hP1.there; rw [e] at hl; cases hl
    refine ⟨.int way, rfl, l, _, way, .int m, rfl, rfl, SqL.of upd_same, em, p, m, rfl, hP1.same (Same.new hl), ⟨by omega, by omega⟩, fun r H2 r0 r1 hP2 hk2 => ?_⟩
    exact hk r H2 r0 (by omega) hP2 (hk1.trans ((KpX.new hl).trans hk2))
  · refine ⟨_, rfl, rfl, _, rfl, ?_⟩
    refine ite2 (fun h => ?_) (fun h => ?_)
    · refine ⟨.ref p, rfl, 10, 6, rfl, rfl, ⟨by decide, by decide, by decide⟩, p, _, rfl, hP1, (by decide), fun r H2 r0 r1 hP2 hk2 => ?_⟩
      exact hk r H2 r0 (Int.lt_trans r1 (by decide)) hP2 (hk1.trans hk2)
    · refine ⟨.ref p, rfl, 10, 29, rfl, rfl, ⟨by decide, by decide, by decide⟩, p, _, rfl, hP1, (by decide), fun r H2 r0 r1 hP2 hk2 => ?_⟩
      exact hk r H2 r0 (Int.lt_of_lt_of_le r1 (by decide)) hP2 (hk1.trans hk2)
end
end Y

set_option Elab.async false
set_option linter.all false
set_option maxRecDepth 100000
set_option maxHeartbeats 4000000
namespace Y
open PySem L2
open SX (S)
open C8 (Cal pe_c pe_gc)
/-! ### names -/
def isL (c : Nat) : Bool := decide (97 ≤ c) && decide (c ≤ 122)
def isD (c : Nat) : Bool := decide (48 ≤ c) && decide (c ≤ 57)
def nameB (z : List Nat) : Bool := decide (1 ≤ z.length) && (decide (z.length ≤ 8) && ((match z with | c :: _ => isL c | [] => false) && z.all fun c => isL c || isD c))
def IsName (z : List Nat) : Prop := nameB z = true
instance (z : List Nat) : Decidable (IsName z) := inferInstanceAs (Decidable (nameB z = true))
theorem IsName.len {z : List Nat} (h : IsName z) : 1 ≤ z.length ∧ z.length ≤ 8 := by
  unfold IsName nameB at h
  simp only [Bool.and_eq_true, decide_eq_true_eq] at h
  exact ⟨h.1, h.2.1⟩
theorem IsName.all {z : List Nat} (h : IsName z) : z.all (fun c => isL c || isD c) = true := by
  unfold IsName nameB at h
  simp only [Bool.and_eq_true] at h
  exact h.2.2.2
theorem IsName.head {z : List Nat} (h : IsName z) : ∃ c r, z = c :: r ∧ isL c = true := by
  unfold IsName nameB at h
  simp only [Bool.and_eq_true] at h
  have h1 := h.2.2.1
  cases z with
  | nil => cases h1
  | cons c r => exact ⟨c, r, rfl, h1⟩
theorem isName_mk {c : Nat} {r : List Nat} (hc : isL c = true) (hl : r.length ≤ 7) (hr : r.all (fun c => isL c || isD c) = true) : IsName (c :: r) := by
  unfold IsName nameB
  simp only [Bool.and_eq_true, decide_eq_true_eq, List.length_cons, List.all_cons, Bool.or_eq_true]
  exact ⟨by omega, by omega, hc, .inl hc, hr⟩
def L26 : List Nat := [97, 98, 99, 100, 101, 102, 103, 104, 105, 106, 107, 108, 109, 110, 111, 112, 113, 114, 115, 116, 117, 118, 119, 120, 121, 122]
def L10 : List Nat := [48, 49, 50, 51, 52, 53, 54, 55, 56, 57]
theorem s26 : ("abcdefghijklmnopqrstuvwxyz" : Str) = S L26 := by decide +kernel
theorem s10 : ("0123456789" : Str) = S L10 := by decide +kernel
theorem str_of {P : List Nat → Prop} {s : Str} (h : P s.cps.toList) : ∃ z, V.str s = V.str (S z) ∧ P z := ⟨_, congrArg V.str (SX.S_tl s).symm, h⟩
theorem all_get {l : List Nat} {p : Nat → Bool} (h : l.all p = true) {r : Int} (h0 : 0 ≤ r) (h1 : r < l.length) : ∃ c, atI l r = some c ∧ p c = true := by
  obtain ⟨k, rfl⟩ := Int.eq_ofNat_of_zero_le h0
  have hk : k < l.length := by omega
  exact ⟨l[k], atI_nat (List.getElem?_eq_getElem hk), List.all_eq_true.mp h _ (List.getElem_mem hk)⟩
theorem sz (n : Nat) (h : n ≤ 100000) : n ≤ sizeLine := Nat.le_trans h (by decide)
theorem S_ge {z : List Nat} {n : Nat} (h : z.length ≤ n) (hn : n ≤ 100000) : (S z).length ≤ sizeLine := by
  rw [SX.S_len]
  exact sz _ (by omega)
section
variable {P : Program} {w : World} {K : PySem.W.Frag} {mg : Str → Option Value} {base : Heap}
abbrev s_drawn_title : Stmt := top 66
theorem sc_drawn_title : FnScope ["_law_pail", "_law_small", "_law_found", "_law_turn"] ["_law_pail"] (defScope s_drawn_title) := ⟨rfl, rfl, rfl, by decide +kernel, rfl, by decide +kernel, by decide +kernel⟩
def spTitle : Sp := fun vs H Q _ => ∃ (p : Addr), vs = [.ref p] ∧ PailAt H p ∧ ∀ (z : List Nat) (H' : Hp), IsName z → PailAt H' p → KpX p H H' → Q (.str (S z)) H'
theorem pail_ne {H : Hp} {p l : Addr} (h : PailAt H p) (hl : H l = none) : l ≠ p := fun z => by
  subst z
  obtain ⟨u, e⟩ := h.there
  rw [e] at hl
  cases hl
theorem ok_drawn_title (D : DfT K mg "_law_drawn_title" s_drawn_title ["_law_pail"]) (T : Tx K mg) (h_cast : Cal P w K mg base 1 "_law_cast" spCast []) (h_any_of : Cal P w K mg base 2 "_law_any_of" (spAny K) []) : Cal P w K mg base 3 "_law_drawn_title" spTitle [] := by
  have nd := sc_drawn_title.nd
  refine calS (k := 2) D sc_drawn_title (fun vs H Q E h => by obtain ⟨p, rfl, _⟩ := h; rfl) fun f cdv A outer s H vs Q E hr h => ?_
  let sc : Scope := defScope s_drawn_title
  refine ⟨_, (pss_cons (ps_set (i := 1) nd rfl (by first | exact Or.inl rfl | exact Or.inr rfl) pe_str)
    (pss_cons (ps_if (pt_cmpR op_eq (pe_c h_cast hr (by decide) (by rfl) (pa_cons (pv 0) (pa_cons pe_int pa_nil))) pe_int (nomark _)) (pss_one (ps_ret (pe_c h_any_of hr (by decide) (by rfl) (pa_cons (pv 0) (pa_cons (pe_lst (pa_cons pe_str (pa_cons pe_str (pa_cons pe_str (pa_cons pe_str (pa_cons pe_str (pa_cons pe_str (pa_cons pe_str (pa_cons pe_str (pa_cons pe_str pa_nil)))))))))) pa_nil))))) pss_nil)
    (pss_cons (ps_set (i := 2) nd rfl (by first | exact Or.inl rfl | exact Or.inr rfl) (pe_ix ix_str (pv 1) (pe_c h_cast hr (by decide) (by rfl) (pa_cons (pv 0) (pa_cons pe_int pa_nil))) (fun _ _ => rfl)))
    (pss_cons (ps_for PassesOwn.never rfl (pi_range1 (by rfl) T.n_range (pa_cons (pe_c h_any_of hr (by decide) (by rfl) (pa_cons (pv 0) (pa_cons (pe_lst (pa_cons pe_int (pa_cons pe_int (pa_cons pe_int (pa_cons pe_int (pa_cons pe_int (pa_cons pe_int pa_nil))))))) pa_nil))) pa_nil)) (pg_name (i := 3) nd rfl (by first | exact Or.inl rfl | exact Or.inr rfl)) (pss_one (ps_set (i := 2) nd rfl (by first | exact Or.inl rfl | exact Or.inr rfl) (pe_op op_add_str (pv 2) (pe_ix ix_str (pe_op op_add_str (pv 1) pe_str) (pe_c h_cast hr (by decide) (by rfl) (pa_cons (pv 0) (pa_cons pe_int pa_nil))) (fun _ _ => rfl))))))
    (pss_one (ps_ret (pv 2))))))), ?_⟩
  obtain ⟨p, rfl, hP, hk⟩ := h
  refine ⟨.ref p, rfl, p, 6, rfl, hP, ⟨by decide, by decide⟩, fun r H1 r0 r1 hP1 hk1 => ?_⟩
  refine ⟨rfl, _, rfl, ?_⟩
  refine ite2 (fun h => ?_) (fun h => ?_)
  · refine ⟨.ref p, rfl, (by show 9 ≤ sizeLine; decide), fun l hl => ?_⟩
    refine ⟨p, l, _, rfl, hP1.same (Same.new hl), SqL.of upd_same, pail_ne hP1 hl, ⟨by decide, by decide⟩, fun v H2 hv hP2 hk2 => ?_⟩
    have hz : ∃ z, v = .str (S z) ∧ IsName z := by
      simp only [List.mem_cons, List.not_mem_nil, or_false] at hv
      rcases hv with rfl | rfl | rfl | rfl | rfl | rfl | rfl | rfl | rfl <;> exact str_of (by decide +kernel)
    obtain ⟨z, rfl, hz⟩ := hz
    exact hk z H2 hz hP2 (hk1.trans ((KpX.new hl).trans hk2))
  · refine ⟨_, rfl, .ref p, rfl, p, 26, rfl, hP1, ⟨by decide, by decide⟩, fun r2 H2 r20 r21 hP2 hk2 => ?_⟩
    obtain ⟨c, hc, hcL⟩ := all_get (l := L26) (p := isL) (by decide) r20 (by simpa [L26] using r21)
    refine ⟨_, r2, c, rfl, rfl, (by decide +kernel), (by rw [s26]; exact hc), ?_⟩
    refine ⟨.ref p, rfl, (by show 6 ≤ sizeLine; decide), fun l hl => ?_⟩
    refine ⟨p, l, _, rfl, hP2.same (Same.new hl), SqL.of upd_same, pail_ne hP2 hl, ⟨by decide, by decide⟩, fun v H3 hv hP3 hk3 => ?_⟩
    have hj : ∃ j : Int, v = .int j ∧ 0 ≤ j ∧ j ≤ 7 := by
      simp only [List.mem_cons, List.not_mem_nil, or_false] at hv
      rcases hv with rfl | rfl | rfl | rfl | rfl | rfl <;> exact ⟨_, rfl, by decide, by decide⟩
    obtain ⟨j, rfl, j0, j7⟩ := hj
    have hk03 : KpX p H H3 := hk1.trans (hk2.trans ((KpX.new hl).trans hk3))
    refine ⟨j, rfl, by omega, by omega, for_range (n := j.toNat) (fun i σ H' => ∃ (z : List Nat) (e : Option V), σ = [some (.ref p), some (.str "abcdefghijklmnopqrstuvwxyz"), some (.str (S (c :: z))), e] ∧ z.length = i ∧ z.all (fun c => isL c || isD c) = true ∧ PailAt H' p ∧ KpX p H H') ⟨[], none, rfl, rfl, rfl, hP3, hk03⟩ ?_ ?_⟩
    · rintro i σ H4 hi ⟨z, e, rfl, hz, hza, hP4, hk4⟩
      refine ⟨_, rfl, _, rfl, _, _, rfl, rfl, (by decide +kernel), .ref p, rfl, p, 36, rfl, hP4, ⟨by decide, by decide⟩, fun r5 H5 r50 r51 hP5 hk5 => ?_⟩
      obtain ⟨d, hd, hdL⟩ := all_get (l := L26 ++ L10) (p := fun c => isL c || isD c) (by decide) r50 (by simpa [L26, L10] using r51)
      refine ⟨_, r5, d, rfl, rfl, (by decide +kernel), (by rw [s26, s10, SX.S_cat]; exact hd), ?_⟩
      refine ⟨_, _, rfl, rfl, ?_, ?_⟩
      · rw [SX.S_len]
        refine sz _ ?_
        show (c :: z).length + 1 ≤ 100000
        rw [List.length_cons]
        omega
      · have es : S (c :: z) ++ (⟨#[d]⟩ : Str) = S (c :: (z ++ [d])) := SX.S_cat (c :: z) [d]
        exact ⟨z ++ [d], some (.int (0 + (i : Int))), by rw [← es]; rfl, by simp [hz], by rw [List.all_append, hza]; simpa using hdL, hP5, hk4.trans hk5⟩
    · rintro σ H4 ⟨z, e, rfl, hz, hza, hP4, hk4⟩
      exact ⟨_, rfl, hk _ H4 (isName_mk hcL (by omega) hza) hP4 hk4⟩
end
end Y

set_option Elab.async false
set_option linter.all false
set_option maxRecDepth 100000
set_option maxHeartbeats 4000000
namespace Y
open PySem L2
open SX (S)
open C8 (Cal pe_c pe_gc)
abbrev vS (z : List Nat) : V := .str (S z)
theorem sub_len : ∀ (l zs : List (List Nat)), l.Nodup → (∀ x ∈ l, x ∈ zs) → l.length ≤ zs.length
  | [], _, _, _ => Nat.zero_le _
  | x :: l, zs, hn, h => by
    have hx := h x (List.mem_cons_self ..)
    obtain ⟨h1, h2⟩ := List.nodup_cons.mp hn
    have ih := sub_len l (zs.erase x) h2 fun y hy => (List.mem_erase_of_ne (fun (e : y = x) => h1 (e ▸ hy))).mpr (h y (List.mem_cons_of_mem _ hy))
    have hl := List.length_erase_of_mem hx
    have hp : 0 < zs.length := List.length_pos_of_mem hx
    rw [List.length_cons]
    omega
theorem eqV_S (a b : List Nat) : eqV (vS a) (vS b) = decide (a = b) := SX.S_beq_eq
theorem inV_S (c : List Nat) : ∀ zs : List (List Nat), inV (vS c) (zs.map vS) = decide (c ∈ zs)
  | [] => rfl
  | z :: zs => by
    have ih := inV_S c zs
    unfold inV at ih ⊢
    rw [List.map_cons, List.any_cons, ih, eqV_S]
    by_cases h1 : z = c
    · subst h1
      simp
    · have h2 : ¬ c = z := fun e => h1 e.symm
      simp [h1, h2]
theorem flat_S (zs : List (List Nat)) : (zs.map vS).all flatV = true := by
  rw [List.all_map]
  exact List.all_eq_true.mpr fun _ _ => rfl
theorem dpS {K : PySem.W.Frag} {H : Hp} : ∀ zs : List (List Nat), DpAll K H (zs.map vS) (zs.map fun z => .str (S z))
  | [] => .nil
  | z :: zs => .cons (.str _) (dpS zs)
theorem strOk_S {z : List Nat} (h : IsName z) : PyData.strOk (S z) = true := by
  have ha := h.all
  show (z.toArray.all fun c => decide (c < 0x110000)) = true
  rw [List.all_toArray]
  refine List.all_eq_true.mpr fun c hc => ?_
  have := List.all_eq_true.mp ha c hc
  unfold isL isD at this
  simp only [Bool.or_eq_true, Bool.and_eq_true, decide_eq_true_eq] at this
  exact decide_eq_true (by omega)
theorem layS : ∀ {zs : List (List Nat)}, (∀ z ∈ zs, IsName z) → PyData.canLayAll0 (zs.map fun z => .str (S z)) = true ∧ PyData.depthAll (zs.map fun z => .str (S z)) = 0
  | [], _ => ⟨rfl, rfl⟩
  | z :: zs, h => by
    obtain ⟨h1, h2⟩ := layS fun y hy => h y (List.mem_cons_of_mem _ hy)
    rw [List.map_cons]
    exact ⟨by rw [PyData.canLayAll0, h1, Bool.and_true]; exact strOk_S (h z (List.mem_cons_self ..)), by rw [PyData.depthAll, h2]; rfl⟩
theorem shapedS {zs : List (List Nat)} (h : ∀ z ∈ zs, IsName z) : SeqAt.shaped (.list (zs.map fun z => .str (S z))) = true := by
  obtain ⟨h1, h2⟩ := layS h
  unfold SeqAt.shaped
  rw [Bool.and_eq_true]
  exact ⟨h1, decide_eq_true (by rw [PyData.depth, h2]; decide)⟩
def spare : List (List Nat) := [[97], [98], [99], [100], [101], [102]]
theorem spare_eq : ([.str "a", .str "b", .str "c", .str "d", .str "e", .str "f"] : List V) = spare.map vS := by decide +kernel
theorem s6 : ("012345" : Str) = S [48, 49, 50, 51, 52, 53] := by decide +kernel
theorem free_one {zs : List (List Nat)} (h : zs.length ≤ 5) (z : List Nat) : ∃ w r, (z :: spare).filter (fun c => decide (c ∉ zs)) = w :: r := by
  cases e : (z :: spare).filter (fun c => decide (c ∉ zs)) with
  | cons w r => exact ⟨w, r, rfl⟩
  | nil =>
    exfalso
    have h2 : ∀ x ∈ spare, x ∈ zs := fun x hx => by
      refine Classical.byContradiction fun hn => ?_
      have : x ∈ (z :: spare).filter (fun c => decide (c ∉ zs)) := List.mem_filter.mpr ⟨List.mem_cons_of_mem _ hx, decide_eq_true hn⟩
      rw [e] at this
      cases this
    have := sub_len spare zs (by decide) h2
    have h6 : spare.length = 6 := rfl
    omega
section
variable {P : Program} {w : World} {K : PySem.W.Frag} {mg : Str → Option Value} {base : Heap}
abbrev s_titles : Stmt := top 67
theorem sc_titles : FnScope ["_law_pail", "_law_many", "_law_turn", "_law_spare", "_law_found", "_law_tag", "_law_each"] ["_law_pail", "_law_many"] (defScope s_titles) := ⟨rfl, rfl, rfl, by decide +kernel, rfl, by decide +kernel, by decide +kernel⟩
def spTitles (K : PySem.W.Frag) : Sp := fun vs H Q _ => ∃ (p : Addr) (n : Int), vs = [.ref p, .int n] ∧ PailAt H p ∧ (0 ≤ n ∧ n ≤ 6) ∧ ∀ (zs : List (List Nat)) (t : Addr) (H' : Hp), zs.length = n.toNat → zs.Nodup → (∀ z ∈ zs, IsName z) → KTup H' t (zs.map vS) → PailAt H' p → KpX p H H' → Q (.ref t) H'
structure TI (K : PySem.W.Frag) (H : Hp) (p l1 l2 : Addr) (zs : List (List Nat)) (H' : Hp) : Prop where
  nd : zs.Nodup
  nm : ∀ z ∈ zs, IsName z
  pl : PailAt H' p
  kp : KpX p H H'
  a1 : H' l1 = some (.lst (spare.map vS))
  a2 : H' l2 = some (.lst (zs.map vS))
theorem TI.same {H H1 H2 : Hp} {p l1 l2 : Addr} {zs : List (List Nat)} (I : TI K H p l1 l2 zs H1) (k : Same H1 H2) : TI K H p l1 l2 zs H2 :=
  ⟨I.nd, I.nm, I.pl.same k, I.kp.trans (.of k), k _ _ I.a1, k _ _ I.a2⟩
theorem TI.kpx {H H1 H2 : Hp} {p l1 l2 : Addr} {zs : List (List Nat)} (I : TI K H p l1 l2 zs H1) (hP : PailAt H2 p) (k : KpX p H1 H2) (n1 : l1 ≠ p) (n2 : l2 ≠ p) : TI K H p l1 l2 zs H2 :=
  ⟨I.nd, I.nm, hP, I.kp.trans k, k _ _ I.a1 n1, k _ _ I.a2 n2⟩
theorem ok_titles (D : DfT K mg "_law_titles" s_titles ["_law_pail", "_law_many"]) (T : Tx K mg) (h_cast : Cal P w K mg base 1 "_law_cast" spCast []) (h_drawn_title : Cal P w K mg base 3 "_law_drawn_title" spTitle []) : Cal P w K mg base 4 "_law_titles" (spTitles K) [] := by
  have nd := sc_titles.nd
  refine calS (k := 3) D sc_titles (fun vs H Q E h => by obtain ⟨p, n, rfl, _⟩ := h; rfl) fun f cdv A outer s H vs Q E hr h => ?_
  let sc : Scope := defScope s_titles
  refine ⟨_, (pss_cons (ps_asg (pe_tup (pa_cons (pe_lst (pa_cons pe_str (pa_cons pe_str (pa_cons pe_str (pa_cons pe_str (pa_cons pe_str (pa_cons pe_str pa_nil))))))) (pa_cons (pe_lst pa_nil) pa_nil))) (pg_tup (by rfl) (pgs_cons (pg_name (i := 3) nd rfl (by first | exact Or.inl rfl | exact Or.inr rfl)) (pgs_cons (pg_name (i := 4) nd rfl (by first | exact Or.inl rfl | exact Or.inr rfl)) pgs_nil))))
    (pss_cons (ps_for PassesOwn.never rfl (pi_range1 (by rfl) T.n_range (pa_cons (pv 1) pa_nil)) (pg_name (i := 2) nd rfl (by first | exact Or.inl rfl | exact Or.inr rfl)) (pss_cons (ps_set (i := 5) nd rfl (by first | exact Or.inl rfl | exact Or.inr rfl) (pe_c h_drawn_title hr (by decide) (by rfl) (pa_cons (pv 0) pa_nil)))
    (C8.pss_cut (ps_if (PW.pt (pw_and (pt_cmpR (op_neD hr.units) (pv 4) (pe_lst pa_nil) (nomark _)) (pw_and1 (pt_cmpR op_eq (pe_c h_cast hr (by decide) (by rfl) (pa_cons (pv 0) (pa_cons pe_int pa_nil))) pe_int (nomark _))))) (pss_one (ps_set (i := 5) nd rfl (by first | exact Or.inl rfl | exact Or.inr rfl) (pe_op op_add_str (pe_slice sl_str (pe_ix (r := rIxL K) ix_list (pv 4) pe_int (fun _ _ => rfl)) po_none (po_some pe_int)) (pe_ix ix_str pe_str (pv 2) (fun _ _ => rfl))))) pss_nil)
    (pss_one (ps_expr (pe_bm PySem.F.plainAttrs_list PySem.F.slot_list_append PySem.F.type_list_append mt_append (pv 4) (pa_cons (pe_ix (r := rIxL K) ix_list (pe_lc (own := [("_law_each", 6)]) (g := gName 6) (by rfl) nd (pi_list (pe_op op_cat (pe_lst (pa_cons (pv 5) pa_nil)) (pv 3))) (blkOk_by (own := [("_law_each", 6)]) (N := ["_law_pail", "_law_many", "_law_turn", "_law_spare", "_law_found", "_law_tag", "_law_each"]) (sc := sc) (by decide +kernel)) (fun _ _ _ _ _ => pg_name (i := 6) nd rfl (Or.inl rfl)) (fun _ _ _ _ _ => (pts_one (pt_cmpR (r := rIn K true) op_notIn_seq (pv 6) (pv 4) (by rfl)))) (fun _ _ _ _ _ => (pv 6))) pe_int (fun _ _ => rfl)) pa_nil)))))))
    (pss_one (ps_ret (pe_callTy (r := rTupF K) call_tuple_ofF (by rfl) T.n_tuple (by decide +kernel) (pa_cons (pv 4) pa_nil)))))), ?_⟩
  obtain ⟨p, n, rfl, hP, hn, hk⟩ := h
  refine ⟨(by show 6 ≤ sizeLine; decide), fun l1 h1 => ?_⟩
  refine ⟨(by show 0 ≤ sizeLine; decide), fun l2 h2 => ?_⟩
  refine ⟨(by show 2 ≤ sizeLine; decide), fun t0 ht0 => ⟨t0, _, rfl, SqT.of upd_same, rfl, _, _, rfl, _, _, rfl, rfl, ?_⟩⟩
  have n1 := pail_ne hP h1
  have h2' : H l2 = none := by
    cases e : H l2 with
    | none => rfl
    | some o => rw [upd_ne (ne_of_none e h1), e] at h2; cases h2
  have n2 := pail_ne hP h2'
  have n12 : l1 ≠ l2 := fun z => by subst z; rw [upd_same] at h2; cases h2
  have k1 := Same.new (H := H) (o := .lst (spare.map vS)) h1
  rw [spare_eq] at h2 ht0 ⊢
  have I00 : TI K H p l1 l2 [] (upd (upd H l1 (.lst (spare.map vS))) l2 (.lst ([].map vS))) := by
    refine ⟨List.nodup_nil, fun z h => (nomatch h), (hP.same k1).same (Same.new h2), (KpX.new h1).trans (KpX.new h2), ?_, upd_same⟩
    rw [upd_ne n12]
    exact upd_same
  have I0 := I00.same (Same.new (o := .tup [.ref l1, .ref l2]) ht0)
  refine ⟨.int n, rfl, n, rfl, by omega, by omega, for_range (n := n.toNat) (fun i σ H' => ∃ (zs : List (List Nat)) (e2 e5 e6 : Option V), σ = [some (.ref p), some (.int n), e2, some (.ref l1), some (.ref l2), e5, e6] ∧ zs.length = i ∧ TI K H p l1 l2 zs H') ⟨[], none, none, none, rfl, rfl, I0⟩ ?_ ?_⟩
  · rintro i σ H1 hi ⟨zs, e2, e5, e6, rfl, hz, I1⟩
    refine ⟨.ref p, rfl, p, rfl, I1.pl, fun z H2 hzn hP2 hk2 => ?_⟩
    have I2 := I1.kpx hP2 hk2 n1 n2
    refine ⟨fun σ' H' => ∃ z, σ' = [some (.ref p), some (.int n), some (.int (0 + (i : Int))), some (.ref l1), some (.ref l2), some (vS z), e6] ∧ IsName z ∧ TI K H p l1 l2 zs H', ?_, ?_⟩
    · refine ⟨.ref l2, rfl, (by show 0 ≤ sizeLine; decide), fun l3 h3 => ?_⟩
      have I3 := I2.same (Same.new (o := .lst []) h3)
      refine ⟨_, _, .lst (SqL.of I3.a2) (dpS zs), .lst (SqL.of upd_same) .nil, shapedS I3.nm, by rfl, _, rfl, ?_⟩
      cases zs with
      | nil =>
        rw [if_neg (by decide)]
        exact ⟨z, rfl, hzn, I3⟩
      | cons z0 zr =>
        rw [if_pos (by rfl)]
        refine ⟨.ref p, rfl, p, 4, rfl, I3.pl, ⟨by decide, by decide⟩, fun r H4 r0 r1 hP4 hk4 => ?_⟩
        have I4 := I3.kpx hP4 hk4 n1 n2
        refine ⟨rfl, _, rfl, ?_⟩
        refine ite2 (fun h => ?_) (fun h => ?_)
        · refine ⟨.ref l2, rfl, l2, _, 0, vS z0, rfl, rfl, SqL.of I4.a2, (by exact atI_nat (j := 0) rfl), 7, rfl, _, rfl, ?_, ?_⟩
          · exact S_ge (z := z0) (n := 8) (I4.nm z0 (List.mem_cons_self ..)).len.2 (by decide)
          · obtain ⟨c, hc, hcD⟩ := all_get (l := [48, 49, 50, 51, 52, 53]) (p := isD) (by decide) (r := 0 + (i : Int)) (by omega) (by simp; omega)
            have hz0 := I4.nm z0 (List.mem_cons_self ..)
            have e1 : cutS (S z0) none (some 7) = S (z0.take 7) := by
              rw [C8.cutS_slice, SX.slice_to (by decide)]
              rfl
            have e2 : cutS (S z0) none (some 7) ++ (⟨#[c]⟩ : Str) = S (z0.take 7 ++ [c]) := by
              rw [e1]
              exact SX.S_cat _ [c]
            refine ⟨.int (0 + (i : Int)), rfl, _, _, c, rfl, rfl, (by decide +kernel), (by rw [s6]; exact hc), ?_⟩
            refine ⟨_, _, rfl, rfl, ?_, z0.take 7 ++ [c], ?_, ?_, I4⟩
            · rw [e1, SX.S_len, List.length_take]
              refine sz _ ?_
              show min 7 z0.length + 1 ≤ 100000
              omega
            · rw [show vS (z0.take 7 ++ [c]) = V.str (cutS (S z0) none (some 7) ++ ⟨#[c]⟩) from congrArg V.str e2.symm]
              rfl
            · obtain ⟨d, r', rfl, hd⟩ := hz0.head
              have ha := hz0.all
              have hl := hz0.len.2
              rw [List.all_cons] at ha
              refine (isName_mk (r := r'.take 6 ++ [c]) hd ?_ ?_ : IsName (d :: (r'.take 6 ++ [c])))
              · rw [List.length_append, List.length_take]
                show min 6 r'.length + 1 ≤ 7
                omega
              · rw [List.all_append, Bool.and_eq_true]
                refine ⟨List.all_eq_true.mpr fun x hx => List.all_eq_true.mp (Bool.and_eq_true_iff.mp ha).2 x (List.mem_of_mem_take hx), ?_⟩
                simp [hcD]
        · exact ⟨z, rfl, hzn, I4⟩
    · rintro σ' H3 ⟨z, rfl, hzn, I3⟩
      refine ⟨.ref l2, rfl, .inl ⟨rfl, _, SqL.of I3.a2⟩, ?_⟩
      refine ⟨vS z, rfl, (by show 1 ≤ sizeLine; decide), fun l4 h4 => ⟨.ref l1, rfl, l4, l1, _, _, rfl, rfl, upd_same, Same.new h4 _ _ I3.a1, (by show 1 + 6 ≤ sizeLine; decide), fun l5 h5 => ⟨l5, rfl, ⟨_, SqL.of upd_same⟩, fun Dl hD => ?_⟩⟩⟩
      have I5 := (I3.same (Same.new (o := .lst [vS z]) h4)).same (Same.new (o := .lst ([vS z] ++ spare.map vS)) h5)
      have hl5 : zs.length ≤ 5 := by omega
      refine lc_list (K := K) (a := l5) (xs := (z :: spare).map vS) (fun i H' => H' Dl = some (.lst ((((z :: spare).take i).filter (fun c => decide (c ∉ zs))).map vS)) ∧ Same (upd (upd H3 l4 (.lst [vS z])) l5 (.lst ([vS z] ++ spare.map vS))) H') ⟨upd_same, Same.new hD⟩ (fun i H' _ q => q.2.seq (SqL.of upd_same)) ?_ ?_
      · rintro i x H' hx ⟨hd1, k⟩
        obtain ⟨c, hc, rfl⟩ : ∃ c, (z :: spare)[i]? = some c ∧ vS c = x := by
          rw [List.getElem?_map] at hx
          exact Option.map_eq_some_iff.mp hx
        have hil : i < 7 := (List.getElem?_eq_some_iff.mp hc).1
        have ht : ((z :: spare).take (i + 1)).filter (fun c => decide (c ∉ zs)) = ((z :: spare).take i).filter (fun c => decide (c ∉ zs)) ++ [c].filter (fun c => decide (c ∉ zs)) := by
          rw [List.take_succ, hc, List.filter_append]
          rfl
        refine ⟨rfl, ?_⟩
        refine ⟨vS c, rfl, .ref l2, rfl, l2, _, rfl, .inl (SqL.of (k _ _ I5.a2)), rfl, flat_S zs, _, rfl, ?_⟩
        refine ite2 (fun h => ?_) (fun h => ?_)
        · have hcz : c ∉ zs := by simpa [inV_S] using h
          refine ⟨vS c, rfl, _, hd1, ?_, ?_, fun b o e => ?_⟩
          · rw [List.length_map]
            refine Nat.lt_of_le_of_lt (Nat.le_trans (List.length_filter_le _ _) (List.length_take_le _ _)) (Nat.lt_trans hil (by decide))
          · rw [upd_same, ht, List.filter_cons_of_pos (by simpa using hcz), List.map_append]
            rfl
          · rw [upd_ne (ne_of_none e hD)]
            exact k b o e
        · have hcz : c ∈ zs := by simpa [inV_S] using h
          refine ⟨?_, k⟩
          rw [hd1, ht, List.filter_cons_of_neg (by simpa using hcz)]
          simp
      · rintro H' ⟨hd1, k⟩
        rw [List.length_map, List.take_length] at hd1
        obtain ⟨w0, r0, ew⟩ := free_one hl5 z
        rw [ew] at hd1
        have hw : w0 ∈ (z :: spare).filter (fun c => decide (c ∉ zs)) := by
          rw [ew]
          exact List.mem_cons_self ..
        obtain ⟨hw1, hw2⟩ := List.mem_filter.mp hw
        have hw3 : w0 ∉ zs := of_decide_eq_true hw2
        have hwn : IsName w0 := by
          rcases List.mem_cons.mp hw1 with e | e
          · rw [e]
            exact hzn
          · have : ∀ x ∈ spare, IsName x := by decide
            exact this _ e
        have I6 := I5.same k
        have hDl2 : Dl ≠ l2 := fun e => by
          subst e
          rw [I5.a2] at hD
          cases hD
        have hl12 : l1 ≠ l2 := n12
        refine ⟨Dl, _, 0, vS w0, rfl, rfl, SqL.of hd1, (by exact atI_nat (j := 0) rfl), l2, _, vS w0, rfl, rfl, I6.a2, ?_, zs ++ [w0], _, _, _, rfl, ?_, ?_⟩
        · rw [List.length_map]
          exact Nat.lt_of_le_of_lt hl5 (by decide)
        · rw [List.length_append, hz]
          rfl
        · refine ⟨?_, fun y hy => ?_, ?_, ?_, ?_, ?_⟩
          · rw [List.nodup_append]
            refine ⟨I6.nd, by simp, fun a ha b hb e => ?_⟩
            rw [List.mem_singleton.mp hb] at e
            exact hw3 (e ▸ ha)
          · rcases List.mem_append.mp hy with q | q
            · exact I6.nm y q
            · rw [List.mem_singleton.mp q]
              exact hwn
          · obtain ⟨a, b, c, hb, e⟩ := I6.pl.ex
            exact ⟨a, b, c, hb, by rw [upd_ne n2.symm]; exact e⟩
          · refine fun b o e hb => ?_
            rw [upd_ne (fun q => by subst q; rw [h2'] at e; cases e)]
            exact I6.kp b o e hb
          · rw [upd_ne n12]
            exact I6.a1
          · rw [upd_same, List.map_append]
            rfl
  · rintro σ H1 ⟨zs, e2, e5, e6, rfl, hz, I1⟩
    refine ⟨.ref l2, rfl, l2, _, rfl, SqL.of I1.a2, fun t o ht ho => ?_⟩
    exact hk zs t _ hz I1.nd I1.nm ⟨o, upd_same, ho⟩ (I1.pl.same (Same.new ht)) (I1.kp.trans (KpX.new ht))
end
end Y

set_option Elab.async false
set_option linter.all false
set_option maxRecDepth 100000
set_option maxHeartbeats 4000000
namespace Y
open PySem L2
open SX (S)
open C8 (Cal pe_c pe_gc)
abbrev vN (k : Nat) : V := .int (k : Int)
theorem erase_perm : ∀ (l : List Nat) (i : Nat) (h : i < l.length), (l[i] :: l.eraseIdx i).Perm l
  | x :: l, 0, _ => .refl _
  | x :: l, i + 1, h => (List.Perm.swap x (l[i]'(by simpa using h)) (l.eraseIdx i)).trans ((erase_perm l i (by simpa using h)).cons x)
theorem erase_map {f : Nat → V} : ∀ (l : List Nat) (i : Nat), (l.map f).eraseIdx i = (l.eraseIdx i).map f
  | [], _ => rfl
  | _ :: _, 0 => rfl
  | x :: l, i + 1 => congrArg (f x :: ·) (erase_map l i)
theorem rgV_nat (n : Nat) : rgV 0 (n : Int) = (List.range n).map vN := by
  unfold rgV
  rw [Int.sub_zero, Int.toNat_natCast]
  refine List.map_congr_left fun a _ => ?_
  rw [Int.zero_add]
section
variable {P : Program} {w : World} {K : PySem.W.Frag} {mg : Str → Option Value} {base : Heap}
abbrev s_drawn_ring : Stmt := top 68
theorem sc_drawn_ring : FnScope ["_law_pail", "_law_size", "_law_turn", "_law_rest", "_law_found"] ["_law_pail", "_law_size"] (defScope s_drawn_ring) := ⟨rfl, rfl, rfl, by decide +kernel, rfl, by decide +kernel, by decide +kernel⟩
def spRing : Sp := fun vs H Q _ => ∃ (p : Addr) (n : Nat), vs = [.ref p, vN n] ∧ PailAt H p ∧ (2 ≤ n ∧ n ≤ 4) ∧ ∀ (ks : List Nat) (l : Addr) (H' : Hp), ks.Nodup → (∀ k ∈ ks, k < n) → 2 ≤ ks.length → ks.length ≤ n → H' l = some (.lst (ks.map vN)) → l ≠ p → PailAt H' p → KpX p H H' → Q (.ref l) H'
structure RI (H : Hp) (p l1 l2 : Addr) (n : Nat) (rs ks : List Nat) (H' : Hp) : Prop where
  pm : (rs ++ ks).Perm (List.range n)
  pl : PailAt H' p
  kp : KpX p H H'
  a1 : H' l1 = some (.lst (rs.map vN))
  a2 : H' l2 = some (.lst (ks.map vN))
theorem ok_drawn_ring (D : DfT K mg "_law_drawn_ring" s_drawn_ring ["_law_pail", "_law_size"]) (T : Tx K mg) (h_cast : Cal P w K mg base 1 "_law_cast" spCast []) : Cal P w K mg base 2 "_law_drawn_ring" spRing [] := by
  have nd := sc_drawn_ring.nd
  refine calS (k := 1) D sc_drawn_ring (fun vs H Q E h => by obtain ⟨p, n, rfl, _⟩ := h; rfl) fun f cdv A outer s H vs Q E hr h => ?_
  let sc : Scope := defScope s_drawn_ring
  refine ⟨_, (pss_cons (ps_par (by rfl) nd (i := 3) (j := 4) rfl rfl (by decide) rfl rfl (pa_cons (pe_listRg rfl (by rfl) T.n_list (prg_1 (by rfl) T.n_range (pv 1))) (pa_cons (pe_lst pa_nil) pa_nil)) (by rfl))
    (pss_cons (ps_for PassesOwn.never rfl (pi_range1 (by rfl) T.n_range (pa_cons (pe_op op_add pe_int (pe_c h_cast hr (by decide) (by rfl) (pa_cons (pv 0) (pa_cons (pe_op op_sub (pv 1) pe_int) pa_nil)))) pa_nil)) (pg_name (i := 2) nd rfl (by first | exact Or.inl rfl | exact Or.inr rfl)) (pss_one (ps_expr (pe_bm PySem.F.plainAttrs_list PySem.F.slot_list_append PySem.F.type_list_append mt_append (pv 4) (pa_cons (pe_bm PySem.F.plainAttrs_list PySem.F.slot_list_pop PySem.F.type_list_pop mt_popAt (pv 3) (pa_cons (pe_c h_cast hr (by decide) (by rfl) (pa_cons (pv 0) (pa_cons (pe_callB (r := rLenQ K) call_len_seq (by rfl) T.n_len (by decide +kernel) (pa_cons (pv 3) pa_nil)) pa_nil))) pa_nil)) pa_nil)))))
    (pss_one (ps_ret (pv 4))))), ?_⟩
  obtain ⟨p, n, rfl, hP, hn, hk⟩ := h
  refine ⟨vN n, rfl, (n : Int), rfl, .of_le (by decide) (by omega) (by decide) (by omega), fun l1 h1 => ?_⟩
  refine ⟨(by show 0 ≤ sizeLine; decide), fun l2 h2 => ?_⟩
  refine ⟨_, _, rfl, ?_⟩
  rw [rgV_nat] at h2 ⊢
  have h2' : H l2 = none := by
    cases e : H l2 with
    | none => rfl
    | some o => rw [upd_ne (ne_of_none e h1), e] at h2; cases h2
  have n1 := pail_ne hP h1
  have n2 := pail_ne hP h2'
  have n12 : l1 ≠ l2 := fun z => by subst z; rw [upd_same] at h2; cases h2
  have hP1 := (hP.same (Same.new (o := .lst ((List.range n).map vN)) h1)).same (Same.new (o := .lst []) h2)
  refine ⟨.ref p, rfl, vN n, rfl, _, _, rfl, rfl, p, _, rfl, hP1, ⟨by omega, by omega⟩, fun r H1 r0 r1 hP2 hk2 => ?_⟩
  refine ⟨_, _, rfl, rfl, 2 + r, rfl, by omega, by omega, ?_⟩
  have I0 : RI H p l1 l2 n (List.range n) [] H1 := by
    refine ⟨by simp, hP2, (KpX.new h1).trans ((KpX.new h2).trans hk2), hk2 _ _ ?_ n1, hk2 _ _ upd_same n2⟩
    rw [upd_ne n12]
    exact upd_same
  refine for_range (n := (2 + r).toNat) (fun i σ H' => ∃ (rs ks : List Nat) (e : Option V), σ = [some (.ref p), some (vN n), e, some (.ref l1), some (.ref l2)] ∧ ks.length = i ∧ rs.length + i = n ∧ RI H p l1 l2 n rs ks H') ⟨List.range n, [], none, rfl, rfl, by simp, I0⟩ ?_ ?_
  · rintro i σ H2 hi ⟨rs, ks, e, rfl, hl, hrl, I⟩
    have hpos : 0 < rs.length := by omega
    refine ⟨.ref l2, rfl, .inl ⟨rfl, _, SqL.of I.a2⟩, .ref l1, rfl, .inl ⟨rfl, _, SqL.of I.a1⟩, .ref p, rfl, .ref l1, rfl, l1, _, rfl, .inl (SqL.of I.a1), p, _, rfl, I.pl, ?_, fun c H3 c0 c1 hP3 hk3 => ?_⟩
    · rw [List.length_map]
      exact ⟨by omega, by omega⟩
    · rw [List.length_map] at c1
      have hc : c.toNat < rs.length := by omega
      have a1 := hk3 _ _ I.a1 n1
      have a2 := hk3 _ _ I.a2 n2
      refine ⟨l1, _, c, c.toNat, vN (rs[c.toNat]'hc), rfl, rfl, a1, by omega, by omega, seqIndex_of c0 (by rw [List.length_map]; exact c1), ?_, l2, ks.map vN, _, rfl, rfl, ?_, ?_, rs.eraseIdx c.toNat, ks ++ [rs[c.toNat]'hc], _, rfl, by simp [hl], ?_, ?_⟩
      · rw [List.getElem?_map, List.getElem?_eq_getElem hc]
        rfl
      · rw [upd_ne n12.symm]
        exact a2
      · rw [List.length_map]
        exact Nat.lt_of_lt_of_le (show ks.length < 5 by omega) (by decide)
      · rw [List.length_eraseIdx_of_lt hc]
        omega
      · have hlp2 : p ≠ l1 := n1.symm
        refine ⟨?_, ?_, fun b o eb hb => ?_, ?_, ?_⟩
        · refine List.Perm.trans ?_ I.pm
          have q := erase_perm rs c.toNat hc
          refine List.Perm.trans ?_ (q.append_right ks)
          rw [List.cons_append]
          have : (rs.eraseIdx c.toNat ++ (ks ++ [rs[c.toNat]'hc])) = (rs.eraseIdx c.toNat ++ ks) ++ [rs[c.toNat]'hc] := by simp
          rw [this]
          exact List.perm_append_singleton _ _
        · obtain ⟨x, y, z, hb, ep⟩ := hP3.ex
          exact ⟨x, y, z, hb, by rw [upd_ne n2.symm, upd_ne hlp2]; exact ep⟩
        · rw [upd_ne (fun q => by subst q; rw [h2'] at eb; cases eb), upd_ne (fun q => by subst q; rw [h1] at eb; cases eb)]
          exact hk3 _ _ (I.kp b o eb hb) hb
        · rw [upd_ne n12, upd_same, erase_map]
        · rw [upd_same, List.map_append]
          rfl
  · rintro σ H2 ⟨rs, ks, e, rfl, hl, hrl, I⟩
    have hnd : (rs ++ ks).Nodup := I.pm.nodup_iff.mpr List.nodup_range
    refine ⟨.ref l2, rfl, hk ks l2 H2 (List.nodup_append.mp hnd).2.1 (fun k hk => ?_) (by omega) (by omega) I.a2 n2 I.pl I.kp⟩
    exact List.mem_range.mp (I.pm.mem_iff.mp (List.mem_append_right _ hk))
end
end Y

set_option Elab.async false
set_option linter.all false
set_option maxRecDepth 100000
set_option maxHeartbeats 4000000
namespace Y
open PySem L2
open SX (S)
open C8 (Cal pe_c pe_gc)
/-! ### tables of numbers -/
abbrev vI (k : Int) : V := .int k
abbrev Gr := List (List Int)
def ent (g : Gr) (i j : Nat) : Int := (g.getD i []).getD j 0
def rowS (g : Gr) (k : Nat) : Int := (g.getD k []).sum
def colS (g : Gr) (k : Nat) : Int := (g.map fun r => r.getD k 0).sum
def Sq (n : Nat) (g : Gr) : Prop := g.length = n ∧ ∀ (i : Nat) (r : List Int), g[i]? = some r → r.length = n
def addAt (g : Gr) (i j : Nat) (m : Int) : Gr := g.set i ((g.getD i []).set j ((g.getD i []).getD j 0 + m))
theorem sum_set : ∀ (l : List Int) (i : Nat) (d : Int), i < l.length → (l.set i (l.getD i 0 + d)).sum = l.sum + d
  | [], _, _, h => by simp at h
  | x :: l, 0, d, _ => by
    show (x + d) + l.sum = x + l.sum + d
    omega
  | x :: l, i + 1, d, h => by
    have ih := sum_set l i d (by simpa using h)
    show x + (l.set i (l.getD i 0 + d)).sum = x + l.sum + d
    rw [ih]
    omega
theorem getD_set {α : Type} (l : List α) (i k : Nat) (x d : α) (h : i < l.length) : (l.set i x).getD k d = if k = i then x else l.getD k d := by
  rw [List.getD_eq_getElem?_getD, List.getD_eq_getElem?_getD]
  by_cases hk : k = i
  · subst hk
    rw [if_pos rfl, List.getElem?_set_self h]
    rfl
  · rw [if_neg hk, List.getElem?_set_ne (fun z => hk z.symm)]
theorem Sq.row {n : Nat} {g : Gr} (h : Sq n g) {i : Nat} (hi : i < n) : (g.getD i []).length = n := by
  have hi2 : i < g.length := by rw [h.1]; exact hi
  rw [List.getD_eq_getElem?_getD, List.getElem?_eq_getElem hi2]
  exact h.2 i _ (List.getElem?_eq_getElem hi2)
theorem Sq.add {n : Nat} {g : Gr} (h : Sq n g) {i j : Nat} (hi : i < n) (m : Int) : Sq n (addAt g i j m) := by
  unfold addAt
  refine ⟨by rw [List.length_set]; exact h.1, fun k r hk => ?_⟩
  by_cases e : i = k
  · subst e
    rw [List.getElem?_set_self (by rw [h.1]; exact hi)] at hk
    cases hk
    rw [List.length_set]
    exact h.row hi
  · rw [List.getElem?_set_ne e] at hk
    exact h.2 k r hk
theorem row_add {n : Nat} {g : Gr} (h : Sq n g) {i j : Nat} (hi : i < n) (hj : j < n) (m : Int) (k : Nat) : rowS (addAt g i j m) k = rowS g k + if k = i then m else 0 := by
  unfold rowS addAt
  rw [getD_set _ _ _ _ _ (by rw [h.1]; exact hi)]
  by_cases e : k = i
  · subst e
    rw [if_pos rfl, if_pos rfl, sum_set _ _ _ (by rw [h.row hi]; exact hj)]
  · rw [if_neg e, if_neg e, Int.add_zero]
theorem col_add {n : Nat} {g : Gr} (h : Sq n g) {i j : Nat} (hi : i < n) (hj : j < n) (m : Int) (k : Nat) : colS (addAt g i j m) k = colS g k + if k = j then m else 0 := by
  unfold colS addAt
  have hig : i < g.length := by rw [h.1]; exact hi
  rw [List.map_set, getD_set _ _ _ _ _ (by rw [h.row hi]; exact hj)]
  have e : (g.map fun r => r.getD k 0).getD i 0 = (g.getD i []).getD k 0 := by
    rw [List.getD_eq_getElem?_getD, List.getElem?_map, List.getElem?_eq_getElem hig, List.getD_eq_getElem?_getD (l := g), List.getElem?_eq_getElem hig]
    rfl
  have q := sum_set (g.map fun r => r.getD k 0) i (if k = j then m else 0) (by rw [List.length_map]; exact hig)
  rw [e] at q
  rw [← q]
  by_cases hk : k = j
  · subst hk
    rw [if_pos rfl, if_pos rfl]
  · rw [if_neg hk, if_neg hk, Int.add_zero]
theorem ent_add {n : Nat} {g : Gr} (h : Sq n g) {i j : Nat} (hi : i < n) (hj : j < n) (m : Int) (a b : Nat) : ent (addAt g i j m) a b = ent g a b + if a = i ∧ b = j then m else 0 := by
  unfold ent addAt
  rw [getD_set _ _ _ _ _ (by rw [h.1]; exact hi)]
  by_cases e : a = i
  · subst e
    rw [if_pos rfl, getD_set _ _ _ _ _ (by rw [h.row hi]; exact hj)]
    by_cases f : b = j
    · subst f
      rw [if_pos rfl, if_pos ⟨rfl, rfl⟩]
    · rw [if_neg f, if_neg (fun z => f z.2), Int.add_zero]
  · rw [if_neg e, if_neg (fun z => e z.1), Int.add_zero]
/-- the steps of a ring, in the order in which they are laid -/
def stepK (ks : List Nat) (at_ : Nat) : Nat × Nat := (ks.getD (if at_ = 0 then ks.length - 1 else at_ - 1) 0, ks.getD at_ 0)
def ringTo (g : Gr) (ks : List Nat) (m : Int) (i : Nat) : Gr := (List.range i).foldl (fun g a => addAt g (stepK ks a).1 (stepK ks a).2 m) g
theorem ringTo_succ (g : Gr) (ks : List Nat) (m : Int) (i : Nat) : ringTo g ks m (i + 1) = addAt (ringTo g ks m i) (stepK ks i).1 (stepK ks i).2 m := by
  unfold ringTo
  rw [List.range_succ, List.foldl_append]
  rfl
def withR (g : Gr) (ks : List Nat) (m : Int) : Gr := ringTo g ks m ks.length
def Bal (n : Nat) (g : Gr) : Prop := ∀ k, k < n → rowS g k = colS g k
def Lie (n : Nat) (g : Gr) (b : Int) : Prop := ∀ i j, i < n → j < n → 0 ≤ ent g i j ∧ ent g i j ≤ b
theorem getD_lt {ks : List Nat} {n : Nat} (h : ∀ k ∈ ks, k < n) (hn : 0 < n) (i : Nat) : ks.getD i 0 < n := by
  rw [List.getD_eq_getElem?_getD]
  cases e : ks[i]? with
  | none => exact hn
  | some k => exact h k (List.mem_of_getElem? e)
theorem stepK_lt {ks : List Nat} {n : Nat} (h : ∀ k ∈ ks, k < n) (hn : 0 < n) (i : Nat) : (stepK ks i).1 < n ∧ (stepK ks i).2 < n := ⟨getD_lt h hn _, getD_lt h hn _⟩
theorem ringTo_sq {n : Nat} {g : Gr} {ks : List Nat} {m : Int} (h : Sq n g) (hk : ∀ k ∈ ks, k < n) (hn : 0 < n) : ∀ i, Sq n (ringTo g ks m i)
  | 0 => h
  | i + 1 => by
    rw [ringTo_succ]
    exact (ringTo_sq h hk hn i).add (stepK_lt hk hn i).1 m
theorem withR_bal {n : Nat} {g : Gr} {ks : List Nat} {m : Int} (h : Sq n g) (hb : Bal n g) (hk : ∀ k ∈ ks, k < n) (hnd : ks.Nodup) (h2 : 2 ≤ ks.length) (h4 : ks.length ≤ 4) (hn : 0 < n) : Bal n (withR g ks m) := by
  intro k hk2
  have hs := fun i => ringTo_sq (m := m) h hk hn i
  have hl := fun i => stepK_lt hk hn i
  have hb := hb k hk2
  unfold withR
  match ks, h2, h4 with
  | [a, b], _, _ =>
    show rowS (ringTo g [a, b] m 2) k = colS (ringTo g [a, b] m 2) k
    rw [ringTo_succ, row_add (hs 1) (hl 1).1 (hl 1).2, col_add (hs 1) (hl 1).1 (hl 1).2, ringTo_succ, row_add (hs 0) (hl 0).1 (hl 0).2, col_add (hs 0) (hl 0).1 (hl 0).2]
    show rowS g k + (if k = b then m else 0) + (if k = a then m else 0) = colS g k + (if k = a then m else 0) + (if k = b then m else 0)
    omega
  | [a, b, c], _, _ =>
    show rowS (ringTo g [a, b, c] m 3) k = colS (ringTo g [a, b, c] m 3) k
    rw [ringTo_succ, row_add (hs 2) (hl 2).1 (hl 2).2, col_add (hs 2) (hl 2).1 (hl 2).2, ringTo_succ, row_add (hs 1) (hl 1).1 (hl 1).2, col_add (hs 1) (hl 1).1 (hl 1).2, ringTo_succ, row_add (hs 0) (hl 0).1 (hl 0).2, col_add (hs 0) (hl 0).1 (hl 0).2]
    show rowS g k + (if k = c then m else 0) + (if k = a then m else 0) + (if k = b then m else 0) = colS g k + (if k = a then m else 0) + (if k = b then m else 0) + (if k = c then m else 0)
    omega
  | [a, b, c, d], _, _ =>
    show rowS (ringTo g [a, b, c, d] m 4) k = colS (ringTo g [a, b, c, d] m 4) k
    rw [ringTo_succ, row_add (hs 3) (hl 3).1 (hl 3).2, col_add (hs 3) (hl 3).1 (hl 3).2, ringTo_succ, row_add (hs 2) (hl 2).1 (hl 2).2, col_add (hs 2) (hl 2).1 (hl 2).2, ringTo_succ, row_add (hs 1) (hl 1).1 (hl 1).2, col_add (hs 1) (hl 1).1 (hl 1).2, ringTo_succ, row_add (hs 0) (hl 0).1 (hl 0).2, col_add (hs 0) (hl 0).1 (hl 0).2]
    show rowS g k + (if k = d then m else 0) + (if k = a then m else 0) + (if k = b then m else 0) + (if k = c then m else 0) = colS g k + (if k = a then m else 0) + (if k = b then m else 0) + (if k = c then m else 0) + (if k = d then m else 0)
    omega
  | _ :: _ :: _ :: _ :: _ :: _, _, h => simp at h
theorem withR_lie {n : Nat} {g : Gr} {ks : List Nat} {m b : Int} (h : Sq n g) (hb : Lie n g b) (hm : 0 ≤ m) (hk : ∀ k ∈ ks, k < n) (hnd : ks.Nodup) (h2 : 2 ≤ ks.length) (h4 : ks.length ≤ 4) (hn : 0 < n) : Lie n (withR g ks m) (b + m) := by
  intro i j hi hj
  have hs := fun i => ringTo_sq (m := m) h hk hn i
  have hl := fun i => stepK_lt hk hn i
  have hb := hb i j hi hj
  unfold withR
  match ks, h2, h4, hnd with
  | [a, b], _, _, hnd =>
    show 0 ≤ ent (ringTo g [a, b] m 2) i j ∧ ent (ringTo g [a, b] m 2) i j ≤ _
    rw [ringTo_succ, ent_add (hs 1) (hl 1).1 (hl 1).2, ringTo_succ, ent_add (hs 0) (hl 0).1 (hl 0).2]
    show 0 ≤ ent g i j + (if i = b ∧ j = a then m else 0) + (if i = a ∧ j = b then m else 0) ∧ ent g i j + (if i = b ∧ j = a then m else 0) + (if i = a ∧ j = b then m else 0) ≤ _
    simp at hnd
    omega
  | [a, b, c], _, _, hnd =>
    show 0 ≤ ent (ringTo g [a, b, c] m 3) i j ∧ ent (ringTo g [a, b, c] m 3) i j ≤ _
    rw [ringTo_succ, ent_add (hs 2) (hl 2).1 (hl 2).2, ringTo_succ, ent_add (hs 1) (hl 1).1 (hl 1).2, ringTo_succ, ent_add (hs 0) (hl 0).1 (hl 0).2]
    show 0 ≤ ent g i j + (if i = c ∧ j = a then m else 0) + (if i = a ∧ j = b then m else 0) + (if i = b ∧ j = c then m else 0) ∧ ent g i j + (if i = c ∧ j = a then m else 0) + (if i = a ∧ j = b then m else 0) + (if i = b ∧ j = c then m else 0) ≤ _
    simp at hnd
    omega
  | [a, b, c, d], _, _, hnd =>
    show 0 ≤ ent (ringTo g [a, b, c, d] m 4) i j ∧ ent (ringTo g [a, b, c, d] m 4) i j ≤ _
    rw [ringTo_succ, ent_add (hs 3) (hl 3).1 (hl 3).2, ringTo_succ, ent_add (hs 2) (hl 2).1 (hl 2).2, ringTo_succ, ent_add (hs 1) (hl 1).1 (hl 1).2, ringTo_succ, ent_add (hs 0) (hl 0).1 (hl 0).2]
    show 0 ≤ ent g i j + (if i = d ∧ j = a then m else 0) + (if i = a ∧ j = b then m else 0) + (if i = b ∧ j = c then m else 0) + (if i = c ∧ j = d then m else 0) ∧ ent g i j + (if i = d ∧ j = a then m else 0) + (if i = a ∧ j = b then m else 0) + (if i = b ∧ j = c then m else 0) + (if i = c ∧ j = d then m else 0) ≤ _
    simp at hnd
    omega
  | _ :: _ :: _ :: _ :: _ :: _, _, h, _ => simp at h
end Y

set_option Elab.async false
set_option linter.all false
set_option maxRecDepth 100000
set_option maxHeartbeats 4000000
namespace Y
open PySem L2
open SX (S)
open C8 (Cal pe_c pe_gc)
theorem atI_prev {ks : List Nat} {i : Nat} (hi : i < ks.length) : atI (ks.map vN) (0 + (i : Int) - 1) = some (vN (ks.getD (if i = 0 then ks.length - 1 else i - 1) 0)) := by
  have hj : (if i = 0 then ks.length - 1 else i - 1) < ks.length := by split <;> omega
  have e : ixN (ks.map vN).length (0 + (i : Int) - 1) = some (if i = 0 then ks.length - 1 else i - 1) := by
    unfold ixN
    rw [List.length_map]
    by_cases h : i = 0
    · subst h
      rw [if_neg (by decide), if_pos (by omega), if_pos rfl]
      congr 1
      omega
    · rw [if_pos (by omega), if_pos (by omega), if_neg h]
      congr 1
      omega
  unfold atI
  rw [e, Option.bind_some, List.getElem?_map, List.getElem?_eq_getElem hj, List.getD_eq_getElem?_getD, List.getElem?_eq_getElem hj]
  rfl
theorem ixN_of {n j : Nat} (hj : j < n) : ixN n (j : Int) = some j := by
  unfold ixN
  rw [if_pos (by omega), if_pos (by omega)]
  simp
theorem atI_at {ks : List Nat} {i : Nat} (hi : i < ks.length) : atI (ks.map vN) (0 + (i : Int)) = some (vN (ks.getD i 0)) := by
  rw [Int.zero_add]
  refine atI_nat ?_
  rw [List.getElem?_map, List.getElem?_eq_getElem hi, List.getD_eq_getElem?_getD, List.getElem?_eq_getElem hi]
  rfl
theorem atI_ref {as : List Addr} {i : Nat} {a : Addr} (h : as[i]? = some a) : atI (as.map V.ref) (i : Int) = some (.ref a) := atI_nat (by rw [List.getElem?_map, h]; rfl)
theorem atI_int {r : List Int} {i : Nat} (h : i < r.length) : atI (r.map vI) (i : Int) = some (vI (r.getD i 0)) := atI_nat (by rw [List.getElem?_map, List.getElem?_eq_getElem h, List.getD_eq_getElem?_getD, List.getElem?_eq_getElem h]; rfl)
theorem at_some {α : Type} {l : List α} {i : Nat} (h : i < l.length) : ∃ a, l[i]? = some a := ⟨_, List.getElem?_eq_getElem h⟩
theorem getD_at {g : Gr} {i : Nat} (h : i < g.length) : g[i]? = some (g.getD i []) := by
  rw [List.getD_eq_getElem?_getD, List.getElem?_eq_getElem h]
  rfl
/-- a tuple of tuples of ints -/
structure GridAt (K : PySem.W.Frag) (H : Hp) (t : Addr) (g : Gr) : Prop where
  ex : ∃ as : List Addr, SqT K H t (as.map V.ref) ∧ as.length = g.length ∧ ∀ (i : Nat) (a : Addr) (r : List Int), as[i]? = some a → g[i]? = some r → SqT K H a (r.map vI)
theorem GridAt.same {K : PySem.W.Frag} {H H' : Hp} {t : Addr} {g : Gr} (h : GridAt K H t g) (k : Same H H') : GridAt K H' t g := by
  obtain ⟨as, h1, h2, h3⟩ := h.ex
  exact ⟨as, Same.tup k h1, h2, fun i a r x y => Same.tup k (h3 i a r x y)⟩
theorem GridAt.kpx {K : PySem.W.Frag} {H H' : Hp} {t p : Addr} {g : Gr} (h : GridAt K H t g) (hP : PailAt H p) (k : KpX p H H') : GridAt K H' t g := by
  obtain ⟨as, h1, h2, h3⟩ := h.ex
  exact ⟨as, k.tup hP h1, h2, fun i a r x y => k.tup hP (h3 i a r x y)⟩
/-- a list of lists of ints, all its own -/
structure RowsAt (H0 H : Hp) (l : Addr) (bs : List Addr) (g : Gr) : Prop where
  a : H l = some (.lst (bs.map V.ref))
  len : bs.length = g.length
  nd : bs.Nodup
  new : ∀ b ∈ bs, H0 b = none
  ne : l ∉ bs
  row : ∀ (i : Nat) (b : Addr) (r : List Int), bs[i]? = some b → g[i]? = some r → H b = some (.lst (r.map vI))
theorem RowsAt.same {H0 H H' : Hp} {l : Addr} {bs : List Addr} {g : Gr} (h : RowsAt H0 H l bs g) (k : Same H H') : RowsAt H0 H' l bs g :=
  ⟨k _ _ h.a, h.len, h.nd, h.new, h.ne, fun i b r x y => k _ _ (h.row i b r x y)⟩
section
variable {P : Program} {w : World} {K : PySem.W.Frag} {mg : Str → Option Value} {base : Heap}
/-- [list(row) for row in grid] -/
theorem lc_rows {g : Gr} {t D : Addr} {as : List Addr} {σ : St} {H : Hp} {vs : List Nat} {i : Nat} {Qd : Hp → Prop} (hi : vs = [i]) (hσ : i < σ.length) (hD : H D = none) (hl : as.length = g.length) (hg : g.length ≤ 100) (ht : SqT K H t (as.map V.ref)) (hr : ∀ (i : Nat) (a : Addr) (r : List Int), as[i]? = some a → g[i]? = some r → SqT K H a (r.map vI))
    (hd : ∀ H' bs, RowsAt H H' D bs g → Same H H' → Qd H') :
    ∃ W : Nat → Nat → Hp → Prop, (∃ m, W 0 m (upd H D (.lst []))) ∧ ∀ j m H, W j m H →
      ((Itt K t).stop j H ∧ Qd H) ∨ ((Itt K t).go j H ∧ ∃ Nx : Hp → Prop, (∀ H', Nx H' → ∃ m', m' < m ∧ W (j + 1) m' H') ∧ ∀ x H', (Itt K t).yld j H x H' → gName i x (wipe σ vs) H' fun σ2 H2 => wipe σ2 vs = wipe σ vs ∧ tYes σ2 H2 fun b H3 =>
        if b = true then tCB (rListOf K) (tCons (tVar i) tNil) σ2 H3 fun y H4 => ∃ acc, H4 D = some (.lst acc) ∧ acc.length < sizeLine ∧ Nx (upd H4 D (.lst (acc ++ [y]))) else Nx H3) := by
  subst hi
  refine lc_tup (K := K) (a := t) (xs := as.map V.ref) (g := gName i) (tt := tYes) (te := tCB (rListOf K) (tCons (tVar i) tNil)) (vs := [i]) (fun j H' => ∃ bs : List Addr, bs.length = j ∧ RowsAt H H' D bs (g.take j) ∧ Same H H') ⟨[], rfl, ⟨upd_same, by simp, List.nodup_nil, fun b h => (nomatch h), by simp, fun i b r h => by simp at h⟩, Same.new hD⟩ (fun j H' _ ⟨bs, _, _, k⟩ => Same.tup k ht) ?_ ?_
  · rintro j x H' hx ⟨bs, hb, R, k⟩
    obtain ⟨a, ha, rfl⟩ : ∃ a, as[j]? = some a ∧ V.ref a = x := by
      rw [List.getElem?_map] at hx
      exact Option.map_eq_some_iff.mp hx
    have hj : j < g.length := by
      rw [← hl]
      exact (List.getElem?_eq_some_iff.mp ha).1
    have hw : (wipe σ [i]) = σ.set i none := rfl
    refine ⟨?_, ?_⟩
    · show ((wipe σ [i]).set i (some (.ref a))).set i none = wipe σ [i]
      rw [hw, List.set_set, List.set_set]
    · refine ⟨.ref a, ?_, a, (g.getD j []).map vI, rfl, .inr (Same.tup k (hr j a _ ha (getD_at hj))), fun b hbn => ?_⟩
      · rw [hw, List.set_set]
        exact List.getElem?_set_self hσ
      · have hbD : D ≠ b := fun z => by subst z; rw [R.a] at hbn; cases hbn
        have hDD := R.a
        refine ⟨bs.map V.ref, by rw [upd_ne hbD]; exact hDD, ?_, bs ++ [b], by simp [hb], ?_, fun c o e => ?_⟩
        · rw [List.length_map]
          exact Nat.lt_of_lt_of_le (show bs.length < 101 by omega) (by decide)
        · have hbb : b ∉ bs := fun z => by
            obtain ⟨q, hq⟩ := List.getElem?_of_mem z
            have hq2 := (List.getElem?_eq_some_iff.mp hq).1
            rw [R.len] at hq2
            have := R.row q b _ hq (getD_at hq2)
            rw [this] at hbn
            cases hbn
          have hb0 : H b = none := by
            cases e : H b with
            | none => rfl
            | some o => rw [k b o e] at hbn; cases hbn
          refine ⟨?_, ?_, ?_, ?_, ?_, ?_⟩
          · rw [upd_same, List.map_append]
            rfl
          · simp [hb]
            omega
          · rw [List.nodup_append]
            refine ⟨R.nd, by simp, fun x hx y hy e => ?_⟩
            rw [List.mem_singleton.mp hy] at e
            exact hbb (e ▸ hx)
          · intro c hc
            rcases List.mem_append.mp hc with q | q
            · exact R.new c q
            · rw [List.mem_singleton.mp q]
              exact hb0
          · intro z
            rcases List.mem_append.mp z with q | q
            · exact R.ne q
            · exact hbD (List.mem_singleton.mp q)
          · intro q c r hc hr2
            by_cases hq : q < bs.length
            · rw [List.getElem?_append_left hq] at hc
              have hcD : c ≠ D := fun z => R.ne (z ▸ List.mem_of_getElem? hc)
              have hcb : c ≠ b := fun z => hbb (z ▸ List.mem_of_getElem? hc)
              rw [upd_ne hcD, upd_ne hcb]
              refine R.row q c r hc ?_
              rw [List.getElem?_take_of_lt (by omega)] at hr2 ⊢
              exact hr2
            · have hq2 : q = bs.length := by
                have := (List.getElem?_eq_some_iff.mp hc).1
                simp at this
                omega
              subst hq2
              rw [List.getElem?_append_right (Nat.le_refl _), Nat.sub_self] at hc
              cases hc
              rw [upd_ne hbD.symm, upd_same]
              rw [List.getElem?_take_of_lt (by omega), hb, getD_at hj] at hr2
              cases hr2
              rfl
        · have h1 : c ≠ D := ne_of_none e hD
          have hb0 : H b = none := by
            cases e : H b with
            | none => rfl
            | some o => rw [k b o e] at hbn; cases hbn
          rw [upd_ne h1, upd_ne (ne_of_none e hb0)]
          exact k c o e
  · rintro H' ⟨bs, hb, R, k⟩
    rw [List.length_map, hl, List.take_length] at R
    exact hd H' bs R k
end
end Y

set_option Elab.async false
set_option linter.all false
set_option maxRecDepth 100000
set_option maxHeartbeats 4000000
namespace Y
open PySem L2
open SX (S)
open C8 (Cal pe_c pe_gc)
section
variable {P : Program} {w : World} {K : PySem.W.Frag} {mg : Str → Option Value} {base : Heap}
/-- tuple([tuple(row) for row in rows]): the comprehension -/
theorem lc_tups {H0 : Hp} {g : Gr} {l D : Addr} {bs : List Addr} {σ : St} {H : Hp} {vs : List Nat} {i : Nat} {Qd : Hp → Prop} (hi : vs = [i]) (hσ : i < σ.length) (hD : H D = none) (hg : g.length ≤ 100) (R : RowsAt H0 H l bs g)
    (hd : ∀ (H' : Hp) (cs : List Addr), H' D = some (.lst (cs.map V.ref)) → cs.length = g.length → (∀ (i : Nat) (c : Addr) (r : List Int), cs[i]? = some c → g[i]? = some r → H' c = some (.tup (r.map vI))) → Same H H' → Qd H') :
    ∃ W : Nat → Nat → Hp → Prop, (∃ m, W 0 m (upd H D (.lst []))) ∧ ∀ j m H, W j m H →
      ((Itl K l).stop j H ∧ Qd H) ∨ ((Itl K l).go j H ∧ ∃ Nx : Hp → Prop, (∀ H', Nx H' → ∃ m', m' < m ∧ W (j + 1) m' H') ∧ ∀ x H', (Itl K l).yld j H x H' → gName i x (wipe σ vs) H' fun σ2 H2 => wipe σ2 vs = wipe σ vs ∧ tYes σ2 H2 fun b H3 =>
        if b = true then tCB (rTupOf K) (tCons (tVar i) tNil) σ2 H3 fun y H4 => ∃ acc, H4 D = some (.lst acc) ∧ acc.length < sizeLine ∧ Nx (upd H4 D (.lst (acc ++ [y]))) else Nx H3) := by
  subst hi
  refine lc_list (K := K) (a := l) (xs := bs.map V.ref) (g := gName i) (tt := tYes) (te := tCB (rTupOf K) (tCons (tVar i) tNil)) (vs := [i]) (fun j H' => ∃ cs : List Addr, cs.length = j ∧ H' D = some (.lst (cs.map V.ref)) ∧ (∀ (i : Nat) (c : Addr) (r : List Int), cs[i]? = some c → g[i]? = some r → H' c = some (.tup (r.map vI))) ∧ Same H H') ⟨[], rfl, upd_same, fun i c r h => by simp at h, Same.new hD⟩ (fun j H' _ ⟨cs, _, _, _, k⟩ => k.seq (SqL.of R.a)) ?_ ?_
  · rintro j x H' hx ⟨cs, hc, hDl, hrow, k⟩
    obtain ⟨b, hb, rfl⟩ : ∃ a, bs[j]? = some a ∧ V.ref a = x := by
      rw [List.getElem?_map] at hx
      exact Option.map_eq_some_iff.mp hx
    have hj : j < g.length := by
      rw [← R.len]
      exact (List.getElem?_eq_some_iff.mp hb).1
    have hw : (wipe σ [i]) = σ.set i none := rfl
    refine ⟨?_, ?_⟩
    · show ((wipe σ [i]).set i (some (.ref b))).set i none = wipe σ [i]
      rw [hw, List.set_set, List.set_set]
    · refine ⟨.ref b, ?_, b, (g.getD j []).map vI, rfl, .inl ⟨SqL.of (k _ _ (R.row j b _ hb (getD_at hj))), fun c hcn => ?_⟩⟩
      · rw [hw, List.set_set]
        exact List.getElem?_set_self hσ
      · have hcD : D ≠ c := fun z => by subst z; rw [hDl] at hcn; cases hcn
        refine ⟨cs.map V.ref, by rw [upd_ne hcD]; exact hDl, ?_, cs ++ [c], by simp [hc], ?_, ?_, fun d o e => ?_⟩
        · rw [List.length_map]
          exact Nat.lt_of_lt_of_le (show cs.length < 101 by omega) (by decide)
        · rw [upd_same, List.map_append]
          rfl
        · intro q d r hd2 hr2
          by_cases hq : q < cs.length
          · rw [List.getElem?_append_left hq] at hd2
            have q1 := hrow q d r hd2 hr2
            have hdc : d ≠ c := fun z => by subst z; rw [q1] at hcn; cases hcn
            have hdD : d ≠ D := fun z => by subst z; rw [q1] at hDl; cases hDl
            rw [upd_ne hdD, upd_ne hdc]
            exact q1
          · have hq2 : q = cs.length := by
              have := (List.getElem?_eq_some_iff.mp hd2).1
              simp at this
              omega
            subst hq2
            rw [List.getElem?_append_right (Nat.le_refl _), Nat.sub_self] at hd2
            cases hd2
            rw [hc, getD_at hj] at hr2
            cases hr2
            rw [upd_ne hcD.symm, upd_same]
        · have hc0 : H c = none := by
            cases e : H c with
            | none => rfl
            | some o => rw [k c o e] at hcn; cases hcn
          rw [upd_ne (ne_of_none e hD), upd_ne (ne_of_none e hc0)]
          exact k d o e
  · rintro H' ⟨cs, hc, hDl, hrow, k⟩
    rw [List.length_map, R.len] at hc
    exact hd H' cs hDl hc hrow k
abbrev s_with_ring : Stmt := top 69
theorem sc_with_ring : FnScope ["_law_grid", "_law_ring", "_law_many", "_law_found", "_law_at", "_law_row"] ["_law_grid", "_law_ring", "_law_many"] (defScope s_with_ring) := ⟨rfl, rfl, rfl, by decide +kernel, rfl, by decide +kernel, by decide +kernel⟩
def spWith (K : PySem.W.Frag) : Sp := fun vs H Q _ => ∃ (t l : Addr) (m : Int) (n : Nat) (g : Gr) (ks : List Nat), vs = [.ref t, .ref l, .int m] ∧ GridAt K H t g ∧ H l = some (.lst (ks.map vN)) ∧ Sq n g ∧ (0 < n ∧ n ≤ 4) ∧ (∀ k ∈ ks, k < n) ∧ ks.length ≤ 4 ∧
  ∀ t' H', GridAt K H' t' (withR g ks m) → Same H H' → Q (.ref t') H'
/-- a row of the table is changed in place -/
theorem RowsAt.add {H0 H : Hp} {D : Addr} {bs : List Addr} {g : Gr} {n i j : Nat} {b : Addr} (R : RowsAt H0 H D bs g) (h : Sq n g) (hi : i < n) (hb : bs[i]? = some b) (m : Int) :
    RowsAt H0 (upd H b (.lst (((g.getD i []).map vI).set j (vI ((g.getD i []).getD j 0 + m))))) D bs (addAt g i j m) := by
  have hig : i < g.length := by rw [h.1]; exact hi
  refine ⟨?_, by unfold addAt; rw [List.length_set]; exact R.len, R.nd, R.new, R.ne, fun q c r hc hr => ?_⟩
  · rw [upd_ne (fun z => R.ne (by rw [z]; exact List.mem_of_getElem? hb))]
    exact R.a
  · unfold addAt at hr
    by_cases hq : i = q
    · subst hq
      rw [hb] at hc
      cases hc
      rw [List.getElem?_set_self hig] at hr
      cases hr
      rw [upd_same, List.map_set]
    · rw [List.getElem?_set_ne hq] at hr
      have hcb : c ≠ b := fun z => by
        subst z
        obtain ⟨l1, e1⟩ := List.getElem?_eq_some_iff.mp hc
        obtain ⟨l2, e2⟩ := List.getElem?_eq_some_iff.mp hb
        exact hq ((List.getElem_inj R.nd).mp (e2.trans e1.symm))
      rw [upd_ne hcb]
      exact R.row q c r hc hr
theorem ok_with_ring (D : DfT K mg "_law_with_ring" s_with_ring ["_law_grid", "_law_ring", "_law_many"]) (T : Tx K mg) : Cal P w K mg base 1 "_law_with_ring" (spWith K) [] := by
  have nd := sc_with_ring.nd
  refine calS (k := 0) D sc_with_ring (fun vs H Q E h => by obtain ⟨t, l, m, n, g, ks, rfl, _⟩ := h; rfl) fun f cdv A outer s H vs Q E hr h => ?_
  let sc : Scope := defScope s_with_ring
  refine ⟨_, (pss_cons (ps_setLc (i := 3) (own := [("_law_row", 5)]) (g := gName 5) (by rfl) nd rfl rfl (sw_true rfl rfl rfl (by decide +kernel)) (pi_tup (pv 0)) (blkOk_by (own := [("_law_row", 5)]) (N := ["_law_grid", "_law_ring", "_law_many", "_law_found", "_law_at", "_law_row"]) (sc := sc) (by decide +kernel)) (fun _ _ _ _ _ => pg_name (i := 5) nd rfl (Or.inl rfl)) (fun _ _ _ _ _ => pts_nil) (fun _ _ _ _ _ => (pe_callTy (r := rListOf K) call_list_of (by rfl) T.n_list (by decide +kernel) (pa_cons (pv 5) pa_nil))))
    (pss_cons (ps_for PassesOwn.never rfl (pi_range1 (by rfl) T.n_range (pa_cons (pe_callB (r := rLenQ K) call_len_seq (by rfl) T.n_len (by decide +kernel) (pa_cons (pv 1) pa_nil)) pa_nil)) (pg_name (i := 4) nd rfl (by first | exact Or.inl rfl | exact Or.inr rfl)) (pss_cons (ps_set (i := 5) nd rfl (by first | exact Or.inl rfl | exact Or.inr rfl) (pe_ix (r := rIxL K) ix_list (pv 3) (pe_ix (r := rIxL K) ix_list (pv 1) (pe_op op_sub (pv 4) pe_int) (fun _ _ => rfl)) (fun _ _ => rfl)))
    (pss_one (ps_asg (pe_op op_add (pe_ix (r := rIxL K) ix_list (pv 5) (pe_ix (r := rIxL K) ix_list (pv 1) (pv 4) (fun _ _ => rfl)) (fun _ _ => rfl)) (pv 2)) (pg_sub (pv 5) (pe_ix (r := rIxL K) ix_list (pv 1) (pv 4) (fun _ _ => rfl)) set_list)))))
    (pss_one (ps_ret (pe_callTy (r := rTupOf K) call_tuple_of (by rfl) T.n_tuple (by decide +kernel) (pa_cons (pe_lc (own := [("_law_row", 5)]) (g := gName 5) (by rfl) nd (pi_list (pv 3)) (blkOk_by (own := [("_law_row", 5)]) (N := ["_law_grid", "_law_ring", "_law_many", "_law_found", "_law_at", "_law_row"]) (sc := sc) (by decide +kernel)) (fun _ _ _ _ _ => pg_name (i := 5) nd rfl (Or.inl rfl)) (fun _ _ _ _ _ => pts_nil) (fun _ _ _ _ _ => (pe_callTy (r := rTupOf K) call_tuple_of (by rfl) T.n_tuple (by decide +kernel) (pa_cons (pv 5) pa_nil)))) pa_nil)))))), ?_⟩
  obtain ⟨t, l, m, n, g, ks, rfl, hG, hl, hsq, hn, hks, hkl, hk⟩ := h
  obtain ⟨as, ht, hal, har⟩ := hG.ex
  refine ⟨.ref t, rfl, t, rfl, ⟨_, ht⟩, fun D1 hD1 => ?_⟩
  refine lc_rows rfl (show 5 < 6 by decide) hD1 hal (by rw [hsq.1]; omega) ht har fun H1 bs R1 k1 => ?_
  have hlD : l ≠ D1 := fun z => by subst z; rw [hl] at hD1; cases hD1
  have hlb : l ∉ bs := fun z => by have := R1.new l z; rw [hl] at this; cases this
  refine ⟨.ref l, rfl, l, _, rfl, .inl (SqL.of (k1 _ _ hl)), _, rfl, by omega, ?_, ?_⟩
  · rw [List.length_map]
    omega
  rw [List.length_map, Int.toNat_natCast]
  refine for_range (n := ks.length) (fun i σ H' => ∃ (e4 e5 : Option V), σ = [some (.ref t), some (.ref l), some (.int m), some (.ref D1), e4, e5] ∧ RowsAt H H' D1 bs (ringTo g ks m i) ∧ Same H H' ∧ H' l = some (.lst (ks.map vN))) ⟨none, none, rfl, R1, k1, k1 _ _ hl⟩ ?_ ?_
  · rintro i σ H2 hi ⟨e4, e5, rfl, R2, k2, hl2⟩
    have hs := ringTo_sq (m := m) hsq hks hn.1 i
    have hst := stepK_lt hks hn.1 i
    have hbl : (stepK ks i).1 < bs.length := by rw [R2.len, hs.1]; exact hst.1
    obtain ⟨b, hb⟩ := at_some hbl
    have hig : (stepK ks i).1 < (ringTo g ks m i).length := by rw [hs.1]; exact hst.1
    have hrow := R2.row _ b _ hb (getD_at hig)
    have hrl := hs.row hst.1
    have hj : (stepK ks i).2 < ((ringTo g ks m i).getD (stepK ks i).1 []).length := by rw [hrl]; exact hst.2
    have hlb2 : l ≠ b := fun z => hlb (z ▸ List.mem_of_getElem? hb)
    refine ⟨.ref D1, rfl, .ref l, rfl, .int (0 + (i : Int)), rfl, _, _, rfl, rfl, l, _, _, _, rfl, rfl, SqL.of hl2, atI_prev hi, D1, _, _, .ref b, rfl, rfl, SqL.of R2.a, atI_ref hb, ?_⟩
    refine ⟨.ref b, rfl, .ref l, rfl, .int (0 + (i : Int)), rfl, l, _, _, _, rfl, rfl, SqL.of hl2, atI_at hi, b, _, _, _, rfl, rfl, SqL.of hrow, atI_int hj, .int m, rfl, _, _, rfl, rfl, ?_⟩
    refine ⟨.ref b, rfl, .ref l, rfl, .int (0 + (i : Int)), rfl, l, _, _, _, rfl, rfl, SqL.of hl2, atI_at hi, b, _, _, (stepK ks i).2, rfl, rfl, hrow, ixN_of (by rw [List.length_map]; exact hj), ?_⟩
    have hb0 : H b = none := R2.new b (List.mem_of_getElem? hb)
    refine ⟨_, _, rfl, by rw [ringTo_succ]; exact R2.add hs hst.1 hb m, fun c o e => ?_, ?_⟩
    · rw [upd_ne (ne_of_none e hb0)]
      exact k2 c o e
    · rw [upd_ne hlb2]
      exact hl2
  · rintro σ H2 ⟨e4, e5, rfl, R2, k2, hl2⟩
    refine ⟨.ref D1, rfl, D1, rfl, ⟨_, SqL.of R2.a⟩, fun D2 hD2 => ?_⟩
    have hs := ringTo_sq (m := m) hsq hks hn.1 ks.length
    refine lc_tups rfl (show 5 < 6 by decide) hD2 (by rw [hs.1]; omega) R2 fun H3 cs c1 c2 c3 k3 => ?_
    refine ⟨D2, _, rfl, .inl ⟨SqL.of c1, fun t' ht' => ?_⟩⟩
    refine hk t' _ ⟨cs, SqT.of upd_same, c2, fun i c r hc hr => Same.tup (Same.new ht') (SqT.of (c3 i c r hc hr))⟩ fun c o e => ?_
    exact Same.new ht' _ _ (k3 c o (k2 c o e))
end
end Y

set_option Elab.async false
set_option linter.all false
set_option maxRecDepth 100000
set_option maxHeartbeats 4000000
namespace Y
open PySem L2
open SX (S)
open C8 (Cal pe_c pe_gc)
theorem KpX.free {p b : Addr} {H H' : Hp} (k : KpX p H H') (hP : PailAt H' p) (h : H' b = none) : H b = none := by
  cases e : H b with
  | none => rfl
  | some o =>
    by_cases hb : b = p
    · subst hb
      obtain ⟨u, q⟩ := hP.there
      rw [q] at h
      cases h
    · rw [k b o e hb] at h
      cases h
theorem RowsAt.kpx {H0 H H' : Hp} {l p : Addr} {bs : List Addr} {g : Gr} (h : RowsAt H0 H l bs g) (k : KpX p H H') (n1 : l ≠ p) (nb : p ∉ bs) : RowsAt H0 H' l bs g :=
  ⟨k _ _ h.a n1, h.len, h.nd, h.new, h.ne, fun i b r x y => k _ _ (h.row i b r x y) fun z => nb (by rw [← z]; exact List.mem_of_getElem? x)⟩
def g0 (n : Nat) : Gr := List.replicate n (List.replicate n 0)
theorem g0_sq (n : Nat) : Sq n (g0 n) := ⟨List.length_replicate, fun i r h => by
  rw [List.eq_of_mem_replicate (List.mem_of_getElem? h), List.length_replicate]⟩
theorem g0_bal {n : Nat} (h : 2 ≤ n ∧ n ≤ 4) : Bal n (g0 n) := by
  have : n = 2 ∨ n = 3 ∨ n = 4 := by omega
  unfold Bal
  rcases this with rfl | rfl | rfl <;> decide
theorem g0_lie {n : Nat} (h : 2 ≤ n ∧ n ≤ 4) : Lie n (g0 n) 0 := by
  have : n = 2 ∨ n = 3 ∨ n = 4 := by omega
  intro i j hi hj
  rcases this with rfl | rfl | rfl
  · exact (by decide : ∀ i, i < 2 → ∀ j, j < 2 → 0 ≤ ent (g0 2) i j ∧ ent (g0 2) i j ≤ 0) i hi j hj
  · exact (by decide : ∀ i, i < 3 → ∀ j, j < 3 → 0 ≤ ent (g0 3) i j ∧ ent (g0 3) i j ≤ 0) i hi j hj
  · exact (by decide : ∀ i, i < 4 → ∀ j, j < 4 → 0 ≤ ent (g0 4) i j ∧ ent (g0 4) i j ≤ 0) i hi j hj
theorem Lie.mono {n : Nat} {g : Gr} {a b : Int} (h : Lie n g a) (k : a ≤ b) : Lie n g b := fun i j hi hj => ⟨(h i j hi hj).1, Int.le_trans (h i j hi hj).2 k⟩
/-- a number in place is exchanged -/
theorem diag_bal {n : Nat} {g : Gr} (h : Sq n g) (hb : Bal n g) {k : Nat} (hk : k < n) (m : Int) : Bal n (addAt g k k m) := fun j hj => by
  rw [row_add h hk hk, col_add h hk hk, hb j hj]
theorem diag_lie {n : Nat} {g : Gr} {b : Int} (h : Sq n g) (hb : Lie n g b) {k : Nat} (hk : k < n) {y : Int} (hy : 0 ≤ y ∧ y ≤ b) : Lie n (addAt g k k (y - ent g k k)) b := fun i j hi hj => by
  rw [ent_add h hk hk]
  have := hb i j hi hj
  by_cases e : i = k ∧ j = k
  · obtain ⟨rfl, rfl⟩ := e
    rw [if_pos ⟨rfl, rfl⟩]
    omega
  · rw [if_neg e]
    omega
theorem flat_rep (n : Nat) (x : V) : (List.replicate n [x]).flatten = List.replicate n x := by
  induction n with
  | zero => rfl
  | succ n ih => rw [List.replicate_succ, List.flatten_cons, ih, List.replicate_succ]; rfl
section
variable {P : Program} {w : World} {K : PySem.W.Frag} {mg : Str → Option Value} {base : Heap}
abbrev s_drawn_grid : Stmt := top 70
theorem sc_drawn_grid : FnScope ["_law_pail", "_law_size", "_law_grid", "_law_turn", "_law_found", "_law_k", "_law_row"] ["_law_pail", "_law_size"] (defScope s_drawn_grid) := ⟨rfl, rfl, rfl, by decide +kernel, rfl, by decide +kernel, by decide +kernel⟩
/-- a balanced table of n kinds, with numbers from 0 to 10 ** 30 -/
structure Table (n : Nat) (g : Gr) : Prop where
  sq : Sq n g
  bal : Bal n g
  lie : Lie n g 1000000000000000000000000000000
def spGrid (K : PySem.W.Frag) : Sp := fun vs H Q _ => ∃ (p : Addr) (n : Nat), vs = [.ref p, vN n] ∧ PailAt H p ∧ (2 ≤ n ∧ n ≤ 4) ∧ ∀ (g : Gr) (t : Addr) (H' : Hp), Table n g → GridAt K H' t g → PailAt H' p → KpX p H H' → Q (.ref t) H'
theorem ok_drawn_grid (D : DfT K mg "_law_drawn_grid" s_drawn_grid ["_law_pail", "_law_size"]) (T : Tx K mg) (h_cast : Cal P w K mg base 1 "_law_cast" spCast []) (h_any_of : Cal P w K mg base 2 "_law_any_of" (spAny K) []) (h_amount : Cal P w K mg base 3 "_law_amount" spAmt [])
    (h_drawn_ring : Cal P w K mg base 2 "_law_drawn_ring" spRing []) (h_with_ring : Cal P w K mg base 1 "_law_with_ring" (spWith K) []) : Cal P w K mg base 4 "_law_drawn_grid" (spGrid K) [] := by
  have nd := sc_drawn_grid.nd
  refine calS (k := 3) D sc_drawn_grid (fun vs H Q E h => by obtain ⟨p, n, rfl, _⟩ := h; rfl) fun f cdv A outer s H vs Q E hr h => ?_
  let sc : Scope := defScope s_drawn_grid
  refine ⟨_, (pss_cons (ps_set (i := 2) nd rfl (by first | exact Or.inl rfl | exact Or.inr rfl) (pe_callTy (r := rTupOf K) call_tuple_of (by rfl) T.n_tuple (by decide +kernel) (pa_cons (pe_lc (own := [("_law_k", 5)]) (g := gName 5) (by rfl) nd (pi_range1 (by rfl) T.n_range (pa_cons (pv 1) pa_nil)) (blkOk_by (own := [("_law_k", 5)]) (N := ["_law_pail", "_law_size", "_law_grid", "_law_turn", "_law_found", "_law_k", "_law_row"]) (sc := sc) (by decide +kernel)) (fun _ _ _ _ _ => pg_name (i := 5) nd rfl (Or.inl rfl)) (fun _ _ _ _ _ => pts_nil) (fun _ _ _ _ _ => (pe_callTy (r := rTupOf K) call_tuple_of (by rfl) T.n_tuple (by decide +kernel) (pa_cons (pe_op op_rep (pe_lst (pa_cons pe_int pa_nil)) (pv 1)) pa_nil)))) pa_nil)))
    (pss_cons (ps_for PassesOwn.never rfl (pi_range1 (by rfl) T.n_range (pa_cons (pe_c h_cast hr (by decide) (by rfl) (pa_cons (pv 0) (pa_cons pe_int pa_nil))) pa_nil)) (pg_name (i := 3) nd rfl (by first | exact Or.inl rfl | exact Or.inr rfl)) (pss_one (ps_set (i := 2) nd rfl (by first | exact Or.inl rfl | exact Or.inr rfl) (pe_c h_with_ring hr (by decide) (by rfl) (pa_cons (pv 2) (pa_cons (pe_c h_drawn_ring hr (by decide) (by rfl) (pa_cons (pv 0) (pa_cons (pv 1) pa_nil))) (pa_cons (pe_c h_amount hr (by decide) (by rfl) (pa_cons (pv 0) pa_nil)) pa_nil)))))))
    (pss_cons (ps_setLc (i := 4) (own := [("_law_row", 6)]) (g := gName 6) (by rfl) nd rfl rfl (sw_true rfl rfl rfl (by decide +kernel)) (pi_tup (pv 2)) (blkOk_by (own := [("_law_row", 6)]) (N := ["_law_pail", "_law_size", "_law_grid", "_law_turn", "_law_found", "_law_k", "_law_row"]) (sc := sc) (by decide +kernel)) (fun _ _ _ _ _ => pg_name (i := 6) nd rfl (Or.inl rfl)) (fun _ _ _ _ _ => pts_nil) (fun _ _ _ _ _ => (pe_callTy (r := rListOf K) call_list_of (by rfl) T.n_list (by decide +kernel) (pa_cons (pv 6) pa_nil))))
    (pss_cons (ps_for PassesOwn.never rfl (pi_range1 (by rfl) T.n_range (pa_cons (pv 1) pa_nil)) (pg_name (i := 5) nd rfl (by first | exact Or.inl rfl | exact Or.inr rfl)) (pss_cons (ps_set (i := 6) nd rfl (by first | exact Or.inl rfl | exact Or.inr rfl) (pe_ix (r := rIxL K) ix_list (pv 4) (pv 5) (fun _ _ => rfl)))
    (pss_one (ps_asg (pe_c h_any_of hr (by decide) (by rfl) (pa_cons (pv 0) (pa_cons (pe_lst (pa_cons pe_int (pa_cons (pe_c h_cast hr (by decide) (by rfl) (pa_cons (pv 0) (pa_cons pe_int pa_nil))) (pa_cons (pe_c h_amount hr (by decide) (by rfl) (pa_cons (pv 0) pa_nil)) (pa_cons (pe_op op_sub (pe_op op_pow pe_int pe_int) (pe_c h_cast hr (by decide) (by rfl) (pa_cons (pv 0) (pa_cons pe_int pa_nil)))) pa_nil))))) pa_nil))) (pg_sub (pv 6) (pv 5) set_list)))))
    (pss_one (ps_ret (pe_callTy (r := rTupOf K) call_tuple_of (by rfl) T.n_tuple (by decide +kernel) (pa_cons (pe_lc (own := [("_law_row", 6)]) (g := gName 6) (by rfl) nd (pi_list (pv 4)) (blkOk_by (own := [("_law_row", 6)]) (N := ["_law_pail", "_law_size", "_law_grid", "_law_turn", "_law_found", "_law_k", "_law_row"]) (sc := sc) (by decide +kernel)) (fun _ _ _ _ _ => pg_name (i := 6) nd rfl (Or.inl rfl)) (fun _ _ _ _ _ => pts_nil) (fun _ _ _ _ _ => (pe_callTy (r := rTupOf K) call_tuple_of (by rfl) T.n_tuple (by decide +kernel) (pa_cons (pv 6) pa_nil)))) pa_nil)))))))), ?_⟩
  obtain ⟨p, n, rfl, hP, hn, hk⟩ := h
  -- the table of noughts
  refine ⟨vN n, rfl, (n : Int), rfl, by omega, by omega, fun D0 hD0 => ?_⟩
  rw [Int.toNat_natCast]
  refine lc_range (lo := 0) (n := n) (fun i H' => ∃ cs : List Addr, cs.length = i ∧ H' D0 = some (.lst (cs.map V.ref)) ∧ (∀ c ∈ cs, H' c = some (.tup ((List.replicate n (0 : Int)).map vI))) ∧ Same H H') ⟨[], rfl, upd_same, fun c h => (nomatch h), Same.new hD0⟩ ?_ ?_
  · rintro i H1 hi ⟨cs, hc, hD1, hrow, k1⟩
    refine ⟨rfl, (by show 1 ≤ sizeLine; decide), fun l hl => ?_⟩
    refine ⟨vN n, rfl, l, (n : Int), _, rfl, rfl, upd_same, by omega, by omega, ?_, fun l2 hl2 => ?_⟩
    · rw [Int.toNat_natCast]
      exact Nat.le_trans (show 1 * n ≤ 4 by omega) (by decide)
    · rw [Int.toNat_natCast, flat_rep] at *
      refine ⟨l2, _, rfl, .inl ⟨SqL.of upd_same, fun c hc2 => ?_⟩⟩
      have k2 : Same H1 (upd (upd (upd H1 l (.lst [.int 0])) l2 (.lst (List.replicate n (.int 0)))) c (.tup (List.replicate n (.int 0)))) := (Same.new hl).trans ((Same.new hl2).trans (Same.new hc2))
      have hDc := k2 _ _ hD1
      refine ⟨_, hDc, ?_, cs ++ [c], by simp [hc], ?_, ?_, fun d o e => ?_⟩
      · rw [List.length_map]
        exact Nat.lt_of_lt_of_le (show cs.length < 5 by omega) (by decide)
      · rw [upd_same, List.map_append]
        rfl
      · intro d hd
        rcases List.mem_append.mp hd with q | q
        · have q1 := hrow d q
          have hdD : d ≠ D0 := fun z => by subst z; rw [q1] at hD1; cases hD1
          rw [upd_ne hdD]
          exact k2 _ _ q1
        · rw [List.mem_singleton.mp q]
          have hcD : c ≠ D0 := fun z => by subst z; rw [upd_same] at hDc; cases hDc
          rw [upd_ne hcD, upd_same, List.map_replicate]
      · rw [upd_ne (ne_of_none e hD0)]
        exact k2 _ _ (k1 d o e)
  · rintro H1 ⟨cs, hc, hD1, hrow, k1⟩
    refine ⟨D0, _, rfl, .inl ⟨SqL.of hD1, fun t0 ht0 => ?_⟩⟩
    have hP1 := hP.same (k1.trans (Same.new (o := .tup (cs.map V.ref)) ht0))
    have kp1 : KpX p H (upd H1 t0 (.tup (cs.map V.ref))) := KpX.of (k1.trans (Same.new ht0))
    have G0 : GridAt K (upd H1 t0 (.tup (cs.map V.ref))) t0 (g0 n) := by
      refine ⟨cs, SqT.of upd_same, by rw [hc]; exact List.length_replicate.symm, fun i a r ha hr => ?_⟩
      rw [List.eq_of_mem_replicate (List.mem_of_getElem? hr)]
      exact Same.tup (Same.new ht0) (SqT.of (hrow a (List.mem_of_getElem? ha)))
    -- some rings
    refine ⟨.ref p, rfl, p, 7, rfl, hP1, ⟨by decide, by decide⟩, fun r H2 r0 r1 hP2 hk2 => ?_⟩
    refine ⟨r, rfl, by omega, by omega, for_range (n := r.toNat) (fun i σ H' => ∃ (t : Addr) (g : Gr) (e3 e4 e5 e6 : Option V), σ = [some (.ref p), some (vN n), some (.ref t), e3, e4, e5, e6] ∧ GridAt K H' t g ∧ Sq n g ∧ Bal n g ∧ Lie n g (100000000000000000000000000000 * (i : Int)) ∧ PailAt H' p ∧ KpX p H H') ⟨t0, g0 n, none, none, none, none, rfl, G0.kpx hP1 hk2, g0_sq n, g0_bal hn, (g0_lie hn).mono (by simp), hP2, kp1.trans hk2⟩ ?_ ?_⟩
    · rintro i σ H3 hi ⟨t, g, e3, e4, e5, e6, rfl, G, hsq, hb, hli, hP3, hk3⟩
      refine ⟨.ref t, rfl, .ref p, rfl, vN n, rfl, p, n, rfl, hP3, hn, fun ks l H4 q1 q2 q3 q4 q5 q6 hP4 hk4 => ?_⟩
      refine ⟨.ref p, rfl, p, rfl, hP4, fun m H5 m0 m1 hP5 hk5 => ?_⟩
      refine ⟨t, l, m, n, g, ks, rfl, (G.kpx hP3 hk4).kpx hP4 hk5, hk5 _ _ q5 q6, hsq, ⟨by omega, hn.2⟩, q2, by omega, fun t' H6 G' k6 => ?_⟩
      refine ⟨t', _, _, _, _, _, rfl, G', ringTo_sq hsq q2 (by omega) _, withR_bal hsq hb q2 q1 q3 (by omega) (by omega), (withR_lie hsq hli m0 q2 q1 q3 (by omega) (by omega)).mono ?_, hP5.same k6, hk3.trans (hk4.trans (hk5.trans (.of k6)))⟩
      omega
    · rintro σ H3 ⟨t, g, e3, e4, e5, e6, rfl, G, hsq, hb, hli, hP3, hk3⟩
      have hli2 : Lie n g 1000000000000000000000000000000 := hli.mono (by omega)
      -- the things in place
      obtain ⟨as, hta, hal, har⟩ := G.ex
      refine ⟨.ref t, rfl, t, rfl, ⟨_, hta⟩, fun D1 hD1 => ?_⟩
      refine lc_rows rfl (show 6 < 7 by decide) hD1 hal (by rw [hsq.1]; omega) hta har fun H4 bs R1 k4 => ?_
      have hP4 := hP3.same k4
      have nD : D1 ≠ p := pail_ne hP3 hD1
      have nb : p ∉ bs := fun z => by
        obtain ⟨u, e⟩ := hP3.there
        have := R1.new p z
        rw [e] at this
        cases this
      refine ⟨vN n, rfl, (n : Int), rfl, by omega, by omega, ?_⟩
      rw [Int.toNat_natCast]
      refine for_range (n := n) (fun i σ H' => ∃ (g' : Gr) (e5 e6 : Option V), σ = [some (.ref p), some (vN n), some (.ref t), e3, some (.ref D1), e5, e6] ∧ RowsAt H3 H' D1 bs g' ∧ Sq n g' ∧ Bal n g' ∧ Lie n g' 1000000000000000000000000000000 ∧ PailAt H' p ∧ KpX p H H') ⟨g, e5, e6, rfl, R1, hsq, hb, hli2, hP4, hk3.trans (.of k4)⟩ ?_ ?_
      · rintro i σ H5 hi ⟨g', e5', e6', rfl, R5, hsq5, hb5, hl5, hP5, hk5⟩
        have hbl : i < bs.length := by rw [R5.len, hsq5.1]; exact hi
        obtain ⟨b, hbb⟩ := at_some hbl
        have hig : i < g'.length := by rw [hsq5.1]; exact hi
        refine ⟨.ref D1, rfl, vN i, ?_, D1, _, _, .ref b, rfl, rfl, SqL.of R5.a, atI_ref hbb, ?_⟩
        · show some (some (V.int (0 + (i : Int)))) = _
          rw [Int.zero_add]
        refine ⟨.ref p, rfl, .ref p, rfl, p, 6, rfl, hP5, ⟨by decide, by decide⟩, fun y1 H6 y10 y11 hP6 hk6 => ?_⟩
        refine ⟨.ref p, rfl, p, rfl, hP6, fun y2 H7 y20 y21 hP7 hk7 => ?_⟩
        refine ⟨10, 30, rfl, rfl, ⟨by decide, by decide, by decide⟩, .ref p, rfl, p, 3, rfl, hP7, ⟨by decide, by decide⟩, fun y3 H8 y30 y31 hP8 hk8 => ?_⟩
        refine ⟨_, _, rfl, rfl, (by show 4 ≤ sizeLine; decide), fun l hl => ?_⟩
        have R8 := ((R5.kpx hk6 nD nb).kpx hk7 nD nb).kpx hk8 nD nb
        have k8 : KpX p H H8 := hk5.trans (hk6.trans (hk7.trans hk8))
        refine ⟨p, l, _, rfl, hP8.same (Same.new hl), SqL.of upd_same, pail_ne hP8 hl, ⟨(show 0 < 4 by decide), (show 4 < 1000 by decide)⟩, fun v H9 hv hP9 hk9 => ?_⟩
        have hy : ∃ y : Int, v = vI y ∧ 0 ≤ y ∧ y ≤ 1000000000000000000000000000000 := by
          simp only [List.mem_cons, List.not_mem_nil, or_false] at hv
          rcases hv with rfl | rfl | rfl | rfl
          · exact ⟨0, rfl, by decide, by decide⟩
          · exact ⟨y1, rfl, y10, by omega⟩
          · exact ⟨y2, rfl, y20, by omega⟩
          · refine ⟨(10 : Int) ^ (30 : Int).toNat - y3, rfl, ?_, ?_⟩
            · have : (10 : Int) ^ (30 : Int).toNat = 1000000000000000000000000000000 := by decide
              omega
            · have : (10 : Int) ^ (30 : Int).toNat = 1000000000000000000000000000000 := by decide
              omega
        obtain ⟨y, rfl, y0, y9⟩ := hy
        have R9 := (R8.same (Same.new (o := .lst [.int 0, .int y1, .int y2, .int ((10 : Int) ^ (30 : Int).toNat - y3)]) hl)).kpx hk9 nD nb
        have hrow := R9.row i b _ hbb (getD_at hig)
        have hrl := hsq5.row hi
        have R10 := R9.add (i := i) (j := i) hsq5 hi hbb (y - ent g' i i)
        have ey : (g'.getD i []).getD i 0 + (y - ent g' i i) = y := by
          show ent g' i i + (y - ent g' i i) = y
          omega
        rw [ey] at R10
        have hb0 : H b = none := hk3.free hP3 (R5.new b (List.mem_of_getElem? hbb))
        have hbp : p ≠ b := fun z => nb (by rw [z]; exact List.mem_of_getElem? hbb)
        refine ⟨.ref b, rfl, vN i, ?_, b, _, _, i, rfl, rfl, hrow, ixN_of (by rw [List.length_map, hrl]; exact hi), addAt g' i i (y - ent g' i i), _, _, rfl, R10, hsq5.add hi _, diag_bal hsq5 hb5 hi _, diag_lie hsq5 hl5 hi ⟨y0, y9⟩, ?_, fun c o e hc => ?_⟩
        · show some (some (V.int (0 + (i : Int)))) = _
          rw [Int.zero_add]
        · obtain ⟨x, y, z, hq, ep⟩ := hP9.ex
          exact ⟨x, y, z, hq, by rw [upd_ne hbp]; exact ep⟩
        · rw [upd_ne (ne_of_none e hb0)]
          exact hk9 _ _ (Same.new hl _ _ (k8 c o e hc)) hc
      · rintro σ H5 ⟨g', e5', e6', rfl, R5, hsq5, hb5, hl5, hP5, hk5⟩
        refine ⟨.ref D1, rfl, D1, rfl, ⟨_, SqL.of R5.a⟩, fun D2 hD2 => ?_⟩
        refine lc_tups rfl (show 6 < 7 by decide) hD2 (by rw [hsq5.1]; omega) R5 fun H6 cs2 c1 c2 c3 k6 => ?_
        refine ⟨D2, _, rfl, .inl ⟨SqL.of c1, fun t' ht' => ?_⟩⟩
        exact hk g' t' _ ⟨hsq5, hb5, hl5⟩ ⟨cs2, SqT.of upd_same, c2, fun i c r hc hr => Same.tup (Same.new ht') (SqT.of (c3 i c r hc hr))⟩ (hP5.same (k6.trans (Same.new ht'))) (hk5.trans (.of (k6.trans (Same.new ht'))))
end
end Y

set_option Elab.async false
set_option linter.all false
set_option maxRecDepth 100000
set_option maxHeartbeats 4000000
namespace PySem
open Sem (wp)
set_option maxHeartbeats 1000000 in
theorem meets_enumerate_new1 {v : Value} {o : Obj} {H : Heap → Prop} (B : Begins v o H) :
    Meets (Builtin.«enumerate.__new__» ⟨[.type "enumerate", v], []⟩) (fun _ R s => H s.heap ∧
      R (.ok (.ret (.ref (s.heap.push o).objs.size))) { s with heap := (s.heap.push o).push { cls := .type "enumerate", data := .fields #[.none, .bool false, .ref s.heap.objs.size, rawInt 0, .none, .none] } }) :=
  .of_wp fun prog w A R s h => by
    obtain ⟨hp, g, d, tk, os⟩ := s; obtain ⟨h1, h⟩ := h
    have hsub := sub_enumerate
    have q1 : ∀ {A' : Around} {E : Value → Shared → Prop} {Q : Value → Shared → Prop}, Q (.ref hp.objs.size) ⟨hp.push o, g, d, tk, os⟩ → wpAny (model prog w) A' (pyIter v) Q E ⟨hp, g, d, tk, os⟩ :=
      fun q => B.iter prog w _ _ ⟨hp, g, d, tk, os⟩ _ h1 q
    wp_walk using q1
    refine wpAny_stack_any fun st => wpAny_pure ?_
    split
    · rename_i c _ _ _ _ _
      cases (c == Value.type "enumerate")
      · wp_walk using q1
        exact ⟨_, rfl, h⟩
      · wp_walk using q1
        exact ⟨_, rfl, h⟩
    · wp_walk using q1
      exact ⟨_, rfl, h⟩
section
variable {prog : Program} {w : World} {A : Around} {E : Value → Shared → Prop} {s : Shared}
theorem call_enumerate_tuple {t : Addr} {items : Array Value} {Q : Value → Shared → Prop} (h1 : s.heap.IsTuple t items)
    (h : ∀ h', IsEnum h' (s.heap.objs.size + 1) s.heap.objs.size 0 .none → h'.IsTupleIter s.heap.objs.size t 0 → h'.objs.size = s.heap.objs.size + 2 →
      (∀ b o, s.heap.get? b = some o → h'.get? b = some o) → Q (.ref (s.heap.objs.size + 1)) { s with heap := h' }) :
    wpAny (model prog w) A (call (.type "enumerate") [.ref t]) Q E s := by
  have B := begins_tuple t items
  refine callType_new F.called_enumerate (by decide) (F.typeCall_enumerate_1 _) (F.newCall_enumerate_1 _) (fun obj => F.args_object_init_2 obj _) F.entry_enumerate_new
    (meets_enumerate_new1 B) ⟨h1, ?_⟩
  have hz : (s.heap.push { cls := .type "tuple_iterator", data := .fields #[.ref t, .int 0 0] }).objs.size = s.heap.objs.size + 1 := Heap.size_push ..
  show _ ∧ _
  rw [hz]
  have he : IsEnum ((s.heap.push { cls := .type "tuple_iterator", data := .fields #[.ref t, .int 0 0] }).push { cls := .type "enumerate", data := .fields #[.none, .bool false, .ref s.heap.objs.size, rawInt 0, .none, .none] }) (s.heap.objs.size + 1) s.heap.objs.size 0 .none := by
    have := Heap.get?_push_size (s.heap.push { cls := .type "tuple_iterator", data := .fields #[.ref t, .int 0 0] }) (o := { cls := .type "enumerate", data := .fields #[.none, .bool false, .ref s.heap.objs.size, rawInt 0, .none, .none] }) rfl
    rw [hz] at this; exact this
  refine ⟨⟨_, he, rfl⟩, h _ he ⟨_, Heap.get?_push_of_some _ (Heap.get?_push_size _ rfl), rfl, rfl⟩ (by rw [Heap.size_push, hz]) fun b o x => Heap.get?_push_of_some _ (Heap.get?_push_of_some _ x)⟩
theorem enumT_end {e it l : Addr} {i : Nat} {items : Array Value} {old : Value} {Q : Option Value → Shared → Prop} (hh : A.handled = none)
    (he : IsEnum s.heap e it i old) (hit : s.heap.IsTupleIter it l i) (hl : s.heap.IsTuple l items) (hx : items[i]? = none)
    (hQ : ∀ h', Heap.ExtBut it s.heap h' → Q none { s with heap := h' }) : wpAny (model prog w) A (pyNext (.ref e)) Q E s := by
  have hT : s.TypeIs (.ref e) "enumerate" := ⟨_, he, rfl⟩
  unfold pyNext
  refine wpAny_bind (wpAny_attempt (wpAny_callSpecial?_slot (name := Str.ofString "__next__") hT F.slot_enumerate_next
    (wpAny_call_entry F.slot_enumerate_next hT F.entry_enumerate_next ?_ (F.args_enumerate_next_1 _))))
  show wpAny _ _ (field (.ref e) 2 >>= _) _ _ _
  refine wpAny_bind (wpAny_field he rfl (x := .ref it) rfl ?_)
  refine wpAny_bind (wpAny_nextOf_tuple_end hh hit hl hx fun h' x he' hx' => ?_)
  obtain ⟨o, ho, hc⟩ := hx'
  refine wpAny_bind (wpAny_isInstance (T := "StopIteration") (b := true) ⟨o, ho, hc⟩ isSubtype_stop ?_)
  exact wpAny_pure (hQ _ he')
end
end PySem
namespace L2
open PySem PySem.Spec PyProof.Rows
/-! ### enumerate(tuple) -/
def IteT (K : PySem.W.Frag) (a : Addr) : It :=
  ⟨fun i H => ∃ (xs : List V) (x : V), SqT K H a xs ∧ xs[i]? = some x, fun i H v H' => ∃ T x, v = .ref T ∧ H T = none ∧ H' = upd H T (.tup [.int (i : Nat), x]) ∧ ∀ xs, SqT K H a xs → xs[i]? = some x, fun i H => ∃ xs : List V, SqT K H a xs ∧ xs.length ≤ i⟩
theorem turn_enumT {P : Program} {w : World} {K : PySem.W.Frag} {elts : List Expr} {kk : Nat} {tpos : Pos} (a e it : Addr) (hai : a ≠ it) :
    Turn P w K (.Tuple elts kk tpos) (IteT K a) [e, it] e (fun i h => (∃ old, IsEnum h e it ((i : Nat) : Int) old) ∧ h.IsTupleIter it a i ∧ e ≠ it) where
  mem := by simp
  obj := fun i h st b hb => by
    obtain ⟨⟨old, he⟩, ⟨o, ho, hc, hd⟩, _⟩ := st
    have e' : b = e ∨ b = it := by simpa using hb
    rcases e' with z | z
    · rw [z]; exact ⟨_, he, fun v q => nomatch q⟩
    · rw [z]; exact ⟨o, ho, fun v q => by rw [hd] at q; cases q⟩
  keep := fun i h h' st k => let ⟨⟨old, he⟩, hi, hne⟩ := st; ⟨⟨old, k e (by simp) _ he⟩, hi.at fun o q => k it (by simp) o q, hne⟩
  item := by
    intro X hP hw hK hc i pins s σ H E I hf st hg
    subst hP hw hK
    obtain ⟨⟨old, he⟩, hit, hne⟩ := st
    obtain ⟨xs, x, hq, hx⟩ := hg
    obtain ⟨its, rv, p, hz⟩ := I.tuple hq
    obtain ⟨u, hu, ru⟩ := rv.get hx
    have hel : e < s.heap.objs.size := Heap.lt_size he
    have hil : it < s.heap.objs.size := by obtain ⟨_, q, _⟩ := hit; exact Heap.lt_size q
    have hT0 : s.heap.IsTuple a its.toArray := p
    have hea : e ≠ a := fun z => by
      subst z
      obtain ⟨o, ho, hc', _⟩ := hT0
      rw [show s.heap.get? e = _ from he] at ho
      cases ho
      have hq' : ("enumerate" : String) = "tuple" := by injection hc'
      exact absurd hq' (by decide)
    refine wpAny_pyNext_enum_itemD (Draws.tuple (A := X.A.in1) (I.ok.hd hc) it a hai its.toArray) he ⟨hit, hT0⟩ (by simpa using (List.getElem?_eq_some_iff.mp hu).1) hne (by simp [hne, hea]) fun x' h' tk hPx ho hst' hT hsz hk => ?_
    obtain rfl : x' = u := by
      have h1 : its.toArray[i]? = some x' := hPx
      have h2 : its.toArray[i]? = some u := by simpa using hu
      rw [h2] at h1
      exact (Option.some.inj h1).symm
    refine ⟨_, rfl, wpAny_letOwnedTupleGo_enum (s := { s with heap := h', toks := tk + 1 }) ho fun h'' he' sb => ?_⟩
    have hT2 : h''.get? s.heap.objs.size = some { cls := .type "tuple", data := .seq #[.int i tk, x'] } := (sb.2 _ (Nat.ne_of_gt hel)).trans hT
    have new : ObjOk X.prog X.w (upd H s.heap.objs.size (.tup [.int (i : Nat), x])) h'' s.heap.objs.size (.tup [.int (i : Nat), x]) :=
      ⟨by show 2 ≤ sizeLine; decide, [.int i tk, x'], .cons ⟨_, rfl⟩ (.cons ru .nil), ⟨_, hT2, rfl, _, rfl⟩⟩
    have I1 : Inv X pins σ (upd H s.heap.objs.size (.tup [.int (i : Nat), x])) { s with heap := h'', toks := tk + 1 } :=
      I.turnedNew (ch := [e, it]) (fun b ob hb q => (sb.2 b (fun z => hb (by simp [z]))).trans (hk b ob (fun z => hb (by simp [z])) (fun z => hb (by simp [z])) q)) hf (Nat.le_refl _) new
    refine ⟨.ref s.heap.objs.size, _, I1, rfl, ⟨_, x, rfl, I.hok.fresh (Nat.le_refl _), rfl, fun ys hy => by rw [I.tuple_inj hy hq]; exact hx⟩, ⟨⟨x', ?_⟩, hst'.1.at fun o q => (sb.2 it (Ne.symm hne)).trans q, hne⟩, fun b hb => ?_⟩
    · have e1 : ((i + 1 : Nat) : Int) = (i : Int) + 1 := by omega
      rw [e1]; exact he'
    · have hb' : b < s.heap.objs.size := by
        have e' : b = e ∨ b = it := by simpa using hb
        rcases e' with z | z
        · rw [z]; exact hel
        · rw [z]; exact hil
      rw [upd_ne (Nat.ne_of_lt hb')]
      exact (hf b hb).1
  done := by
    intro X hP hw hK hc i pins s σ H E I hf st hg
    subst hP hw hK
    obtain ⟨⟨old, he⟩, hit, hne⟩ := st
    obtain ⟨xs, hq, hx⟩ := hg
    obtain ⟨its, rv, p, hz⟩ := I.tuple hq
    obtain ⟨f0, f1, f2, f3, f4, f5⟩ := hf it (by simp)
    have hl := rv.length
    exact enumT_end (I.ok.hd hc) he hit p (by simp; omega) fun h' eb => ⟨rfl, I.turned (t' := s.toks) (fun b o hb q => eb b o hb q) f0 f1 f3 f4 f5⟩
  self := fun A i s Q E st h => let ⟨⟨_, he⟩, _⟩ := st; wpAny_pyIter_enum he h
def iEnumT (K : PySem.W.Frag) (ta : TA) : TI := fun σ H R => ta σ H fun vs H1 => ∃ a xs, vs = [.ref a] ∧ SqT K H1 a xs ∧ R (IteT K a) H1
theorem pi_enumT {X : Cx} {e : Expr} {ta : TA} {p pos tpos : Pos} {elts : List Expr} {kk : Nat} (hg : Gl X "enumerate") (hm : X.mg "enumerate" = none) (ha : PA X [e] ta) (hs : starEach [e] X.env = [(false, eval e X.env)] := by rfl) :
    PI X (.Tuple elts kk tpos) (.Call (.Name "enumerate" p) [e] [] pos) (iEnumT X.K ta) := by
  refine ⟨fun pins s σ H R I h => ?_⟩
  refine Call_ (ld_blt I hg hm boot_enumerate (PyProof.Rows.callWith_type1 (thn (ha.run pos pins s σ H _ I h) fun us s1 ⟨vs, H1, I1, r1, q1⟩ => ?_) hs rfl))
  obtain ⟨a, xs, ex, hq, q⟩ := q1
  subst ex
  cases r1 with
  | cons r rr =>
    cases rr
    cases r
    obtain ⟨its, rv, p', hz⟩ := I1.tuple hq
    have hal : a < s1.heap.objs.size := by obtain ⟨o, ho, _⟩ := p'; exact Heap.lt_size ho
    refine call_enumerate_tuple p' fun h' he hit hsz hk => wpAny_pyIter_enum he ?_
    have I2 : Inv X pins σ H1 { s1 with heap := h' } := I1.kept (t' := s1.toks) hk
    refine ⟨s1.heap.objs.size + 1, [s1.heap.objs.size + 1, s1.heap.objs.size], _, _, H1, rfl, I2, turn_enumT a (s1.heap.objs.size + 1) s1.heap.objs.size (Nat.ne_of_lt hal), ⟨⟨.none, he⟩, hit, Nat.succ_ne_self _⟩, fun b hb => ?_, q⟩
    have e' : b = s1.heap.objs.size + 1 ∨ b = s1.heap.objs.size := by simpa using hb
    have hle : s1.heap.objs.size ≤ b := by
      rcases e' with z | z
      · rw [z]; exact Nat.le_add_right _ _
      · rw [z]; exact Nat.le_refl _
    exact I1.fpOk hle (I1.hok.fresh hle)
theorem for_enumT {K : PySem.W.Frag} {a : Addr} {xs : List V} {g : TG} {tb : TS} {D : Ends} {σ : St} {H : Hp} (Pv : Nat → St → Hp → Prop) (h0 : Pv 0 σ H) (hl : ∀ i σ H, i ≤ xs.length → Pv i σ H → SqT K H a xs)
    (hs : ∀ i x T σ H, xs[i]? = some x → Pv i σ H → H T = none → g (.ref T) σ (upd H T (.tup [.int (i : Nat), x])) fun σ2 H2 => tb { D with nx := Pv (i + 1), ct := Pv (i + 1), bk := D.nx } σ2 H2) (hd : ∀ σ H, Pv xs.length σ H → D.nx σ H) :
    ∃ W : Nat → Nat → St → Hp → Prop, (∃ m, W 0 m σ H) ∧ ∀ i m σ H, W i m σ H →
      ((IteT K a).stop i H ∧ D.nx σ H) ∨ ((IteT K a).go i H ∧ ∃ N : St → Hp → Prop, (∀ σ' H', N σ' H' → ∃ m', m' < m ∧ W (i + 1) m' σ' H') ∧ ∀ x H', (IteT K a).yld i H x H' → g x σ H' fun σ2 H2 => tb { D with nx := N, ct := N, bk := D.nx } σ2 H2) := by
  refine ⟨fun i m σ H => m = xs.length - i ∧ i ≤ xs.length ∧ Pv i σ H, ⟨xs.length, by simp, Nat.zero_le _, h0⟩, ?_⟩
  rintro i m σ H ⟨rfl, hi, p⟩
  have q := hl i σ H hi p
  by_cases hlt : i < xs.length
  · refine .inr ⟨⟨xs, xs[i], q, List.getElem?_eq_getElem hlt⟩, Pv (i + 1), fun σ' H' p' => ⟨xs.length - (i + 1), by omega, rfl, hlt, p'⟩, fun x H' y => ?_⟩
    obtain ⟨T, x0, rfl, hT, rfl, hx⟩ := y
    exact hs i x0 T σ H (hx xs q) p hT
  · have : i = xs.length := by omega
    subst this
    exact .inl ⟨⟨xs, q, Nat.le_refl _⟩, hd σ H p⟩
/-! ### sum(tuple) -/
def rSumT (K : PySem.W.Frag) : List V → Hp → VK → Prop := fun vs H Q => ∃ (a : Addr) (ns : List Int), vs = [V.ref a] ∧ SqT K H a (ns.map V.int) ∧ Q (.int ns.sum) H
theorem cr_sumT {X : Cx} (hc : X.calm = true) : CallR X (.builtin "sum") (rSumT X.K) := by
  intro pins s σ H vs us Q I r h
  obtain ⟨a, ns, rfl, hs, q⟩ := h
  obtain ⟨its, rv, hl, _⟩ := I.tuple hs
  rw [Vals.ref1 r]
  have hi := rv.ints
  obtain ⟨xs, e⟩ := hi.allInts.items
  have hn : numsOf (intItems xs).toList = ns := by rw [← e]; exact hi.numsOf
  rw [nums_intItems] at hn
  rw [e] at hl
  refine PySem.W.ktm_sumG (I.ok.hd hc) hl fun h' tk t' hk => ?_
  rw [preSum_eq, List.take_of_length_le (by simp), hn]
  exact ⟨.int _, H, I.kept hk, ⟨_, rfl⟩, q⟩
end L2

set_option Elab.async false
set_option linter.all false
set_option maxRecDepth 100000
set_option maxHeartbeats 4000000
namespace PySem.W
open PySem PySem.Calls PyProof.Rows Builtin
section
variable {prog : Program} {w : World} {A : Around} {E : Value → Shared → Prop} {s : Shared} {K : Frag} {x C L f : Addr} {h₀ : Heap} {m : Str → Option Value} {ox : Obj} {od : Option Obj}
/-- the truth of an object that tells its length -/
theorem truthy_len {Q : Bool → Shared → Prop} (X : K.In s.heap) (I : InstAt s.heap x ox C od) (hb : findIn K (.ref C) "__bool__" = some none) (hs : findIn K (.ref C) "__len__" = some (some (.ref f))) (hf : isFn K (.ref f) = true)
    (h : wpAny (model prog w) A.in1 (call (.ref f) [.ref x]) (LenBack fun v s' => ∃ n t, v = .int n t ∧ Q (n != 0) s') E s) : wpAny (model prog w) A (truthy (.ref x)) Q E s := by
  unfold truthy
  refine wpAny_bind (m := callSpecial? (.ref x) (Str.ofString "__bool__")) (wpAny_bind (wpAny_bind (I.type.here ((looks_findIn X hb).here (wpAny_pure ?_)))))
  refine wpAny_bind (wpAny_bind (I.type.here ((looks_findIn X hs).here ?_)))
  show wpAny _ _ (if (some (Value.ref f)).isNone = true then _ else _) _ _ _
  rw [if_neg (by simp)]
  refine wpAny_bind (wpAny_runValue (codeAny_builtin entry_len ?_))
  rw [Around.under_plainId plain_len _]
  unfold Builtin.«len»
  refine wpAny_bind (m := oneArg "len" ⟨[.ref x], []⟩) (wpAny_pure ?_)
  refine wpAny_bind (m := callSpecial? (.ref x) (Str.ofString "__len__")) (special_fn X I hs (beq_iff_eq.mp hf) (wpAny_mono h (fun v s' q => ?_) fun _ _ z => z))
  cases v with
  | int n t =>
    obtain ⟨⟨h0, h1⟩, n', t', e, q⟩ := q
    cases e
    refine wpAny_bind (wpAny_holding (wpAny_pure (wpAny_bind (wpAny_letGo ?_))))
    show wpAny _ _ (if n < 0 then _ else _) _ _ _
    rw [if_neg (Int.not_lt.mpr h0)]
    show wpAny _ _ (if n ≥ 2 ^ 63 then _ else _) _ _ _
    rw [if_neg (Int.not_le.mpr h1)]
    exact wpAny_bind (wpAny_mkInt (wpAny_pure (wpAny_pure q)))
  | _ => exact q.elim
/-- bool(o) -/
theorem call_bool_len {Q : Value → Shared → Prop} (X : K.In s.heap) (I : InstAt s.heap x ox C od) (hb : findIn K (.ref C) "__bool__" = some none) (hs : findIn K (.ref C) "__len__" = some (some (.ref f))) (hf : isFn K (.ref f) = true)
    (h : codeAny (model prog w) A.in1.in1.in1 (.call (.ref f) ⟨[.ref x], []⟩) (fun r s' => match r with | .ok (.ret v) => LenBack (fun v s' => ∃ n t, v = .int n t ∧ Q (.bool (n != 0)) s') v s' | .ok _ => False | .error e => E e s') s) : wpAny (model prog w) A (call (.type "bool") [.ref x]) Q E s := by
  refine callType_codes (T := "bool") (Bi := Builtin.«object.__init__») (Q₁ := fun r s₁ => ∃ b, r = .bool b ∧ Q r s₁) PySem.F.called_bool (PySem.F.typeCall_bool_1 _) PySem.F.entry_object_init ?_ ?_
  · refine codeAny_of_tree ?_
    show wpAny _ A.in1.in1 (do checkBuiltinCall "bool.__new__" ⟨[.type "bool", .ref x], []⟩; again (.builtin "bool.__new__" ⟨[.type "bool", .ref x], []⟩)) _ _ s
    refine wpAny_bind (wpAny_of_eq (PySem.F.newCall_bool_1 _) (wpAny_pure ⟨plainId_quiet (by decide +kernel) _, codeAny_builtin PySem.F.entry_bool_new ?_⟩))
    rw [Around.under_plainId (by decide +kernel) _]
    have f1 := PySem.F.conv_sub_bool
    repeat (any_goals (first | assumption | (with_reducible refine truthy_len X I hb hs hf ?_) | wp_step))
    refine codeAny_mono h fun r s' q => ?_
    match r, q with
    | .ok (.ret v), q =>
      cases v with
      | int n t =>
        obtain ⟨hn, n', t', e, q⟩ := q
        cases e
        exact ⟨hn, n, _, rfl, wpAny_pure ⟨_, rfl, q⟩⟩
      | _ => exact q.elim
    | .error e, q => exact q
  · rintro obj s₁ ⟨b, rfl, hq⟩
    exact ⟨rfl, PySem.F.args_object_init_2 _ _, object_init_meets PySem.F.called_bool.init.lookup PySem.F.called_bool.made (by decide) prog w A.in1 _ s₁ ⟨rfl, rfl, hq⟩⟩
end
end PySem.W

set_option Elab.async false
set_option linter.all false
set_option maxRecDepth 100000
set_option maxHeartbeats 4000000
namespace Y
open PySem L2
open SX (S)
open C8 (Cal pe_c pe_gc)
/-! ### values judged -/
theorem TyX.same {K : PySem.W.Frag} {H H' : Hp} {v : V} {t : Value} (k : Same H H') (h : TyX K H v t) : TyX K H' v t := by
  cases h with
  | base b =>
    cases b with
    | non => exact .base .non
    | bl x => exact .base (.bl x)
    | int i => exact .base (.int i)
    | str x => exact .base (.str x)
    | flt x => exact .base (.flt x)
    | lst e => exact .base (.lst (k _ _ e))
    | frz e => exact .base (.frz (k _ _ e))
    | tup e => exact .base (.tup (k _ _ e))
    | dK e => exact .base (.dK (k _ _ e))
    | dT e => exact .base (.dT (k _ _ e))
    | ins e a b c d f => exact .base (.ins (k _ _ e) a b c d f)
  | byt b => exact .byt b
  | set e => exact .set (k _ _ e)
  | kList e c => exact .kList e c
  | kTuple e c => exact .kTuple e c
  | kDict e c => exact .kDict e c
  | fTuple e => exact .fTuple (k _ _ e)
  | fDict e => exact .fDict (k _ _ e)
section
variable {P : Program} {w : World} {K : PySem.W.Frag} {mg : Str → Option Value} {base : Heap}
abbrev s_is_integer : Stmt := top 31
theorem sc_is_integer : FnScope ["value"] ["value"] (defScope s_is_integer) := ⟨rfl, rfl, rfl, by decide +kernel, rfl, by decide +kernel, by decide +kernel⟩
def spIsInt (K : PySem.W.Frag) : Sp := fun vs H Q _ => ∃ (v : V) (t : String) (b1 b2 : Bool), vs = [v] ∧ TyX K H v (.type t) ∧ kitB t "int" = some b1 ∧ kitB t "bool" = some b2 ∧ Q (.bl (b1 && !b2)) H
theorem ok_is_integer (D : DfT K mg "is_integer" s_is_integer ["value"]) (T : Tx K mg) : Cal P w K mg base 1 "is_integer" (spIsInt K) [] := by
  have nd := sc_is_integer.nd
  refine calS (k := 0) D sc_is_integer (fun vs H Q E h => by obtain ⟨v, t, b1, b2, rfl, _⟩ := h; rfl) fun f cdv A outer s H vs Q E hr h => ?_
  let sc : Scope := defScope s_is_integer
  refine ⟨_, (pss_one (ps_ret (pe_and (pe_callB (r := rIsi K) call_isi (by rfl) T.n_isinstance (by decide +kernel) (pa_cons (pv 0) (pa_cons (pe_bltn (v := .ty "int") (by rfl) T.n_int (by decide +kernel) rfl) pa_nil))) (pe_one (pe_not (pe_callB (r := rIsi K) call_isi (by rfl) T.n_isinstance (by decide +kernel) (pa_cons (pv 0) (pa_cons (pe_bltn (v := .ty "bool") (by rfl) T.n_bool (by decide +kernel) rfl) pa_nil)))))))), ?_⟩
  obtain ⟨v, t, b1, b2, rfl, ht, h1, h2, hk⟩ := h
  refine ⟨v, rfl, v, .ty "int", .type t, .type "int", b1, rfl, .ty _, ht, kit_ty h1, b1, rfl, ?_⟩
  cases b1 with
  | false => exact hk
  | true =>
    refine ⟨v, rfl, v, .ty "bool", .type t, .type "bool", b2, rfl, .ty _, ht, kit_ty h2, b2, rfl, ?_⟩
    exact hk
abbrev s_is_number : Stmt := top 32
theorem sc_is_number : FnScope ["value", "least"] ["value", "least"] (defScope s_is_number) := ⟨rfl, rfl, rfl, by decide +kernel, rfl, by decide +kernel, by decide +kernel⟩
def spNum (K : PySem.W.Frag) : Sp := fun vs H Q _ => (∃ (i l : Int), vs = [vI i, vI l] ∧ Q (.bl (decide (l ≤ i))) H) ∨
  ∃ (v u : V) (t : String) (b1 b2 : Bool), vs = [v, u] ∧ TyX K H v (.type t) ∧ kitB t "int" = some b1 ∧ kitB t "bool" = some b2 ∧ (b1 && !b2) = false ∧ Q (.bl false) H
theorem ok_is_number (D : DfT K mg "is_number" s_is_number ["value", "least"]) (T : Tx K mg) (his_integer : Cal P w K mg base 1 "is_integer" (spIsInt K) []) : Cal P w K mg base 2 "is_number" (spNum K) [] := by
  have nd := sc_is_number.nd
  refine calS (k := 1) D sc_is_number (fun vs H Q E h => by rcases h with ⟨i, l, rfl, _⟩ | ⟨v, u, t, b1, b2, rfl, _⟩ <;> rfl) fun f cdv A outer s H vs Q E hr h => ?_
  let sc : Scope := defScope s_is_number
  refine ⟨_, (pss_one (ps_ret (pe_and (pe_c his_integer hr (by decide) (by rfl) (pa_cons (pv 0) pa_nil)) (pe_one (pe_cmpR op_ge (pv 0) (pv 1) (nomark _)))))), ?_⟩
  rcases h with ⟨i, l, rfl, hk⟩ | ⟨v, u, t, b1, b2, rfl, ht, h1, h2, hb, hk⟩
  · refine ⟨vI i, rfl, vI i, "int", true, false, rfl, .base (.int i), by decide +kernel, by decide +kernel, true, rfl, ?_⟩
    exact ⟨vI i, rfl, vI l, rfl, _, _, rfl, rfl, hk⟩
  · refine ⟨v, rfl, v, t, b1, b2, rfl, ht, h1, h2, false, by rw [hb], ?_⟩
    exact hk
abbrev s_is_row : Stmt := top 37
theorem sc_is_row : FnScope ["value", "count", "number"] ["value", "count"] (defScope s_is_row) := ⟨rfl, rfl, rfl, by decide +kernel, rfl, by decide +kernel, by decide +kernel⟩
def rowB (x : Int) : Bool := decide (0 ≤ x) && decide (x ≤ 1000000000000000000000000000000)
/-- no integer, or a truth -/
def NoInt (K : PySem.W.Frag) (H : Hp) (v : V) : Prop := (∀ i, v ≠ .int i) ∧ ∃ (t : String) (b1 b2 : Bool), TyX K H v (.type t) ∧ kitB t "int" = some b1 ∧ kitB t "bool" = some b2 ∧ (b1 && !b2) = false
def NoTup (K : PySem.W.Frag) (H : Hp) (v : V) : Prop := ∃ s, kitB s "tuple" = some false ∧ TyX K H v (.type s)
def NumV (K : PySem.W.Frag) (H : Hp) (v : V) : Prop := (∃ i, v = vI i) ∨ NoInt K H v
def numB : V → Bool
  | .int i => rowB i
  | _ => false
theorem numB_no {v : V} (h : ∀ i, v ≠ .int i) : numB v = false := by
  cases v with
  | int i => exact absurd rfl (h i)
  | _ => rfl
theorem all_numB (r : List Int) : (r.map vI).all numB = r.all rowB := by
  rw [List.all_map]
  rfl
/-- whether a value is a row of so many numbers -/
def RowIs (K : PySem.W.Frag) (H : Hp) (v : V) (n : Int) (b : Bool) : Prop := (NoTup K H v ∧ b = false) ∨
  ∃ (a : Addr) (xs : List V), v = .ref a ∧ SqT K H a xs ∧ xs.length ≤ 100 ∧ (∀ x ∈ xs, NumV K H x) ∧ b = (decide ((xs.length : Int) = n) && xs.all numB)
def spRow (K : PySem.W.Frag) : Sp := fun vs H Q _ => ∃ (v : V) (n : Int) (b : Bool), vs = [v, vI n] ∧ RowIs K H v n b ∧ ∀ H', Same H H' → Q (.bl b) H'
theorem ty_tup {H : Hp} {a : Addr} {xs : List V} (h : SqT K H a xs) : TyX K H (.ref a) (.type "tuple") := by
  rcases h with (h | ⟨o, h⟩) | ⟨o, its, n, h, c, _⟩
  · exact .base (.tup h)
  · exact .fTuple h
  · exact .kTuple h c
theorem ok_is_row (D : DfT K mg "is_row" s_is_row ["value", "count"]) (T : Tx K mg) (his_number : Cal P w K mg base 2 "is_number" (spNum K) []) : Cal P w K mg base 3 "is_row" (spRow K) [] := by
  have nd := sc_is_row.nd
  refine calS (k := 2) D sc_is_row (fun vs H Q E h => by obtain ⟨v, n, b, rfl, _⟩ := h; rfl) fun f cdv A outer s H vs Q E hr h => ?_
  let sc : Scope := defScope s_is_row
  refine ⟨_, (pss_cons (ps_if (PW.pt (pw_or (pt_not (pt_val (pe_callB (r := rIsi K) call_isi (by rfl) T.n_isinstance (by decide +kernel) (pa_cons (pv 0) (pa_cons (pe_bltn (v := .ty "tuple") (by rfl) T.n_tuple (by decide +kernel) rfl) pa_nil))))) (pw_or1 (pt_cmpR op_ne (pe_callB (r := rLenQ K) call_len_seq (by rfl) T.n_len (by decide +kernel) (pa_cons (pv 0) pa_nil)) (pv 1) (nomark _))))) (pss_one (ps_ret pe_bl)) pss_nil)
    (pss_one (ps_ret (pe_callB (r := rAll K) (cr_all rfl) (by rfl) T.n_all (by decide +kernel) (pa_cons (pe_lc (own := [("number", 2)]) (g := gName 2) (by rfl) nd (pi_tup (pv 0)) (blkOk_by (own := [("number", 2)]) (N := ["value", "count", "number"]) (sc := sc) (by decide +kernel)) (fun _ _ _ _ _ => pg_name (i := 2) nd rfl (Or.inl rfl)) (fun _ _ _ _ _ => pts_nil) (fun _ _ _ _ _ => (pe_and (pe_c his_number hr (by decide) (by rfl) (pa_cons (pv 2) (pa_cons pe_int pa_nil))) (pe_one (pe_cmpR op_le (pv 2) (pe_gc (by rfl) T.g_MOST_COUNT) (nomark _)))))) pa_nil))))), ?_⟩
  obtain ⟨v, n, b, rfl, ⟨⟨s, hs, ht⟩, rfl⟩ | ⟨a, xs, rfl, ha, hl, hel, rfl⟩, hk⟩ := h
  · refine ⟨v, rfl, v, .ty "tuple", .type s, .type "tuple", false, rfl, .ty _, ht, kit_ty hs, false, rfl, ?_⟩
    refine iteT ?_
    refine iteT ?_
    exact hk H (Same.refl H)
  refine ⟨.ref a, rfl, .ref a, .ty "tuple", .type "tuple", .type "tuple", true, rfl, .ty _, ty_tup ha, kit_ty (by decide +kernel), true, rfl, ?_⟩
  refine iteF ?_
  refine ⟨.ref a, rfl, a, _, rfl, .inr ha, vI n, rfl, rfl, _, rfl, ?_⟩
  by_cases hn : (xs.length : Int) = n
  · refine ite2 (fun h => absurd h ?_) (fun _ => ?_)
    · rw [hn]
      simp
    refine ⟨.ref a, rfl, a, rfl, ⟨_, ha⟩, fun D hD => ?_⟩
    refine lc_tup (K := K) (a := a) (xs := xs) (fun i H' => H' D = some (.lst (((xs.take i).map numB).map V.bl)) ∧ Same H H') ⟨upd_same, Same.new hD⟩ (fun i H' _ q => Same.tup q.2 ha) ?_ ?_
    · rintro i x H' hx ⟨hD', k⟩
      have hi : i < xs.length := (List.getElem?_eq_some_iff.mp hx).1
      have fin : ∀ b, b = numB x → ∃ acc, H' D = some (.lst acc) ∧ acc.length < sizeLine ∧ ((upd H' D (.lst (acc ++ [V.bl b]))) D = some (.lst (((xs.take (i + 1)).map numB).map V.bl)) ∧ Same H (upd H' D (.lst (acc ++ [V.bl b])))) := fun b hb => by
        refine ⟨_, hD', ?_, ?_, fun c o e => ?_⟩
        · rw [List.length_map, List.length_map]
          exact Nat.lt_of_le_of_lt (List.length_take_le _ _) (Nat.lt_of_lt_of_le (show i < 101 by omega) (by decide))
        · rw [upd_same, List.take_succ, hx, hb]
          simp
        · rw [upd_ne (ne_of_none e hD)]
          exact k c o e
      refine ⟨rfl, ?_⟩
      rcases hel x (List.mem_of_getElem? hx) with ⟨z, rfl⟩ | ⟨hno, t, b1, b2, h1, h2, h3, h4⟩
      · refine ⟨vI z, rfl, .inl ⟨z, 0, rfl, decide (0 ≤ z), rfl, ?_⟩⟩
        by_cases h0 : 0 ≤ z
        · rw [decide_eq_true h0]
          refine ⟨vI z, rfl, _, _, rfl, rfl, ?_⟩
          refine fin _ ?_
          show _ = rowB z
          unfold rowB
          rw [decide_eq_true h0, Bool.true_and]
        · rw [decide_eq_false h0]
          refine fin _ ?_
          show _ = rowB z
          unfold rowB
          rw [decide_eq_false h0, Bool.false_and]
      · refine ⟨x, rfl, .inr ⟨x, vI 0, t, b1, b2, rfl, TyX.same k h1, h2, h3, h4, false, rfl, ?_⟩⟩
        exact fin _ (numB_no hno).symm
    · rintro H' ⟨hD', k⟩
      rw [List.take_length] at hD'
      refine ⟨D, xs.map numB, rfl, SqL.of hD', ?_⟩
      have e : (xs.map numB).all id = (decide ((xs.length : Int) = n) && xs.all numB) := by
        rw [decide_eq_true hn, Bool.true_and, List.all_map]
        rfl
      rw [e]
      exact hk H' k
  · refine ite2 (fun _ => ?_) (fun h => absurd ?_ h)
    · have := hk H (Same.refl H)
      rw [decide_eq_false hn, Bool.false_and] at this
      exact this
    · simp only [Bool.not_eq_true', decide_eq_false_iff_not]
      intro e
      injection e with e
      exact hn e
end
end Y

set_option Elab.async false
set_option linter.all false
set_option maxRecDepth 100000
set_option maxHeartbeats 4000000
namespace Y
open PySem L2
open SX (S)
open C8 (Cal pe_c pe_gc)
theorem lc_str {x : Str} {g : TG} {tt : TT} {te : TE} {vs : List Nat} {σ : L2.St} {H1 : Hp} {D : Addr} {Qd : Hp → Prop} (Pv : Nat → Hp → Prop) (h0 : Pv 0 (upd H1 D (.lst [])))
    (hs : ∀ i c H, x.cps.toList[i]? = some c → Pv i H → g (.str ⟨#[c]⟩) (wipe σ vs) H fun σ2 H2 => wipe σ2 vs = wipe σ vs ∧ tt σ2 H2 fun b H3 =>
      if b = true then te σ2 H3 fun y H4 => ∃ acc, H4 D = some (.lst acc) ∧ acc.length < sizeLine ∧ Pv (i + 1) (upd H4 D (.lst (acc ++ [y]))) else Pv (i + 1) H3) (hd : ∀ H, Pv x.cps.toList.length H → Qd H) :
    ∃ W : Nat → Nat → Hp → Prop, (∃ m, W 0 m (upd H1 D (.lst []))) ∧ ∀ i m H, W i m H →
      ((Its x).stop i H ∧ Qd H) ∨ ((Its x).go i H ∧ ∃ Nx : Hp → Prop, (∀ H', Nx H' → ∃ m', m' < m ∧ W (i + 1) m' H') ∧ ∀ v H', (Its x).yld i H v H' → g v (wipe σ vs) H' fun σ2 H2 => wipe σ2 vs = wipe σ vs ∧ tt σ2 H2 fun b H3 =>
        if b = true then te σ2 H3 fun y H4 => ∃ acc, H4 D = some (.lst acc) ∧ acc.length < sizeLine ∧ Nx (upd H4 D (.lst (acc ++ [y]))) else Nx H3) := by
  have hz : x.cps.toList.length = x.cps.size := Array.length_toList
  refine ⟨fun i m H => m = x.cps.size - i ∧ i ≤ x.cps.size ∧ Pv i H, ⟨x.cps.size, by simp, Nat.zero_le _, h0⟩, ?_⟩
  rintro i m H ⟨rfl, hi, p⟩
  by_cases hlt : i < x.cps.size
  · refine .inr ⟨hlt, Pv (i + 1), fun H' p' => ⟨x.cps.size - (i + 1), by omega, rfl, hlt, p'⟩, fun v H' y => ?_⟩
    obtain ⟨rfl, c, hc, rfl⟩ := y
    exact hs i c H' (by rw [Array.getElem?_toList]; exact hc) p
  · have : i = x.cps.size := by omega
    subst this
    exact .inl ⟨Nat.le_refl _, hd H (by rw [hz]; exact p)⟩
theorem nameB_cons (c : Nat) (r : List Nat) : nameB (c :: r) = (decide (1 ≤ (c :: r).length) && (decide ((c :: r).length ≤ 8) && (isL c && (c :: r).all fun c => isL c || isD c))) := rfl
theorem mem26 (c : Nat) : decide (c ∈ ("abcdefghijklmnopqrstuvwxyz" : Str).cps.toList) = isL c := by
  rw [s26]
  show decide (c ∈ L26) = isL c
  have : (c ∈ L26) ↔ isL c = true := by
    simp only [L26, isL, List.mem_cons, List.not_mem_nil, or_false, Bool.and_eq_true, decide_eq_true_eq]
    omega
  by_cases h : c ∈ L26
  · rw [decide_eq_true h, this.mp h]
  · rw [decide_eq_false h]
    cases e : isL c with
    | false => rfl
    | true => exact absurd (this.mpr e) h
theorem mem10 (c : Nat) : decide (c ∈ ("0123456789" : Str).cps.toList) = isD c := by
  rw [s10]
  show decide (c ∈ L10) = isD c
  have : (c ∈ L10) ↔ isD c = true := by
    simp only [L10, isD, List.mem_cons, List.not_mem_nil, or_false, Bool.and_eq_true, decide_eq_true_eq]
    omega
  by_cases h : c ∈ L10
  · rw [decide_eq_true h, this.mp h]
  · rw [decide_eq_false h]
    cases e : isD c with
    | false => rfl
    | true => exact absurd (this.mpr e) h
section
variable {P : Program} {w : World} {K : PySem.W.Frag} {mg : Str → Option Value} {base : Heap}
abbrev s_is_name : Stmt := top 33
theorem sc_is_name : FnScope ["value", "sign"] ["value"] (defScope s_is_name) := ⟨rfl, rfl, rfl, by decide +kernel, rfl, by decide +kernel, by decide +kernel⟩
/-- whether a value is a name -/
def nameV : V → Bool
  | .str x => nameB x.cps.toList
  | _ => false
theorem nameV_S (z : List Nat) : nameV (vS z) = nameB z := rfl
theorem nameV_no {v : V} (h : ∀ x, v ≠ .str x) : nameV v = false := by
  cases v with
  | str x => exact absurd rfl (h x)
  | _ => rfl
/-- of another type of Python's than str -/
def NoStr (K : PySem.W.Frag) (H : Hp) (v : V) : Prop := (∀ x, v ≠ .str x) ∧ ∃ s, kitB s "str" = some false ∧ TyX K H v (.type s)
def spName (K : PySem.W.Frag) : Sp := fun vs H Q _ => ∃ (v : V), vs = [v] ∧ ((∃ z, v = vS z ∧ z.length ≤ 1000) ∨ NoStr K H v) ∧ ∀ H', Same H H' → Q (.bl (nameV v)) H'
theorem ok_is_name (D : DfT K mg "is_name" s_is_name ["value"]) (T : Tx K mg) : Cal P w K mg base 1 "is_name" (spName K) [] := by
  have nd := sc_is_name.nd
  refine calS (k := 0) D sc_is_name (fun vs H Q E h => by obtain ⟨v, rfl, _⟩ := h; rfl) fun f cdv A outer s H vs Q E hr h => ?_
  let sc : Scope := defScope s_is_name
  refine ⟨_, (pss_cons (ps_if (PW.pt (pw_or (pt_not (pt_val (pe_callB (r := rIsi K) call_isi (by rfl) T.n_isinstance (by decide +kernel) (pa_cons (pv 0) (pa_cons (pe_bltn (v := .ty "str") (by rfl) T.n_str (by decide +kernel) rfl) pa_nil))))) (pw_or1 (pt_not (pt_chain op_le op_le pe_int (pe_callB call_len_str (by rfl) T.n_len (by decide +kernel) (pa_cons (pv 0) pa_nil)) (pe_gc (by rfl) T.g_LONGEST_NAME)))))) (pss_one (ps_ret pe_bl)) pss_nil)
    (pss_one (ps_ret (pe_and (pe_cmpR op_in_sign (pe_ix ix_str (pv 0) pe_int (fun _ _ => rfl)) (pe_gc (by rfl) T.g_LETTERS) (by rfl)) (pe_one (pe_callB (r := rAll K) (cr_all rfl) (by rfl) T.n_all (by decide +kernel) (pa_cons (pe_lc (own := [("sign", 1)]) (g := gName 1) (by rfl) nd (pi_str (pv 0)) (blkOk_by (own := [("sign", 1)]) (N := ["value", "sign"]) (sc := sc) (by decide +kernel)) (fun _ _ _ _ _ => pg_name (i := 1) nd rfl (Or.inl rfl)) (fun _ _ _ _ _ => pts_nil) (fun _ _ _ _ _ => (pe_or (pe_cmpR op_in_sign (pv 1) (pe_gc (by rfl) T.g_LETTERS) (by rfl)) (pe_one (pe_cmpR op_in_sign (pv 1) (pe_gc (by rfl) T.g_DIGITS) (by rfl)))))) pa_nil))))))), ?_⟩
  obtain ⟨v, rfl, ⟨z, rfl, hz⟩ | ⟨hno, s, hs, ht⟩, hk⟩ := h
  case inr =>
    refine ⟨v, rfl, v, .ty "str", .type s, .type "str", false, rfl, .ty _, ht, kit_ty hs, false, rfl, ?_⟩
    refine iteT ?_
    rw [nameV_no hno] at hk
    exact hk H (Same.refl H)
  replace hk : ∀ H', Same H H' → Q (.bl (nameB z)) H' := hk
  have hlen : (S z).length ≤ sizeLine := S_ge hz (by decide)
  refine ⟨vS z, rfl, vS z, .ty "str", .type "str", .type "str", true, rfl, .ty _, .base (.str _), kit_ty (by decide +kernel), true, rfl, ?_⟩
  refine iteF ?_
  refine ⟨vS z, rfl, S z, rfl, hlen, _, _, rfl, rfl, _, rfl, ?_⟩
  have hl : ((S z).length : Int) = (z.length : Int) := by rw [SX.S_len]
  rw [hl]
  by_cases h1 : (1 : Int) ≤ z.length
  · rw [if_pos (decide_eq_true h1)]
    refine ⟨_, _, rfl, rfl, _, rfl, ?_⟩
    by_cases h8 : (z.length : Int) ≤ 8
    · refine ite2 (fun h => absurd h (by rw [decide_eq_true h8]; decide)) (fun _ => ?_)
      obtain ⟨c, r, rfl⟩ : ∃ c r, z = c :: r := by
        cases z with
        | nil => simp at h1
        | cons c r => exact ⟨c, r, rfl⟩
      refine ⟨vS (c :: r), rfl, _, 0, c, rfl, rfl, hlen, (by exact atI_nat (j := 0) rfl), c, _, rfl, rfl, _, rfl, ?_⟩
      rw [mem26]
      cases hc : isL c with
      | false =>
        refine iteF ?_
        have := hk H (Same.refl H)
        rw [show nameB (c :: r) = false from by rw [nameB_cons, hc]; simp] at this
        exact this
      | true =>
        refine iteT ?_
        refine ⟨vS (c :: r), rfl, S (c :: r), rfl, fun D hD => ?_⟩
        refine lc_str (x := S (c :: r)) (fun i H' => H' D = some (.lst ((((c :: r).take i).map fun c => isL c || isD c).map V.bl)) ∧ Same H H') ⟨upd_same, Same.new hD⟩ ?_ ?_
        · rintro i d H' hx ⟨hD', k⟩
          have hx2 : (c :: r)[i]? = some d := hx
          have hi : i < (c :: r).length := (List.getElem?_eq_some_iff.mp hx2).1
          have fin : ∀ b, b = (isL d || isD d) → ∃ acc, H' D = some (.lst acc) ∧ acc.length < sizeLine ∧ ((upd H' D (.lst (acc ++ [V.bl b]))) D = some (.lst ((((c :: r).take (i + 1)).map fun c => isL c || isD c).map V.bl)) ∧ Same H (upd H' D (.lst (acc ++ [V.bl b])))) := fun b hb => by
            refine ⟨_, hD', ?_, ?_, fun c o e => ?_⟩
            · rw [List.length_map, List.length_map]
              exact Nat.lt_of_le_of_lt (List.length_take_le _ _) (Nat.lt_of_lt_of_le (show i < 1001 by omega) (by decide))
            · rw [upd_same, List.take_succ, hx2, hb]
              simp
            · rw [upd_ne (ne_of_none e hD)]
              exact k c o e
          refine ⟨rfl, ?_⟩
          refine ⟨.str ⟨#[d]⟩, rfl, d, _, rfl, rfl, _, rfl, ?_⟩
          rw [mem26]
          cases hd : isL d with
          | true =>
            refine iteT ?_
            exact fin true (by rw [hd, Bool.true_or])
          | false =>
            refine iteF ?_
            refine ⟨.str ⟨#[d]⟩, rfl, d, _, rfl, rfl, ?_⟩
            exact fin _ (by rw [mem10, hd, Bool.false_or])
        · rintro H' ⟨hD', k⟩
          rw [show (S (c :: r)).cps.toList = c :: r from rfl, List.take_length] at hD'
          refine ⟨D, _, rfl, SqL.of hD', ?_⟩
          have e : (((c :: r).map fun c => isL c || isD c).all id) = nameB (c :: r) := by
            have h8' : (c :: r).length ≤ 8 := by omega
            rw [nameB_cons, decide_eq_true h8', hc, List.all_map]
            simp
          rw [e]
          exact hk H' k
    · refine ite2 (fun _ => ?_) (fun h => absurd (by rw [decide_eq_false h8]; rfl) h)
      have := hk H (Same.refl H)
      rw [show nameB z = false from by unfold nameB; rw [decide_eq_false (show ¬ z.length ≤ 8 by omega)]; simp] at this
      exact this
  · rw [if_neg (by rw [decide_eq_true_eq]; exact h1)]
    refine ⟨_, rfl, ?_⟩
    refine ite2 (fun _ => ?_) (fun h => absurd rfl h)
    have := hk H (Same.refl H)
    rw [show nameB z = false from by unfold nameB; rw [decide_eq_false (show ¬ 1 ≤ z.length by omega)]; simp] at this
    exact this
end
end Y

set_option Elab.async false
set_option linter.all false
set_option maxRecDepth 100000
set_option maxHeartbeats 4000000
namespace Y
open PySem L2
open SX (S)
open C8 (Cal pe_c pe_gc)
theorem lc_zipT {K : PySem.W.Frag} {a b : Addr} {xs ys : List V} {g : TG} {tt : TT} {te : TE} {vs : List Nat} {σ : L2.St} {H1 : Hp} {D : Addr} {Qd : Hp → Prop} (hl : xs.length = ys.length) (Pv : Nat → Hp → Prop) (h0 : Pv 0 (upd H1 D (.lst []))) (hq : ∀ i H, Pv i H → SqT K H a xs ∧ SqT K H b ys)
    (hs : ∀ i x y T H, xs[i]? = some x → ys[i]? = some y → Pv i H → H T = none → g (.ref T) (wipe σ vs) (upd H T (.tup [x, y])) fun σ2 H2 => wipe σ2 vs = wipe σ vs ∧ tt σ2 H2 fun b H3 =>
      if b = true then te σ2 H3 fun y H4 => ∃ acc, H4 D = some (.lst acc) ∧ acc.length < sizeLine ∧ Pv (i + 1) (upd H4 D (.lst (acc ++ [y]))) else Pv (i + 1) H3) (hd : ∀ H, Pv xs.length H → Qd H) :
    ∃ W : Nat → Nat → Hp → Prop, (∃ m, W 0 m (upd H1 D (.lst []))) ∧ ∀ i m H, W i m H →
      ((RZ.ItzT K a b).stop i H ∧ Qd H) ∨ ((RZ.ItzT K a b).go i H ∧ ∃ Nx : Hp → Prop, (∀ H', Nx H' → ∃ m', m' < m ∧ W (i + 1) m' H') ∧ ∀ v H', (RZ.ItzT K a b).yld i H v H' → g v (wipe σ vs) H' fun σ2 H2 => wipe σ2 vs = wipe σ vs ∧ tt σ2 H2 fun b H3 =>
        if b = true then te σ2 H3 fun y H4 => ∃ acc, H4 D = some (.lst acc) ∧ acc.length < sizeLine ∧ Nx (upd H4 D (.lst (acc ++ [y]))) else Nx H3) := by
  refine ⟨fun i m H => m = xs.length - i ∧ i ≤ xs.length ∧ Pv i H, ⟨xs.length, by simp, Nat.zero_le _, h0⟩, ?_⟩
  rintro i m H ⟨rfl, hi, p⟩
  obtain ⟨q1, q2⟩ := hq i H p
  by_cases hlt : i < xs.length
  · refine .inr ⟨⟨xs, ys, xs[i], ys[i]'(by omega), q1, q2, List.getElem?_eq_getElem hlt, List.getElem?_eq_getElem (by omega)⟩, Pv (i + 1), fun H' p' => ⟨xs.length - (i + 1), by omega, rfl, hlt, p'⟩, fun v H' y => ?_⟩
    obtain ⟨T, x0, y0, rfl, hT, rfl, hx, hy⟩ := y
    exact hs i x0 y0 T H (hx xs q1) (hy ys q2) p hT
  · have : i = xs.length := by omega
    subst this
    exact .inl ⟨⟨xs, ys, q1, q2, .inl (Nat.le_refl _)⟩, hd H p⟩
/-! ### texts -/
theorem sum_le {b : Nat} : ∀ {l : List Nat}, (∀ x ∈ l, x ≤ b) → l.sum ≤ l.length * b
  | [], _ => Nat.zero_le _
  | x :: l, h => by
    have h1 := h x (List.mem_cons_self ..)
    have h2 := sum_le fun y hy => h y (List.mem_cons_of_mem _ hy)
    rw [List.sum_cons, List.length_cons, Nat.succ_mul]
    omega
theorem joinL_len (sep : List Nat) : ∀ l : List (List Nat), (TL.joinL sep l).length ≤ (l.map (·.length)).sum + l.length * sep.length
  | [] => Nat.zero_le _
  | [p] => by simp [TL.joinL]
  | p :: q :: r => by
    have ih := joinL_len sep (q :: r)
    show (p ++ (sep ++ TL.joinL sep (q :: r))).length ≤ _
    rw [List.length_append, List.length_append, List.map_cons, List.sum_cons, List.length_cons, Nat.succ_mul]
    omega
def dL (i : Int) : List Nat := TL.numL i.toNat
def lineL (z : List Nat) (r : List Int) : List Nat := TL.joinL [32] (z :: r.map dL)
def kindsL : List Nat := [107, 105, 110, 100, 115]
def linesL (zs : List (List Nat)) (g : Gr) : List (List Nat) := TL.joinL [32] (kindsL :: zs) :: List.zipWith lineL zs g
def sheetL (zs : List (List Nat)) (g : Gr) : List Nat := TL.joinL [10] (linesL zs g)
theorem dL_len {i : Int} (h : rowB i = true) : (dL i).length ≤ 31 := by
  unfold rowB at h
  rw [Bool.and_eq_true, decide_eq_true_eq, decide_eq_true_eq] at h
  refine TL.numL_len (by decide) ?_
  have : (i.toNat : Int) < 10000000000000000000000000000000 := by omega
  exact Int.ofNat_lt.mp (Int.lt_of_lt_of_le this (by decide))
theorem str_num {i : Int} (h : rowB i = true) : V.str (Str.ofString (toString i)) = vS (dL i) := by
  unfold rowB at h
  rw [Bool.and_eq_true, decide_eq_true_eq, decide_eq_true_eq] at h
  obtain ⟨n, rfl⟩ := Int.eq_ofNat_of_zero_le h.1
  exact congrArg V.str (SX.num_S n)
theorem log_ok {i : Int} (h : rowB i = true) : i.natAbs.log2 < 1920 := by
  unfold rowB at h
  rw [Bool.and_eq_true, decide_eq_true_eq, decide_eq_true_eq] at h
  by_cases h0 : i.natAbs = 0
  · rw [h0]
    decide
  · refine (Nat.log2_lt h0).mpr ?_
    have h1 : i.natAbs ≤ 1000000000000000000000000000000 := by omega
    exact Nat.lt_of_le_of_lt h1 (Nat.lt_of_lt_of_le (show 1000000000000000000000000000000 < 2 ^ 100 by decide) (Nat.pow_le_pow_right (by decide) (by decide)))
theorem map_vS (l : List (List Nat)) : (l.map S).map V.str = l.map vS := by
  rw [List.map_map]
  rfl
theorem sp_S : (" " : Str) = S [32] := by decide +kernel
theorem nl_S : ("\n" : Str) = S [10] := by decide +kernel
theorem kinds_S : ("kinds" : Str) = S kindsL := by decide +kernel
theorem lens_ok {l : List (List Nat)} {b n : Nat} (h : ∀ z ∈ l, z.length ≤ b) (hl : l.length ≤ n) (hb : n * b + n ≤ 16777216) : ((l.map S).map (·.length)).sum + (l.map S).length * 1 ≤ 16777216 := by
  rw [SX.lens, List.length_map]
  have := sum_le (l := l.map (·.length)) (b := b) fun x hx => by
    obtain ⟨z, hz, rfl⟩ := List.mem_map.mp hx
    exact h z hz
  rw [List.length_map] at this
  have h2 : l.length * b ≤ n * b := Nat.mul_le_mul_right _ hl
  omega
section
variable {P : Program} {w : World} {K : PySem.W.Frag} {mg : Str → Option Value} {base : Heap}
abbrev s_row_line : Stmt := top 45
theorem sc_row_line : FnScope ["kind", "row", "words", "number"] ["kind", "row"] (defScope s_row_line) := ⟨rfl, rfl, rfl, by decide +kernel, rfl, by decide +kernel, by decide +kernel⟩
def spLine (K : PySem.W.Frag) : Sp := fun vs H Q _ => ∃ (z : List Nat) (a : Addr) (r : List Int), vs = [vS z, .ref a] ∧ SqT K H a (r.map vI) ∧ r.all rowB = true ∧ r.length ≤ 4 ∧ z.length ≤ 8 ∧ ∀ H', Same H H' → Q (vS (lineL z r)) H'
theorem ok_row_line (D : DfT K mg "row_line" s_row_line ["kind", "row"]) (T : Tx K mg) : Cal P w K mg base 1 "row_line" (spLine K) [] := by
  have nd := sc_row_line.nd
  refine calS (k := 0) D sc_row_line (fun vs H Q E h => by obtain ⟨z, a, r, rfl, _⟩ := h; rfl) fun f cdv A outer s H vs Q E hr h => ?_
  let sc : Scope := defScope s_row_line
  refine ⟨_, (pss_cons (ps_setLc (i := 2) (own := [("number", 3)]) (g := gName 3) (by rfl) nd rfl rfl (sw_true rfl rfl rfl (by decide +kernel)) (pi_tup (pv 1)) (blkOk_by (own := [("number", 3)]) (N := ["kind", "row", "words", "number"]) (sc := sc) (by decide +kernel)) (fun _ _ _ _ _ => pg_name (i := 3) nd rfl (Or.inl rfl)) (fun _ _ _ _ _ => pts_nil) (fun _ _ _ _ _ => (pe_callTy call_str_int (by rfl) T.n_str (by decide +kernel) (pa_cons (pv 3) pa_nil))))
    (pss_one (ps_ret (pe_join pe_str (pe_lst (pa_cons (pv 0) (StX.pa_star (pv 2) pa_nil))))))), ?_⟩
  obtain ⟨z, a, r, rfl, ha, hr2, hl, hz, hk⟩ := h
  refine ⟨.ref a, rfl, a, rfl, ⟨_, ha⟩, fun D hD => ?_⟩
  refine lc_tup (K := K) (a := a) (xs := r.map vI) (fun i H' => H' D = some (.lst (((r.take i).map dL).map vS)) ∧ Same H H') ⟨upd_same, Same.new hD⟩ (fun i H' _ q => Same.tup q.2 ha) ?_ ?_
  · rintro i x H' hx ⟨hD', k⟩
    obtain ⟨y, hy, rfl⟩ : ∃ z, r[i]? = some z ∧ vI z = x := by
      rw [List.getElem?_map] at hx
      exact Option.map_eq_some_iff.mp hx
    have hyB : rowB y = true := List.all_eq_true.mp hr2 y (List.mem_of_getElem? hy)
    have hi : i < r.length := (List.getElem?_eq_some_iff.mp hy).1
    refine ⟨rfl, vI y, rfl, y, rfl, log_ok hyB, ?_⟩
    refine ⟨_, hD', ?_, ?_, fun c o e => ?_⟩
    · rw [List.length_map, List.length_map]
      exact Nat.lt_of_le_of_lt (List.length_take_le _ _) (Nat.lt_of_lt_of_le (show i < 5 by omega) (by decide))
    · rw [upd_same, List.take_succ, hy, str_num hyB]
      simp
    · rw [upd_ne (ne_of_none e hD)]
      exact k c o e
  · rintro H' ⟨hD', k⟩
    rw [List.length_map, List.take_length] at hD'
    refine ⟨⟨_, rfl⟩, vS z, rfl, .ref D, rfl, D, _, rfl, .inr (SqL.of hD'), ?_, fun p hp => ?_⟩
    · rw [List.append_nil]
      show ((r.map dL).map vS).length + 1 ≤ sizeLine
      rw [List.length_map, List.length_map]
      exact Nat.le_trans (show r.length + 1 ≤ 5 by omega) (by decide)
    · refine ⟨_, p, (z :: r.map dL).map S, rfl, rfl, .inl ?_, ?_, ?_⟩
      · rw [map_vS]
        refine SqL.of ?_
        rw [upd_same, List.append_nil]
        rfl
      · rw [show (" " : Str).length = 1 from by decide +kernel]
        refine lens_ok (b := 31) (n := 5) (fun y hy => ?_) (by simp; omega) (by decide)
        rcases List.mem_cons.mp hy with e | e
        · rw [e]
          omega
        · obtain ⟨x, hx, rfl⟩ := List.mem_map.mp e
          exact dL_len (List.all_eq_true.mp hr2 x hx)
      · rw [sp_S, SX.join_S]
        exact hk _ (k.trans (Same.new hp))
end
end Y

set_option Elab.async false
set_option linter.all false
set_option maxRecDepth 100000
set_option maxHeartbeats 4000000
namespace Y
open PySem L2
open SX (S)
open C8 (Cal pe_c pe_gc)
/-- names and a table that make a yard -/
structure Good (zs : List (List Nat)) (g : Gr) : Prop where
  n2 : 2 ≤ zs.length
  n4 : zs.length ≤ 4
  nd : zs.Nodup
  nm : ∀ z ∈ zs, IsName z
  tb : Table zs.length g
theorem Table.rows {n : Nat} {g : Gr} (h : Table n g) {i : Nat} {r : List Int} (hr : g[i]? = some r) : r.all rowB = true ∧ r.length = n := by
  have hi : i < n := by
    rw [← h.sq.1]
    exact (List.getElem?_eq_some_iff.mp hr).1
  have hl := h.sq.2 i r hr
  refine ⟨List.all_eq_true.mpr fun x hx => ?_, hl⟩
  obtain ⟨j, hj⟩ := List.getElem?_of_mem hx
  have hjl : j < n := by
    rw [← hl]
    exact (List.getElem?_eq_some_iff.mp hj).1
  have e : ent g i j = x := by
    unfold ent
    rw [List.getD_eq_getElem?_getD, List.getD_eq_getElem?_getD, hr]
    show r[j]?.getD 0 = x
    rw [hj]
    rfl
  have q := h.lie i j hi hjl
  rw [e] at q
  unfold rowB
  rw [decide_eq_true q.1, decide_eq_true q.2]
  rfl
/-- a table of so many, balanced or not -/
structure TabU (n : Nat) (g : Gr) : Prop where
  len : g.length = n
  row : ∀ (i : Nat) (r : List Int), g[i]? = some r → r.length = n ∧ r.all rowB = true
theorem TabU.rows {n : Nat} {g : Gr} (h : TabU n g) {i : Nat} {r : List Int} (hr : g[i]? = some r) : r.all rowB = true ∧ r.length = n := ⟨(h.row i r hr).2, (h.row i r hr).1⟩
theorem Table.u {n : Nat} {g : Gr} (h : Table n g) : TabU n g := ⟨h.sq.1, fun i r hr => ⟨(h.rows hr).2, (h.rows hr).1⟩⟩
/-- names and a table, balanced or not -/
structure GoodU (zs : List (List Nat)) (g : Gr) : Prop where
  n2 : 2 ≤ zs.length
  n4 : zs.length ≤ 4
  nd : zs.Nodup
  nm : ∀ z ∈ zs, IsName z
  tb : TabU zs.length g
theorem Good.u {zs : List (List Nat)} {g : Gr} (h : Good zs g) : GoodU zs g := ⟨h.n2, h.n4, h.nd, h.nm, h.tb.u⟩
theorem GoodU.glen {zs : List (List Nat)} {g : Gr} (h : GoodU zs g) : g.length = zs.length := h.tb.len
theorem Good.glen {zs : List (List Nat)} {g : Gr} (h : Good zs g) : g.length = zs.length := h.tb.sq.1
theorem lineL_len {z : List Nat} {r : List Int} (hz : z.length ≤ 8) (hr : r.all rowB = true) (hl : r.length ≤ 4) : (lineL z r).length ≤ 200 := by
  have h1 := joinL_len [32] (z :: r.map dL)
  have h2 := sum_le (l := (z :: r.map dL).map (·.length)) (b := 31) fun x hx => by
    obtain ⟨y, hy, rfl⟩ := List.mem_map.mp hx
    rcases List.mem_cons.mp hy with e | e
    · rw [e]
      omega
    · obtain ⟨q, hq, rfl⟩ := List.mem_map.mp e
      exact dL_len (List.all_eq_true.mp hr q hq)
  simp only [List.length_map, List.length_cons, List.length_nil] at h1 h2
  unfold lineL
  omega
theorem zip_take {zs : List (List Nat)} {g : Gr} {i : Nat} {z : List Nat} {r : List Int} (hz : zs[i]? = some z) (hr : g[i]? = some r) : (List.zipWith lineL zs g).take (i + 1) = (List.zipWith lineL zs g).take i ++ [lineL z r] := by
  rw [List.take_succ, List.getElem?_zipWith, hz, hr]
  rfl
theorem GoodU.lines_len {zs : List (List Nat)} {g : Gr} (h : GoodU zs g) : (linesL zs g).length = zs.length + 1 := by
  unfold linesL
  rw [List.length_cons, List.length_zipWith, h.glen, Nat.min_self]
theorem Good.lines_len {zs : List (List Nat)} {g : Gr} (h : Good zs g) : (linesL zs g).length = zs.length + 1 := h.u.lines_len 
theorem GoodU.first_len {zs : List (List Nat)} {g : Gr} (h : GoodU zs g) : (TL.joinL [32] (kindsL :: zs)).length ≤ 200 := by
  have h1 := joinL_len [32] (kindsL :: zs)
  have h2 := sum_le (l := (kindsL :: zs).map (·.length)) (b := 8) fun x hx => by
    obtain ⟨y, hy, rfl⟩ := List.mem_map.mp hx
    rcases List.mem_cons.mp hy with e | e
    · rw [e]
      decide
    · exact (h.nm y e).len.2
  have h4 := h.n4
  simp only [List.length_map, List.length_cons, List.length_nil] at h1 h2
  omega
theorem Good.first_len {zs : List (List Nat)} {g : Gr} (h : Good zs g) : (TL.joinL [32] (kindsL :: zs)).length ≤ 200 := h.u.first_len 
theorem zip_mem {zs : List (List Nat)} {g : Gr} {y : List Nat} (hy : y ∈ List.zipWith lineL zs g) : ∃ (i : Nat) (z : List Nat) (r : List Int), zs[i]? = some z ∧ g[i]? = some r ∧ y = lineL z r := by
  obtain ⟨i, hi⟩ := List.getElem?_of_mem hy
  rw [List.getElem?_zipWith] at hi
  cases e1 : zs[i]? with
  | none => rw [e1] at hi; simp at hi
  | some z => cases e2 : g[i]? with
    | none => rw [e1, e2] at hi; simp at hi
    | some r =>
      rw [e1, e2] at hi
      exact ⟨i, z, r, e1, e2, (Option.some.inj hi).symm⟩
theorem GoodU.line_len {zs : List (List Nat)} {g : Gr} (h : GoodU zs g) {y : List Nat} (hy : y ∈ linesL zs g) : y.length ≤ 200 := by
  unfold linesL at hy
  rcases List.mem_cons.mp hy with e | e
  · rw [e]
    exact h.first_len
  · obtain ⟨i, z, r, hz, hr, rfl⟩ := zip_mem e
    obtain ⟨q1, q2⟩ := h.tb.rows hr
    exact lineL_len (h.nm z (List.mem_of_getElem? hz)).len.2 q1 (by have := h.n4; omega)
theorem Good.line_len {zs : List (List Nat)} {g : Gr} (h : Good zs g) {y : List Nat} (hy : y ∈ linesL zs g) : y.length ≤ 200 := h.u.line_len hy
theorem GoodU.sheet_len {zs : List (List Nat)} {g : Gr} (h : GoodU zs g) : (sheetL zs g).length ≤ 2000 := by
  have h1 := joinL_len [10] (linesL zs g)
  have h2 := sum_le (l := (linesL zs g).map (·.length)) (b := 200) fun x hx => by
    obtain ⟨y, hy, rfl⟩ := List.mem_map.mp hx
    exact h.line_len hy
  have h3 := h.lines_len
  have h4 := h.n4
  simp only [List.length_map, List.length_cons, List.length_nil] at h1 h2
  unfold sheetL
  omega
theorem Good.sheet_len {zs : List (List Nat)} {g : Gr} (h : Good zs g) : (sheetL zs g).length ≤ 2000 := h.u.sheet_len 
section
variable {P : Program} {w : World} {K : PySem.W.Frag} {mg : Str → Option Value} {base : Heap}
abbrev s_text_lines : Stmt := top 46
theorem sc_text_lines : FnScope ["kinds", "rows", "lines", "kind", "row"] ["kinds", "rows"] (defScope s_text_lines) := ⟨rfl, rfl, rfl, by decide +kernel, rfl, by decide +kernel, by decide +kernel⟩
def spLines (K : PySem.W.Frag) : Sp := fun vs H Q _ => ∃ (tz tg : Addr) (zs : List (List Nat)) (g : Gr), vs = [.ref tz, .ref tg] ∧ SqT K H tz (zs.map vS) ∧ GridAt K H tg g ∧ Good zs g ∧ ∀ l H', H' l = some (.lst ((linesL zs g).map vS)) → Same H H' → Q (.ref l) H'
theorem ok_text_lines (D : DfT K mg "text_lines" s_text_lines ["kinds", "rows"]) (T : Tx K mg) (hrow_line : Cal P w K mg base 1 "row_line" (spLine K) []) : Cal P w K mg base 2 "text_lines" (spLines K) [] := by
  have nd := sc_text_lines.nd
  refine calS (k := 1) D sc_text_lines (fun vs H Q E h => by obtain ⟨tz, tg, zs, g, rfl, _⟩ := h; rfl) fun f cdv A outer s H vs Q E hr h => ?_
  let sc : Scope := defScope s_text_lines
  refine ⟨_, (pss_cons (ps_setLc (i := 2) (own := [("kind", 3), ("row", 4)]) (g := gTup K 2 (gCons (gName 3) (gCons (gName 4) gNil))) (by rfl) nd rfl rfl (sw_true rfl rfl rfl (by decide +kernel)) (RZ.pi_zipA (by rfl) T.n_zip (pa_cons (pv 0) (pa_cons (pv 1) pa_nil))) (blkOk_by (own := [("kind", 3), ("row", 4)]) (N := ["kinds", "rows", "lines", "kind", "row"]) (sc := sc) (by decide +kernel)) (fun _ _ _ _ _ => (pg_tup (by rfl) (pgs_cons (pg_name (i := 3) nd rfl (by first | exact Or.inl rfl | exact Or.inr rfl)) (pgs_cons (pg_name (i := 4) nd rfl (by first | exact Or.inl rfl | exact Or.inr rfl)) pgs_nil)))) (fun _ _ _ _ _ => pts_nil) (fun _ _ _ _ _ => (pe_c hrow_line hr (by decide) (by rfl) (pa_cons (pv 3) (pa_cons (pv 4) pa_nil)))))
    (pss_one (ps_ret (pe_lst (pa_cons (pe_join pe_str (pe_lst (pa_cons pe_str (StX.pa_star (pv 0) pa_nil)))) (StX.pa_star (pv 2) pa_nil)))))), ?_⟩
  obtain ⟨tz, tg, zs, g, rfl, hz, hg, hgood, hk⟩ := h
  obtain ⟨as, hta, hal, har⟩ := hg.ex
  have hn4 := hgood.n4
  refine ⟨.ref tz, rfl, .ref tg, rfl, tz, tg, _, _, rfl, .inr ⟨hz, hta, fun D hD => ?_⟩⟩
  refine lc_zipT (K := K) (a := tz) (b := tg) (xs := zs.map vS) (ys := as.map V.ref) (by rw [List.length_map, List.length_map, hal, hgood.glen]) (fun i H' => H' D = some (.lst (((List.zipWith lineL zs g).take i).map vS)) ∧ Same H H') ⟨upd_same, Same.new hD⟩ (fun i H' q => ⟨Same.tup q.2 hz, Same.tup q.2 hta⟩) ?_ ?_
  · rintro i x y Tt H' hx hy ⟨hD', k⟩ hT
    obtain ⟨z, hzi, rfl⟩ : ∃ z, zs[i]? = some z ∧ vS z = x := by
      rw [List.getElem?_map] at hx
      exact Option.map_eq_some_iff.mp hx
    obtain ⟨a, hai, rfl⟩ : ∃ a, as[i]? = some a ∧ V.ref a = y := by
      rw [List.getElem?_map] at hy
      exact Option.map_eq_some_iff.mp hy
    have hig : i < g.length := by
      rw [← hal]
      exact (List.getElem?_eq_some_iff.mp hai).1
    have hrg := getD_at hig
    obtain ⟨q1, q2⟩ := hgood.tb.rows hrg
    refine ⟨Tt, _, rfl, SqT.of upd_same, rfl, _, _, rfl, _, _, rfl, rfl, rfl, ?_⟩
    refine ⟨vS z, rfl, .ref a, rfl, z, a, g.getD i [], rfl, Same.tup (k.trans (Same.new hT)) (har i a _ hai hrg), q1, by omega, (hgood.nm z (List.mem_of_getElem? hzi)).len.2, fun H2 k2 => ?_⟩
    have kk : Same H' H2 := (Same.new hT).trans k2
    refine ⟨_, kk _ _ hD', ?_, ?_, fun c o e => ?_⟩
    · rw [List.length_map]
      exact Nat.lt_of_le_of_lt (List.length_take_le _ _) (Nat.lt_of_lt_of_le (show i < 5 by have := hgood.glen; omega) (by decide))
    · rw [upd_same, zip_take hzi hrg, List.map_append]
      rfl
    · rw [upd_ne (ne_of_none e hD)]
      exact kk _ _ (k c o e)
  · rintro H' ⟨hD', k⟩
    have hl : (zs.map vS).length = (List.zipWith lineL zs g).length := by rw [List.length_map, List.length_zipWith, hgood.glen, Nat.min_self]
    rw [hl, List.take_length] at hD'
    refine ⟨⟨_, rfl⟩, .ref tz, rfl, tz, _, rfl, .inl (Same.tup k hz), ?_, fun p hp => ?_⟩
    · rw [List.append_nil]
      show (zs.map vS).length + 1 ≤ sizeLine
      rw [List.length_map]
      exact Nat.le_trans (show zs.length + 1 ≤ 5 by omega) (by decide)
    · refine ⟨_, p, (kindsL :: zs).map S, rfl, rfl, .inl ?_, ?_, ?_⟩
      · rw [map_vS]
        refine SqL.of ?_
        rw [upd_same, List.append_nil, kinds_S]
        rfl
      · rw [show (" " : Str).length = 1 from by decide +kernel]
        refine lens_ok (b := 8) (n := 5) (fun y hy => ?_) (by simp; omega) (by decide)
        rcases List.mem_cons.mp hy with e | e
        · rw [e]
          decide
        · exact (hgood.nm y e).len.2
      · rw [sp_S, SX.join_S]
        have hD2 := Same.new (o := .lst (V.str "kinds" :: (zs.map vS ++ []))) hp _ _ hD'
        refine ⟨.ref D, rfl, D, _, rfl, .inr (SqL.of hD2), ?_, fun l hl2 => ?_⟩
        · rw [List.append_nil]
          show ((List.zipWith lineL zs g).map vS).length + 1 ≤ sizeLine
          rw [List.length_map, List.length_zipWith, hgood.glen, Nat.min_self]
          exact Nat.le_trans (show zs.length + 1 ≤ 5 by omega) (by decide)
        · refine hk l _ ?_ (k.trans ((Same.new hp).trans (Same.new hl2)))
          rw [upd_same, List.append_nil]
          rfl
end
end Y

set_option Elab.async false
set_option linter.all false
set_option maxRecDepth 100000
set_option maxHeartbeats 4000000
namespace Y
open PySem L2
open SX (S)
open C8 (Cal pe_c pe_gc)
theorem cut1 (xs : List V) : cutV xs (some 1) none = xs.drop 1 := by
  unfold cutV
  have e1 : HT.sIx xs.length 0 (some 1) = min 1 xs.length := HT.sIx_nat _ _ 1
  rw [e1, HT.sIx_none]
  cases xs with
  | nil => rfl
  | cons x r =>
    rw [show min 1 (x :: r).length = 1 from by simp]
    show (r.take ((x :: r).length - 1)) = r
    rw [List.length_cons, Nat.add_sub_cancel, List.take_length]
theorem isD_all (n : Nat) : (TL.numL n).all isD = true := List.all_eq_true.mpr fun c hc => by
  have := TL.numL_digits n c hc
  unfold isD
  rw [decide_eq_true this.1, decide_eq_true this.2]
  rfl
theorem free_of {z : List Nat} {c : Nat} (h : z.all (fun c => isL c || isD c) = true) (hc : (isL c || isD c) = false) : c ∉ z := fun hm => by
  have := List.all_eq_true.mp h c hm
  rw [hc] at this
  cases this
theorem IsName.free {z : List Nat} (h : IsName z) {c : Nat} (hc : (isL c || isD c) = false) : c ∉ z := free_of h.all hc
theorem dL_free (i : Int) {c : Nat} (h : c < 48) : c ∉ dL i := TL.numL_free (.inl h)
theorem joinL_mem {c : Nat} {sep : List Nat} : ∀ {l : List (List Nat)}, c ∉ sep → (∀ p ∈ l, c ∉ p) → c ∉ TL.joinL sep l
  | [], _, _ => by simp [TL.joinL]
  | [p], _, h => h p (List.mem_cons_self ..)
  | p :: q :: r, hs, h => by
    have ih := joinL_mem (l := q :: r) hs fun y hy => h y (List.mem_cons_of_mem _ hy)
    show c ∉ p ++ (sep ++ TL.joinL sep (q :: r))
    simp only [List.mem_append, not_or]
    exact ⟨h p (List.mem_cons_self ..), hs, ih⟩
theorem GoodU.line_free {zs : List (List Nat)} {g : Gr} (h : GoodU zs g) {y : List Nat} (hy : y ∈ linesL zs g) : 10 ∉ y := by
  unfold linesL at hy
  rcases List.mem_cons.mp hy with e | e
  · rw [e]
    refine joinL_mem (by decide) fun p hp => ?_
    rcases List.mem_cons.mp hp with q | q
    · rw [q]
      decide
    · exact (h.nm p q).free (by decide)
  · obtain ⟨i, z, r, hz, hr, rfl⟩ := zip_mem e
    refine joinL_mem (by decide) fun p hp => ?_
    rcases List.mem_cons.mp hp with q | q
    · rw [q]
      exact (h.nm z (List.mem_of_getElem? hz)).free (by decide)
    · obtain ⟨x, hx, rfl⟩ := List.mem_map.mp q
      exact dL_free x (by decide)
theorem Good.line_free {zs : List (List Nat)} {g : Gr} (h : Good zs g) {y : List Nat} (hy : y ∈ linesL zs g) : 10 ∉ y := h.u.line_free hy
theorem GoodU.split_nl {zs : List (List Nat)} {g : Gr} (h : GoodU zs g) : Txt.split (S (sheetL zs g)) "\n" = (linesL zs g).map S := by
  rw [nl_S, SX.split_S (by decide) (by decide)]
  unfold sheetL
  rw [SX.spl_join (by unfold linesL; exact List.cons_ne_nil _ _) fun p hp => h.line_free hp]
theorem Good.split_nl {zs : List (List Nat)} {g : Gr} (h : Good zs g) : Txt.split (S (sheetL zs g)) "\n" = (linesL zs g).map S := h.u.split_nl 
theorem split_sp {l : List (List Nat)} (hne : l ≠ []) (h : ∀ p ∈ l, 32 ∉ p) : Txt.split (S (TL.joinL [32] l)) " " = l.map S := by
  rw [sp_S, SX.split_S (by decide) (by decide), SX.spl_join hne h]
theorem GoodU.split_first {zs : List (List Nat)} {g : Gr} (h : GoodU zs g) : Txt.split (S (TL.joinL [32] (kindsL :: zs))) " " = (kindsL :: zs).map S := by
  refine split_sp (List.cons_ne_nil _ _) fun p hp => ?_
  rcases List.mem_cons.mp hp with q | q
  · rw [q]
    decide
  · exact (h.nm p q).free (by decide)
theorem Good.split_first {zs : List (List Nat)} {g : Gr} (h : Good zs g) : Txt.split (S (TL.joinL [32] (kindsL :: zs))) " " = (kindsL :: zs).map S := h.u.split_first 
theorem split_line {z : List Nat} {r : List Int} (h : IsName z) : Txt.split (S (lineL z r)) " " = (z :: r.map dL).map S := by
  refine split_sp (List.cons_ne_nil _ _) fun p hp => ?_
  rcases List.mem_cons.mp hp with q | q
  · rw [q]
    exact h.free (by decide)
  · obtain ⟨x, hx, rfl⟩ := List.mem_map.mp q
    exact dL_free x (by decide)
theorem nl_len : (("\n" : Str).length == 0) = false := by decide +kernel
theorem sp_len : ((" " : Str).length == 0) = false := by decide +kernel
section
variable {P : Program} {w : World} {K : PySem.W.Frag} {mg : Str → Option Value} {base : Heap}
abbrev s_number_of : Stmt := top 47
theorem sc_number_of : FnScope ["word", "sign"] ["word"] (defScope s_number_of) := ⟨rfl, rfl, rfl, by decide +kernel, rfl, by decide +kernel, by decide +kernel⟩
def spNumOf : Sp := fun vs H Q _ => ∃ (i : Int), vs = [vS (dL i)] ∧ rowB i = true ∧ ∀ H', Same H H' → Q (vI i) H'
theorem ok_number_of (D : DfT K mg "number_of" s_number_of ["word"]) (T : Tx K mg) : Cal P w K mg base 1 "number_of" spNumOf [] := by
  have nd := sc_number_of.nd
  refine calS (k := 0) D sc_number_of (fun vs H Q E h => by obtain ⟨i, rfl, _⟩ := h; rfl) fun f cdv A outer s H vs Q E hr h => ?_
  let sc : Scope := defScope s_number_of
  refine ⟨_, (pss_cons (ps_if (PW.pt (pw_and (pt_chain op_le op_le pe_int (pe_callB call_len_str (by rfl) T.n_len (by decide +kernel) (pa_cons (pv 0) pa_nil)) (pe_callB call_len_str (by rfl) T.n_len (by decide +kernel) (pa_cons (pe_callTy call_str_int (by rfl) T.n_str (by decide +kernel) (pa_cons (pe_gc (by rfl) T.g_MOST_COUNT) pa_nil)) pa_nil))) (pw_and1 (pt_val (pe_callB (r := rAll K) (cr_all rfl) (by rfl) T.n_all (by decide +kernel) (pa_cons (pe_lc (own := [("sign", 1)]) (g := gName 1) (by rfl) nd (pi_str (pv 0)) (blkOk_by (own := [("sign", 1)]) (N := ["word", "sign"]) (sc := sc) (by decide +kernel)) (fun _ _ _ _ _ => pg_name (i := 1) nd rfl (Or.inl rfl)) (fun _ _ _ _ _ => pts_nil) (fun _ _ _ _ _ => (pe_cmpR op_in_sign (pv 1) (pe_gc (by rfl) T.g_DIGITS) (by rfl)))) pa_nil)))))) (pss_one (ps_ret (pe_callTy call_int_str (by rfl) T.n_int (by decide +kernel) (pa_cons (pv 0) pa_nil)))) pss_nil)
    (pss_one (ps_ret (pe_un un_neg pe_int)))), ?_⟩
  obtain ⟨i, rfl, hi, hk⟩ := h
  have hl31 := dL_len hi
  have hl1 : 1 ≤ (dL i).length := by
    have := TL.numL_ne i.toNat
    unfold dL
    cases e : TL.numL i.toNat with
    | nil => exact absurd e this
    | cons a b => simp
  have hlen : (S (dL i)).length ≤ sizeLine := S_ge hl31 (by decide)
  have hld : ((S (dL i)).length : Int) = ((dL i).length : Int) := by rw [SX.S_len]
  refine ⟨vS (dL i), rfl, S (dL i), rfl, hlen, _, _, rfl, rfl, _, rfl, ?_⟩
  rw [hld, decide_eq_true (show (1 : Int) ≤ (dL i).length by omega)]
  refine iteT ?_
  refine ⟨_, rfl, (by decide +kernel), _, rfl, (by decide +kernel), _, _, rfl, rfl, _, rfl, ?_⟩
  have h31 : ((Str.ofString (toString (1000000000000000000000000000000 : Int))).length : Int) = 31 := by decide +kernel
  rw [h31, decide_eq_true (show ((dL i).length : Int) ≤ 31 by omega)]
  refine iteT ?_
  refine ⟨vS (dL i), rfl, S (dL i), rfl, fun D hD => ?_⟩
  have hda : (dL i).all isD = true := isD_all _
  refine lc_str (x := S (dL i)) (fun j H' => H' D = some (.lst ((((dL i).take j).map isD).map V.bl)) ∧ Same H H') ⟨upd_same, Same.new hD⟩ ?_ ?_
  · rintro j d H' hx ⟨hD', k⟩
    have hx2 : (dL i)[j]? = some d := hx
    have hj : j < (dL i).length := (List.getElem?_eq_some_iff.mp hx2).1
    refine ⟨rfl, .str ⟨#[d]⟩, rfl, d, _, rfl, rfl, ?_⟩
    refine ⟨_, hD', ?_, ?_, fun c o e => ?_⟩
    · rw [List.length_map, List.length_map]
      exact Nat.lt_of_le_of_lt (List.length_take_le _ _) (Nat.lt_of_lt_of_le (show j < 32 by omega) (by decide))
    · rw [upd_same, List.take_succ, hx2, mem10]
      simp
    · rw [upd_ne (ne_of_none e hD)]
      exact k c o e
  · rintro H' ⟨hD', k⟩
    rw [show (S (dL i)).cps.toList = dL i from rfl, List.take_length] at hD'
    refine ⟨D, _, rfl, SqL.of hD', ?_⟩
    have e : (((dL i).map isD).all id) = true := by
      rw [List.all_map]
      exact hda
    rw [e]
    refine ⟨true, rfl, ?_⟩
    have hb := hi
    unfold rowB at hb
    rw [Bool.and_eq_true, decide_eq_true_eq, decide_eq_true_eq] at hb
    refine ⟨vS (dL i), rfl, S (dL i), i, rfl, ?_, ?_, hk H' k⟩
    · rw [SX.int_S (by simpa [isD] using hda) (by intro z; rw [z] at hl1; simp at hl1) (by omega)]
      show some (((NumText.digitsVal (TL.numL i.toNat) : Nat) : Int)) = some i
      rw [TL.numL_val]
      congr 1
      omega
    · rw [SX.S_len]
      omega
abbrev s_kinds_of_text : Stmt := top 49
theorem sc_kinds_of_text : FnScope ["text"] ["text"] (defScope s_kinds_of_text) := ⟨rfl, rfl, rfl, by decide +kernel, rfl, by decide +kernel, by decide +kernel⟩
def spKOf (K : PySem.W.Frag) : Sp := fun vs H Q _ => ∃ (zs : List (List Nat)) (g : Gr), vs = [vS (sheetL zs g)] ∧ GoodU zs g ∧ ∀ t H', KTup H' t (zs.map vS) → Same H H' → Q (.ref t) H'
theorem ok_kinds_of_text (D : DfT K mg "kinds_of_text" s_kinds_of_text ["text"]) (T : Tx K mg) : Cal P w K mg base 1 "kinds_of_text" (spKOf K) [] := by
  have nd := sc_kinds_of_text.nd
  refine calS (k := 0) D sc_kinds_of_text (fun vs H Q E h => by obtain ⟨zs, g, rfl, _⟩ := h; rfl) fun f cdv A outer s H vs Q E hr h => ?_
  let sc : Scope := defScope s_kinds_of_text
  refine ⟨_, (pss_one (ps_ret (pe_callTy (r := rTupF K) call_tuple_ofF (by rfl) T.n_tuple (by decide +kernel) (pa_cons (pe_slice (r := rSlL K) sl_list (pe_split (pe_ix (r := rIxL K) ix_list (pe_split (pv 0) pe_str) pe_int (fun _ _ => rfl)) pe_str) (po_some pe_int) po_none) pa_nil)))), ?_⟩
  obtain ⟨zs, g, rfl, hg, hk⟩ := h
  have hs := hg.sheet_len
  have hf := hg.first_len
  refine ⟨vS (sheetL zs g), rfl, ⟨_, rfl⟩, _, _, rfl, rfl, nl_len, ?_, ?_⟩
  · rw [SX.S_len]
    exact Nat.le_trans (show (sheetL zs g).length + 2 ≤ 3000 by omega) (by decide)
  rw [hg.split_nl]
  intro p1 hp1
  rw [map_vS]
  refine ⟨p1, _, 0, vS (TL.joinL [32] (kindsL :: zs)), rfl, rfl, SqL.of upd_same, (by exact atI_nat (j := 0) rfl), ⟨_, rfl⟩, _, _, rfl, rfl, sp_len, ?_, ?_⟩
  · rw [SX.S_len]
    exact Nat.le_trans (show (TL.joinL [32] (kindsL :: zs)).length + 2 ≤ 300 by omega) (by decide)
  rw [hg.split_first]
  intro p2 hp2
  rw [map_vS]
  refine ⟨1, rfl, p2, _, rfl, SqL.of upd_same, fun p3 hp3 => ?_⟩
  rw [cut1]
  refine ⟨p3, _, rfl, SqL.of upd_same, fun t o ht ho => ?_⟩
  exact hk t _ ⟨o, upd_same, ho⟩ ((Same.new hp1).trans ((Same.new hp2).trans ((Same.new hp3).trans (Same.new ht))))
end
end Y

set_option Elab.async false
set_option linter.all false
set_option maxRecDepth 100000
set_option maxHeartbeats 4000000
namespace Y
open PySem L2
open SX (S)
open C8 (Cal pe_c pe_gc)
theorem pi_listK {X : Cx} {K : PySem.W.Frag} {tg l : Expr} {tl : TE} (hK : X.K = K) (hl : PE X l tl) : PI X tg l (iList K tl) := hK ▸ pi_list hl
theorem pi_tupK {X : Cx} {K : PySem.W.Frag} {tg l : Expr} {tl : TE} (hK : X.K = K) (hl : PE X l tl) : PI X tg l (iTup K tl) := hK ▸ pi_tup hl
def lcIn (st : Stmt) : Scope := match defBody st with
  | [.Return (some (.Call _ [.ListComp _ _ sc _] _ _)) _] => sc
  | _ => defScope st
section
variable {P : Program} {w : World} {K : PySem.W.Frag} {mg : Str → Option Value} {base : Heap}
abbrev s_numbers_of_line : Stmt := top 48
theorem sc_numbers_of_line : FnScope ["line", "word"] ["line"] (defScope s_numbers_of_line) := ⟨rfl, rfl, rfl, by decide +kernel, rfl, by decide +kernel, by decide +kernel⟩
def spNOfL : Sp := fun vs H Q _ => ∃ (z : List Nat) (r : List Int), vs = [vS (lineL z r)] ∧ IsName z ∧ r.all rowB = true ∧ r.length ≤ 4 ∧ ∀ c H', H' c = some (.tup (r.map vI)) → Same H H' → Q (.ref c) H'
theorem ok_numbers_of_line (D : DfT K mg "numbers_of_line" s_numbers_of_line ["line"]) (T : Tx K mg) (hnumber_of : Cal P w K mg base 1 "number_of" spNumOf []) : Cal P w K mg base 2 "numbers_of_line" spNOfL [] := by
  have nd := sc_numbers_of_line.nd
  refine calS (k := 1) D sc_numbers_of_line (fun vs H Q E h => by obtain ⟨z, r, rfl, _⟩ := h; rfl) fun f cdv A outer s H1 vs Q E hr h => ?_
  let sc : Scope := defScope s_numbers_of_line
  refine ⟨_, (pss_one (ps_ret (pe_callTy (r := rTupOf K) call_tuple_of (by rfl) T.n_tuple (by decide +kernel) (pa_cons (pe_lc (own := [("word", 1)]) (g := gName 1) (by rfl) nd (pi_list (pe_slice (r := rSlL K) sl_list (pe_split (pv 0) pe_str) (po_some pe_int) po_none)) (blkOk_by (own := [("word", 1)]) (N := ["line", "word"]) (sc := sc) (by decide +kernel)) (fun _ _ _ _ _ => pg_name (i := 1) nd rfl (Or.inl rfl)) (fun _ _ _ _ _ => pts_nil) (fun _ _ _ _ _ => (pe_c hnumber_of hr (by decide) (by rfl) (pa_cons (pv 1) pa_nil)))) pa_nil)))), ?_⟩
  obtain ⟨z, r, rfl, hzn, q1, q2, hk⟩ := h
  have hl := lineL_len hzn.len.2 q1 q2
  refine ⟨vS (lineL z r), rfl, ⟨_, rfl⟩, _, _, rfl, rfl, sp_len, ?_, ?_⟩
  · rw [SX.S_len]
    exact Nat.le_trans (show (lineL z r).length + 2 ≤ 300 by omega) (by decide)
  rw [split_line hzn]
  intro p3 hp3
  rw [map_vS]
  refine ⟨1, rfl, p3, _, rfl, SqL.of upd_same, fun p4 hp4 => ?_⟩
  rw [cut1] at *
  refine ⟨p4, rfl, ⟨_, SqL.of upd_same⟩, fun D2 hD2 => ?_⟩
  have k2 : Same H1 (upd (upd H1 p3 (.lst ((z :: r.map dL).map vS))) p4 (.lst (((z :: r.map dL).map vS).drop 1))) := (Same.new hp3).trans (Same.new hp4)
  generalize hHc : upd (upd H1 p3 (.lst ((z :: r.map dL).map vS))) p4 (.lst (((z :: r.map dL).map vS).drop 1)) = Hc at k2 hD2 ⊢
  have hp4b : Hc p4 = some (.lst ((r.map dL).map vS)) := by
    rw [← hHc, upd_same]
    rfl
  refine lc_list (K := K) (a := p4) (xs := (r.map dL).map vS) (fun j H' => H' D2 = some (.lst ((r.take j).map vI)) ∧ Same Hc H') ⟨upd_same, Same.new hD2⟩ (fun j H' _ q => q.2.seq (SqL.of hp4b)) ?_ ?_
  · rintro j x H2 hx2 ⟨hD2', k3⟩
    obtain ⟨y, hy, rfl⟩ : ∃ y, r[j]? = some y ∧ vS (dL y) = x := by
      rw [List.getElem?_map, List.getElem?_map, Option.map_map] at hx2
      exact Option.map_eq_some_iff.mp hx2
    have hj : j < r.length := (List.getElem?_eq_some_iff.mp hy).1
    refine ⟨rfl, vS (dL y), rfl, y, rfl, List.all_eq_true.mp q1 y (List.mem_of_getElem? hy), fun H3 k4 => ?_⟩
    refine ⟨_, k4 _ _ hD2', ?_, ?_, fun c o e => ?_⟩
    · rw [List.length_map]
      exact Nat.lt_of_le_of_lt (List.length_take_le _ _) (Nat.lt_of_lt_of_le (show j < 5 by omega) (by decide))
    · rw [upd_same, List.take_succ, hy, List.map_append]
      rfl
    · rw [upd_ne (ne_of_none e hD2)]
      exact k4 _ _ (k3 c o e)
  · rintro H2 ⟨hD2', k3⟩
    rw [List.length_map, List.length_map, List.take_length] at hD2'
    refine ⟨D2, _, rfl, .inl ⟨SqL.of hD2', fun c hcn => ?_⟩⟩
    exact hk c _ upd_same (k2.trans (k3.trans (Same.new hcn)))
abbrev s_rows_of_text : Stmt := top 50
theorem sc_rows_of_text : FnScope ["text", "line"] ["text"] (defScope s_rows_of_text) := ⟨rfl, rfl, rfl, by decide +kernel, rfl, by decide +kernel, by decide +kernel⟩
def spROf (K : PySem.W.Frag) : Sp := fun vs H Q _ => ∃ (zs : List (List Nat)) (g : Gr), vs = [vS (sheetL zs g)] ∧ GoodU zs g ∧ ∀ t H', GridAt K H' t g → Same H H' → Q (.ref t) H'
theorem ok_rows_of_text (D : DfT K mg "rows_of_text" s_rows_of_text ["text"]) (T : Tx K mg) (hnumbers_of_line : Cal P w K mg base 2 "numbers_of_line" spNOfL []) : Cal P w K mg base 3 "rows_of_text" (spROf K) [] := by
  have nd := sc_rows_of_text.nd
  refine calS (k := 2) D sc_rows_of_text (fun vs H Q E h => by obtain ⟨zs, g, rfl, _⟩ := h; rfl) fun f cdv A outer s H vs Q E hr h => ?_
  let sc : Scope := defScope s_rows_of_text
  refine ⟨_, (pss_one (ps_ret (pe_callTy (r := rTupOf K) call_tuple_of (by rfl) T.n_tuple (by decide +kernel) (pa_cons (pe_lc (own := [("line", 1)]) (g := gName 1) (by rfl) nd (pi_list (pe_slice (r := rSlL K) sl_list (pe_split (pv 0) pe_str) (po_some pe_int) po_none)) (blkOk_by (own := [("line", 1)]) (N := ["text", "line"]) (sc := sc) (by decide +kernel)) (fun _ _ _ _ _ => pg_name (i := 1) nd rfl (Or.inl rfl)) (fun _ _ _ _ _ => pts_nil) (fun _ _ _ _ _ => (pe_c hnumbers_of_line hr (by decide) (by rfl) (pa_cons (pv 1) pa_nil)))) pa_nil)))), ?_⟩
  obtain ⟨zs, g, rfl, hg, hk⟩ := h
  have hs := hg.sheet_len
  refine ⟨vS (sheetL zs g), rfl, ⟨_, rfl⟩, _, _, rfl, rfl, nl_len, ?_, ?_⟩
  · rw [SX.S_len]
    exact Nat.le_trans (show (sheetL zs g).length + 2 ≤ 3000 by omega) (by decide)
  rw [hg.split_nl]
  intro p1 hp1
  rw [map_vS]
  refine ⟨1, rfl, p1, _, rfl, SqL.of upd_same, fun p2 hp2 => ?_⟩
  rw [cut1] at *
  refine ⟨p2, rfl, ⟨_, SqL.of upd_same⟩, fun D hD => ?_⟩
  have kb : Same H (upd (upd H p1 (.lst ((linesL zs g).map vS))) p2 (.lst (((linesL zs g).map vS).drop 1))) := (Same.new hp1).trans (Same.new hp2)
  generalize hHb : upd (upd H p1 (.lst ((linesL zs g).map vS))) p2 (.lst (((linesL zs g).map vS).drop 1)) = Hb at kb hD ⊢
  have hp2b : Hb p2 = some (.lst ((List.zipWith lineL zs g).map vS)) := by
    rw [← hHb, upd_same]
    rfl
  refine lc_list (K := K) (a := p2) (xs := (List.zipWith lineL zs g).map vS) (fun i H' => ∃ cs : List Addr, cs.length = i ∧ H' D = some (.lst (cs.map V.ref)) ∧ (∀ (k : Nat) (c : Addr) (r : List Int), cs[k]? = some c → g[k]? = some r → H' c = some (.tup (r.map vI))) ∧ Same Hb H') ⟨[], rfl, upd_same, fun k c r h => by simp at h, Same.new hD⟩ (fun i H' _ ⟨_, _, _, _, k⟩ => k.seq (SqL.of hp2b)) ?_ ?_
  · rintro i x H1 hx ⟨cs, hc, hD1, hrow, k1⟩
    obtain ⟨ln, hln, rfl⟩ : ∃ z, (List.zipWith lineL zs g)[i]? = some z ∧ vS z = x := by
      rw [List.getElem?_map] at hx
      exact Option.map_eq_some_iff.mp hx
    obtain ⟨z, r, hz, hr2, rfl⟩ : ∃ z r, zs[i]? = some z ∧ g[i]? = some r ∧ ln = lineL z r := by
      rw [List.getElem?_zipWith] at hln
      cases e1 : zs[i]? with
      | none => rw [e1] at hln; simp at hln
      | some z => cases e2 : g[i]? with
        | none => rw [e1, e2] at hln; simp at hln
        | some r =>
          rw [e1, e2] at hln
          exact ⟨z, r, rfl, rfl, (Option.some.inj hln).symm⟩
    obtain ⟨q1, q2⟩ := hg.tb.rows hr2
    have hzn := hg.nm z (List.mem_of_getElem? hz)
    refine ⟨rfl, vS (lineL z r), rfl, z, r, rfl, hzn, q1, by have := hg.n4; omega, fun c H2 hcn kk => ?_⟩
    have hDc := kk _ _ hD1
    have hil : i < zs.length := (List.getElem?_eq_some_iff.mp hz).1
    refine ⟨_, hDc, ?_, cs ++ [c], by simp [hc], ?_, ?_, fun d o e => ?_⟩
    · rw [List.length_map]
      exact Nat.lt_of_lt_of_le (show cs.length < 5 by have := hg.n4; omega) (by decide)
    · rw [upd_same, List.map_append]
      rfl
    · intro q d r' hd hr'
      by_cases hq : q < cs.length
      · rw [List.getElem?_append_left hq] at hd
        have e1 := hrow q d r' hd hr'
        have hdD : d ≠ D := fun z => by subst z; rw [e1] at hD1; cases hD1
        rw [upd_ne hdD]
        exact kk _ _ e1
      · have hq2 : q = cs.length := by
          have := (List.getElem?_eq_some_iff.mp hd).1
          simp at this
          omega
        subst hq2
        rw [List.getElem?_append_right (Nat.le_refl _), Nat.sub_self] at hd
        cases hd
        rw [hc, hr2] at hr'
        cases hr'
        have hcD : c ≠ D := fun z => by subst z; rw [hcn] at hDc; cases hDc
        rw [upd_ne hcD]
        exact hcn
    · rw [upd_ne (ne_of_none e hD)]
      exact kk _ _ (k1 d o e)
  · rintro H1 ⟨cs, hc, hD1, hrow, k1⟩
    refine ⟨D, _, rfl, .inl ⟨SqL.of hD1, fun t ht => ?_⟩⟩
    refine hk t _ ⟨cs, SqT.of upd_same, ?_, fun k c r hc2 hr2 => SqT.of (Same.new ht _ _ (hrow k c r hc2 hr2))⟩ (kb.trans (k1.trans (Same.new ht)))
    rw [hc, List.length_map, List.length_zipWith, hg.glen, Nat.min_self]
end
end Y

set_option Elab.async false
set_option linter.all false
set_option maxRecDepth 100000
set_option maxHeartbeats 4000000
namespace Y
open PySem L2
open SX (S)
open C8 (Cal pe_c pe_gc)
theorem cut_to {xs : List V} {i : Nat} (h : i ≤ xs.length) : cutV xs none (some (i : Int)) = xs.take i := by
  unfold cutV
  rw [HT.sIx_nat, HT.sIx_none, Nat.min_eq_left h]
  rfl
theorem not_mem_take {α : Type} {l : List α} (h : l.Nodup) {i : Nat} {z : α} (hz : l[i]? = some z) : z ∉ l.take i := fun hm => by
  obtain ⟨j, hj⟩ := List.getElem?_of_mem hm
  have hj1 : j < (l.take i).length := (List.getElem?_eq_some_iff.mp hj).1
  rw [List.length_take] at hj1
  have hji : j < i := by omega
  rw [List.getElem?_take_of_lt hji] at hj
  obtain ⟨l1, e1⟩ := List.getElem?_eq_some_iff.mp hj
  obtain ⟨l2, e2⟩ := List.getElem?_eq_some_iff.mp hz
  have := (List.getElem_inj h).mp (e1.trans e2.symm)
  omega
section
variable {P : Program} {w : World} {K : PySem.W.Frag} {mg : Str → Option Value} {base : Heap}
abbrev s_check_kinds : Stmt := top 52
theorem sc_check_kinds : FnScope ["kinds", "at", "kind"] ["kinds"] (defScope s_check_kinds) := ⟨rfl, rfl, rfl, by decide +kernel, rfl, by decide +kernel, by decide +kernel⟩
def spCK (K : PySem.W.Frag) : Sp := fun vs H Q _ => ∃ (t : Addr) (zs : List (List Nat)), vs = [.ref t] ∧ SqT K H t (zs.map vS) ∧ (2 ≤ zs.length ∧ zs.length ≤ 4) ∧ zs.Nodup ∧ (∀ z ∈ zs, IsName z) ∧ ∀ H', Same H H' → Q .non H'
theorem ok_check_kinds (D : DfT K mg "check_kinds" s_check_kinds ["kinds"]) (T : Tx K mg) (his_name : Cal P w K mg base 1 "is_name" (spName K) []) : Cal P w K mg base 2 "check_kinds" (spCK K) [] := by
  have nd := sc_check_kinds.nd
  refine calS (k := 1) D sc_check_kinds (fun vs H Q E h => by obtain ⟨t, zs, rfl, _⟩ := h; rfl) fun f cdv A outer s H vs Q E hr h => ?_
  let sc : Scope := defScope s_check_kinds
  refine ⟨_, (pss_cons (ps_if (PW.pt (pw_or (pt_not (pt_val (pe_callB (r := rIsi K) call_isi (by rfl) T.n_isinstance (by decide +kernel) (pa_cons (pv 0) (pa_cons (pe_bltn (v := .ty "tuple") (by rfl) T.n_tuple (by decide +kernel) rfl) pa_nil))))) (pw_or1 (pt_cmpR op_lt (pe_callB (r := rLenQ K) call_len_seq (by rfl) T.n_len (by decide +kernel) (pa_cons (pv 0) pa_nil)) pe_int (nomark _))))) (pss_one ps_never) pss_nil)
    (pss_one (ps_for PassesOwn.never rfl (pi_enumT (by rfl) T.n_enumerate (pa_cons (pv 0) pa_nil)) (pg_tup (by rfl) (pgs_cons (pg_name (i := 1) nd rfl (by first | exact Or.inl rfl | exact Or.inr rfl)) (pgs_cons (pg_name (i := 2) nd rfl (by first | exact Or.inl rfl | exact Or.inr rfl)) pgs_nil))) (pss_one (ps_if (PW.pt (pw_or (pt_cmpR op_ge (pv 1) (pe_gc (by rfl) T.g_MOST_KINDS) (nomark _)) (pw_or (pt_not (pt_val (pe_c his_name hr (by decide) (by rfl) (pa_cons (pv 2) pa_nil)))) (pw_or1 (pt_cmpR (r := rIn K false) op_in_seq (pv 2) (pe_slice (r := rSlT K) sl_tup (pv 0) po_none (po_some (pv 1))) (by rfl)))))) (pss_one ps_never) pss_nil))))), ?_⟩
  obtain ⟨t, zs, rfl, ht, hn, hnd, hnm, hk⟩ := h
  refine ⟨.ref t, rfl, .ref t, .ty "tuple", .type "tuple", .type "tuple", true, rfl, .ty _, ty_tup ht, kit_ty (by decide +kernel), true, rfl, ?_⟩
  refine iteF ?_
  refine ⟨.ref t, rfl, t, _, rfl, .inr ht, _, 2, rfl, rfl, _, rfl, ?_⟩
  refine ite2 (fun h => absurd (of_decide_eq_true h) (by rw [List.length_map]; omega)) (fun _ => ?_)
  refine ⟨.ref t, rfl, t, _, rfl, ht, for_enumT (K := K) (a := t) (xs := zs.map vS) (fun i σ H' => ∃ e1 e2, σ = [some (.ref t), e1, e2] ∧ Same H H') ⟨none, none, rfl, Same.refl _⟩ (fun i σ H' _ ⟨_, _, _, k⟩ => Same.tup k ht) ?_ ?_⟩
  · rintro i x Tt σ H1 hx ⟨e1, e2, rfl, k1⟩ hT
    obtain ⟨z, hz, rfl⟩ : ∃ z, zs[i]? = some z ∧ vS z = x := by
      rw [List.getElem?_map] at hx
      exact Option.map_eq_some_iff.mp hx
    have hi : i < zs.length := (List.getElem?_eq_some_iff.mp hz).1
    have hzn := hnm z (List.mem_of_getElem? hz)
    refine ⟨Tt, _, rfl, SqT.of upd_same, rfl, _, _, rfl, _, _, rfl, rfl, ?_⟩
    have k2 : Same H (upd H1 Tt (.tup [.int (i : Nat), vS z])) := k1.trans (Same.new hT)
    refine ⟨vN i, rfl, (i : Int), 4, rfl, rfl, _, rfl, ?_⟩
    refine ite2 (fun h => absurd (of_decide_eq_true h) (by omega)) (fun _ => ?_)
    refine ⟨vS z, rfl, vS z, rfl, .inl ⟨z, rfl, Nat.le_trans hzn.len.2 (by decide)⟩, fun H2 k3 => ⟨_, rfl, ?_⟩⟩
    rw [show nameV (vS z) = true from hzn]
    refine iteF ?_
    refine ⟨vS z, rfl, .ref t, rfl, vN i, rfl, (i : Int), rfl, t, _, rfl, Same.tup (k2.trans k3) ht, ?_, fun p hp => ?_⟩
    · rintro ⟨_, h⟩
      rw [HT.sIx_nat, List.length_map] at h
      omega
    · rw [cut_to (by rw [List.length_map]; omega), ← List.map_take]
      refine ⟨p, _, rfl, .inr (SqT.of upd_same), rfl, flat_S _, _, rfl, ?_⟩
      rw [inV_S]
      refine ite2 (fun h => absurd (of_decide_eq_true h) (not_mem_take hnd hz)) (fun _ => ?_)
      exact ⟨_, _, rfl, k2.trans (k3.trans (Same.new hp))⟩
  · rintro σ H1 ⟨e1, e2, rfl, k1⟩
    exact hk H1 k1
abbrev s_check_rows : Stmt := top 53
theorem sc_check_rows : FnScope ["rows", "count", "at", "row"] ["rows", "count"] (defScope s_check_rows) := ⟨rfl, rfl, rfl, by decide +kernel, rfl, by decide +kernel, by decide +kernel⟩
def spCR (K : PySem.W.Frag) : Sp := fun vs H Q _ => ∃ (t : Addr) (g : Gr) (n : Nat), vs = [.ref t, vN n] ∧ GridAt K H t g ∧ n ≤ 4 ∧ Table n g ∧ ∀ H', Same H H' → Q .non H'
theorem ok_check_rows (D : DfT K mg "check_rows" s_check_rows ["rows", "count"]) (T : Tx K mg) (his_row : Cal P w K mg base 3 "is_row" (spRow K) []) : Cal P w K mg base 4 "check_rows" (spCR K) [] := by
  have nd := sc_check_rows.nd
  refine calS (k := 3) D sc_check_rows (fun vs H Q E h => by obtain ⟨t, g, n, rfl, _⟩ := h; rfl) fun f cdv A outer s H vs Q E hr h => ?_
  let sc : Scope := defScope s_check_rows
  refine ⟨_, (pss_cons (ps_if (PW.pt (pw_or (pt_not (pt_val (pe_callB (r := rIsi K) call_isi (by rfl) T.n_isinstance (by decide +kernel) (pa_cons (pv 0) (pa_cons (pe_bltn (v := .ty "tuple") (by rfl) T.n_tuple (by decide +kernel) rfl) pa_nil))))) (pw_or1 (pt_cmpR op_ne (pe_callB (r := rLenQ K) call_len_seq (by rfl) T.n_len (by decide +kernel) (pa_cons (pv 0) pa_nil)) (pv 1) (nomark _))))) (pss_one ps_never) pss_nil)
    (pss_one (ps_for PassesOwn.never rfl (pi_enumT (by rfl) T.n_enumerate (pa_cons (pv 0) pa_nil)) (pg_tup (by rfl) (pgs_cons (pg_name (i := 2) nd rfl (by first | exact Or.inl rfl | exact Or.inr rfl)) (pgs_cons (pg_name (i := 3) nd rfl (by first | exact Or.inl rfl | exact Or.inr rfl)) pgs_nil))) (pss_one (ps_if (pt_not (pt_val (pe_c his_row hr (by decide) (by rfl) (pa_cons (pv 3) (pa_cons (pv 1) pa_nil))))) (pss_one ps_never) pss_nil))))), ?_⟩
  obtain ⟨t, g, n, rfl, hG, hn, htb, hk⟩ := h
  obtain ⟨as, ht, hal, har⟩ := hG.ex
  refine ⟨.ref t, rfl, .ref t, .ty "tuple", .type "tuple", .type "tuple", true, rfl, .ty _, ty_tup ht, kit_ty (by decide +kernel), true, rfl, ?_⟩
  refine iteF ?_
  refine ⟨.ref t, rfl, t, _, rfl, .inr ht, vN n, rfl, rfl, _, rfl, ?_⟩
  have hll : (((as.map V.ref).length : Nat) : Int) = (n : Int) := by rw [List.length_map, hal, htb.sq.1]
  rw [hll]
  refine ite2 (fun h => absurd h (by simp)) (fun _ => ?_)
  refine ⟨.ref t, rfl, t, _, rfl, ht, for_enumT (K := K) (a := t) (xs := as.map V.ref) (fun i σ H' => ∃ e1 e2, σ = [some (.ref t), some (vN n), e1, e2] ∧ Same H H') ⟨none, none, rfl, Same.refl _⟩ (fun i σ H' _ ⟨_, _, _, k⟩ => Same.tup k ht) ?_ ?_⟩
  · rintro i x Tt σ H1 hx ⟨e1, e2, rfl, k1⟩ hT
    obtain ⟨a, ha, rfl⟩ : ∃ a, as[i]? = some a ∧ V.ref a = x := by
      rw [List.getElem?_map] at hx
      exact Option.map_eq_some_iff.mp hx
    have hig : i < g.length := by
      rw [← hal]
      exact (List.getElem?_eq_some_iff.mp ha).1
    obtain ⟨q1, q2⟩ := htb.rows (getD_at hig)
    refine ⟨Tt, _, rfl, SqT.of upd_same, rfl, _, _, rfl, _, _, rfl, rfl, ?_⟩
    refine ⟨.ref a, rfl, vN n, rfl, .ref a, (n : Int), _, rfl, .inr ⟨a, (g.getD i []).map vI, rfl, Same.tup (k1.trans (Same.new hT)) (har i a _ ha (getD_at hig)), by rw [List.length_map]; omega, fun x hx => (by obtain ⟨z, _, rfl⟩ := List.mem_map.mp hx; exact .inl ⟨z, rfl⟩), rfl⟩, fun H2 k2 => ⟨_, rfl, ?_⟩⟩
    rw [all_numB, List.length_map, q1, q2, decide_eq_true rfl]
    refine iteF ?_
    exact ⟨_, _, rfl, k1.trans ((Same.new hT).trans k2)⟩
  · rintro σ H1 ⟨e1, e2, rfl, k1⟩
    exact hk H1 k1
abbrev s_unbalanced_at : Stmt := top 43
theorem sc_unbalanced_at : FnScope ["rows", "at", "row", "other"] ["rows"] (defScope s_unbalanced_at) := ⟨rfl, rfl, rfl, by decide +kernel, rfl, by decide +kernel, by decide +kernel⟩
/-- the first index at which row and column have different sums, if there is one -/
def spUB (K : PySem.W.Frag) : Sp := fun vs H Q _ => ∃ (t : Addr) (g : Gr), vs = [.ref t] ∧ GridAt K H t g ∧ g.length ≤ 4 ∧ (∀ (i : Nat) (r : List Int), g[i]? = some r → r.length = g.length) ∧
  (∀ i, i < g.length → (∀ j, j < i → rowS g j = colS g j) → rowS g i ≠ colS g i → ∀ H', Same H H' → Q (vN i) H') ∧ ((∀ i, i < g.length → rowS g i = colS g i) → ∀ H', Same H H' → Q .non H')
theorem ok_unbalanced_at (D : DfT K mg "unbalanced_at" s_unbalanced_at ["rows"]) (T : Tx K mg) : Cal P w K mg base 1 "unbalanced_at" (spUB K) [] := by
  have nd := sc_unbalanced_at.nd
  refine calS (k := 0) D sc_unbalanced_at (fun vs H Q E h => by obtain ⟨t, g, rfl, _⟩ := h; rfl) fun f cdv A outer s H vs Q E hr h => ?_
  let sc : Scope := defScope s_unbalanced_at
  refine ⟨_, (pss_cons (ps_for PassesOwn.never rfl (pi_enumT (by rfl) T.n_enumerate (pa_cons (pv 0) pa_nil)) (pg_tup (by rfl) (pgs_cons (pg_name (i := 1) nd rfl (by first | exact Or.inl rfl | exact Or.inr rfl)) (pgs_cons (pg_name (i := 2) nd rfl (by first | exact Or.inl rfl | exact Or.inr rfl)) pgs_nil))) (pss_one (ps_if (pt_cmpR op_ne (pe_callB (r := rSumT K) (cr_sumT rfl) (by rfl) T.n_sum (by decide +kernel) (pa_cons (pv 2) pa_nil)) (pe_callB (r := rSum K) (cr_sum rfl) (by rfl) T.n_sum (by decide +kernel) (pa_cons (pe_lc (own := [("other", 3)]) (g := gName 3) (by rfl) nd (pi_tup (pv 0)) (blkOk_by (own := [("other", 3)]) (N := ["rows", "at", "row", "other"]) (sc := sc) (by decide +kernel)) (fun _ _ _ _ _ => pg_name (i := 3) nd rfl (Or.inl rfl)) (fun _ _ _ _ _ => pts_nil) (fun _ _ _ _ _ => (pe_ix (r := rIxT K) ix_tup (pv 3) (pv 1) (fun _ _ => rfl)))) pa_nil)) (nomark _)) (pss_one (ps_ret (pv 1))) pss_nil)))
    (pss_one (ps_ret pe_non))), ?_⟩
  obtain ⟨t, g, rfl, hG, hn4, hrl, hb, hk⟩ := h
  obtain ⟨as, ht, hal, har⟩ := hG.ex
  refine ⟨.ref t, rfl, t, _, rfl, ht, for_enumT (K := K) (a := t) (xs := as.map V.ref) (fun i σ H' => ∃ e1 e2 e3, σ = [some (.ref t), e1, e2, e3] ∧ Same H H' ∧ ∀ j, j < i → rowS g j = colS g j) ⟨none, none, none, rfl, Same.refl _, fun j h => absurd h (by omega)⟩ (fun i σ H' _ ⟨_, _, _, _, k, _⟩ => Same.tup k ht) ?_ ?_⟩
  · rintro i x Tt σ H1 hx ⟨e1, e2, e3, rfl, k1, hj⟩ hT
    obtain ⟨a, ha, rfl⟩ : ∃ a, as[i]? = some a ∧ V.ref a = x := by
      rw [List.getElem?_map] at hx
      exact Option.map_eq_some_iff.mp hx
    have hig : i < g.length := by
      rw [← hal]
      exact (List.getElem?_eq_some_iff.mp ha).1
    refine ⟨Tt, _, rfl, SqT.of upd_same, rfl, _, _, rfl, _, _, rfl, rfl, ?_⟩
    have k2 : Same H (upd H1 Tt (.tup [.int (i : Nat), .ref a])) := k1.trans (Same.new hT)
    generalize upd H1 Tt (.tup [.int (i : Nat), .ref a]) = H2 at k2 ⊢
    refine ⟨.ref a, rfl, a, g.getD i [], rfl, Same.tup k2 (har i a _ ha (getD_at hig)), ?_⟩
    refine ⟨.ref t, rfl, t, rfl, ⟨_, Same.tup k2 ht⟩, fun Dl hD => ?_⟩
    refine lc_tup (K := K) (a := t) (xs := as.map V.ref) (fun j H' => H' Dl = some (.lst (((g.take j).map fun r => r.getD i 0).map vI)) ∧ Same H2 H') ⟨upd_same, Same.new hD⟩ (fun j H' _ q => Same.tup q.2 (Same.tup k2 ht)) ?_ ?_
    · rintro j y H3 hy ⟨hD', k3⟩
      obtain ⟨b, hb, rfl⟩ : ∃ a, as[j]? = some a ∧ V.ref a = y := by
        rw [List.getElem?_map] at hy
        exact Option.map_eq_some_iff.mp hy
      have hjg : j < g.length := by
        rw [← hal]
        exact (List.getElem?_eq_some_iff.mp hb).1
      have q2 := hrl j _ (getD_at hjg)
      refine ⟨rfl, .ref b, rfl, vN i, rfl, b, _, _, _, rfl, rfl, Same.tup k3 (Same.tup k2 (har j b _ hb (getD_at hjg))), atI_int (by rw [q2]; exact hig), ?_⟩
      refine ⟨_, hD', ?_, ?_, fun c o e => ?_⟩
      · rw [List.length_map, List.length_map]
        exact Nat.lt_of_le_of_lt (List.length_take_le _ _) (Nat.lt_of_lt_of_le (show j < 5 by omega) (by decide))
      · rw [upd_same, List.take_succ, getD_at hjg]
        simp
      · rw [upd_ne (ne_of_none e hD)]
        exact k3 c o e
    · rintro H3 ⟨hD', k3⟩
      rw [List.length_map, hal, List.take_length] at hD'
      refine ⟨Dl, _, rfl, SqL.of hD', rfl, _, rfl, ?_⟩
      by_cases hq : rowS g i = colS g i
      · refine ite2 (fun h => absurd h ?_) (fun _ => ?_)
        · show ¬ (!decide (V.int (rowS g i) = V.int (colS g i))) = true
          rw [hq]
          simp
        · refine ⟨_, _, _, rfl, k2.trans k3, fun j hj' => ?_⟩
          by_cases e : j = i
          · rw [e]
            exact hq
          · exact hj j (by omega)
      · refine ite2 (fun _ => ?_) (fun h => absurd ?_ h)
        · exact ⟨vN i, rfl, hb i hig hj hq _ (k2.trans k3)⟩
        · show (!decide (V.int (rowS g i) = V.int (colS g i))) = true
          simpa using hq
  · rintro σ H1 ⟨e1, e2, e3, rfl, k1, hj⟩
    exact hk (fun i hi => hj i (by rw [List.length_map, hal]; exact hi)) H1 k1
abbrev s_check_balance : Stmt := top 54
theorem sc_check_balance : FnScope ["kinds", "rows", "at"] ["kinds", "rows"] (defScope s_check_balance) := ⟨rfl, rfl, rfl, by decide +kernel, rfl, by decide +kernel, by decide +kernel⟩
def spCB (K : PySem.W.Frag) : Sp := fun vs H Q _ => ∃ (tz t : Addr) (zs : List (List Nat)) (g : Gr), vs = [.ref tz, .ref t] ∧ SqT K H tz (zs.map vS) ∧ GridAt K H t g ∧ Good zs g ∧ ∀ H', Same H H' → Q .non H'
theorem ok_check_balance (D : DfT K mg "check_balance" s_check_balance ["kinds", "rows"]) (T : Tx K mg) (hunbalanced_at : Cal P w K mg base 1 "unbalanced_at" (spUB K) []) : Cal P w K mg base 2 "check_balance" (spCB K) [] := by
  have nd := sc_check_balance.nd
  refine calS (k := 1) D sc_check_balance (fun vs H Q E h => by obtain ⟨tz, t, zs, g, rfl, _⟩ := h; rfl) fun f cdv A outer s H vs Q E hr h => ?_
  let sc : Scope := defScope s_check_balance
  refine ⟨_, (pss_cons (ps_set (i := 2) nd rfl (by first | exact Or.inl rfl | exact Or.inr rfl) (pe_c hunbalanced_at hr (by decide) (by rfl) (pa_cons (pv 1) pa_nil)))
    (pss_one (ps_if (pt_cmpR op_notN (pv 2) pe_non (nomark _)) (pss_one ps_never) pss_nil))), ?_⟩
  obtain ⟨tz, t, zs, g, rfl, htz, hG, hgood, hk⟩ := h
  have hgl := hgood.glen
  refine ⟨.ref t, rfl, t, g, rfl, hG, by have := hgood.n4; omega, fun i r h => by rw [(hgood.tb.rows h).2, hgl], fun i hi _ hne => absurd (hgood.tb.bal i (by omega)) hne, fun _ H1 k1 => ?_⟩
  refine ⟨.non, rfl, rfl, _, rfl, ?_⟩
  refine iteF ?_
  exact hk H1 k1
end
end Y

set_option Elab.async false
set_option linter.all false
set_option maxRecDepth 100000
set_option maxHeartbeats 4000000
namespace Y
open PySem L2
open SX (S)
open C8 (Cal pe_c pe_gc)
/-! ### yards -/
theorem rev_vals {vs : List V} {us : List Value} (r : Vals vs us) : Vals vs.reverse us.reverse := by
  induction r with
  | nil => exact .nil
  | cons h _ ih =>
    rw [List.reverse_cons, List.reverse_cons]
    exact ih.append (.cons h .nil)
theorem kc : ¬ (("_kinds" : Str) = "_rows") := by decide +kernel
def fl (tz tg : Addr) : List (Str × V) := putF "_rows" (.ref tg) (putF "_kinds" (.ref tz) [])
theorem fl_eq (tz tg : Addr) : fl tz tg = ([("_kinds", V.ref tz), ("_rows", V.ref tg)] : List (Str × V)) := by
  show (if ("_kinds" : Str) = "_rows" then [(("_kinds" : Str), V.ref tg)] else (("_kinds" : Str), V.ref tz) :: putF "_rows" (V.ref tg) []) = ([("_kinds", V.ref tz), ("_rows", V.ref tg)] : List (Str × V))
  rw [if_neg kc]
  all_goals rfl
theorem fl_kinds (tz tg : Addr) : (fl tz tg).lookup ("_kinds" : Str) = some (.ref tz) := by
  unfold fl
  rw [lookup_putF, if_neg kc, lookup_putF, if_pos rfl]
theorem fl_rows (tz tg : Addr) : (fl tz tg).lookup ("_rows" : Str) = some (.ref tg) := by
  unfold fl
  rw [lookup_putF, if_pos rfl]
theorem fl_no (tz tg : Addr) {m : Str} (h1 : ¬ m = "_rows") (h2 : ¬ m = "_kinds") : (fl tz tg).lookup m = none := by
  unfold fl
  rw [lookup_putF, if_neg h1, lookup_putF, if_neg h2]
  all_goals rfl
/-- a yard with these kinds and rows -/
structure YardAt (K : PySem.W.Frag) (C : Addr) (H : Hp) (y : Addr) (zs : List (List Nat)) (g : Gr) : Prop where
  ex0 : ∃ dx tz tg, H y = some (.ins C dx (fl tz tg)) ∧ KTup H tz (zs.map vS) ∧ GridAt K H tg g
  good : Good zs g
theorem YardAt.ex {K : PySem.W.Frag} {C : Addr} {H : Hp} {y : Addr} {zs : List (List Nat)} {g : Gr} (h : YardAt K C H y zs g) : ∃ dx tz tg, H y = some (.ins C dx (fl tz tg)) ∧ SqT K H tz (zs.map vS) ∧ GridAt K H tg g := by
  obtain ⟨dx, tz, tg, h1, h2, h3⟩ := h.ex0
  exact ⟨dx, tz, tg, h1, h2.sq, h3⟩
/-- the same, however its kinds were laid -/
structure YardS (K : PySem.W.Frag) (C : Addr) (H : Hp) (y : Addr) (zs : List (List Nat)) (g : Gr) : Prop where
  ex : ∃ dx tz tg, H y = some (.ins C dx (fl tz tg)) ∧ SqT K H tz (zs.map vS) ∧ GridAt K H tg g
  good : Good zs g
theorem YardAt.s {K : PySem.W.Frag} {C : Addr} {H : Hp} {y : Addr} {zs : List (List Nat)} {g : Gr} (h : YardAt K C H y zs g) : YardS K C H y zs g := ⟨h.ex, h.good⟩
theorem YardS.same {K : PySem.W.Frag} {C : Addr} {H H' : Hp} {y : Addr} {zs : List (List Nat)} {g : Gr} (h : YardS K C H y zs g) (k : Same H H') : YardS K C H' y zs g := by
  obtain ⟨dx, tz, tg, h1, h2, h3⟩ := h.ex
  exact ⟨⟨dx, tz, tg, k _ _ h1, Same.tup k h2, h3.same k⟩, h.good⟩
theorem YardAt.same {K : PySem.W.Frag} {C : Addr} {H H' : Hp} {y : Addr} {zs : List (List Nat)} {g : Gr} (h : YardAt K C H y zs g) (k : Same H H') : YardAt K C H' y zs g := by
  obtain ⟨dx, tz, tg, h1, h2, h3⟩ := h.ex0
  exact ⟨⟨dx, tz, tg, k _ _ h1, Same.kt k h2, h3.same k⟩, h.good⟩
theorem YardAt.kpx {K : PySem.W.Frag} {C p : Addr} {H H' : Hp} {y : Addr} {zs : List (List Nat)} {g : Gr} (h : YardAt K C H y zs g) (hP : PailAt H p) (k : KpX p H H') : YardAt K C H' y zs g := by
  obtain ⟨dx, tz, tg, h1, h2, h3⟩ := h.ex0
  refine ⟨⟨dx, tz, tg, k _ _ h1 fun z => ?_, k.kt hP h2, h3.kpx hP k⟩, h.good⟩
  subst z
  obtain ⟨a, b, c, _, e⟩ := hP.ex
  rw [e] at h1
  cases h1
structure YT (K : PySem.W.Frag) (mg : Str → Option Value) (C : Addr) : Prop where
  cl : Cls K C
  nK : NoAttr K C "_kinds"
  nR : NoAttr K C "_rows"
  mgC : mg "Yard" = some (.ref C)
/-- a def of the class -/
structure MfT (K : PySem.W.Frag) (x qual : Str) (st : Stmt) (ps : List Str) (f : Addr) : Prop where
  ex : ∃ (fd : FuncData), Fun K x qual st f fd ∧ Binds K fd ps []
section
variable {P : Program} {w : World} {K : PySem.W.Frag} {mg : Str → Option Value} {base : Heap} {C : Addr}
/-- a method's promise, by its address -/
structure MfC (P : Program) (w : World) (K : PySem.W.Frag) (mg : Str → Option Value) (base : Heap) (k : Nat) (f : Addr) (ps : List Str) (sp : Sp) : Prop where
  ex : ∃ (fd : FuncData), FnOk P w K mg base CX0 k f fd ps sp ∧ Binds K fd ps []
theorem mfS {x qual : Str} {st : Stmt} {N ps : List Str} {k : Nat} {sp : Sp} {f : Addr} (D : MfT K x qual st ps f) (S : FnScope N ps (defScope st)) (len : ∀ vs H Q E, sp vs H Q E → vs.length = ps.length)
    (hbody : ∀ (cdv : Value) (A : Around) (outer : List Env) (s : Shared) (H : Hp) (vs : List V) (Q : VK) (E : XK), Room k (A.deeper (PyProof.Rows.envOfC qual (defScope st) s.heap.objs.size f cdv)) → sp vs H Q E →
      ∃ t, PSs (cxOf CX0 P w K mg base N qual (defScope st) f cdv A outer s H E).nox (defBody st) t ∧ t { nx := fun _ H' => Q .non H', rt := Q } (L2.start N vs) H) : MfC P w K mg base (k + 1) f ps sp := by
  obtain ⟨fd, F, b⟩ := D.ex
  exact ⟨fd, F.ok S len fun cdv A outer s H vs Q E hr h => hbody cdv A outer s H vs Q E hr h, b⟩
theorem mfS0 {x qual : Str} {st : Stmt} {N ps : List Str} {k : Nat} {sp : Sp} {f : Addr} (D : MfT K x qual st ps f) (S : FnScope N ps (defScope st)) (len : ∀ vs H Q E, sp vs H Q E → vs.length = ps.length)
    (hbody : ∀ (cdv : Value) (A : Around) (outer : List Env) (s : Shared) (H : Hp) (vs : List V) (Q : VK) (E : XK), Room k (A.deeper (PyProof.Rows.envOfC qual (defScope st) s.heap.objs.size f cdv)) → sp vs H Q E →
      ∃ t, PSs (cxOf CX0 P w K mg base N qual (defScope st) f cdv A outer s H E).nox (defBody st) t ∧ t { nx := fun _ H' => Q .non H', rt := Q } (L2.start N vs) H) : ∃ (fd : FuncData), Fun K x qual st f fd ∧ FnOk P w K mg base CX0 (k + 1) f fd ps sp ∧ Binds K fd ps [] := by
  obtain ⟨fd, F, b⟩ := D.ex
  exact ⟨fd, F, F.ok S len fun cdv A outer s H vs Q E hr h => hbody cdv A outer s H vs Q E hr h, b⟩
abbrev s_init : Stmt := inClass (top 59) 0
theorem sc_init : FnScope ["self", "kinds", "rows"] ["self", "kinds", "rows"] (defScope s_init) := ⟨rfl, rfl, rfl, by decide +kernel, rfl, by decide +kernel, by decide +kernel⟩
def spInit (K : PySem.W.Frag) (C : Addr) : Sp := fun vs H Q _ => ∃ (p tz tg dx : Addr) (zs : List (List Nat)) (g : Gr), vs = [.ref p, .ref tz, .ref tg] ∧ H p = some (.ins C dx []) ∧ SqT K H tz (zs.map vS) ∧ GridAt K H tg g ∧ Good zs g ∧
  ∀ H', (∃ dx, H' p = some (.ins C dx (fl tz tg))) → (∀ b o, H b = some o → b ≠ p → H' b = some o) → Q .non H'
theorem ok_init {f : Addr} (D : MfT K "__init__" "Yard.__init__" s_init ["self", "kinds", "rows"] f) (T : Tx K mg) (Y : YT K mg C) (hcheck_kinds : Cal P w K mg base 2 "check_kinds" (spCK K) []) (hcheck_rows : Cal P w K mg base 4 "check_rows" (spCR K) []) (hcheck_balance : Cal P w K mg base 2 "check_balance" (spCB K) []) :
    ∃ (fd : FuncData), Fun K "__init__" "Yard.__init__" s_init f fd ∧ FnOk P w K mg base CX0 5 f fd ["self", "kinds", "rows"] (spInit K C) ∧ Binds K fd ["self", "kinds", "rows"] [] := by
  have nd := sc_init.nd
  refine mfS0 (k := 4) D sc_init (fun vs H Q E h => by obtain ⟨p, tz, tg, dx, zs, g, rfl, _⟩ := h; rfl) fun cdv A outer s H vs Q E hr h => ?_
  let sc : Scope := defScope s_init
  refine ⟨_, (pss_cons (ps_expr (pe_c hcheck_kinds hr (by decide) (by rfl) (pa_cons (pv 1) pa_nil)))
    (pss_cons (ps_expr (pe_c hcheck_rows hr (by decide) (by rfl) (pa_cons (pv 2) (pa_cons (pe_callB (r := rLenQ K) call_len_seq (by rfl) T.n_len (by decide +kernel) (pa_cons (pv 1) pa_nil)) pa_nil))))
    (pss_cons (ps_expr (pe_c hcheck_balance hr (by decide) (by rfl) (pa_cons (pv 1) (pa_cons (pv 2) pa_nil))))
    (pss_cons (ps_fld (pv 0) (pv 1) rfl)
    (pss_one (ps_fld (pv 0) (pv 2) rfl)))))), ?_⟩
  obtain ⟨p, tz, tg, dx, zs, g, rfl, hp, hz, hG, hg, hk⟩ := h
  refine ⟨.ref tz, rfl, tz, zs, rfl, hz, ⟨hg.n2, hg.n4⟩, hg.nd, hg.nm, fun H1 k1 => ?_⟩
  refine ⟨.ref tg, rfl, .ref tz, rfl, tz, _, rfl, .inr (Same.tup k1 hz), tg, g, zs.length, by rw [List.length_map]; rfl, hG.same k1, hg.n4, hg.tb, fun H2 k2 => ?_⟩
  have k12 := k1.trans k2
  refine ⟨.ref tz, rfl, .ref tg, rfl, tz, tg, zs, g, rfl, Same.tup k12 hz, hG.same k12, hg, fun H3 k3 => ?_⟩
  have k13 := k12.trans k3
  have hp3 := k13 _ _ hp
  refine ⟨.ref tz, rfl, .ref p, rfl, p, C, dx, [], rfl, hp3, Y.cl, Y.nK, by show 0 < 1000; decide, ?_⟩
  refine ⟨.ref tg, rfl, .ref p, rfl, p, C, dx, _, rfl, upd_same, Y.cl, Y.nR, by show 1 < 1000; decide, ?_⟩
  refine hk _ ⟨dx, upd_same⟩ fun b o e hb => ?_
  rw [upd_ne hb, upd_ne hb]
  exact k13 b o e
theorem init_kb {f : Addr} {fd : FuncData} (F : Fun K "__init__" "Yard.__init__" s_init f fd) : KBn K fd ["self", "kinds", "rows"] 1 ["rows", "kinds"] (fun us ws => us ++ ws.reverse) (fun vs zs => vs ++ zs.reverse) := by
  obtain ⟨oc, od, kV, doc, pm, an, cdv, ct, osl, rfl, lk, hcd⟩ := F.ex
  refine ⟨fun s us ws X l1 l2 => BindsTo.of_eq ?_, fun r1 r2 => r1.append ?_⟩
  · match us, ws, l1, l2 with
    | [u], [a, b], _, _ => rfl
  · exact rev_vals r2
/-- the making of a yard -/
structure InitY (P : Program) (w : World) (K : PySem.W.Frag) (mg : Str → Option Value) (base : Heap) (C : Addr) : Prop where
  ex : ∃ (fi : Addr) (fd : FuncData), Mk K C fi ∧ FnOk P w K mg base CX0 5 fi fd ["self", "kinds", "rows"] (spInit K C) ∧ Binds K fd ["self", "kinds", "rows"] [] ∧ KBn K fd ["self", "kinds", "rows"] 1 ["rows", "kinds"] (fun us ws => us ++ ws.reverse) (fun vs zs => vs ++ zs.reverse)
theorem ok_initY {f : Addr} (D : MfT K "__init__" "Yard.__init__" s_init ["self", "kinds", "rows"] f) (M : Mk K C f) (T : Tx K mg) (Y : YT K mg C) (hcheck_kinds : Cal P w K mg base 2 "check_kinds" (spCK K) []) (hcheck_rows : Cal P w K mg base 4 "check_rows" (spCR K) []) (hcheck_balance : Cal P w K mg base 2 "check_balance" (spCB K) []) :
    InitY P w K mg base C := by
  obtain ⟨fd, F, Fo, b⟩ := ok_init D T Y hcheck_kinds hcheck_rows hcheck_balance
  exact ⟨f, fd, M, Fo, b, init_kb F⟩
/-- what the making of a yard asks -/
theorem make_ok {H1 : Hp} {tz tg : Addr} {zs : List (List Nat)} {g : Gr} {Q : VK} {E : XK} (hz : KTup H1 tz (zs.map vS)) (hG : GridAt K H1 tg g) (hg : Good zs g) (k : ∀ y H', YardAt K C H' y zs g → Same H1 H' → Q (.ref y) H') :
    ∀ x dx, H1 x = none → H1 dx = none → dx ≠ x → spInit K C [.ref x, .ref tz, .ref tg] (upd (upd H1 dx (.own x)) x (.ins C dx [])) (fun v H2 => v = .non ∧ Q (.ref x) H2) E := by
  intro x dx hx hdx hne
  have hx2 : (upd H1 dx (.own x)) x = none := by rw [upd_ne hne.symm]; exact hx
  have k1 : Same H1 (upd (upd H1 dx (.own x)) x (.ins C dx [])) := (Same.new hdx).trans (Same.new hx2)
  refine ⟨x, tz, tg, dx, zs, g, rfl, upd_same, Same.tup k1 hz.sq, hG.same k1, hg, fun H' ⟨dx', h1⟩ h2 => ⟨rfl, ?_⟩⟩
  have k2 : Same H1 H' := fun b o e => h2 b o (k1 b o e) (ne_of_none e hx)
  exact k x H' ⟨⟨dx', tz, tg, h1, Same.kt k2 hz, hG.same k2⟩, hg⟩ k2
abbrev s_kinds : Stmt := inClass (top 59) 2
theorem sc_kinds : FnScope ["self"] ["self"] (defScope s_kinds) := ⟨rfl, rfl, rfl, by decide +kernel, rfl, by decide +kernel, by decide +kernel⟩
def spKinds (C : Addr) : Sp := fun vs H Q _ => ∃ (y dx tz tg : Addr), vs = [.ref y] ∧ H y = some (.ins C dx (fl tz tg)) ∧ Q (.ref tz) H
theorem ok_kinds {f : Addr} (D : MfT K "kinds" "Yard.kinds" s_kinds ["self"] f) (Y : YT K mg C) : MfC P w K mg base 1 f ["self"] (spKinds C) := by
  refine mfS (k := 0) D sc_kinds (fun vs H Q E h => by obtain ⟨y, dx, tz, tg, rfl, _⟩ := h; rfl) fun cdv A outer s H vs Q E hr h => ?_
  refine ⟨_, (pss_one (ps_ret (pe_fld (pv 0) rfl))), ?_⟩
  obtain ⟨y, dx, tz, tg, rfl, hy, hk⟩ := h
  exact ⟨.ref y, rfl, y, C, dx, _, _, rfl, hy, Y.cl, Y.nK, fl_kinds _ _, hk⟩
abbrev s_rows : Stmt := inClass (top 59) 3
theorem sc_rows : FnScope ["self"] ["self"] (defScope s_rows) := ⟨rfl, rfl, rfl, by decide +kernel, rfl, by decide +kernel, by decide +kernel⟩
def spRows (C : Addr) : Sp := fun vs H Q _ => ∃ (y dx tz tg : Addr), vs = [.ref y] ∧ H y = some (.ins C dx (fl tz tg)) ∧ Q (.ref tg) H
theorem ok_rows {f : Addr} (D : MfT K "rows" "Yard.rows" s_rows ["self"] f) (Y : YT K mg C) : MfC P w K mg base 1 f ["self"] (spRows C) := by
  refine mfS (k := 0) D sc_rows (fun vs H Q E h => by obtain ⟨y, dx, tz, tg, rfl, _⟩ := h; rfl) fun cdv A outer s H vs Q E hr h => ?_
  refine ⟨_, (pss_one (ps_ret (pe_fld (pv 0) rfl))), ?_⟩
  obtain ⟨y, dx, tz, tg, rfl, hy, hk⟩ := h
  exact ⟨.ref y, rfl, y, C, dx, _, _, rfl, hy, Y.cl, Y.nR, fl_rows _ _, hk⟩
abbrev s_len : Stmt := inClass (top 59) 11
theorem sc_len : FnScope ["self"] ["self"] (defScope s_len) := ⟨rfl, rfl, rfl, by decide +kernel, rfl, by decide +kernel, by decide +kernel⟩
def spLen (K : PySem.W.Frag) (C : Addr) : Sp := fun vs H Q _ => ∃ (y : Addr) (zs : List (List Nat)) (g : Gr), vs = [.ref y] ∧ YardAt K C H y zs g ∧ Q (vN zs.length) H
theorem ok_len {f : Addr} (D : MfT K "__len__" "Yard.__len__" s_len ["self"] f) (T : Tx K mg) (Y : YT K mg C) : MfC P w K mg base 1 f ["self"] (spLen K C) := by
  refine mfS (k := 0) D sc_len (fun vs H Q E h => by obtain ⟨y, zs, g, rfl, _⟩ := h; rfl) fun cdv A outer s H vs Q E hr h => ?_
  refine ⟨_, (pss_one (ps_ret (pe_callB (r := rLenQ K) call_len_seq (by rfl) T.n_len (by decide +kernel) (pa_cons (pe_fld (pv 0) rfl) pa_nil)))), ?_⟩
  obtain ⟨y, zs, g, rfl, hy, hk⟩ := h
  obtain ⟨dx, tz, tg, h1, h2, h3⟩ := hy.ex
  refine ⟨.ref y, rfl, y, C, dx, _, _, rfl, h1, Y.cl, Y.nK, fl_kinds _ _, tz, _, rfl, .inr h2, ?_⟩
  rw [List.length_map]
  exact hk
abbrev s_str : Stmt := inClass (top 59) 12
theorem sc_str : FnScope ["self"] ["self"] (defScope s_str) := ⟨rfl, rfl, rfl, by decide +kernel, rfl, by decide +kernel, by decide +kernel⟩
def spStr (K : PySem.W.Frag) (C : Addr) : Sp := fun vs H Q _ => ∃ (y : Addr) (zs : List (List Nat)) (g : Gr), vs = [.ref y] ∧ YardS K C H y zs g ∧ ∀ H', Same H H' → Q (vS (sheetL zs g)) H'
theorem ok_str {f : Addr} (D : MfT K "__str__" "Yard.__str__" s_str ["self"] f) (T : Tx K mg) (Y : YT K mg C) (htext_lines : Cal P w K mg base 2 "text_lines" (spLines K) []) : MfC P w K mg base 3 f ["self"] (spStr K C) := by
  refine mfS (k := 2) D sc_str (fun vs H Q E h => by obtain ⟨y, zs, g, rfl, _⟩ := h; rfl) fun cdv A outer s H vs Q E hr h => ?_
  refine ⟨_, (pss_one (ps_ret (pe_join pe_str (pe_c htext_lines hr (by decide) (by rfl) (pa_cons (pe_fld (pv 0) rfl) (pa_cons (pe_fld (pv 0) rfl) pa_nil)))))), ?_⟩
  obtain ⟨y, zs, g, rfl, hy, hk⟩ := h
  obtain ⟨dx, tz, tg, h1, h2, h3⟩ := hy.ex
  refine ⟨⟨_, rfl⟩, .ref y, rfl, y, C, dx, _, _, rfl, h1, Y.cl, Y.nK, fl_kinds _ _, .ref y, rfl, y, C, dx, _, _, rfl, h1, Y.cl, Y.nR, fl_rows _ _, tz, tg, zs, g, rfl, h2, h3, hy.good, fun l H1 hl k1 => ?_⟩
  refine ⟨_, l, (linesL zs g).map S, rfl, rfl, .inl ?_, ?_, ?_⟩
  · rw [map_vS]
    exact SqL.of hl
  · rw [show ("\n" : Str).length = 1 from by decide +kernel]
    exact lens_ok (b := 200) (n := 5) (fun z hz => hy.good.line_len hz) (by rw [hy.good.lines_len]; have := hy.good.n4; omega) (by decide)
  · rw [nl_S, SX.join_S]
    exact hk H1 k1
abbrev s_repr : Stmt := inClass (top 59) 13
theorem sc_repr : FnScope ["self"] ["self"] (defScope s_repr) := ⟨rfl, rfl, rfl, by decide +kernel, rfl, by decide +kernel, by decide +kernel⟩
/-- the name for readers -/
def nameFor (n : Nat) : Str := Str.empty ++ ("Yard of " : Str) ++ Str.ofString (toString (n : Int)) ++ (" kinds" : Str)
def spRepr (K : PySem.W.Frag) (C : Addr) : Sp := fun vs H Q _ => ∃ (y : Addr) (zs : List (List Nat)) (g : Gr), vs = [.ref y] ∧ YardAt K C H y zs g ∧ Q (.str (nameFor zs.length)) H
theorem ok_repr {f : Addr} (D : MfT K "__repr__" "Yard.__repr__" s_repr ["self"] f) (T : Tx K mg) (Y : YT K mg C) : MfC P w K mg base 1 f ["self"] (spRepr K C) := by
  refine mfS (k := 0) D sc_repr (fun vs H Q E h => by obtain ⟨y, zs, g, rfl, _⟩ := h; rfl) fun cdv A outer s H vs Q E hr h => ?_
  refine ⟨_, (pss_one (ps_ret (pe_joined (.cons pe_str (.cons (pe_fmt (pe_callB (r := rLenQ K) call_len_seq (by rfl) T.n_len (by decide +kernel) (pa_cons (pe_fld (pv 0) rfl) pa_nil))) (.cons pe_str .nil)))))), ?_⟩
  obtain ⟨y, zs, g, rfl, hy, hk⟩ := h
  obtain ⟨dx, tz, tg, h1, h2, h3⟩ := hy.ex
  have n2 := hy.good.n2
  have n4 := hy.good.n4
  have hnn : zs.length = 2 ∨ zs.length = 3 ∨ zs.length = 4 := by omega
  refine ⟨_, rfl, by decide +kernel, .ref y, rfl, y, C, dx, _, _, rfl, h1, Y.cl, Y.nK, fl_kinds _ _, tz, _, rfl, .inr h2, .inr ⟨_, rfl, ?_, ?_⟩⟩
  · rw [List.length_map]
    rcases hnn with e | e | e <;> rw [e] <;> decide
  · rw [List.length_map]
    refine ⟨_, rfl, ?_, _, rfl, ?_, hk⟩
    · rcases hnn with e | e | e <;> rw [e] <;> decide +kernel
    · rcases hnn with e | e | e <;> rw [e] <;> decide +kernel
end
end Y

set_option Elab.async false
set_option linter.all false
set_option maxRecDepth 100000
set_option maxHeartbeats 4000000
namespace Y
open PySem PySem.Spec PyProof.Rows L2
section
variable {X : Cx} {pins : List (Addr × Obj)} {σ : L2.St} {H : Hp} {s : Shared} {k : Nat} {C f a : Addr} {sp : Sp}
/-- a method's def, run further in -/
theorem own_run {A' : Around} {Ew : Value → Shared → Prop} {PW : Value → Shared → Prop} {Q : VK} (F : FnR X.prog X.w X.K X.mg X.base CX0 k f sp) (hr : Room k A') (e0 : Env0 X.prog X.w X.K X.mg X.base A' X.stack s H) (I : Inv X pins σ H s)
    (h : sp [.ref a] H Q E0) (hP : ∀ u s', EP X pins σ Q u s' → PW u s') :
    codeAny (model X.prog X.w) A' (.call (.ref f) ⟨[.ref a], []⟩) (fun r s' => match r with | .ok (.ret v) => PW v s' | .ok _ => False | .error e => Ew e s') s := by
  refine codeAny_mono (F A' X.stack s H [.ref a] [.ref a] Q E0 hr e0 (.cons rfl .nil) h) fun r s' hq => ?_
  cases r with
  | error er => exact False.elim hq
  | ok fl =>
    cases fl with
    | ret u => exact hP u s' (I.after hq)
    | next => exact False.elim hq
    | brk => exact False.elim hq
    | cont => exact False.elim hq
def rLenO (C : Addr) (sp : Sp) : List V → Hp → VK → Prop := fun xs H Q => ∃ (a dx : Addr) (fs : List (Str × V)), xs = [.ref a] ∧ H a = some (.ins C dx fs) ∧ sp [.ref a] H (fun v H' => ∃ n : Nat, n < 2 ^ 60 ∧ v = .int n ∧ Q v H') E0
theorem call_lenO (hr : Room (k + 1) X.A) (hs : PySem.W.findIn X.K (.ref C) "__len__" = some (some (.ref f))) (hf : PySem.W.isFn X.K (.ref f) = true) (F : FnR X.prog X.w X.K X.mg X.base CX0 k f sp) : CallR X (.builtin "len") (rLenO C sp) := by
  intro pins s σ H xs us Q I r h
  obtain ⟨a, dx, fs, rfl, ea, h⟩ := h
  obtain rfl := Vals.ref1 r
  obtain ⟨mA, O, _⟩ := ins_get I.hok ea
  obtain ⟨od, J, _⟩ := O.look
  obtain ⟨m, fr⟩ := I.fr
  refine PySem.W.len_K fr I.ok.mod.kin J hs hf (wpAny_call (own_run F hr.in1 I.env0.in1 I h fun u s' z => ?_))
  obtain ⟨v, H', I3, rv, n, hn, ev, q⟩ := z
  subst ev
  obtain ⟨t, rfl⟩ := rv
  exact ⟨⟨by omega, by omega⟩, .int n, H', I3.tok _, ⟨_, rfl⟩, q⟩
def rStrO (C : Addr) (sp : Sp) : List V → Hp → VK → Prop := fun xs H Q => ∃ (a dx : Addr) (fs : List (Str × V)), xs = [.ref a] ∧ H a = some (.ins C dx fs) ∧ sp [.ref a] H (fun v H' => ∃ z : Str, v = .str z ∧ Q v H') E0
theorem call_strO (hr : Room (k + 2) X.A) (hs : PySem.W.findIn X.K (.ref C) "__str__" = some (some (.ref f))) (hf : PySem.W.isFn X.K (.ref f) = true) (F : FnR X.prog X.w X.K X.mg X.base CX0 k f sp) : CallR X (.type "str") (rStrO C sp) := by
  intro pins s σ H xs us Q I r h
  obtain ⟨a, dx, fs, rfl, ea, h⟩ := h
  obtain rfl := Vals.ref1 r
  obtain ⟨mA, O, _⟩ := ins_get I.hok ea
  obtain ⟨od, J, _⟩ := O.look
  refine PySem.W.kso_call hr.in1.in1.units0 I.kIn J hs hf (wpAny_call (own_run F hr.in1.in1 I.env0.in1.in1 I h fun u s' z => ?_))
  obtain ⟨v, H', I3, rv, z, ev, q⟩ := z
  subst ev
  obtain ⟨t, rfl⟩ := rv
  exact ⟨.str z, H', I3, ⟨_, rfl⟩, q⟩
theorem call_reprO (hr : Room (k + 1) X.A) (hs : PySem.W.findIn X.K (.ref C) "__repr__" = some (some (.ref f))) (hf : PySem.W.isFn X.K (.ref f) = true) (F : FnR X.prog X.w X.K X.mg X.base CX0 k f sp) : CallR X (.builtin "repr") (rStrO C sp) := by
  intro pins s σ H xs us Q I r h
  obtain ⟨a, dx, fs, rfl, ea, h⟩ := h
  obtain rfl := Vals.ref1 r
  obtain ⟨mA, O, _⟩ := ins_get I.hok ea
  obtain ⟨od, J, _⟩ := O.look
  obtain ⟨m, fr⟩ := I.fr
  refine PySem.W.repr_K hr.in1.units0 fr I.ok.mod.kin J hs hf (wpAny_call (own_run F hr.in1 I.env0.in1 I h fun u s' z => ?_))
  obtain ⟨v, H', I3, rv, z, ev, q⟩ := z
  subst ev
  obtain ⟨t, rfl⟩ := rv
  exact ⟨.str z, H', I3, ⟨_, rfl⟩, q⟩
def rBoolO (C : Addr) (sp : Sp) : List V → Hp → VK → Prop := fun xs H Q => ∃ (a dx : Addr) (fs : List (Str × V)), xs = [.ref a] ∧ H a = some (.ins C dx fs) ∧ sp [.ref a] H (fun v H' => ∃ n : Nat, n < 2 ^ 60 ∧ v = .int n ∧ Q (.bl ((n : Int) != 0)) H') E0
theorem call_boolO (hr : Room (k + 3) X.A) (hb : PySem.W.findIn X.K (.ref C) "__bool__" = some none) (hs : PySem.W.findIn X.K (.ref C) "__len__" = some (some (.ref f))) (hf : PySem.W.isFn X.K (.ref f) = true) (F : FnR X.prog X.w X.K X.mg X.base CX0 k f sp) :
    CallR X (.type "bool") (rBoolO C sp) := by
  intro pins s σ H xs us Q I r h
  obtain ⟨a, dx, fs, rfl, ea, h⟩ := h
  obtain rfl := Vals.ref1 r
  obtain ⟨mA, O, _⟩ := ins_get I.hok ea
  obtain ⟨od, J, _⟩ := O.look
  refine PySem.W.call_bool_len I.kIn J hb hs hf (own_run F hr.in1.in1.in1 I.env0.in1.in1.in1 I h fun u s' z => ?_)
  obtain ⟨v, H', I3, rv, n, hn, ev, q⟩ := z
  subst ev
  obtain ⟨t, rfl⟩ := rv
  exact ⟨⟨by omega, by omega⟩, n, _, rfl, .bl _, H', I3.tok _, rfl, q⟩
/-- a class in a local name, called -/
def tMakeL (i : Nat) (C : Addr) (sp : Sp) (dvs : List V) (E : XK) (t : TA) : TE := fun σ H Q => σ[i]? = some (some (.ref C)) ∧ tMake C sp dvs E t σ H Q
variable {CX : CXT} {fd : FuncData} {ps : List Str} {dvs : List V} {ds : List Value} {E : XK} {x : Str} {p pos : Pos} {e : Expr} {es : List Expr} {t : TA} {i : Nat}
theorem pe_makeL (M : Mk X.K C f) (F : FnOk X.prog X.w X.K X.mg X.base CX k f fd ps sp) (hr : Room (k + 1) X.A) (hb : Binds X.K fd ps ds) (hd : Vals dvs ds) (hx : Passes CX X E) (hN : X.N[i]? = some x) (hv : Vis X.env.scope x)
    (ha : PA X (e :: es) t) (hdb : (x == ("__debug__" : Str)) = false := by decide) (hcd : (x == ("__classdict__" : Str)) = false := by decide) (he : starEach (e :: es) X.env = (false, eval e X.env) :: starEach es X.env := by rfl) (hpl : (backTo pos (starEach es X.env)).any (·.1) = false := by rfl) :
    PE X (.Call (.Name x p) (e :: es) [] pos) (tMakeL i C sp dvs E t) := by
  refine ⟨fun pins s σ H Q I h => ?_⟩
  obtain ⟨hi, h⟩ := h
  refine wpAny_Call_Name_kw (thn ((pe_var (pos := p) hN hv hdb hcd).run pins s σ H (fun v H1 => v = .ref C ∧ H1 = H) I ⟨.ref C, hi, rfl, rfl⟩) fun u s1 ⟨v, H1, I1, r1, q1⟩ => ?_)
  obtain ⟨rfl, rfl⟩ := q1
  cases r1
  refine PySem.W.callWith_K (h₀ := X.base) I.ok.mod.kin M.kp (thn (ha.run pos pins s1 σ _ _ I1 h) fun us s2 ⟨vs, H2, I2, r, q⟩ => ⟨I2.kIn, ?_⟩) he hpl
  exact run_make M F hr hb hd hx I2 r q
end
end Y

set_option Elab.async false
set_option linter.all false
set_option maxRecDepth 100000
set_option maxHeartbeats 4000000
namespace Y
open PySem L2
open SX (S)
open C8 (Cal pe_c pe_gc)
section
variable {P : Program} {w : World} {K : PySem.W.Frag} {mg : Str → Option Value} {base : Heap} {C : Addr}
abbrev s_begun : Stmt := top 61
theorem sc_begun : FnScope ["_law_script", "_law_turn", "_law_own", "_law_state", "_law_cell"] ["_law_script", "_law_turn"] (defScope s_begun) := ⟨rfl, rfl, rfl, by decide +kernel, rfl, by decide +kernel, by decide +kernel⟩
def spB (K : PySem.W.Frag) : Sp := fun vs H Q _ => ∃ (a : Addr) (t : Int) (ns : List Int), vs = [.ref a, .int t] ∧ (0 ≤ t ∧ t < 5) ∧ SqL K H a (ns.map V.int) ∧ (∀ z ∈ ns, Builtin.Int.intBits z ≤ 1048576) ∧
  ∀ q H', H q = none → (∀ b o, H b = some o → H' b = some o) → PailAt H' q → Q (.ref q) H'
theorem ok_begun (D : DfT K mg "_law_begun" s_begun ["_law_script", "_law_turn"]) (T : Tx K mg) : Cal P w K mg base 1 "_law_begun" (spB K) [] := by
  have nd := sc_begun.nd
  refine calS (k := 0) D sc_begun (fun vs H Q E h => by obtain ⟨a, t, ns, rfl, _⟩ := h; rfl) fun f cdv A outer s H vs Q E hr h => ?_
  let sc : Scope := defScope s_begun
  refine ⟨_, (pss_cons (ps_set (i := 2) nd rfl (by first | exact Or.inl rfl | exact Or.inr rfl) (pe_ifExp (pt_cmpR op_lt (pv 1) (pe_callB call_len_seq (by rfl) T.n_len (by decide +kernel) (pa_cons (pv 0) pa_nil)) (nomark _)) (pe_ix ix_list (pv 0) (pv 1) (fun _ _ => rfl)) pe_int))
    (pss_cons (ps_set (i := 3) nd rfl (by first | exact Or.inl rfl | exact Or.inr rfl) (pe_op op_add pe_int (pe_op op_mul pe_int (pv 1))))
    (pss_cons (ps_for PassesOwn.never rfl (pi_list (pe_slice sl_list (pv 0) po_none (po_some pe_int))) (pg_name (i := 4) nd rfl (by first | exact Or.inl rfl | exact Or.inr rfl))
        (pss_one (ps_set (i := 3) nd rfl (by first | exact Or.inl rfl | exact Or.inr rfl) (pe_op op_mod (pe_callTy call_int1 (by rfl) T.n_int (by decide +kernel) (pa_cons (pe_op op_add (pe_op op_add (pe_op op_mul (pv 3) pe_int) (pe_op op_mul (pv 4) pe_int)) pe_int) pa_nil)) pe_int))))
    (pss_one (ps_ret (pe_lst (pa_cons (pe_ifExp (PW.pt (pw_or (pt_cmpR op_lt (pv 2) pe_int (nomark _)) (pw_or1 (pt_cmpR op_ge (pv 2) (pe_op op_pow pe_int pe_int) (nomark _))))) (pe_callB call_abs (by rfl) T.n_abs (by decide +kernel) (pa_cons (pv 2) pa_nil)) pe_int)
      (pa_cons (pe_op op_mod (pe_callTy call_int1 (by rfl) T.n_int (by decide +kernel) (pa_cons (pe_op op_add (pe_op op_add (pe_op op_mul (pv 3) pe_int) (pe_op op_mulX (pv 2) (pv 2))) (pe_op op_mul pe_int (pv 1))) pa_nil)) pe_int)
      (pa_cons pe_int pa_nil))))))))), ?_⟩
  obtain ⟨a, t, ns, rfl, ht, hs, hbits, hk⟩ := h
  obtain ⟨own, hown, hev⟩ : ∃ own : Int, Builtin.Int.intBits own ≤ 1048576 ∧ ∀ (o2 o3 o4 : Option V) (Q : VK), Q (.int own) H → (tIf (tTest (tOp (rI0 fun i j => .bl (decide (i < j))) (tVar 1) (tCB (fun xs H Q => ∃ p ys, xs = [.ref p] ∧ (SqL K H p ys ∨ SqT K H p ys) ∧ Q (.int ys.length) H) (tCons (tVar 0) tNil)))) (tOp (rIxL K) (tVar 0) (tVar 1)) (tC (.int 0))) [some (.ref a), some (.int t), o2, o3, o4] H Q := by
    by_cases hc : t < (ns.map V.int).length
    · have hn : t.toNat < ns.length := by rw [List.length_map] at hc; omega
      refine ⟨ns[t.toNat], hbits _ (List.getElem_mem hn), fun o2 o3 o4 Q q => ?_⟩
      refine ⟨.int t, rfl, .ref a, rfl, a, _, rfl, .inl hs, t, _, rfl, rfl, _, rfl, ?_⟩
      show (if decide (t < (ns.map V.int).length) = true then _ else _)
      rw [if_pos (decide_eq_true hc)]
      refine ⟨.ref a, rfl, .int t, rfl, a, _, t, .int ns[t.toNat], rfl, rfl, hs, ?_, q⟩
      unfold L2.atI L2.ixN
      rw [if_pos ht.1, if_pos hc]
      show (ns.map V.int)[t.toNat]? = _
      rw [List.getElem?_map, List.getElem?_eq_getElem hn]
      rfl
    · refine ⟨0, by decide, fun o2 o3 o4 Q q => ?_⟩
      refine ⟨.int t, rfl, .ref a, rfl, a, _, rfl, .inl hs, t, _, rfl, rfl, _, rfl, ?_⟩
      show (if decide (t < (ns.map V.int).length) = true then _ else _)
      rw [if_neg (by rw [decide_eq_true_eq]; exact hc)]
      exact q
  refine hev none none none _ ?_
  refine ⟨.int t, rfl, 7727, t, rfl, rfl, .inl ⟨by decide, by decide⟩, 60013, 7727 * t, rfl, rfl, ?_⟩
  refine ⟨.ref a, rfl, 6, rfl, a, _, rfl, hs, fun l hl => ?_⟩
  generalize hcut : cutV (ns.map V.int) none (some 6) = cut
  have hints : ∀ v ∈ cut, ∃ z : Int, v = .int z := fun v hv => by
    rw [← hcut] at hv
    obtain ⟨z, _, e⟩ := List.mem_map.mp (List.mem_of_mem_drop (List.mem_of_mem_take hv))
    exact ⟨z, e.symm⟩
  let Hl : Hp := upd H l (.lst cut)
  have hSl : SqL K Hl l cut := SqL.of upd_same
  refine ⟨l, rfl, ⟨cut, hSl⟩, ?_⟩
  refine ⟨fun i m σ H1 => ∃ (st : Int) (e4 : Option V), σ = [some (.ref a), some (.int t), some (.int own), some (.int st), e4] ∧ H1 = Hl ∧ (0 ≤ st ∧ st < 2147483629) ∧ i ≤ cut.length ∧ m = cut.length - i, ⟨cut.length, 60013 + 7727 * t, none, rfl, rfl, ⟨by omega, by omega⟩, Nat.zero_le _, rfl⟩, ?_⟩
  rintro i m σ H1 ⟨st, e4, rfl, rfl, hst, hi, rfl⟩
  by_cases hs2 : i = cut.length
  · refine .inl ⟨⟨cut, hSl, by omega⟩, ?_⟩
    obtain ⟨a', hev2⟩ : ∃ a' : Int, ∀ (Q : VK), Q (.int a') Hl → tIf (tOr (tTest (tOp (rI0 fun i j => V.bl (decide (i < j))) (tVar 2) (tC (V.int 0)))) (tTest (tOp (rI0 fun i j => V.bl (decide (j ≤ i))) (tVar 2) (tOp (rI CPow fun i j => V.int (i ^ j.toNat)) (tC (V.int 10)) (tC (V.int 18))))))
        (tCB (fun xs H Q => ∃ i, xs = [V.int i] ∧ Q (V.int (if i < 0 then -i else i)) H) (tCons (tVar 2) tNil)) (tC (V.int 0)) [some (.ref a), some (.int t), some (.int own), some (.int st), e4] Hl Q := by
      by_cases h1 : own < 0
      · refine ⟨if own < 0 then -own else own, fun Q q => ?_⟩
        refine ⟨.int own, rfl, own, 0, rfl, rfl, _, rfl, ?_⟩
        show (if decide (own < 0) = true then _ else _)
        rw [if_pos (decide_eq_true h1)]
        exact ⟨.int own, rfl, own, rfl, q⟩
      · by_cases h2 : (10 : Int) ^ (18 : Int).toNat ≤ own
        · refine ⟨if own < 0 then -own else own, fun Q q => ?_⟩
          refine ⟨.int own, rfl, own, 0, rfl, rfl, _, rfl, ?_⟩
          show (if decide (own < 0) = true then _ else _)
          rw [if_neg (by rw [decide_eq_true_eq]; exact h1)]
          refine ⟨.int own, rfl, 10, 18, rfl, rfl, ⟨by decide, by decide, by decide⟩, own, _, rfl, rfl, _, rfl, ?_⟩
          show (if decide ((10 : Int) ^ (18 : Int).toNat ≤ own) = true then _ else _)
          rw [if_pos (decide_eq_true h2)]
          exact ⟨.int own, rfl, own, rfl, q⟩
        · refine ⟨0, fun Q q => ?_⟩
          refine ⟨.int own, rfl, own, 0, rfl, rfl, _, rfl, ?_⟩
          show (if decide (own < 0) = true then _ else _)
          rw [if_neg (by rw [decide_eq_true_eq]; exact h1)]
          refine ⟨.int own, rfl, 10, 18, rfl, rfl, ⟨by decide, by decide, by decide⟩, own, _, rfl, rfl, _, rfl, ?_⟩
          show (if decide ((10 : Int) ^ (18 : Int).toNat ≤ own) = true then _ else _)
          rw [if_neg (by rw [decide_eq_true_eq]; exact h2)]
          exact q
    refine hev2 _ ?_
    have hX : CMulX own own := by
      show (Builtin.Int.intBits own : Int) + (Builtin.Int.intBits own : Int) ≤ 134217728
      have : (Builtin.Int.intBits own : Int) ≤ 1048576 := Int.ofNat_le.mpr hown
      omega
    refine ⟨.int st, rfl, st, 53, rfl, rfl, .inr ⟨by decide, by decide⟩, .int own, rfl, .int own, rfl, own, own, rfl, rfl, hX, _, _, rfl, rfl, .int t, rfl, 17, t, rfl, rfl, .inl ⟨by decide, by decide⟩, _, _, rfl, rfl,
      .inl ⟨_, rfl, _, 2147483629, rfl, rfl, (show (0 : Int) < 2147483629 by decide), ?_⟩⟩
    refine ⟨(show 3 ≤ sizeLine by decide), fun p hp => ?_⟩
    have hpl : p ≠ l := fun z => by
      subst z
      rw [show Hl p = some (.lst cut) from upd_same] at hp
      cases hp
    have hHp : H p = none := by
      rw [← hp]
      exact (upd_ne hpl).symm
    refine hk p _ hHp (fun b o hb => ?_) ⟨a', (st * 53 + own * own + 17 * t) % 2147483629, 0, ⟨Int.emod_nonneg _ (by decide), Int.lt_trans (Int.emod_lt_of_pos _ (show (0 : Int) < 2147483629 by decide)) (by decide)⟩, upd_same⟩
    rw [upd_ne (ne_of_none hb hHp), show Hl b = H b from upd_ne (ne_of_none hb hl)]
    exact hb
  · have hi2 : i < cut.length := by omega
    refine .inr ⟨⟨cut, cut[i], hSl, List.getElem?_eq_getElem hi2⟩, fun σ' H' => ∃ (st : Int) (e4 : Option V), σ' = [some (.ref a), some (.int t), some (.int own), some (.int st), e4] ∧ H' = Hl ∧ (0 ≤ st ∧ st < 2147483629), fun σ' H' hN => ?_, fun x H' hx => ?_⟩
    · obtain ⟨st', g, rfl, rfl, h'⟩ := hN
      exact ⟨cut.length - (i + 1), by omega, st', g, rfl, rfl, h', by omega, rfl⟩
    · obtain ⟨rfl, hx⟩ := hx
      have hx2 := hx cut (hSl)
      obtain ⟨z, rfl⟩ := hints x (List.mem_of_getElem? hx2)
      refine ⟨.int st, rfl, st, 30269, rfl, rfl, .inr ⟨by decide, by decide⟩, .int z, rfl, z, 7, rfl, rfl, .inr ⟨by decide, by decide⟩, _, _, rfl, rfl, _, 13, rfl, rfl, .inl ⟨_, rfl, _, 2147483629, rfl, rfl, (show (0 : Int) < 2147483629 by decide), ?_⟩⟩
      exact ⟨_, _, rfl, rfl, Int.emod_nonneg _ (by decide), Int.emod_lt_of_pos _ (by decide)⟩
abbrev s_drawn : Stmt := top 71
theorem sc_drawn : FnScope ["_law_pail", "_law_size"] ["_law_pail"] (defScope s_drawn) := ⟨rfl, rfl, rfl, by decide +kernel, rfl, by decide +kernel, by decide +kernel⟩
/-- a drawn thing: names and their table -/
structure DrAt (K : PySem.W.Frag) (H : Hp) (l : Addr) (zs : List (List Nat)) (g : Gr) : Prop where
  ex0 : ∃ tz tg, H l = some (.lst [.ref tz, .ref tg]) ∧ KTup H tz (zs.map vS) ∧ GridAt K H tg g
  good : Good zs g
/-- the same of a table that may not be balanced -/
structure DrU (K : PySem.W.Frag) (H : Hp) (l : Addr) (zs : List (List Nat)) (g : Gr) : Prop where
  ex : ∃ tz tg, H l = some (.lst [.ref tz, .ref tg]) ∧ SqT K H tz (zs.map vS) ∧ GridAt K H tg g
  good : GoodU zs g
theorem DrAt.ex {H : Hp} {l : Addr} {zs : List (List Nat)} {g : Gr} (h : DrAt K H l zs g) : ∃ tz tg, H l = some (.lst [.ref tz, .ref tg]) ∧ SqT K H tz (zs.map vS) ∧ GridAt K H tg g := by
  obtain ⟨tz, tg, h1, h2, h3⟩ := h.ex0
  exact ⟨tz, tg, h1, h2.sq, h3⟩
theorem DrAt.u {H : Hp} {l : Addr} {zs : List (List Nat)} {g : Gr} (h : DrAt K H l zs g) : DrU K H l zs g := ⟨h.ex, h.good.u⟩
theorem DrAt.same {H H' : Hp} {l : Addr} {zs : List (List Nat)} {g : Gr} (h : DrAt K H l zs g) (k : Same H H') : DrAt K H' l zs g := by
  obtain ⟨tz, tg, h1, h2, h3⟩ := h.ex0
  exact ⟨⟨tz, tg, k _ _ h1, Same.kt k h2, h3.same k⟩, h.good⟩
theorem DrAt.kpx {p : Addr} {H H' : Hp} {l : Addr} {zs : List (List Nat)} {g : Gr} (h : DrAt K H l zs g) (hP : PailAt H p) (k : KpX p H H') : DrAt K H' l zs g := by
  obtain ⟨tz, tg, h1, h2, h3⟩ := h.ex0
  refine ⟨⟨tz, tg, k _ _ h1 fun z => ?_, k.kt hP h2, h3.kpx hP k⟩, h.good⟩
  subst z
  obtain ⟨a, b, c, _, e⟩ := hP.ex
  rw [e] at h1
  cases h1
def spDrawn (K : PySem.W.Frag) : Sp := fun vs H Q _ => ∃ (p : Addr), vs = [.ref p] ∧ PailAt H p ∧ ∀ (zs : List (List Nat)) (g : Gr) (l : Addr) (H' : Hp), DrAt K H' l zs g → PailAt H' p → KpX p H H' → Q (.ref l) H'
theorem ok_drawn (D : DfT K mg "_law_drawn" s_drawn ["_law_pail"]) (T : Tx K mg) (h_any_of : Cal P w K mg base 2 "_law_any_of" (spAny K) []) (h_titles : Cal P w K mg base 4 "_law_titles" (spTitles K) []) (h_drawn_grid : Cal P w K mg base 4 "_law_drawn_grid" (spGrid K) []) :
    Cal P w K mg base 5 "_law_drawn" (spDrawn K) [] := by
  have nd := sc_drawn.nd
  refine calS (k := 4) D sc_drawn (fun vs H Q E h => by obtain ⟨p, rfl, _⟩ := h; rfl) fun f cdv A outer s H vs Q E hr h => ?_
  let sc : Scope := defScope s_drawn
  refine ⟨_, (pss_cons (ps_set (i := 1) nd rfl (by first | exact Or.inl rfl | exact Or.inr rfl) (pe_op op_add pe_int (pe_c h_any_of hr (by decide) (by rfl) (pa_cons (pv 0) (pa_cons (pe_lst (pa_cons pe_int (pa_cons pe_int (pa_cons pe_int (pa_cons pe_int pa_nil))))) pa_nil)))))
    (pss_one (ps_ret (pe_lst (pa_cons (pe_c h_titles hr (by decide) (by rfl) (pa_cons (pv 0) (pa_cons (pv 1) pa_nil))) (pa_cons (pe_c h_drawn_grid hr (by decide) (by rfl) (pa_cons (pv 0) (pa_cons (pv 1) pa_nil))) pa_nil)))))), ?_⟩
  obtain ⟨p, rfl, hP, hk⟩ := h
  refine ⟨.ref p, rfl, (by show 4 ≤ sizeLine; decide), fun l hl => ?_⟩
  have k1 := Same.new (H := H) (o := .lst [.int 0, .int 1, .int 2, .int 2]) hl
  have nl := pail_ne hP hl
  refine ⟨p, l, [.int 0, .int 1, .int 2, .int 2], rfl, hP.same k1, SqL.of upd_same, nl, ⟨by decide, by decide⟩, fun v H2 hv hP2 k2 => ?_⟩
  obtain ⟨j, rfl, hj⟩ : ∃ j : Nat, v = .int j ∧ j ≤ 2 := by
    simp only [List.mem_cons, List.not_mem_nil, or_false] at hv
    rcases hv with e | e | e | e <;> subst e
    · exact ⟨0, rfl, by omega⟩
    · exact ⟨1, rfl, by omega⟩
    · exact ⟨2, rfl, by omega⟩
    · exact ⟨2, rfl, by omega⟩
  refine ⟨2, (j : Int), rfl, rfl, ?_⟩
  have kk := (KpX.new hl).trans k2
  refine ⟨.ref p, rfl, .int (2 + (j : Int)), rfl, p, 2 + (j : Int), rfl, hP2, ⟨by omega, by omega⟩, fun zs tz H3 hzl hnd hnm hz hP3 k3 => ?_⟩
  have e : (2 + (j : Int)) = ((2 + j : Nat) : Int) := by omega
  refine ⟨.ref p, rfl, .int (2 + (j : Int)), rfl, p, 2 + j, by rw [e]; rfl, hP3, ⟨by omega, by omega⟩, fun g tg H4 ht hg hP4 k4 => ?_⟩
  refine ⟨(by show 2 ≤ sizeLine; decide), fun l2 hl2 => ?_⟩
  have hzl2 : zs.length = 2 + j := by omega
  have k5 := Same.new (H := H4) (o := .lst [.ref tz, .ref tg]) hl2
  refine hk zs g l2 _ ⟨⟨tz, tg, upd_same, Same.kt k5 (k4.kt hP3 hz), hg.same k5⟩, ⟨by omega, by omega, hnd, hnm, by rw [hzl2]; exact ht⟩⟩ (hP4.same k5) ?_
  exact kk.trans (k3.trans (k4.trans (KpX.new hl2)))
end
end Y

set_option Elab.async false
set_option linter.all false
set_option maxRecDepth 100000
set_option maxHeartbeats 4000000
namespace Y
open PySem L2
open SX (S)
open C8 (Cal pe_c pe_gc)
section
variable {P : Program} {w : World} {K : PySem.W.Frag} {mg : Str → Option Value} {base : Heap} {C : Addr}
abbrev s_sheet : Stmt := top 72
theorem sc_sheet : FnScope ["_law_parts", "_law_lines", "_law_k", "_law_each"] ["_law_parts"] (defScope s_sheet) := ⟨rfl, rfl, rfl, by decide +kernel, rfl, by decide +kernel, by decide +kernel⟩
def spSheet (K : PySem.W.Frag) : Sp := fun vs H Q _ => ∃ (l : Addr) (zs : List (List Nat)) (g : Gr), vs = [.ref l] ∧ DrU K H l zs g ∧ ∀ H', Same H H' → Q (vS (sheetL zs g)) H'
theorem same_none {H H' : Hp} {D : Addr} (k : Same H H') (h : H' D = none) : H D = none := by
  cases e : H D with
  | none => rfl
  | some o => rw [k _ _ e] at h; cases h
theorem lines_take {zs : List (List Nat)} {g : Gr} {i : Nat} {z : List Nat} {r : List Int} (hz : zs[i]? = some z) (hr : g[i]? = some r) : (linesL zs g).take (i + 1 + 1) = (linesL zs g).take (i + 1) ++ [lineL z r] := by
  unfold linesL
  rw [List.take_succ_cons, zip_take hz hr, List.take_succ_cons, List.cons_append]
theorem ok_sheet (D : DfT K mg "_law_sheet" s_sheet ["_law_parts"]) (T : Tx K mg) : Cal P w K mg base 1 "_law_sheet" (spSheet K) [] := by
  have nd := sc_sheet.nd
  refine calS (k := 0) D sc_sheet (fun vs H Q E h => by obtain ⟨l, zs, g, rfl, _⟩ := h; rfl) fun f cdv A outer s H vs Q E hr h => ?_
  let sc : Scope := defScope s_sheet
  refine ⟨_, (pss_cons (ps_set (i := 1) nd rfl (by first | exact Or.inl rfl | exact Or.inr rfl) (pe_lst (pa_cons (pe_join pe_str (pe_op op_cat (pe_lst (pa_cons pe_str pa_nil)) (pe_callTy (r := rListOf K) call_list_of (by rfl) T.n_list (by decide +kernel) (pa_cons (pe_ix (r := rIxL K) ix_list (pv 0) pe_int (fun _ _ => rfl)) pa_nil)))) pa_nil)))
    (pss_cons (ps_for PassesOwn.never rfl (pi_range1 (by rfl) T.n_range (pa_cons (pe_callB (r := rLenQ K) call_len_seq (by rfl) T.n_len (by decide +kernel) (pa_cons (pe_ix (r := rIxL K) ix_list (pv 0) pe_int (fun _ _ => rfl)) pa_nil)) pa_nil)) (pg_name (i := 2) nd rfl (by first | exact Or.inl rfl | exact Or.inr rfl)) (pss_one (ps_expr (pe_bm PySem.F.plainAttrs_list PySem.F.slot_list_append PySem.F.type_list_append mt_append (pv 1) (pa_cons (pe_join pe_str (pe_op op_cat (pe_lst (pa_cons (pe_ix (r := rIxT K) ix_tup (pe_ix (r := rIxL K) ix_list (pv 0) pe_int (fun _ _ => rfl)) (pv 2) (fun _ _ => rfl)) pa_nil)) (pe_lc (own := [("_law_each", 3)]) (g := gName 3) (by rfl) nd (pi_tup (pe_ix (r := rIxT K) ix_tup (pe_ix (r := rIxL K) ix_list (pv 0) pe_int (fun _ _ => rfl)) (pv 2) (fun _ _ => rfl))) (blkOk_by (own := [("_law_each", 3)]) (N := ["_law_parts", "_law_lines", "_law_k", "_law_each"]) (sc := sc) (by decide +kernel)) (fun _ _ _ _ _ => pg_name (i := 3) nd rfl (Or.inl rfl)) (fun _ _ _ _ _ => pts_nil) (fun _ _ _ _ _ => (pe_callTy call_str_int (by rfl) T.n_str (by decide +kernel) (pa_cons (pv 3) pa_nil)))))) pa_nil)))))
    (pss_one (ps_ret (pe_join pe_str (pv 1)))))), ?_⟩
  obtain ⟨l, zs, g, rfl, hd, hk⟩ := h
  obtain ⟨tz, tg, hl, hz, hg⟩ := hd.ex
  have hgood := hd.good
  have hn4 := hgood.n4
  have hsz : ∀ {n : Nat}, n ≤ 5 → n ≤ sizeLine := fun h => Nat.le_trans h (by decide)
  refine ⟨⟨_, rfl⟩, (by show 1 ≤ sizeLine; decide), fun l1 h1 => ?_⟩
  have k1 := Same.new (H := H) (o := .lst [.str "kinds"]) h1
  refine ⟨.ref l, rfl, l, _, 0, .ref tz, rfl, rfl, SqL.of (k1 _ _ hl), (by exact atI_nat (j := 0) rfl), tz, _, rfl, .inr (Same.tup k1 hz), fun l2 h2 => ?_⟩
  have k2 := Same.new (o := .lst (zs.map vS)) h2
  refine ⟨l1, l2, _, _, rfl, rfl, k2 _ _ upd_same, upd_same, hsz (by show 1 + (zs.map vS).length ≤ 5; rw [List.length_map]; omega), fun l3 h3 => ?_⟩
  have k3 := Same.new (o := .lst ([.str "kinds"] ++ zs.map vS)) h3
  have k03 := (k1.trans k2).trans k3
  refine ⟨_, l3, (kindsL :: zs).map S, rfl, rfl, .inl ?_, ?_, ?_⟩
  · rw [map_vS]
    refine SqL.of ?_
    rw [upd_same, kinds_S]
    rfl
  · rw [show (" " : Str).length = 1 from by decide +kernel]
    refine lens_ok (b := 8) (n := 5) (fun y hy => ?_) (by simp; omega) (by decide)
    rcases List.mem_cons.mp hy with e | e
    · rw [e]
      decide
    · exact (hgood.nm y e).len.2
  rw [sp_S, SX.join_S]
  refine ⟨(by show 1 ≤ sizeLine; decide), fun D hD => ?_⟩
  have kD := k03.trans (Same.new (o := .lst [vS (TL.joinL [32] (kindsL :: zs))]) hD)
  have hHD : H D = none := same_none k03 hD
  refine ⟨.ref l, rfl, l, _, 0, .ref tz, rfl, rfl, SqL.of (kD _ _ hl), (by exact atI_nat (j := 0) rfl), tz, _, rfl, .inr (Same.tup kD hz), _, rfl, ?_⟩
  rw [List.length_map]
  refine ⟨by omega, by omega, for_range (n := zs.length) (fun i σ H' => ∃ (e2 e3 : Option V), σ = [some (.ref l), some (.ref D), e2, e3] ∧ H' D = some (.lst (((linesL zs g).take (i + 1)).map vS)) ∧ Same H H') ⟨none, none, rfl, upd_same, kD⟩ ?_ ?_⟩
  · rintro i σ H1 hi ⟨e2, e3, rfl, hD1, kk⟩
    obtain ⟨as, hta, hal, har⟩ := hg.ex
    have hi2 : i < zs.length := by omega
    obtain ⟨z, hzi⟩ : ∃ z, zs[i]? = some z := ⟨_, List.getElem?_eq_getElem hi2⟩
    have hig : i < g.length := by rw [hgood.glen]; exact hi2
    obtain ⟨a, hai⟩ : ∃ a, as[i]? = some a := ⟨_, List.getElem?_eq_getElem (by rw [hal]; exact hig)⟩
    have hrg := getD_at hig
    obtain ⟨q1, q2⟩ := hgood.tb.rows hrg
    have kz := Same.tup kk hz
    have atz : L2.atI (zs.map vS) (0 + (i : Int)) = some (vS z) := by
      rw [Int.zero_add]
      exact atI_nat (by rw [List.getElem?_map, hzi]; rfl)
    have ata : L2.atI (as.map V.ref) (0 + (i : Int)) = some (V.ref a) := by
      rw [Int.zero_add]
      exact atI_nat (by rw [List.getElem?_map, hai]; rfl)
    refine ⟨.ref D, rfl, .inl ⟨rfl, _, SqL.of hD1⟩, ⟨_, rfl⟩, .ref l, rfl, l, _, 0, .ref tz, rfl, rfl, SqL.of (kk _ _ hl), (by exact atI_nat (j := 0) rfl), .int (0 + (i : Int)), rfl, tz, _, _, vS z, rfl, rfl, kz, atz, ?_⟩
    refine ⟨(by show 1 ≤ sizeLine; decide), fun l1 h1 => ?_⟩
    have k1 := kk.trans (Same.new (o := .lst [vS z]) h1)
    have ha1 := Same.tup k1 (har i a _ hai hrg)
    refine ⟨.ref l, rfl, l, _, 1, .ref tg, rfl, rfl, SqL.of (k1 _ _ hl), (by exact atI_nat (j := 1) rfl), .int (0 + (i : Int)), rfl, tg, _, _, .ref a, rfl, rfl, Same.tup k1 hta, ata, a, rfl, ⟨_, ha1⟩, fun D2 hD2 => ?_⟩
    generalize hr0 : g.getD i [] = r at *
    generalize hH2 : upd H1 l1 (.lst [vS z]) = H2 at *
    refine lc_tup (K := K) (a := a) (xs := r.map vI) (fun j H' => H' D2 = some (.lst (((r.take j).map dL).map vS)) ∧ Same H2 H') ⟨upd_same, Same.new hD2⟩ (fun j H' _ q => Same.tup q.2 ha1) ?_ ?_
    · rintro j x H' hx ⟨hD', k⟩
      obtain ⟨y, hy, rfl⟩ : ∃ z, r[j]? = some z ∧ vI z = x := by
        rw [List.getElem?_map] at hx
        exact Option.map_eq_some_iff.mp hx
      have hyB : rowB y = true := List.all_eq_true.mp q1 y (List.mem_of_getElem? hy)
      have hj : j < r.length := (List.getElem?_eq_some_iff.mp hy).1
      refine ⟨rfl, vI y, rfl, y, rfl, log_ok hyB, ?_⟩
      refine ⟨_, hD', ?_, ?_, fun c o e => ?_⟩
      · rw [List.length_map, List.length_map]
        exact Nat.lt_of_le_of_lt (List.length_take_le _ _) (Nat.lt_of_lt_of_le (show j < 5 by omega) (by decide))
      · rw [upd_same, List.take_succ, hy, str_num hyB]
        simp
      · rw [upd_ne (ne_of_none e hD2)]
        exact k c o e
    · rintro H' ⟨hD', k⟩
      rw [List.length_map, List.take_length] at hD'
      have hl1' : H' l1 = some (.lst [vS z]) := k _ _ (by rw [← hH2]; exact upd_same)
      refine ⟨l1, D2, _, _, rfl, rfl, hl1', hD', hsz (by show 1 + ((r.map dL).map vS).length ≤ 5; rw [List.length_map, List.length_map]; omega), fun l3 h3 => ?_⟩
      have k3 := Same.new (o := .lst ([vS z] ++ (r.map dL).map vS)) h3
      have kall := (k1.trans k).trans k3
      refine ⟨_, l3, (z :: r.map dL).map S, rfl, rfl, .inl ?_, ?_, ?_⟩
      · rw [map_vS]
        refine SqL.of ?_
        rw [upd_same]
        rfl
      · rw [show (S [32]).length = 1 from rfl]
        refine lens_ok (b := 31) (n := 5) (fun y hy => ?_) (by simp; omega) (by decide)
        rcases List.mem_cons.mp hy with e | e
        · rw [e]
          have := (hgood.nm z (List.mem_of_getElem? hzi)).len.2
          omega
        · obtain ⟨x, hx, rfl⟩ := List.mem_map.mp e
          exact dL_len (List.all_eq_true.mp q1 x hx)
      rw [SX.join_S]
      have k13 : Same H1 (upd H' l3 (.lst ([vS z] ++ (r.map dL).map vS))) := fun b o e => k3 _ _ (k _ _ (by rw [← hH2, upd_ne (ne_of_none e h1)]; exact e))
      refine ⟨D, _, vS (lineL z r), rfl, rfl, k13 _ _ hD1, ?_, _, _, rfl, ?_, fun b o e => ?_⟩
      · rw [List.length_map]
        exact Nat.lt_of_le_of_lt (List.length_take_le _ _) (Nat.lt_of_lt_of_le (show i + 1 < 5 by omega) (by decide))
      · rw [upd_same, lines_take hzi hrg, List.map_append]
        rfl
      · rw [upd_ne (ne_of_none e hHD)]
        exact kall b o e
  · rintro σ' H1 ⟨e2, e3, rfl, hD1, kk⟩
    refine ⟨⟨_, rfl⟩, .ref D, rfl, _, D, (linesL zs g).map S, rfl, rfl, .inl ?_, ?_, ?_⟩
    · rw [map_vS]
      refine SqL.of ?_
      rw [hD1, List.take_of_length_le (by rw [hgood.lines_len]; omega)]
    · rw [show ("\n" : Str).length = 1 from by decide +kernel]
      exact lens_ok (b := 200) (n := 5) (fun z hz => hgood.line_len hz) (by rw [hgood.lines_len]; omega) (by decide)
    · rw [nl_S, SX.join_S]
      exact hk H1 kk
end
end Y

set_option Elab.async false
set_option linter.all false
set_option maxRecDepth 100000
set_option maxHeartbeats 4000000
namespace Y
open PySem L2
open SX (S)
open C8 (Cal pe_c pe_gc)
section
variable {P : Program} {w : World} {K : PySem.W.Frag} {mg : Str → Option Value} {base : Heap} {C : Addr}
theorem MfC.raw {k : Nat} {f : Addr} {ps : List Str} {sp : Sp} (M : MfC P w K mg base k f ps sp) : FnR P w K mg base CX0 k f sp := by
  obtain ⟨fd, F, b⟩ := M.ex
  exact (F.raw b .nil).imp fun vs H Q E h => by rw [List.append_nil]; exact h
theorem make_ok2 {H1 : Hp} {tz tg : Addr} {zs : List (List Nat)} {g : Gr} {Q : Addr → Hp → Prop} {E : XK} (hz : KTup H1 tz (zs.map vS)) (hG : GridAt K H1 tg g) (hg : Good zs g) (k : ∀ y H', YardAt K C H' y zs g → Same H1 H' → Q y H') :
    ∀ x dx, H1 x = none → H1 dx = none → dx ≠ x → spInit K C [.ref x, .ref tz, .ref tg] (upd (upd H1 dx (.own x)) x (.ins C dx [])) (fun v H2 => v = .non ∧ Q x H2) E :=
  fun x dx hx hdx hne => by
    have := make_ok (C := C) (Q := fun v H' => ∃ y, v = .ref y ∧ Q y H') (E := E) hz hG hg (fun y H' h1 h2 => ⟨y, rfl, k y H' h1 h2⟩) x dx hx hdx hne
    obtain ⟨p, tz, tg, dx, zs, g, e, q1, q2, q3, q4, q5⟩ := this
    refine ⟨p, tz, tg, dx, zs, g, e, q1, q2, q3, q4, fun H' z1 z2 => ?_⟩
    obtain ⟨z, y, ey, q⟩ := q5 H' z1 z2
    cases ey
    exact ⟨z, q⟩
/-- what the text must say of the class's own defs -/
structure YOwn (K : PySem.W.Frag) (C fs fl fr : Addr) : Prop where
  sStr : PySem.W.findIn K (.ref C) "__str__" = some (some (.ref fs))
  fStr : PySem.W.isFn K (.ref fs) = true
  sLen : PySem.W.findIn K (.ref C) "__len__" = some (some (.ref fl))
  fLen : PySem.W.isFn K (.ref fl) = true
  sRepr : PySem.W.findIn K (.ref C) "__repr__" = some (some (.ref fr))
  fRepr : PySem.W.isFn K (.ref fr) = true
  sBool : PySem.W.findIn K (.ref C) "__bool__" = some none
abbrev s_yard_of_text : Stmt := top 58
theorem sc_yard_of_text : FnScope ["text", "yard"] ["text"] (defScope s_yard_of_text) := ⟨rfl, rfl, rfl, by decide +kernel, rfl, by decide +kernel, by decide +kernel⟩
def spYOf (K : PySem.W.Frag) (C : Addr) : Sp := fun vs H Q _ => ∃ (zs : List (List Nat)) (g : Gr), vs = [vS (sheetL zs g)] ∧ Good zs g ∧ ∀ y H', YardAt K C H' y zs g → Same H H' → Q (.ref y) H'
theorem ok_yard_of_text {fs fl fr : Addr} (D : DfT K mg "yard_of_text" s_yard_of_text ["text"]) (T : Tx K mg) (Y : YT K mg C) (Y2 : YOwn K C fs fl fr) (In : InitY P w K mg base C)
    (h_str : MfC P w K mg base 3 fs ["self"] (spStr K C)) (hkinds_of_text : Cal P w K mg base 1 "kinds_of_text" (spKOf K) []) (hrows_of_text : Cal P w K mg base 3 "rows_of_text" (spROf K) []) : Cal P w K mg base 7 "yard_of_text" (spYOf K C) [] := by
  have nd := sc_yard_of_text.nd
  obtain ⟨fi, fdi, Mk1, Fi, bi, kb⟩ := In.ex
  refine calS (k := 6) D sc_yard_of_text (fun vs H Q E h => by obtain ⟨zs, g, rfl, _⟩ := h; rfl) fun f cdv A outer s H vs Q E hr h => ?_
  let sc : Scope := defScope s_yard_of_text
  refine ⟨_, (pss_cons (ps_try_thru0 (pss_one (ps_set (i := 1) nd rfl (by first | exact Or.inl rfl | exact Or.inr rfl) (pe_make Mk1 Fi (hr.mono (by decide)) (by rfl) Y.mgC bi .nil pass0 (pa_cons (pe_c hkinds_of_text hr (by decide) (by rfl) (pa_cons (pv 0) pa_nil)) (pa_cons (pe_c hrows_of_text hr (by decide) (by rfl) (pa_cons (pv 0) pa_nil)) pa_nil))))))
    (pss_one (ps_ret (pe_ifExp (pt_cmpR op_eq (pe_callTy (call_strO (k := 3) (hr.mono (by decide)) Y2.sStr Y2.fStr h_str.raw) (by rfl) T.n_str (by decide +kernel) (pa_cons (pv 1) pa_nil)) (pv 0) (nomark _)) (pv 1) pe_non)))), ?_⟩
  obtain ⟨zs, g, rfl, hg, hk⟩ := h
  refine ⟨vS (sheetL zs g), rfl, zs, g, rfl, hg.u, fun tz H1 hz k1 => ?_⟩
  refine ⟨vS (sheetL zs g), rfl, zs, g, rfl, hg.u, fun tg H2 hG k2 => ?_⟩
  refine make_ok2 (Same.kt k2 hz) hG hg fun y H3 hy k3 => ?_
  refine ⟨.ref y, rfl, ?_⟩
  obtain ⟨dx, tz', tg', e1, e2, e3⟩ := hy.ex
  refine ⟨y, dx, _, rfl, e1, y, zs, g, rfl, hy.s, fun H4 k4 => ⟨_, rfl, ?_⟩⟩
  refine ⟨vS (sheetL zs g), rfl, ?_⟩
  refine ⟨rfl, _, rfl, ?_⟩
  refine ite2 (fun _ => ?_) (fun h => absurd (by simp) h)
  exact ⟨.ref y, rfl, hk y H4 (hy.same k4) (((k1.trans k2).trans k3).trans k4)⟩
abbrev s_read : Stmt := inClass (top 59) 1
theorem sc_read : FnScope ["cls", "text", "yard"] ["cls", "text"] (defScope s_read) := ⟨rfl, rfl, rfl, by decide +kernel, rfl, by decide +kernel, by decide +kernel⟩
def spRead (K : PySem.W.Frag) (C : Addr) : Sp := fun vs H Q _ => ∃ (zs : List (List Nat)) (g : Gr), vs = [.ref C, vS (sheetL zs g)] ∧ Good zs g ∧ ∀ y H', YardAt K C H' y zs g → Same H H' → Q (.ref y) H'
theorem read0 {f : Addr} (D : MfT K "read" "Yard.read" s_read ["cls", "text"] f) (T : Tx K mg) (hyard_of_text : Cal P w K mg base 7 "yard_of_text" (spYOf K C) []) :
    ∃ (fd : FuncData), Fun K "read" "Yard.read" s_read f fd ∧ FnOk P w K mg base CX0 8 f fd ["cls", "text"] (spRead K C) ∧ Binds K fd ["cls", "text"] [] := by
  have nd := sc_read.nd
  refine mfS0 (k := 7) D sc_read (fun vs H Q E h => by obtain ⟨zs, g, rfl, _⟩ := h; rfl) fun cdv A outer s H vs Q E hr h => ?_
  let sc : Scope := defScope s_read
  refine ⟨_, (pss_cons (ps_if (pt_not (pt_val (pe_callB (r := rIsi K) call_isi (by rfl) T.n_isinstance (by decide +kernel) (pa_cons (pv 1) (pa_cons (pe_bltn (v := .ty "str") (by rfl) T.n_str (by decide +kernel) rfl) pa_nil))))) (pss_one ps_never) pss_nil)
    (pss_cons (ps_set (i := 2) nd rfl (by first | exact Or.inl rfl | exact Or.inr rfl) (pe_c hyard_of_text hr (by decide) (by rfl) (pa_cons (pv 1) pa_nil)))
    (pss_cons (ps_if (pt_cmpR op_isN (pv 2) pe_non (nomark _)) (pss_one ps_never) pss_nil)
    (pss_one (ps_ret (pv 2)))))), ?_⟩
  obtain ⟨zs, g, rfl, hg, hk⟩ := h
  refine ⟨vS (sheetL zs g), rfl, vS (sheetL zs g), .ty "str", .type "str", .type "str", true, rfl, .ty _, .base (.str _), kit_ty (by decide +kernel), true, rfl, ?_⟩
  refine iteF ?_
  refine ⟨vS (sheetL zs g), rfl, zs, g, rfl, hg, fun y H1 hy k1 => ?_⟩
  refine ⟨.ref y, rfl, rfl, _, rfl, ?_⟩
  refine iteF ?_
  exact ⟨.ref y, rfl, hk y H1 hy k1⟩
theorem ok_read {f : Addr} (D : MfT K "read" "Yard.read" s_read ["cls", "text"] f) (T : Tx K mg) (hyard_of_text : Cal P w K mg base 7 "yard_of_text" (spYOf K C) []) : MfC P w K mg base 8 f ["cls", "text"] (spRead K C) := by
  obtain ⟨fd, _, F, b⟩ := read0 D T hyard_of_text
  exact ⟨fd, F, b⟩
end
end Y

set_option Elab.async false
set_option linter.all false
set_option maxRecDepth 100000
set_option maxHeartbeats 4000000
namespace Y
open PySem L2
open SX (S)
open C8 (Cal pe_c pe_gc)
def dK (zs : List (List Nat)) : PyData := .tuple (zs.map fun z => .str (S z))
def dR (g : Gr) : PyData := .tuple (g.map fun r => .tuple (r.map .int))
def dY (zs : List (List Nat)) (g : Gr) : PyData := .list [dK zs, dR g, .int zs.length, .str (S (sheetL zs g)), .str (nameFor zs.length), .bool true]
theorem dpI {K : PySem.W.Frag} {H : Hp} : ∀ r : List Int, DpAll K H (r.map vI) (r.map .int)
  | [] => .nil
  | i :: r => .cons (.int i) (dpI r)
theorem dpG {K : PySem.W.Frag} {H : Hp} : ∀ (as : List Addr) (g : Gr), as.length = g.length → (∀ (i : Nat) (a : Addr) (r : List Int), as[i]? = some a → g[i]? = some r → SqT K H a (r.map vI)) → DpAll K H (as.map V.ref) (g.map fun r => .tuple (r.map .int))
  | [], [], _, _ => .nil
  | [], _ :: _, h, _ => by simp at h
  | _ :: _, [], h, _ => by simp at h
  | a :: as, r :: g, h, hr => .cons (.tup (hr 0 a r rfl rfl) (dpI r)) (dpG as g (by simpa using h) fun i b q x y => hr (i + 1) b q x y)
theorem dpK {K : PySem.W.Frag} {H : Hp} {t : Addr} {zs : List (List Nat)} (h : SqT K H t (zs.map vS)) : Dp K H (.ref t) (dK zs) := .tup h (dpS zs)
theorem dpR {K : PySem.W.Frag} {H : Hp} {t : Addr} {g : Gr} (h : GridAt K H t g) : Dp K H (.ref t) (dR g) := by
  obtain ⟨as, h1, h2, h3⟩ := h.ex
  exact .tup h1 (dpG as g h2 h3)
/-! chars -/
theorem joinL_src {sep : List Nat} {c : Nat} : ∀ l : List (List Nat), c ∈ TL.joinL sep l → c ∈ sep ∨ ∃ p ∈ l, c ∈ p
  | [], h => by cases h
  | [p], h => .inr ⟨p, List.mem_cons_self .., by simpa [TL.joinL] using h⟩
  | p :: q :: r, h => by
    have h2 : c ∈ p ++ (sep ++ TL.joinL sep (q :: r)) := h
    rcases List.mem_append.mp h2 with h3 | h3
    · exact .inr ⟨p, List.mem_cons_self .., h3⟩
    · rcases List.mem_append.mp h3 with h4 | h4
      · exact .inl h4
      · rcases joinL_src (q :: r) h4 with h5 | ⟨x, hx, h5⟩
        · exact .inl h5
        · exact .inr ⟨x, List.mem_cons_of_mem _ hx, h5⟩
theorem name_ch {z : List Nat} (h : IsName z) {c : Nat} (hc : c ∈ z) : c < 128 := by
  have := List.all_eq_true.mp h.all c hc
  unfold isL isD at this
  simp only [Bool.or_eq_true, Bool.and_eq_true, decide_eq_true_eq] at this
  omega
theorem dL_ch {i : Int} {c : Nat} (hc : c ∈ dL i) : c < 128 := by
  refine Classical.byContradiction fun h => ?_
  exact TL.numL_free (.inr (by omega)) hc
theorem line_ch {z : List Nat} {r : List Int} (h : IsName z) {c : Nat} (hc : c ∈ lineL z r) : c < 128 := by
  rcases joinL_src _ hc with e | ⟨p, hp, e⟩
  · rw [List.mem_singleton.mp e]
    decide
  · rcases List.mem_cons.mp hp with q | q
    · rw [q] at e
      exact name_ch h e
    · obtain ⟨x, _, rfl⟩ := List.mem_map.mp q
      exact dL_ch e
theorem GoodU.sheet_ch {zs : List (List Nat)} {g : Gr} (h : GoodU zs g) {c : Nat} (hc : c ∈ sheetL zs g) : c < 128 := by
  rcases joinL_src _ hc with e | ⟨p, hp, e⟩
  · rw [List.mem_singleton.mp e]
    decide
  · rcases List.mem_cons.mp hp with q | q
    · rw [q] at e
      rcases joinL_src _ e with e | ⟨p, hp, e⟩
      · rw [List.mem_singleton.mp e]
        decide
      · rcases List.mem_cons.mp hp with q | q
        · rw [q] at e
          have : ∀ x ∈ kindsL, x < 128 := by decide
          exact this c e
        · exact name_ch (h.nm p q) e
    · obtain ⟨i, z, r, hz, hr, rfl⟩ := zip_mem q
      exact line_ch (h.nm z (List.mem_of_getElem? hz)) e
theorem Good.sheet_ch {zs : List (List Nat)} {g : Gr} (h : Good zs g) {c : Nat} (hc : c ∈ sheetL zs g) : c < 128 := h.u.sheet_ch hc
/-! what is shown fits -/
structure Fit (d : PyData) (w : Nat) : Prop where
  le : d.leavesShort 40 = true
  sh : d.showable = true
  dp : d.depth ≤ 2
  wt : d.weight ≤ w
structure FitAll (ds : List PyData) (w : Nat) : Prop where
  le : PyData.leavesShortAll 40 ds = true
  sh : PyData.showableAll ds = true
  dp : PyData.depthAll ds ≤ 2
  wt : PyData.weightAll ds ≤ w
theorem FitAll.nil : FitAll [] 0 := ⟨rfl, rfl, by decide, Nat.le_refl _⟩
theorem FitAll.cons {d : PyData} {ds : List PyData} {a b : Nat} (h : Fit d a) (k : FitAll ds b) : FitAll (d :: ds) (a + 1 + b) := by
  refine ⟨by rw [PyData.leavesShortAll, h.le, k.le]; rfl, by rw [PyData.showableAll, h.sh, k.sh]; rfl, ?_, ?_⟩
  · rw [PyData.depthAll]
    exact Nat.max_le.mpr ⟨h.dp, k.dp⟩
  · rw [PyData.weightAll]
    have := h.wt
    have := k.wt
    omega
theorem FitAll.of {ds : List PyData} {a n : Nat} (h : ∀ d ∈ ds, Fit d a) (hn : ds.length ≤ n) : FitAll ds (n * (a + 1)) := by
  induction ds generalizing n with
  | nil => exact ⟨rfl, rfl, by decide, Nat.zero_le _⟩
  | cons d ds ih =>
    obtain ⟨m, rfl⟩ : ∃ m, n = m + 1 := ⟨n - 1, by simp at hn; omega⟩
    have := FitAll.cons (h d (List.mem_cons_self ..)) (ih (n := m) (fun x hx => h x (List.mem_cons_of_mem _ hx)) (by simpa using hn))
    refine ⟨this.le, this.sh, this.dp, Nat.le_trans this.wt ?_⟩
    rw [Nat.add_mul]
    omega
theorem fit_str {z : List Nat} {w : Nat} (h : ∀ c ∈ z, c < 128) (hl : z.length ≤ w) : Fit (.str (S z)) w := by
  refine ⟨?_, rfl, Nat.zero_le _, ?_⟩
  · show ((S z).cps.toList.all fun c => decide (c < 16 ^ 8)) = true
    refine List.all_eq_true.mpr fun c hc => decide_eq_true ?_
    exact Nat.lt_trans (h c hc) (by decide)
  · show (S z).cps.size ≤ w
    exact hl
theorem fit_int {i : Int} (h : rowB i = true) : Fit (.int i) 2000 := by
  refine ⟨?_, decide_eq_true (log_ok h), Nat.zero_le _, ?_⟩
  · refine decide_eq_true ?_
    show (Str.ofString (toString i)).length ≤ 40
    have e := str_num h
    rw [V.str.inj e, SX.S_len]
    exact Nat.le_trans (dL_len h) (by decide)
  · have := log_ok h
    show (if (i == 0) = true then 0 else i.natAbs.log2 + 1) ≤ 2000
    split <;> omega
theorem fit_tup {ds : List PyData} {w : Nat} (h : FitAll ds w) (hd : PyData.depthAll ds ≤ 1) : Fit (.tuple ds) w := ⟨by rw [PyData.leavesShort]; exact h.le, by rw [PyData.showable]; exact h.sh, by rw [PyData.depth]; omega, by rw [PyData.weight]; exact h.wt⟩
theorem depthAll_le {ds : List PyData} {n : Nat} (h : ∀ d ∈ ds, d.depth ≤ n) : PyData.depthAll ds ≤ n := by
  induction ds with
  | nil => exact Nat.zero_le _
  | cons d ds ih =>
    rw [PyData.depthAll]
    exact Nat.max_le.mpr ⟨h d (List.mem_cons_self ..), ih fun x hx => h x (List.mem_cons_of_mem _ hx)⟩
theorem fit_K {zs : List (List Nat)} {g : Gr} (h : Good zs g) : Fit (dK zs) 36 := by
  refine fit_tup (FitAll.of (a := 8) (n := 4) (fun d hd => ?_) (by rw [List.length_map]; exact h.n4)) (depthAll_le fun d hd => ?_)
  · obtain ⟨z, hz, rfl⟩ := List.mem_map.mp hd
    exact fit_str (fun c hc => name_ch (h.nm z hz) hc) (h.nm z hz).len.2
  · obtain ⟨z, hz, rfl⟩ := List.mem_map.mp hd
    exact Nat.zero_le _
theorem fit_R {zs : List (List Nat)} {g : Gr} (h : Good zs g) : Fit (dR g) (4 * (4 * 2001 + 1)) := by
  have dr : ∀ r : List Int, PyData.depthAll (r.map PyData.int) ≤ 0 := fun r => depthAll_le fun d hd => by
    obtain ⟨z, hz, rfl⟩ := List.mem_map.mp hd
    exact Nat.zero_le _
  refine fit_tup (FitAll.of (a := 4 * 2001) (n := 4) (fun d hd => ?_) (by rw [List.length_map, h.glen]; exact h.n4)) (depthAll_le fun d hd => ?_)
  · obtain ⟨r, hr, rfl⟩ := List.mem_map.mp hd
    obtain ⟨i, hi⟩ := List.getElem?_of_mem hr
    obtain ⟨q1, q2⟩ := h.tb.rows hi
    have h4 := h.n4
    refine fit_tup (FitAll.of (a := 2000) (n := 4) (fun d hd => ?_) (by rw [List.length_map]; omega)) (Nat.le_trans (dr r) (by decide))
    obtain ⟨z, hz, rfl⟩ := List.mem_map.mp hd
    exact fit_int (List.all_eq_true.mp q1 z hz)
  · obtain ⟨r, hr, rfl⟩ := List.mem_map.mp hd
    show PyData.depth (.tuple (r.map .int)) ≤ 1
    rw [PyData.depth]
    have := dr r
    omega
theorem Good.cases {zs : List (List Nat)} {g : Gr} (h : Good zs g) : zs.length = 2 ∨ zs.length = 3 ∨ zs.length = 4 := by
  have := h.n2
  have := h.n4
  omega
theorem fit_name {n : Nat} (h : n = 2 ∨ n = 3 ∨ n = 4) : Fit (.str (nameFor n)) 40 := by
  rcases h with e | e | e <;> rw [e] <;> exact ⟨by decide +kernel, rfl, Nat.zero_le _, by decide +kernel⟩
theorem fit_Y {zs : List (List Nat)} {g : Gr} (h : Good zs g) : (dY zs g).showable = true ∧ (dY zs g).shown.length ≤ sizeLine ∧ (dY zs g).depth ≤ 10 := by
  have hn : Fit (.int (zs.length : Int)) 2000 := fit_int (by rcases h.cases with e | e | e <;> rw [e] <;> decide)
  have hb : Fit (.bool true) 0 := ⟨rfl, rfl, Nat.zero_le _, Nat.le_refl _⟩
  have F := FitAll.cons (fit_K h) (FitAll.cons (fit_R h) (FitAll.cons hn (FitAll.cons (fit_str (fun c hc => h.sheet_ch hc) h.sheet_len) (FitAll.cons (fit_name h.cases) (FitAll.cons hb FitAll.nil)))))
  refine ⟨by unfold dY; rw [PyData.showable]; exact F.sh, ?_, ?_⟩
  · have h1 := PyData.shown_le 40 (by decide) (dY zs g) (by unfold dY; rw [PyData.leavesShort]; exact F.le)
    have h2 : (dY zs g).weight ≤ 100000 := by
      unfold dY
      rw [PyData.weight]
      exact Nat.le_trans F.wt (by decide)
    have h3 : (40 + 2) * (dY zs g).weight ≤ 42 * 100000 := Nat.mul_le_mul_left _ h2
    exact Nat.le_trans h1 (Nat.le_trans (Nat.add_le_add_right h3 40) (by decide))
  · unfold dY
    rw [PyData.depth]
    have := F.dp
    omega
end Y

set_option Elab.async false
set_option linter.all false
set_option maxRecDepth 100000
set_option maxHeartbeats 4000000
namespace Z
open PySem PySem.Spec PyProof.Rows L2
section
variable {X : Cx} {pins : List (Addr × Obj)} {σ : L2.St} {H : Hp} {s : Shared} {k : Nat} {C f a p : Addr} {sp : Sp} {CX : CXT} {fd : FuncData} {ps ks : List Str} {E : XK} {o e : Expr} {es : List Expr} {kws : List Keyword} {ta : TE} {t tk : TA} {m : Str} {mc : Value}
  {g : List Value → List Value → List Value} {gV : List V → List V → List V} {pos apos : Pos} {n : Nat}
/-- a def with keywords, run -/
theorem run_kb {us ws : List Value} {vs zs : List V} {Q : VK} {A' : Around} (F : FnOk X.prog X.w X.K X.mg X.base CX k f fd ps sp) (hr : Room k X.A) (hb : KBn X.K fd ps n ks g gV) (hx : Passes CX X E) (I : Inv X pins σ H s)
    (r : Vals vs us) (rz : Vals zs ws) (l1 : vs.length = n) (l2 : zs.length = ks.length) (h : sp (gV vs zs) H Q E) :
    codeAny (model X.prog X.w) X.A (.call (.ref f) ⟨us, ks.zip ws⟩) (fun r s' => match r with | .ok (.ret v) => EP X pins σ Q v s' | .ok _ => False | .error e => X.xe e s') s := by
  have r2 := hb.rel r rz
  have e1 : us.length = n := r.length.symm.trans l1
  have e2 : ws.length = ks.length := rz.length.symm.trans l2
  refine codeAny_mono (F.run X.A X.stack s H ⟨us, ks.zip ws⟩ (g us ws) (gV vs zs) Q E hr I.env0 (hb.to s us ws I.kIn e1 e2) r2 h) fun r s' hq => ?_
  cases r with
  | error e => exact hx pins σ H s e s' I hq
  | ok fl =>
    cases fl with
    | ret u => exact I.after hq
    | next => exact False.elim hq
    | brk => exact False.elim hq
    | cont => exact False.elim hq
/-- C.m(k = v, ..), a classmethod -/
def tCMethK (C : Addr) (m : Nat) (sp : Sp) (gV : List V → List V → List V) (E : XK) (ta : TE) (tk : TA) : TE := fun σ H Q => ta σ H fun x H1 => x = .ref C ∧ tk σ H1 fun zs H2 => zs.length = m ∧ sp (gV [.ref C] zs) H2 Q E
theorem pe_cmethK0 {pl : Sem Bool} (he : PE X o ta) (r : ClX.CRead X.K C mc) (c : ClX.CMet X.K C mc m p f) (F : FnOk X.prog X.w X.K X.mg X.base CX k f fd ps sp) (hr : Room k X.A) (hb : KBn X.K fd ps 1 ks g gV) (hx : Passes CX X E)
    (hkw : PK X kws tk) (hall : (backToKw pos (keywordEach kws X.env)).all (·.1.isSome) = true := by rfl) (hks : (backToKw pos (keywordEach kws X.env)).filterMap (·.1) = ks := by rfl)
    (hpl : ((backTo pos (starEach [] X.env)).any (·.1) || (backToKw pos (keywordEach kws X.env)).any (·.1.isNone)) = false := by rfl)
    (ht : eval (.Call (.Attribute o m apos) [] kws pos) X.env = (do
      let ov ← eval o X.env
      standAt apos.atName
      let (f, first) ← holding [ov] (getMethod ov m pl)
      callWith pos f first (backTo pos (starEach [] X.env)) (backToKw pos (keywordEach kws X.env))) := by rfl) :
    PE X (.Call (.Attribute o m apos) [] kws pos) (tCMethK C ks.length sp gV E ta tk) := by
  refine ⟨fun pins s σ H Q I h => ?_⟩
  refine PySem.W.methodCall_KW (pl := pl) (thn (he.run pins s σ H _ I h) fun u s1 ⟨x, H1, I1, rx, ex, q⟩ => ?_) ht
  subst ex
  obtain rfl : u = Value.ref C := rx
  refine ClX.getmethcm_ok I1 r c fun s2 I2 => ?_
  refine PySem.W.callWith_of hpl (PySem.W.keeps_M (M := model X.prog X.w) (q := s1.heap.objs.size) (self := .ref C) c.fi) (evalArgs_kw2_nil hall ?_)
  refine thn (hkw.run pos _ s2 σ H1 _ I2 q) fun ws s3 ⟨zs, H2, I3, rz, l2, q2⟩ => ⟨⟨ClX.pin_at I3, I3.kIn⟩, ?_⟩
  show wpAny _ _ (call (.ref s1.heap.objs.size) [] _) _ _ _
  rw [hks]
  have z : wpAny (model X.prog X.w) X.A (call (.ref s1.heap.objs.size) [] (ks.zip ws)) (EP X ((s1.heap.objs.size, PySem.W.methodObj (.ref f) (.ref C)) :: pins) σ Q) X.xe s3 :=
    wpAny_call (PySem.W.method_call (ClX.pin_at I3) (run_kb (A' := X.A) (us := [.ref C]) (vs := [.ref C]) F hr hb hx I3 (.cons rfl .nil) rz rfl l2 q2))
  exact thn z fun _ _ y => ClX.unpinE y
/-- o.m(e, .., k = v, ..), an own method -/
def tMethK (C : Addr) (m : Str) (n j : Nat) (sp : Sp) (gV : List V → List V → List V) (E : XK) (ta : TE) (t tk : TA) : TE := fun σ H Q => ta σ H fun x H1 => ∃ a dx fs, x = .ref a ∧ H1 a = some (.ins C dx fs) ∧ fs.lookup m = none ∧
  t σ H1 fun vs H2 => tk σ H2 fun zs H3 => vs.length = n ∧ zs.length = j ∧ sp (gV (.ref a :: vs) zs) H3 Q E
theorem pe_methK0 {pl : Sem Bool} (he : PE X o ta) (c : Cls X.K C) (hm : Meth X.K C m f) (F : FnOk X.prog X.w X.K X.mg X.base CX k f fd ps sp) (hr : Room k X.A) (hb : KBn X.K fd ps 1 ks g gV) (hx : Passes CX X E)
    (hkw : PK X kws tk) (hall : (backToKw pos (keywordEach kws X.env)).all (·.1.isSome) = true := by rfl) (hks : (backToKw pos (keywordEach kws X.env)).filterMap (·.1) = ks := by rfl)
    (hpl : ((backTo pos (starEach [] X.env)).any (·.1) || (backToKw pos (keywordEach kws X.env)).any (·.1.isNone)) = false := by rfl)
    (ht : eval (.Call (.Attribute o m apos) [] kws pos) X.env = (do
      let ov ← eval o X.env
      standAt apos.atName
      let (f, first) ← holding [ov] (getMethod ov m pl)
      callWith pos f first (backTo pos (starEach [] X.env)) (backToKw pos (keywordEach kws X.env))) := by rfl) :
    PE X (.Call (.Attribute o m apos) [] kws pos) (tMethK C m 0 ks.length sp gV E ta tNil tk) := by
  refine ⟨fun pins s σ H Q I h => ?_⟩
  refine PySem.W.methodCall_KW (pl := pl) (thn (he.run pins s σ H _ I h) fun u s1 ⟨x, H1, I1, rx, a, dx, fs, ex, ea, l, q⟩ => ?_) ht
  subst ex
  obtain rfl : u = Value.ref a := rx
  refine getmeth_ok I1 ea c hm l ?_
  refine PySem.W.callWith_KW0 (first := [.ref a]) (h₀ := X.base) I1.ok.mod.kin hm.kp hall (thn (hkw.run pos pins s1 σ H1 _ I1 q) fun ws s2 ⟨zs, H2, I2, rz, l1, l2, q2⟩ => ⟨I2.kIn, ?_⟩) hpl
  rw [hks]
  exact wpAny_call (run_kb (A' := X.A) (us := [.ref a]) (vs := [.ref a]) F hr hb hx I2 (.cons rfl .nil) rz rfl l2 q2)
/-- o == y by the class's own def -/
def rEqO (K : PySem.W.Frag) (C : Addr) (sp : Sp) : R2 := fun x y H Q => ∃ (a dx : Addr) (fs : List (Str × V)) (c dy : Addr) (gs : List (Str × V)), x = .ref a ∧ y = .ref c ∧ H a = some (.ins C dx fs) ∧ H c = some (.ins C dy gs) ∧
  sp [.ref a, .ref c] H (fun v H' => ∃ b, v = .bl b ∧ Q (.bl b) H') fun _ _ _ => False
theorem op_eqO (hr : Room k X.A) (hs : PySem.W.findIn X.K (.ref C) "__eq__" = some (some (.ref f))) (hf : PySem.W.isFn X.K (.ref f) = true) (F : FnR X.prog X.w X.K X.mg X.base C8.CX0 k f sp) : OpR X (compareOp .Eq) (rEqO X.K C sp) := by
  intro pins s σ H x y v u Q I rx ry hq
  obtain ⟨a, dx, fs, c, dy, gs, rfl, rfl, ha, hc, hsp⟩ := hq
  cases rx
  cases ry
  show wpAny (model X.prog X.w) X.A (richCompare .Eq (.ref a) (.ref c)) (EP X pins σ Q) X.xe s
  obtain ⟨mA, J, _⟩ := ins_get I.hok ha
  obtain ⟨mB, J', _⟩ := ins_get I.hok hc
  obtain ⟨od, J, _⟩ := J.look
  obtain ⟨od', J', _⟩ := J'.look
  obtain ⟨mm, hF⟩ := I.fr
  refine PySem.W.cmp_K (op := .Eq) (tb := .ref C) hr.units0 hF I.ok.mod.kin J J'.type (by simp [PySem.W.notFirst]) hs hf ?_
  refine wpAny_call (codeAny_mono (F X.A X.stack s H [.ref a, .ref c] [.ref a, .ref c] _ _ hr I.env0 (.cons rfl (.cons rfl .nil)) hsp) fun r s' hq => ?_)
  cases r with
  | error er => exact False.elim hq
  | ok fl =>
    cases fl with
    | ret w =>
      obtain ⟨z, H', I', rz, b, ez, q⟩ := I.after hq
      subst ez
      cases rz
      exact ⟨.bl b, H', I', rfl, q⟩
    | next => exact False.elim hq
    | brk => exact False.elim hq
    | cont => exact False.elim hq
end
end Z

set_option Elab.async false
set_option linter.all false
set_option maxRecDepth 100000
set_option maxHeartbeats 4000000
namespace Y
open PySem L2
open SX (S)
open C8 (Cal pe_c pe_gc)
theorem tup_updL {K : PySem.W.Frag} {H : Hp} {a D : Addr} {xs ls : List V} {o : HO} (hD : H D = some (.lst ls)) (t : SqT K H a xs) : SqT K (upd H D o) a xs := by
  rcases t with (t | ⟨u, t⟩) | t
  · exact .inl (.inl (by rw [upd_ne (fun z => by subst z; rw [hD] at t; cases t)]; exact t))
  · exact .inl (.inr ⟨u, by rw [upd_ne (fun z => by subst z; rw [hD] at t; cases t)]; exact t⟩)
  · exact .inr t
theorem kt_updL {H : Hp} {a D : Addr} {xs ls : List V} {o : HO} (hD : H D = some (.lst ls)) (t : KTup H a xs) : KTup (upd H D o) a xs := by
  obtain ⟨u, t, d⟩ := t
  exact ⟨u, by rw [upd_ne (fun z => by subst z; rw [hD] at t; cases t)]; exact t, d⟩
theorem YardAt.updL {K : PySem.W.Frag} {C : Addr} {H : Hp} {y D : Addr} {zs : List (List Nat)} {g : Gr} {ls : List V} {o : HO} (h : YardAt K C H y zs g) (hD : H D = some (.lst ls)) : YardAt K C (upd H D o) y zs g := by
  obtain ⟨dx, tz, tg, h1, h2, h3⟩ := h.ex0
  obtain ⟨as, q1, q2, q3⟩ := h3.ex
  exact ⟨⟨dx, tz, tg, by rw [upd_ne (fun z => by subst z; rw [hD] at h1; cases h1)]; exact h1, kt_updL hD h2, ⟨as, tup_updL hD q1, q2, fun i a r x y => tup_updL hD (q3 i a r x y)⟩⟩, h.good⟩
def spRight : Sp := fun vs H Q _ => ∃ (p : Addr), vs = [.ref p] ∧ PailAt H p ∧ ∀ H', KpX p H H' → Q (.bl true) H'
theorem CalG.lift {P : Program} {w : World} {K : PySem.W.Frag} {mg : Str → Option Value} {base : Heap} {j k : Nat} {x : Str} {sp : Sp} (c : CalG P w K mg base j x sp) (h : j ≤ k) : CalG P w K mg base k x sp := by
  obtain ⟨f, fd, ps, F, hm, kp, b⟩ := c.ex
  exact ⟨f, fd, ps, F.lift h, hm, kp, b⟩
theorem fit_out {d : PyData} {w : Nat} (F : Fit d w) (hw : w ≤ 100000) : d.showable = true ∧ d.shown.length ≤ sizeLine ∧ d.depth ≤ 10 := by
  have h3 : (40 + 2) * d.weight ≤ 42 * 100000 := Nat.mul_le_mul_left _ (Nat.le_trans F.wt hw)
  exact ⟨F.sh, Nat.le_trans (PyData.shown_le 40 (by decide) d F.le) (Nat.le_trans (Nat.add_le_add_right h3 40) (by decide)), Nat.le_trans F.dp (by decide)⟩
theorem fit_lst {ds : List PyData} {w : Nat} (h : FitAll ds w) (hd : PyData.depthAll ds ≤ 1) : Fit (.list ds) w := ⟨by rw [PyData.leavesShort]; exact h.le, by rw [PyData.showable]; exact h.sh, by rw [PyData.depth]; omega, by rw [PyData.weight]; exact h.wt⟩
/-- a list of such: deeper by one -/
theorem fits_lst {ds : List PyData} {w : Nat} (F : FitAll ds w) (hw : w ≤ 100000) : (PyData.list ds).showable = true ∧ (PyData.list ds).shown.length ≤ sizeLine ∧ (PyData.list ds).depth ≤ 10 := by
  refine ⟨by rw [PyData.showable]; exact F.sh, ?_, ?_⟩
  · have h1 := PyData.shown_le 40 (by decide) (PyData.list ds) (by rw [PyData.leavesShort]; exact F.le)
    have h2 : (PyData.list ds).weight ≤ 100000 := by
      rw [PyData.weight]
      exact Nat.le_trans F.wt hw
    have h3 : (40 + 2) * (PyData.list ds).weight ≤ 42 * 100000 := Nat.mul_le_mul_left _ h2
    exact Nat.le_trans h1 (Nat.le_trans (Nat.add_le_add_right h3 40) (by decide))
  · rw [PyData.depth]
    have := F.dp
    omega
/-- what is asked to be instances of the class -/
structure YIs (K : PySem.W.Frag) (C fe : Addr) : Prop where
  ha : PySem.W.findIn K (.ref C) "__class__" = some (some (.builtin "object.__class__"))
  hn : PySem.W.specialIn K (.builtin "object.__class__") "__get__" = some (some (.builtin "getset_descriptor.__get__"))
  htk : PySem.W.takesIn K (.builtin "object.__class__") = some true
  hm : PySem.W.mroIn K C (.type "object") = some true
  sEq : PySem.W.findIn K (.ref C) "__eq__" = some (some (.ref fe))
  fEq : PySem.W.isFn K (.ref fe) = true
section
variable {P : Program} {w : World} {K : PySem.W.Frag} {mg : Str → Option Value} {base : Heap} {C : Addr}
theorem isY {H : Hp} {y dx fe : Addr} {fs : List (Str × V)} (Y : YT K mg C) (I : YIs K C fe) (h : H y = some (.ins C dx fs)) : TyX K H (.ref y) (.ref C) := .base (.ins h Y.cl I.ha I.hn I.htk I.hm)
theorem kit_self : PySem.W.kitOne K (.ref C) (.ref C) = some true := by
  unfold PySem.W.kitOne
  rw [if_pos (by simp)]
end
/-! ### texts told apart -/
theorem S_inj {a b : List Nat} (h : S a = S b) : a = b := congrArg (fun x : Str => x.cps.toList) h
theorem mapS_inj : ∀ {a b : List (List Nat)}, a.map S = b.map S → a = b
  | [], [], _ => rfl
  | [], _ :: _, h => by simp at h
  | _ :: _, [], h => by simp at h
  | x :: a, y :: b, h => by
    rw [List.map_cons, List.map_cons, List.cons.injEq] at h
    rw [S_inj h.1, mapS_inj h.2]
theorem dL_inj {i j : Int} (hi : 0 ≤ i) (hj : 0 ≤ j) (h : dL i = dL j) : i = j := by
  have h1 := congrArg NumText.digitsVal h
  unfold dL at h1
  rw [TL.numL_val, TL.numL_val] at h1
  omega
theorem dLs_inj : ∀ {r q : List Int}, r.all rowB = true → q.all rowB = true → r.map dL = q.map dL → r = q
  | [], [], _, _, _ => rfl
  | [], _ :: _, _, _, h => by simp at h
  | _ :: _, [], _, _, h => by simp at h
  | x :: r, y :: q, h1, h2, h => by
    rw [List.map_cons, List.map_cons, List.cons.injEq] at h
    rw [List.all_cons, Bool.and_eq_true] at h1 h2
    have e1 := h1.1
    have e2 := h2.1
    unfold rowB at e1 e2
    rw [Bool.and_eq_true, decide_eq_true_eq] at e1 e2
    rw [dL_inj e1.1 e2.1 h.1, dLs_inj h1.2 h2.2 h.2]
theorem sheet_inj {zs zs' : List (List Nat)} {g g' : Gr} (h : Good zs g) (h' : Good zs' g') (e : sheetL zs g = sheetL zs' g') : zs = zs' ∧ g = g' := by
  have e1 : linesL zs g = linesL zs' g' := mapS_inj (by rw [← h.split_nl, ← h'.split_nl, e])
  unfold linesL at e1
  rw [List.cons.injEq] at e1
  have e2 : kindsL :: zs = kindsL :: zs' := mapS_inj (by rw [← h.split_first, ← h'.split_first, e1.1])
  rw [List.cons.injEq] at e2
  refine ⟨e2.2, ?_⟩
  have ez := e2.2
  subst ez
  refine List.ext_getElem? fun i => ?_
  have hl : g.length = g'.length := by rw [h.glen, h'.glen]
  by_cases hi : i < g.length
  · have hi' : i < g'.length := by omega
    have hz : i < zs.length := by rw [← h.glen]; exact hi
    have ei := congrArg (fun l => l[i]?) e1.2
    have hr := List.getElem?_eq_getElem hi
    have hr' := List.getElem?_eq_getElem hi'
    simp only [List.getElem?_zipWith, List.getElem?_eq_getElem hz, hr, hr'] at ei
    obtain ⟨q1, _⟩ := h.tb.rows hr
    obtain ⟨q2, _⟩ := h'.tb.rows hr'
    have hn := h.nm _ (List.getElem_mem hz)
    have e3 : zs[i] :: (g[i]).map dL = zs[i] :: (g'[i]).map dL := mapS_inj (by rw [← split_line hn, ← split_line hn, Option.some.inj ei])
    rw [List.cons.injEq] at e3
    rw [hr, hr', dLs_inj q1 q2 e3.2]
  · rw [List.getElem?_eq_none (by omega), List.getElem?_eq_none (by omega)]
/-! ### == of kinds, of rows -/
theorem eqv_str (a b : List Nat) : PyData.eqv (.str (S a)) (.str (S b)) = decide (a = b) := by
  have := eqV_S a b
  rw [PyData.eqv]
  by_cases h : a = b
  · subst h
    simp
  · rw [decide_eq_false h]
    have h2 : ¬ S a = S b := fun e => h (S_inj e)
    simpa using h2
theorem eqvAll_str : ∀ a b : List (List Nat), PyData.eqvAll (a.map fun z => .str (S z)) (b.map fun z => .str (S z)) = decide (a = b)
  | [], [] => by simp [PyData.eqvAll]
  | [], _ :: _ => by simp [PyData.eqvAll]
  | _ :: _, [] => by simp [PyData.eqvAll]
  | x :: a, y :: b => by
    rw [List.map_cons, List.map_cons, PyData.eqvAll, eqv_str, eqvAll_str a b]
    by_cases h1 : x = y <;> by_cases h2 : a = b <;> simp [h1, h2]
theorem eqvAll_int : ∀ a b : List Int, PyData.eqvAll (a.map .int) (b.map .int) = decide (a = b)
  | [], [] => by simp [PyData.eqvAll]
  | [], _ :: _ => by simp [PyData.eqvAll]
  | _ :: _, [] => by simp [PyData.eqvAll]
  | x :: a, y :: b => by
    rw [List.map_cons, List.map_cons, PyData.eqvAll, eqvAll_int a b, PyData.eqv]
    by_cases h1 : x = y <;> by_cases h2 : a = b <;> simp [h1, h2]
theorem eqvAll_row : ∀ a b : Gr, PyData.eqvAll (a.map fun r => .tuple (r.map .int)) (b.map fun r => .tuple (r.map .int)) = decide (a = b)
  | [], [] => by simp [PyData.eqvAll]
  | [], _ :: _ => by simp [PyData.eqvAll]
  | _ :: _, [] => by simp [PyData.eqvAll]
  | x :: a, y :: b => by
    rw [List.map_cons, List.map_cons, PyData.eqvAll, eqvAll_row a b, PyData.eqv, eqvAll_int]
    by_cases h1 : x = y <;> by_cases h2 : a = b <;> simp [h1, h2]
theorem eqv_K (a b : List (List Nat)) : PyData.eqv (dK a) (dK b) = decide (a = b) := by
  unfold dK
  rw [PyData.eqv, eqvAll_str]
theorem eqv_R (a b : Gr) : PyData.eqv (dR a) (dR b) = decide (a = b) := by
  unfold dR
  rw [PyData.eqv, eqvAll_row]
theorem shaped_K {zs : List (List Nat)} (h : ∀ z ∈ zs, IsName z) : SeqAt.shaped (dK zs) = true := by
  obtain ⟨h1, h2⟩ := layS h
  unfold SeqAt.shaped dK
  rw [Bool.and_eq_true]
  exact ⟨h1, decide_eq_true (by rw [PyData.depth, h2]; decide)⟩
theorem layI : ∀ r : List Int, PyData.canLayAll0 (r.map .int) = true ∧ PyData.depthAll (r.map .int) = 0
  | [] => ⟨rfl, rfl⟩
  | i :: r => by
    obtain ⟨h1, h2⟩ := layI r
    rw [List.map_cons]
    exact ⟨by rw [PyData.canLayAll0, h1, Bool.and_true]; rfl, by rw [PyData.depthAll, h2]; rfl⟩
theorem layR : ∀ g : Gr, PyData.canLayAll0 (g.map fun r => .tuple (r.map .int)) = true ∧ PyData.depthAll (g.map fun r => .tuple (r.map .int)) ≤ 1
  | [] => ⟨rfl, by decide⟩
  | r :: g => by
    obtain ⟨h1, h2⟩ := layR g
    obtain ⟨h3, h4⟩ := layI r
    rw [List.map_cons]
    refine ⟨by rw [PyData.canLayAll0, h1, Bool.and_true]; exact h3, ?_⟩
    rw [PyData.depthAll, PyData.depth, h4]
    exact Nat.max_le.mpr ⟨by decide, h2⟩
theorem shaped_R (g : Gr) : SeqAt.shaped (dR g) = true := by
  obtain ⟨h1, h2⟩ := layR g
  unfold SeqAt.shaped dR
  rw [Bool.and_eq_true]
  exact ⟨h1, decide_eq_true (by rw [PyData.depth]; omega)⟩
end Y

set_option Elab.async false
set_option linter.all false
set_option maxRecDepth 100000
set_option maxHeartbeats 4000000
namespace PySem
namespace SvX
open PySem.W PySem.Calls PyProof.Rows PySem.HandSPX
open Builtin Builtin.ObjectAttr
section
variable {M : Model} {A : Around} {E : Value → Shared → Prop} {h : Heap} {g : Array GenState} {d : Drawn} {t : Nat} {os : OsState}
variable {nm q : Str} {C N : Addr} {bs bm bmB : List Value} {hdct : Bool} {sn : List Str} {sub : List Value} {ab : Bool} {col : Option Bool} {dd : Option Addr} {k0 k1 k2 k3 k5 : Option Value} {B newId initId : String} {kw : List (Str × Value)}

theorem check_new_kw (F : ExcBaseFacts B newId initId bmB) (hT : ∀ X : String, bm.contains (.type X) = bmB.contains (.type X)) {rest : List Value} {Q : Unit → Shared → Prop}
    (hC : h.get? C = some (excClassObj nm q C N bs bm hdct sn sub ab col dd k0 k1 k2 k3 k5 newId)) (hq : Q () ⟨h, g, d, t, os⟩) : wpAny M A (checkBuiltinCall newId ⟨.ref C :: rest, kw⟩) Q E ⟨h, g, d, t, os⟩ := by
  have hcont : (Value.ref C :: bm).contains (.type B) = true := by rw [List.contains_cons, hT, F.hasB, Bool.or_true]
  have hstar := F.noStar
  simp only [checkBuiltinCall, F.newKind, F.newSplit, F.newRow]
  repeat (first | refine wpAny_loadPart_at hC ?_ | (refine wpAny_isSubtype_exc hC ?_; rw [hcont]) | refine wpAny_staticBase_exc hC ?_ | refine wpAny_madeBy_exc hC ?_ | simp only [bne_self_eq_false, Bool.false_eq_true, if_false] | wp_step)
  exact hq
end
section
variable {prog : Program} {w : World} {A : Around} {E : Value → Shared → Prop} {R : Result → Shared → Prop} {h : Heap} {g : Array GenState} {d : Drawn} {t : Nat} {os : OsState}
variable {nm q : Str} {C N : Addr} {bs bm bmB : List Value} {hdct : Bool} {sn : List Str} {sub : List Value} {ab : Bool} {col : Option Bool} {dd : Option Addr} {k0 k1 k2 k3 k5 : Option Value} {B newId initId : String} {kw : List (Str × Value)}
theorem new_kw (F : ExcBaseFacts B newId initId bmB) (hT : ∀ X : String, bm.contains (.type X) = bmB.contains (.type X)) {rest : List Value}
    (hC : h.get? C = some (excClassObj nm q C N bs bm hdct sn sub ab col dd k0 k1 k2 k3 k5 newId))
    (hq : R (.ok (.ret (.ref (h.objs.size + 1)))) ⟨(h.push { cls := .type "tuple", data := .seq rest.toArray }).push
      { cls := .ref C, data := .fields #[.ref h.objs.size, .none, .none, .none, .bool false, .none] }, g, d, t, os⟩) (hrest : rest.length ≤ sizeLine) :
    codeAny (model prog w) A (.builtin newId ⟨.ref C :: rest, kw⟩) R ⟨h, g, d, t, os⟩ := by
  have hends := F.ends
  have hcB : (Value.ref C :: bm).contains (.type B) = true := by rw [List.contains_cons, hT, F.hasB, Bool.or_true]
  have hcA : (Value.ref C :: bm).contains (.type "AttributeError") = false := by rw [List.contains_cons, hT, F.noAttr]; rfl
  have hcN : (Value.ref C :: bm).contains (.type "NameError") = false := by rw [List.contains_cons, hT, F.noName]; rfl
  refine codeAny_builtinAt F.entry ?_
  unfold Builtin.«BaseException.__new__»
  refine wpAt_bind ?_
  show wpAt _ _ _ (stack >>= _) _ _ _
  refine wpAt_bind (wpAt_stack fun p below => wpAt_of_wpAny ?_)
  wp_walk
  refine wpAt_of_wpAny ?_
  rw [F.owner]
  repeat (first | with_reducible refine wpAny_madeHere_exc F.canon hC ?_ | with_reducible refine wpAny_loadPart_at hC ?_ | (with_reducible refine wpAny_isSubtype_exc hC ?_; first | rw [hcB] | rw [hcA] | rw [hcN]) | wp_step)
  show R _ _
  rw [Heap.size_push]
  exact hq
theorem type_call_kw (F : ExcBaseFacts B newId initId bmB) (hT : ∀ X : String, bm.contains (.type X) = bmB.contains (.type X)) {rest : List Value} {fI : Addr} {Q : Fin → Shared → Prop}
    (hC : h.get? C = some (excClassObj nm q C N bs bm hdct sn sub ab col dd k0 k1 k2 k3 k5 newId))
    (hi : W.Looks (model prog w) h (typeLookup (.ref C) "__init__") (some (.ref fI))) (hb : ∀ self, W.Looks (model prog w) h (bindSpecial (.ref fI) self) (.ref fI, [self])) (hrest : rest.length ≤ sizeLine)
    (hq : codeAny (model prog w) A (.call (.ref fI) ⟨.ref (h.objs.size + 1) :: rest, kw⟩)
      (fun r s' => match r with | .ok (.ret v) => v = .none ∧ Q (.done (.ret (.ref (h.objs.size + 1)))) s' | .ok _ => False | .error e => E e s')
      ⟨(h.push (W.kdv_tup rest)).push (excO C h.objs.size), g, d, t, os⟩) :
    wpAny (model prog w) A (Builtin.«type.__call__» ⟨.ref C :: rest, kw⟩) Q E ⟨h, g, d, t, os⟩ := by
  repeat (first | with_reducible refine wpAny_loadPart_at hC ?_ | with_reducible refine wpAny_madeBy_exc hC ?_ | wp_step)
  refine codeAny_call_builtin_code (Code.quiet_builtin _ F.quiet) (check_new_kw F hT hC ?_)
  refine new_kw F hT hC ?_ hrest
  show wpAny _ _ _ _ _ _
  have k : ∀ b o, h.get? b = some o → ((h.push (W.kdv_tup rest)).push (excO C h.objs.size)).get? b = some o := fun b o e => Heap.get?_push_of_some _ (Heap.get?_push_of_some _ e)
  have hC₁ := k _ _ hC
  have hget : ((h.push (W.kdv_tup rest)).push (excO C h.objs.size)).get? (h.objs.size + 1) = some (excO C h.objs.size) := by heap_get
  have hcC : (Value.ref C :: bm).contains (.ref C) = true := by simp
  have i1 := hi.keeps k
  have b1 := (hb (.ref (h.objs.size + 1))).keeps k
  unfold isInstance
  repeat (first | with_reducible refine wpAny_loadPart_at hget ?_ | (with_reducible refine wpAny_isSubtype_exc hC₁ ?_; rw [hcC]) | wp_step)
  show wpAny _ _ (typeLookup (.ref C) _) _ _ _
  refine i1.at ?_
  refine wpAny_holding (wpAny_bind (b1.at ?_))
  refine wpAny_bind (wpAny_call (codeAny_mono hq fun r s' z => ?_))
  rcases r with e | (v | _ | _ | _) <;> first | exact z | exact z.elim | skip
  obtain ⟨rfl, z⟩ := z
  first
    | exact wpAny_pure (wpAny_pure z)
    | (wp_walk; exact z)
theorem check_type_call_kw {M : Model} {rest : List Value} {Q : Unit → Shared → Prop} (hC : h.get? C = some (excClassObj nm q C N bs bm hdct sn sub ab col dd k0 k1 k2 k3 k5 newId))
    (hq : Q () ⟨h, g, d, t, os⟩) : wpAny M A (checkBuiltinCall "type.__call__" ⟨.ref C :: rest, kw⟩) Q E ⟨h, g, d, t, os⟩ := by
  have f3 := tc_sub
  have hT : (⟨h, g, d, t, os⟩ : Shared).TypeIs (.ref C) "type" := ⟨_, hC, rfl⟩
  simp only [checkBuiltinCall, tc_kind, tc_split]
  repeat (any_goals (first | assumption | with_reducible refine wpAny_loadPart_at hC ?_ | with_reducible refine wpAny_onRaise ?_ | with_reducible refine wpAny_map ?_ | wp_step))
theorem call_kw (F : ExcBaseFacts B newId initId bmB) (hT : ∀ X : String, bm.contains (.type X) = bmB.contains (.type X)) {rest : List Value} {fI : Addr}
    (hC : h.get? C = some (excClassObj nm q C N bs bm hdct sn sub ab col dd k0 k1 k2 k3 k5 newId))
    (hi : W.Looks (model prog w) h (typeLookup (.ref C) "__init__") (some (.ref fI))) (hb : ∀ self, W.Looks (model prog w) h (bindSpecial (.ref fI) self) (.ref fI, [self])) (hrest : rest.length ≤ sizeLine)
    (hq : codeAny (model prog w) (A.under (.builtin "type.__call__" ⟨.ref C :: rest, kw⟩)) (.call (.ref fI) ⟨.ref (h.objs.size + 1) :: rest, kw⟩) (W.InitBack (h.objs.size + 1) R)
      ⟨(h.push (W.kdv_tup rest)).push (excO C h.objs.size), g, d, t, os⟩) :
    codeAny (model prog w) A (.call (.ref C) ⟨rest, kw⟩) R ⟨h, g, d, t, os⟩ := by
  have f1 := tc_lookup
  have f2 := tc_bind (.ref C)
  have hTy : (⟨h, g, d, t, os⟩ : Shared).TypeIs (.ref C) "type" := ⟨_, hC, rfl⟩
  refine codeAny_of_tree ?_
  show wpAny _ _ (callAny (.ref C) _) _ _ _
  repeat (any_goals (first | assumption | with_reducible refine wpAny_loadPart_at hC ?_ | wp_step))
  refine ⟨rfl, ?_⟩
  refine codeAny_call_builtin_at (Code.quiet_builtin _ (by decide +kernel)) entry_typeCall (check_type_call_kw hC (type_call_kw F hT hC hi hb hrest ?_))
  refine codeAny_mono hq fun r s' z => ?_
  rcases r with e | (v | _ | _ | _) <;> exact z
end
section
variable {prog : Program} {w : World} {A : Around} {E : Value → Shared → Prop} {R : Result → Shared → Prop} {hp : Heap} {g : Array GenState} {d : Drawn} {t : Nat} {os : OsState} {B : String} {bmB : List Value}
/-- self.name = v on an exception without a dict, any built-in base -/
theorem exc_osaB {K : W.Frag} {name : Str} {tk : Tok} {v : Value} {x C : Addr} {fv : Array Value} (SF : StoreFacts B bmB "object.__setattr__" "object")
    (X : K.In hp) (hx : hp.get? x = some { cls := .ref C, data := .fields fv }) (hov : excOver K C bmB = true) (hdc : hasDictIn K C = true) (ha : takerIn K C name = some none)
    (hq : ∀ h' tk' dx, (∀ b o, b ≠ x → hp.get? b = some o → h'.get? b = some o) → hp.objs.size ≤ dx → dx ≠ x → h'.get? x = some { cls := .ref C, dict := some dx, data := .fields fv } →
      h'.Ns1 dx (fun y => if y = name then some v else none) → R (.ok (.ret .none)) ⟨h', g, d, tk', os⟩) :
    codeAny (model prog w) A (.call (.builtin "object.__setattr__") ⟨[.ref x, .str name tk, v], []⟩) R ⟨hp, g, d, t, os⟩ := by
  have I : W.InstAt hp x { cls := .ref C, data := .fields fv } C none := ⟨hx, rfl, rfl, trivial⟩
  obtain ⟨cd, hcd, hh⟩ := any_some hdc
  have hxs : x ≠ hp.objs.size := Nat.ne_of_lt (Heap.lt_size hx)
  refine osa_openX SF X I hov ha fun b => ?_
  have hcls : W.Looks (model prog w) hp (classData C) cd := W.looks_clsIn X hcd
  show wpAny _ _ (storeInOwnDict (.ref x) (.ref C) (.str name tk) name v b) _ _ _
  obtain ⟨nm, bs, mro, ns, qn, hd, sn, sb, ab, col, del⟩ := cd
  dsimp only at hh
  subst hh
  unfold storeInOwnDict ownDictForStores
  repeat (first | with_reducible refine store_in_new ?_ ?_ | with_reducible refine wpAny_loadPart_at hx ?_ | with_reducible refine hcls.at ?_ | wp_step)
  · exact ⟨_, #[], _, (Heap.get?_update_ne _ _ _ _ hxs.symm).trans (Heap.get?_push_at rfl rfl), rfl, fun e he => absurd he (by simp), fun _ => rfl⟩
  · intro h' tk' hn' hs
    have hx₁ : (hp.push { cls := .type "dict", data := .dict #[] }).get? x = some { cls := .ref C, data := .fields fv } := Heap.get?_push_of_some _ hx
    refine hq h' tk' hp.objs.size (fun b o hb ho => ?_) (Nat.le_refl _) hxs.symm ?_ hn'
    · exact (hs.2 b (Nat.ne_of_lt (Heap.lt_size ho))).trans ((Heap.get?_update_ne _ _ _ _ hb).trans (Heap.get?_push_of_some _ ho))
    · exact (hs.2 x hxs).trans (Heap.get?_update_self _ hx₁ rfl)
end
end SvX
end PySem

set_option Elab.async false
set_option linter.all false
set_option maxRecDepth 100000
set_option maxHeartbeats 4000000
namespace L2
open PySem PySem.Spec PyProof.Rows

/-- what the written part says of an own exception class, over the built-in B -/
structure XcB (K : PySem.W.Frag) (C : Addr) (B newId initId : String) (bmB : List Value) : Prop where
  ini : PySem.W.excInitIn K C bmB newId = true
  ov : PySem.W.excOver K C bmB = true
  hd : PySem.W.hasDictIn K C = true
  sa : PySem.W.findIn K (.ref C) "__setattr__" = some (some (.builtin "object.__setattr__"))
  kC : PySem.W.keepIn K (.ref C) = true
  ga : PySem.W.findIn K (.ref C) "__getattribute__" = some (some (.builtin "BaseException.__getattribute__"))
  gg : PySem.W.findIn K (.ref C) "__getattr__" = some none
  exC : PySem.W.subIn K (.ref C) (.type "BaseException") = some true
  ha : PySem.W.findIn K (.ref C) "__class__" = some (some (.builtin "object.__class__"))
  hn : PySem.W.specialIn K (.builtin "object.__class__") "__get__" = some (some (.builtin "getset_descriptor.__get__"))
  ht : PySem.W.takesIn K (.builtin "object.__class__") = some true
  hm : PySem.W.mroIn K C (.type "object") = some true
  base : PySem.ExcBaseFacts B newId initId bmB
  store : PySem.StoreFacts B bmB "object.__setattr__" "object"

section
variable {X : Cx} {pins : List (Addr × Obj)} {σ : St} {H : Hp} {s : Shared} {a C dx : Addr} {f : Str} {y : V} {u : Value} {fs : List (Str × V)} {Q : Unit → Shared → Prop} {E : Value → Shared → Prop} {A : Around} {B newId initId : String} {bmB : List Value}
theorem ost_newB (T : XcB X.K C B newId initId bmB) (htk : PySem.W.takerIn X.K C f = some none) (I : Inv X pins σ H s) (e : H a = some (exo a C none)) (ry : RelV y u)
    (h : ∀ dx s', H dx = none → dx ≠ a → Inv X pins σ (upd (upd H dx (exd dx [(f, y)])) a (exo a C (some dx))) s' → Q () s') : wpAny (model X.prog X.w) A (setAttr (.ref a) f u) Q E s := by
  obtain ⟨t1, ho⟩ := exo_at I.hok e
  obtain ⟨hp, g, d, t, os⟩ := s
  refine PySem.W.set_plain I.kIn (ox := { cls := .ref C, dict := none, data := .fields #[.ref t1, .none, .none, .none, .bool false, .none] }) (od := none) ⟨ho, rfl, rfl, trivial⟩ T.sa ?_
  refine PySem.SvX.exc_osaB T.store I.kIn ho T.ov T.hd htk (fun h' tk' dx k dn dne hx hn => ?_)
  have hnd : H dx = none := I.hok.fresh dn
  have nd : ∀ {b : Addr} {o : Obj}, hp.get? b = some o → b ≠ dx := fun {b o} q => Nat.ne_of_lt (Nat.lt_of_lt_of_le (Heap.lt_size q) dn)
  have na : ∀ {b : Addr}, H b = none → b ≠ a := fun {b} n z => by
    rw [z, e] at n
    cases n
  have Un1 : Un X.fs [] H (upd (upd H dx (exd dx [(f, y)])) a (exo a C (some dx))) hp h' := {
    keep := fun b o q n _ _ => k b o (na n) q
    slot := fun b o q n _ _ => ⟨o.slots, k b o (na n) q⟩
    free := fun b o q n _ => by rw [upd_ne (na n), upd_ne (nd q)]; exact n
    there := fun b o q _ => by
      by_cases hb : b = a
      · exact ⟨_, by rw [hb]; exact hx⟩
      · exact ⟨o, k b o hb q⟩
    tups := fun b xs q => by rw [upd_ne (at_ne e q exo_tup), upd_ne (ne_of_none q hnd)]; exact q
    frzs := fun b o v q => by rw [upd_ne (at_ne e q exo_frz), upd_ne (ne_of_none q hnd)]; exact q
    tbls := fun b ps q => ⟨#[], by rw [upd_ne (at_ne e q exo_tbl), upd_ne (ne_of_none q hnd), q]; simp⟩ }
  refine h dx _ hnd dne (I.un (t' := tk') Un1 fun b o q => ?_)
  by_cases hb : b = a
  · subst hb
    rw [upd_same] at q
    cases q
    exact exo_ok hx
  · rw [upd_ne hb] at q
    by_cases hd : b = dx
    · subst hd
      rw [upd_same] at q
      cases q
      exact exd_ok hn (relO_put (fs := []) ry fun g => True.intro)
    · rw [upd_ne hd] at q
      exact (I.hok b o q).stay (fun c v hc z => k c v (by
          rcases hc with hc | hc
          · rw [hc]
            exact hb
          · exact at_ne e hc exo_own) z)
        (fun c hc => by rw [upd_ne (at_ne e hc exo_own), upd_ne (ne_of_none hc hnd)]; exact hc) (fun c xs hc => by rw [upd_ne (at_ne e hc exo_tup), upd_ne (ne_of_none hc hnd)]; exact hc)
end
/-- self.f = e, in an own __init__ -/
def tOstB (C : Addr) (f : Str) (to te : TE) : TS := fun D σ H => te σ H fun y H1 => to σ H1 fun x H2 => ∃ a : Addr, x = .ref a ∧ H2 a = some (exo a C none) ∧ ∀ dx, H2 dx = none → dx ≠ a → D.nx σ (upd (upd H2 dx (exd dx [(f, y)])) a (exo a C (some dx)))
def spIni (C : Addr) (f : Str) : Sp := fun vs H Q _ => ∃ (a : Addr) (v : V), vs = [.ref a, v] ∧ H a = some (exo a C none) ∧ ∀ d, H d = none → d ≠ a → Q .non (upd (upd H d (exd d [(f, v)])) a (exo a C (some d)))
section
variable {X : Cx} {o e : Expr} {es : List Expr} {to te : TE} {ta : TA} {f : Str} {p p' p1 p2 pos : Pos} {C fI : Addr} {B newId initId : String} {bmB : List Value} {x : Str}
theorem ps_ostB (T : XcB X.K C B newId initId bmB) (htk : PySem.W.takerIn X.K C f = some none) (ho : PE X o to) (he : PE X e te) (hs : swapsWith e (some (.Attribute o f p')) pos.line X.env = pure false := by rfl) : PS X (.Assign [.Attribute o f p'] e pos) (tOstB C f to te) := by
  refine ⟨fun pins s σ H D I h => ?_⟩
  refine plainObj_wpAny_Assign_Attribute (thn (he.run pins s σ H _ I h) fun v s1 ⟨y, H1, I1, r1, q1⟩ => thn (ho.run pins s1 σ H1 _ I1 q1) fun u s2 ⟨x, H2, I2, r2, a, ex, ea, q⟩ => ?_) hs
  subst ex
  obtain rfl : u = Value.ref a := r2
  exact ost_newB T htk I2 ea r1 fun dx s' n ne J => ⟨σ, _, J, q dx n ne⟩
section
variable {P : Program} {w : World} {K : PySem.W.Frag} {mg : Str → Option Value} {base : Heap}
theorem ok_ini {qual : Str} {st : Stmt} {f0 : Addr} {fd : FuncData} {q1 q2 q3 q4 : Pos} (F : Fun K "__init__" qual st f0 fd) (T : XcB K C B newId initId bmB) (htk : PySem.W.takerIn K C f = some none) (S : FnScope ["self", f] ["self", f] (defScope st))
    (hb : defBody st = [.Assign [.Attribute (.Name "self" q1) f q2] (.Name f q3) q4]) (hne : ¬ (f == ("__debug__" : Str)) = true) (hnc : (f == ("__classdict__" : Str)) = false) : FnOk P w K mg base CX0 1 f0 fd ["self", f] (spIni C f) := by
  have hne : (f == ("__debug__" : Str)) = false := by simpa using hne
  refine F.ok S (fun vs H Q E h => ?_) (fun cdv A outer s H vs Q E hr h => ?_)
  · obtain ⟨a, v, rfl, _⟩ := h
    rfl
  · obtain ⟨a, v, rfl, ea, q⟩ := h
    refine ⟨_, by rw [hb]; exact pss_one (ps_ostB T htk (pe_var (i := 0) rfl (vis_par S (List.mem_cons_self ..))) (pe_var (i := 1) rfl (vis_par S (List.mem_cons_of_mem _ (List.mem_cons_self ..))) hne hnc)), ?_⟩
    exact ⟨v, rfl, .ref a, rfl, a, rfl, ea, q⟩
end
/-- an own exception class with its own __init__, as a body wants it -/
structure XMk (P : Program) (w : World) (K : PySem.W.Frag) (mg : Str → Option Value) (base : Heap) (x : Str) (C : Addr) (f : Str) : Prop where
  ex : ∃ (fI : Addr) (fd : FuncData) (B newId initId : String) (bmB : List Value), XcB K C B newId initId bmB ∧ PySem.W.findIn K (.ref C) "__init__" = some (some (.ref fI)) ∧ PySem.W.isFn K (.ref fI) = true ∧
    FnOk P w K mg base CX0 1 fI fd ["self", f] (spIni C f) ∧ (∀ s u v, BindsTo s fd ⟨[u, v], []⟩ [("self", u), (f, v)]) ∧ (∀ s u v, BindsTo s fd ⟨[u], [(f, v)]⟩ [("self", u), (f, v)])
  gx : mg x = some (.ref C)
/-- the reading of C(e): a new exception at a, its dict at d -/
def tNewX (C : Addr) (f : Str) (ta : TA) : TE := fun σ H Q => ta σ H fun vs H1 => ∃ v, vs = [v] ∧ ∀ a d, H1 a = none → H1 d = none → d ≠ a → Q (.ref a) (upd (upd H1 d (exd d [(f, v)])) a (exo a C (some d)))
theorem upd2 {H : Hp} {a d : Addr} {o1 o2 o3 : HO} (h : d ≠ a) : upd (upd (upd H a o1) d o2) a o3 = upd (upd H d o2) a o3 := by
  funext b
  by_cases hb : b = a
  · subst hb
    rw [upd_same, upd_same]
  · rw [upd_ne hb, upd_ne hb]
    by_cases hd : b = d
    · subst hd
      rw [upd_same, upd_same]
    · rw [upd_ne hd, upd_ne hd, upd_ne hb]
theorem run_newX {pins : List (Addr × Obj)} {σ : St} {H1 : Hp} {s1 : Shared} {Q : VK} {us : List Value} {kw : List (Str × Value)} {v : V} {uv : Value} (M : XMk X.prog X.w X.K X.mg X.base x C f) (hr : Room 2 X.A) (I1 : Inv X pins σ H1 s1) (rv : RelV v uv) (hcase : (us = [uv] ∧ kw = []) ∨ (us = [] ∧ kw = [(f, uv)]))
    (q1 : ∀ a d, H1 a = none → H1 d = none → d ≠ a → Q (.ref a) (upd (upd H1 d (exd d [(f, v)])) a (exo a C (some d)))) : wpAny (model X.prog X.w) X.A (call (.ref C) us kw) (EP X pins σ Q) X.xe s1 := by
  obtain ⟨fI, fd, B, newId, initId, bmB, T, iC, hfn, F1, b1, b2⟩ := M.ex
  obtain ⟨nm, N', qn, bs, bm, hdct, sn, sub, ab, col, dd, k0, k1, k2, k3, k5, hC, hT⟩ := PySem.W.excInit_of I1.kIn T.ini
  obtain ⟨oI, hoI, hcI⟩ : ∃ oI, s1.heap.get? fI = some oI ∧ oI.cls = .type "function" := by
    obtain ⟨o, ho, hc⟩ := Option.map_eq_some_iff.mp (show (X.K.lookup fI).map (·.cls) = some (.type "function") from beq_iff_eq.mp hfn)
    exact ⟨o, I1.kIn _ _ ho, hc⟩
  have hi' : PySem.W.Looks (model X.prog X.w) s1.heap (typeLookup (.ref C) "__init__") (some (.ref fI)) := PySem.W.looks_findIn I1.kIn iC
  obtain ⟨hp, g, dr, tk, os⟩ := s1
  have hsz : hp.objs.size ≤ hp.objs.size + 1 := Nat.le_succ _
  have hn : H1 (hp.objs.size + 1) = none := I1.hok.fresh hsz
  have kk : ∀ b o, hp.get? b = some o → ((hp.push (PySem.W.kdv_tup us)).push (PySem.HandSPX.excO C hp.objs.size)).get? b = some o := fun b o e => Heap.get?_push_of_some _ (Heap.get?_push_of_some _ e)
  have hget : ((hp.push (PySem.W.kdv_tup us)).push (PySem.HandSPX.excO C hp.objs.size)).get? (hp.objs.size + 1) = some (PySem.HandSPX.excO C hp.objs.size) := by heap_get
  have I2 : Inv X pins σ (upd H1 (hp.objs.size + 1) (exo (hp.objs.size + 1) C none)) ⟨(hp.push (PySem.W.kdv_tup us)).push (PySem.HandSPX.excO C hp.objs.size), g, dr, tk, os⟩ :=
    I1.laid (t' := tk) (a := hp.objs.size + 1) (o := exo (hp.objs.size + 1) C none) (h' := (hp.push (PySem.W.kdv_tup us)).push (PySem.HandSPX.excO C hp.objs.size)) kk hsz (exo_ok hget)
  have r2 : Vals [V.ref (hp.objs.size + 1), v] [Value.ref (hp.objs.size + 1), uv] := .cons rfl (.cons rv .nil)
  have hus : us.length ≤ sizeLine := by
    rcases hcase with ⟨h, _⟩ | ⟨h, _⟩ <;> rw [h, sizeLine_eq]
    · exact (by decide : 1 ≤ 16777216)
    · exact (by decide : 0 ≤ 16777216)
  have hbind : ∀ s, BindsTo s fd ⟨Value.ref (hp.objs.size + 1) :: us, kw⟩ [("self", Value.ref (hp.objs.size + 1)), (f, uv)] := fun s => by
    rcases hcase with ⟨h, h'⟩ | ⟨h, h'⟩
    · rw [h, h']
      exact b1 s _ _
    · rw [h, h']
      exact b2 s _ _
  refine wpAny_call (PySem.SvX.call_kw T.base hT hC hi' (fun self => PySem.W.exc_bind hoI hcI self) hus
    (codeAny_mono (F1.run _ X.stack _ _ ⟨Value.ref (hp.objs.size + 1) :: us, kw⟩ [Value.ref (hp.objs.size + 1), uv] [V.ref (hp.objs.size + 1), v] (fun v H2 => v = .non ∧ Q (.ref (hp.objs.size + 1)) H2) (fun _ _ _ => False) (hr.make C us kw) (I2.env0.make C us kw) (hbind _) r2
      ⟨hp.objs.size + 1, v, rfl, upd_same, fun d hd hda => ⟨rfl, ?_⟩⟩) fun r s' hq' => ?_))
  · rw [upd2 hda]
    exact q1 _ d hn (by rw [upd_ne hda] at hd; exact hd) hda
  · cases r with
    | error er => exact False.elim hq'
    | ok fl =>
      cases fl with
      | ret u =>
        obtain ⟨v', H', I3, rv', ev, q3⟩ := I2.after hq'
        subst ev
        exact ⟨rv', ⟨V.ref (hp.objs.size + 1), H', I3, rfl, q3⟩⟩
      | next => exact False.elim hq'
      | brk => exact False.elim hq'
      | cont => exact False.elim hq'
theorem pe_newX (M : XMk X.prog X.w X.K X.mg X.base x C f) (hr : Room 2 X.A) (ha : PA X [e] ta) (hg : Gl X x := by rfl) (hdb : (x == ("__debug__" : Str)) = false := by decide) (he : starEach [e] X.env = (false, eval e X.env) :: starEach [] X.env := by rfl) (hpl : (backTo pos (starEach [] X.env)).any (·.1) = false := by rfl) :
    PE X (.Call (.Name x p) [e] [] pos) (tNewX C f ta) := by
  obtain ⟨fI, fd, B, newId, initId, bmB, T, _⟩ := M.ex
  refine ⟨fun pins s σ H Q I h => ?_⟩
  refine wpAny_Call_Name_kw (ld_glob I hg M.gx ?_ hdb)
  refine PySem.W.callWith_K (h₀ := X.base) I.ok.mod.kin T.kC (thn (ha.run pos pins s σ H _ I h) fun us s1 ⟨vs, H1, I1, r1, v, ev, q1⟩ => ⟨I1.kIn, ?_⟩) he hpl
  subst ev
  cases r1 with
  | cons rv rn =>
    cases rn
    exact run_newX M hr I1 rv (.inl ⟨rfl, rfl⟩) q1
theorem pe_newXk {kpos : Pos} {tk : TA} (M : XMk X.prog X.w X.K X.mg X.base x C f) (hr : Room 2 X.A) (hkw : PK X [⟨some f, e, kpos⟩] tk) (hg : Gl X x := by rfl) (hdb : (x == ("__debug__" : Str)) = false := by decide)
    (hall : (backToKw pos (keywordEach [⟨some f, e, kpos⟩] X.env)).all (·.1.isSome) = true := by rfl) (hks : (backToKw pos (keywordEach [⟨some f, e, kpos⟩] X.env)).filterMap (·.1) = [f] := by rfl)
    (hpl : ((backTo pos (starEach [] X.env)).any (·.1) || (backToKw pos (keywordEach [⟨some f, e, kpos⟩] X.env)).any (·.1.isNone)) = false := by rfl) :
    PE X (.Call (.Name x p) [] [⟨some f, e, kpos⟩] pos) (tNewX C f tk) := by
  obtain ⟨fI, fd, B, newId, initId, bmB, T, _⟩ := M.ex
  refine ⟨fun pins s σ H Q I h => ?_⟩
  refine wpAny_Call_Name_kw (ld_glob I hg M.gx ?_ hdb)
  refine PySem.W.callWith_KW0 (h₀ := X.base) I.ok.mod.kin T.kC hall ?_ hpl
  refine thn (hkw.run pos pins s σ H _ I h) fun ws s2 ⟨zs, H2, I2, rz, v, ev, q2⟩ => ⟨I2.kIn, ?_⟩
  rw [hks]
  subst ev
  cases rz with
  | cons rv rn =>
    cases rn
    exact run_newX M hr I2 rv (.inr ⟨rfl, rfl⟩) q2
/-- an own exception class without an __init__ of its own, called without arguments -/
structure XMk0 (K : PySem.W.Frag) (mg : Str → Option Value) (x : Str) (C : Addr) : Prop where
  ex : ∃ (B newId initId : String) (bmB : List Value), XcB K C B newId initId bmB ∧ PySem.W.findIn K (.ref C) "__init__" = some (some (.builtin initId))
  gx : mg x = some (.ref C)
def tNewZ (C : Addr) : TE := fun _ H Q => ∀ a, H a = none → Q (.ref a) (upd H a (exo a C none))
theorem pe_newZ (M : XMk0 X.K X.mg x C) (hg : Gl X x := by rfl) (hdb : (x == ("__debug__" : Str)) = false := by decide) : PE X (.Call (.Name x p) [] [] pos) (tNewZ C) := by
  obtain ⟨B, newId, initId, bmB, T, iC⟩ := M.ex
  refine ⟨fun pins s σ H Q I h => ?_⟩
  refine wpAny_Call_Name_kw (ld_glob I hg M.gx ?_ hdb)
  refine PySem.W.callWith_K0 I.kIn T.kC ?_
  obtain ⟨nm, N', qn, bs, bm, hdct, sn, sub, ab, col, dd, k0, k1, k2, k3, k5, hC, hT⟩ := PySem.W.excInit_of I.kIn T.ini
  have hi' : PySem.W.Looks (model X.prog X.w) s.heap (typeLookup (.ref C) "__init__") (some (.builtin initId)) := PySem.W.looks_findIn I.kIn iC
  obtain ⟨hp, g, dr, tk, os⟩ := s
  refine PySem.W.call_B T.base hT hC hi' (rest := []) (Nat.zero_le _) fun h' k he ht => ?_
  exact ⟨.ref (hp.objs.size + 1), _, I.laid (t' := tk) k (Nat.le_succ _) (exo_ok he), rfl, h _ (I.hok.fresh (Nat.le_succ _))⟩
/-! ### isinstance, fields -/
def ExAt (H : Hp) (a C : Addr) : Prop := (∃ d fs, H a = some (exo a C (some d)) ∧ H d = some (exd d fs)) ∨ H a = some (exo a C none)
theorem inst_of {pins : List (Addr × Obj)} {σ : St} {H : Hp} {s : Shared} {a C : Addr} (I : Inv X pins σ H s) (h : ExAt H a C) : ∃ ox od, PySem.W.InstAt s.heap a ox C od := by
  rcases h with ⟨d, fs, h1, h2⟩ | h1
  · obtain ⟨t1, ho⟩ := exo_at I.hok h1
    obtain ⟨mA, ⟨od, es, ep, hd, _⟩, _⟩ := exd_at I.hok h2
    exact ⟨_, some od, ho, rfl, rfl, hd⟩
  · obtain ⟨t1, ho⟩ := exo_at I.hok h1
    exact ⟨_, none, ho, rfl, rfl, trivial⟩
def rIsX (K : PySem.W.Frag) : List V → Hp → VK → Prop := fun xs H Q => ∃ (a C : Addr) (c : V) (cv : Value) (b : Bool) (B newId initId : String) (bmB : List Value), xs = [.ref a, c] ∧ ExAt H a C ∧ XcB K C B newId initId bmB ∧ (∀ u, RelV c u → u = cv) ∧ PySem.W.kitOne K (.ref C) cv = some b ∧ Q (.bl b) H
theorem call_isX : CallR X (.builtin "isinstance") (rIsX X.K) := by
  intro pins s σ H xs us Q I r h
  obtain ⟨a, C, c, cv, b, B, newId, initId, bmB, rfl, hx, T, hcv, e, q⟩ := h
  cases r with
  | cons rx rr =>
    cases rr with
    | cons rt rr =>
      cases rr
      cases rx
      have ec := hcv _ rt
      subst ec
      obtain ⟨ox, od, J⟩ := inst_of I hx
      have hcl : (PySem.W.clsIn X.K C).isSome = true := by
        obtain ⟨cd, hc, _⟩ := PySem.W.any_some T.hd
        rw [hc] <;> rfl
      exact PySem.W.kia_one (PySem.W.kitx_exc hcl T.ga T.gg T.exC T.ha T.hn T.ht T.hm) I.kIn J e (fun z => nomatch z) fun tk => ⟨.bl b, H, I.kept (t' := tk) fun _ _ z => z, rfl, q⟩
/-- e.f, e a tracked exception -/
def tXget (K : PySem.W.Frag) (f : Str) (te : TE) : TE := fun σ H Q => te σ H fun x H1 => ∃ (a C d : Addr) (fs : List (Str × V)) (v : V) (B newId initId : String) (bmB : List Value), x = .ref a ∧ H1 a = some (exo a C (some d)) ∧ H1 d = some (exd d fs) ∧ XcB K C B newId initId bmB ∧ PySem.W.findIn K (.ref C) f = some none ∧ fs.lookup f = some v ∧ Q v H1
theorem pe_xget {te : TE} (he : PE X e te) (hb : attributeBase e f X.env (eval e X.env) = eval e X.env := by rfl) : PE X (.Attribute e f pos) (tXget X.K f te) := by
  refine ⟨fun pins s σ H Q I h => ?_⟩
  refine attr_of hb (thn (he.run pins s σ H _ I h) fun u s1 hh => ?_)
  obtain ⟨x, H1, I1, rx, a, C, d, fs, v, B, newId, initId, bmB, ex, h1, h2, T, hno, l, q⟩ := hh
  subst ex
  obtain rfl : u = Value.ref a := rx
  obtain ⟨t1, ho⟩ := exo_at I1.hok h1
  obtain ⟨mA, hns, hr⟩ := exd_at I1.hok h2
  obtain ⟨od, hod, hl⟩ := lookIn_ns hns
  obtain ⟨uv, hu, ru⟩ := RelO.some_of (v := v) (o := mA f) (by rw [← l]; exact hr f)
  have J : PySem.W.InstAt s1.heap a _ C (some od) := ⟨ho, rfl, rfl, hod⟩
  exact HandSPX.exc_get I1.kIn J T.ga T.gg T.exC (PySem.W.findObj_own T.hd hno rfl (by rw [hl, hu])) (handed_of ru) ⟨v, H1, I1.tok _, ru, q⟩
end
end L2

set_option Elab.async false
set_option linter.all false
set_option maxRecDepth 100000
set_option maxHeartbeats 4000000
namespace Z
open PySem PySem.Spec PyProof.Rows L2
/-! ### own exceptions, raised where nothing is handled -/
theorem passN0 {X : Cx} : Passes (L2N.CX X.prog X.w) X E0 := fun _ _ _ _ _ _ _ h => by
  obtain ⟨_, _, _, _, _, _, _, _, _, _, _, _, no⟩ := h
  exact no.elim
/-- an own exception class with an __init__ of its own -/
structure XN (P : Program) (w : World) (K : PySem.W.Frag) (mg : Str → Option Value) (base : Heap) (x : Str) (C : Addr) (f : Str) : Prop where
  xm : XMk P w K mg base x C f
  ty : PySem.W.typeIn K (.ref C) = some (.type "type")
theorem del_upd {H1 : Hp} {a d : Addr} {o0 o1 o2 o3 : HO} (ha : H1 a = none) (hda : d ≠ a) : upd (del (upd (upd (upd H1 a o0) d o1) a o2) a) d o3 = upd H1 d o3 := by
  funext b
  by_cases hb : b = d
  · rw [hb, upd_same, upd_same]
  · rw [upd_ne hb, upd_ne hb]
    by_cases hc : b = a
    · rw [hc, del_same, ha]
    · rw [del_ne hc, upd_ne hc, upd_ne hb, upd_ne hc]
section
variable {X : Cx} {e : Expr} {ta : TA} {f x : Str} {p pos : Pos} {C : Addr}
/-- C(e), to be raised -/
def tXn (C : Addr) (f : Str) (ta : TA) : L2.St → Hp → XK → Prop := fun σ H Q => ta σ H fun vs H1 => ∃ v, vs = [v] ∧ ∀ d, H1 d = none → Q (.ref C) (some d) (upd H1 d (.xd [(f, v)]))
theorem pmkX (M : XN X.prog X.w X.K X.mg X.base x C f) (hr : Room 2 X.A) (ha : PA X [e] ta) (hg : Gl X x := by rfl) (hdb : (x == ("__debug__" : Str)) = false := by decide) (he : starEach [e] X.env = (false, eval e X.env) :: starEach [] X.env := by rfl)
    (hpl : (backTo pos (starEach [] X.env)).any (·.1) = false := by rfl) : L2N.PMk X (.Call (.Name x p) [e] [] pos) (tXn C f ta) := by
  obtain ⟨fI, fd, B, newId, initId, bmB, T, iC, hfn, F1, b1, b2⟩ := M.xm.ex
  intro pins s σ H Q I h
  refine wpAny_Call_Name_kw (ld_glob I hg M.xm.gx ?_ hdb)
  refine PySem.W.callWith_K (h₀ := X.base) I.ok.mod.kin T.kC (thn (ha.run pos pins s σ H _ I h) fun us s1 ⟨vs, H1, I1, rs, v, ev, q1⟩ => ⟨I1.kIn, ?_⟩) he hpl
  subst ev
  obtain ⟨uv, rv, rfl⟩ : ∃ uv, RelV v uv ∧ us = [uv] := by
    cases rs with
    | cons rv rn =>
      cases rn
      exact ⟨_, rv, rfl⟩
  obtain ⟨nm, N', qn, bs, bm, hdct, sn, sub, ab, col, dd, k0, k1, k2, k3, k5, hC, hT⟩ := PySem.W.excInit_of I1.kIn T.ini
  obtain ⟨oI, hoI, hcI⟩ : ∃ oI, s1.heap.get? fI = some oI ∧ oI.cls = .type "function" := by
    obtain ⟨o, ho, hc⟩ := Option.map_eq_some_iff.mp (show (X.K.lookup fI).map (·.cls) = some (.type "function") from beq_iff_eq.mp hfn)
    exact ⟨o, I1.kIn _ _ ho, hc⟩
  have hin := PySem.W.looks_findIn (M := model X.prog X.w) I1.kIn iC
  show wpAny _ _ (call (.ref C) [uv]) _ _ _
  obtain ⟨hp, g, dr, tk, os⟩ := s1
  generalize ha1 : hp.objs.size + 1 = a1
  have hge : hp.objs.size ≤ a1 := by omega
  have hn : H1 a1 = none := I1.hok.fresh hge
  have grow : ∀ b o, hp.get? b = some o → ((hp.push (PySem.W.kdv_tup [uv])).push (PySem.HandSPX.excO C hp.objs.size)).get? b = some o := fun b o z => Heap.get?_push_of_some _ (Heap.get?_push_of_some _ z)
  have gotten : ((hp.push (PySem.W.kdv_tup [uv])).push (PySem.HandSPX.excO C hp.objs.size)).get? a1 = some (PySem.HandSPX.excO C hp.objs.size) := by
    rw [← ha1]
    heap_get
  have I2 : Inv X pins σ (upd H1 a1 (exo a1 C none)) ⟨(hp.push (PySem.W.kdv_tup [uv])).push (PySem.HandSPX.excO C hp.objs.size), g, dr, tk, os⟩ := I1.laid (t' := tk) grow hge (exo_ok gotten)
  have r2 : Vals [V.ref a1, v] [Value.ref a1, uv] := .cons rfl (.cons rv .nil)
  refine wpAny_call (PySem.SvX.call_kw (kw := []) T.base hT hC hin (fun self => PySem.W.exc_bind hoI hcI self) (by rw [sizeLine_eq]; exact (by decide : 1 ≤ 16777216)) ?_)
  rw [ha1]
  refine codeAny_mono (F1.run _ X.stack _ _ ⟨[.ref a1, uv], []⟩ [.ref a1, uv] [.ref a1, v]
    (fun z H2 => z = .non ∧ ∃ d, H1 d = none ∧ d ≠ a1 ∧ H2 = upd (upd (upd H1 a1 (exo a1 C none)) d (exd d [(f, v)])) a1 (exo a1 C (some d))) (fun _ _ _ => False) (hr.make C [uv] []) (I2.env0.make C [uv] []) (b1 _ _ _) r2
    ⟨a1, v, rfl, upd_same, fun d hd hda => ⟨rfl, d, by rw [upd_ne hda] at hd; exact hd, hda, rfl⟩⟩) fun r s' hq => ?_
  cases r with
  | error er => exact False.elim hq
  | ok fl =>
    cases fl with
    | ret u =>
      obtain ⟨z, H2, os2, bare2, un2, hok2, rz, ez, d, hd1, hda, eH⟩ := hq
      subst ez
      obtain ⟨h2, g2, d2, t2, os3⟩ := s'
      have ea : H2 a1 = some (exo a1 C (some d)) := by rw [eH, upd_same]
      have ed : H2 d = some (exd d [(f, v)]) := by rw [eH, upd_ne hda, upd_same]
      obtain ⟨t0, G, J, kG, ge, hoe, na⟩ := mk_end0 (d2 := d2) (t2 := t2) I1 hge grow un2 hok2 os2 bare2 ea ed hd1
      have eh : upd (del H2 a1) d (.xd [(f, v)]) = upd H1 d (.xd [(f, v)]) := by rw [eH]; exact del_upd hn hda
      rw [eh] at J na
      exact ⟨rz, a1, _, _, ⟨G, g2, d2, t2, os3⟩, _, .ref C, some d, rfl, J, kG, ge, hoe, ⟨rfl, rfl, fun vs hv => by cases hv; rfl⟩, rfl, rfl, na, rfl, bare2, raises_own T.exC M.ty, q1 d hd1⟩
    | next => exact False.elim hq
    | brk => exact False.elim hq
    | cont => exact False.elim hq
end
/-! ### defs that raise -/
section
variable {P : Program} {w : World} {K : PySem.W.Frag} {mg : Str → Option Value} {base : Heap}
structure CalN (P : Program) (w : World) (K : PySem.W.Frag) (mg : Str → Option Value) (base : Heap) (k : Nat) (x : Str) (sp : Sp) : Prop where
  ex : ∃ (f : Addr) (fd : FuncData) (ps : List Str), FnOk P w K mg base (L2N.CX P w) k f fd ps sp ∧ mg x = some (.ref f) ∧ PySem.W.keepIn K (.ref f) = true ∧ Binds K fd ps []
theorem okN {x qual : Str} {st : Stmt} {f : Addr} {fd : FuncData} {N ps : List Str} {k : Nat} {sp : Sp} (F : Fun K x qual st f fd) (S : FnScope N ps (defScope st)) (len : ∀ vs H Q E, sp vs H Q E → vs.length = ps.length)
    (hbody : ∀ (cdv : Value) (A : Around) (outer : List Env) (s : Shared) (H : Hp) (vs : List V) (Q : VK) (E : XK), Room k (A.deeper (envOfC qual (defScope st) s.heap.objs.size f cdv)) → sp vs H Q E →
      ∃ t, PSs (cxOf (L2N.CX P w) P w K mg base N qual (defScope st) f cdv A outer s H E) (defBody st) t ∧ t { nx := fun _ H' => Q .non H', rt := Q } (L2.start N vs) H) : FnOk P w K mg base (L2N.CX P w) (k + 1) f fd ps sp := by
  obtain ⟨oc, od, kV, doc, pm, an, cdv, ct, osl, rfl, lk, hcd⟩ := F.ex
  exact fn_of lk hcd S len fun A outer s H vs Q E hr hsp => hbody cdv A outer s H vs Q E hr hsp
theorem calN {x : Str} {st : Stmt} {N ps : List Str} {k : Nat} {sp : Sp} (D : Y.DfT K mg x st ps) (S : FnScope N ps (defScope st)) (len : ∀ vs H Q E, sp vs H Q E → vs.length = ps.length)
    (hbody : ∀ (f : Addr) (cdv : Value) (A : Around) (outer : List Env) (s : Shared) (H : Hp) (vs : List V) (Q : VK) (E : XK), Room k (A.deeper (envOfC x (defScope st) s.heap.objs.size f cdv)) → sp vs H Q E →
      ∃ t, PSs (cxOf (L2N.CX P w) P w K mg base N x (defScope st) f cdv A outer s H E) (defBody st) t ∧ t { nx := fun _ H' => Q .non H', rt := Q } (L2.start N vs) H) : CalN P w K mg base (k + 1) x sp := by
  obtain ⟨f, fd, F, b, g⟩ := D.ex
  exact ⟨f, fd, ps, okN F S len fun cdv A outer s H vs Q E hr h => hbody f cdv A outer s H vs Q E hr h, g, F.kp, b⟩
/-- where nothing is raised after all -/
theorem FnOk.calm {k : Nat} {f : Addr} {fd : FuncData} {ps : List Str} {sp sp' : Sp} (F : FnOk P w K mg base (L2N.CX P w) k f fd ps sp) (h : ∀ vs H Q E, sp' vs H Q E → sp vs H Q fun _ _ _ => False) : FnOk P w K mg base C8.CX0 k f fd ps sp' := by
  refine ⟨fun vs H Q E q => F.len _ _ _ _ (h _ _ _ _ q), fun A outer s H args us vs Q E hr e0 hb r q => ?_⟩
  refine codeAny_mono (F.run A outer s H args us vs Q (fun _ _ _ => False) hr e0 hb r (h _ _ _ _ q)) fun r s' z => ?_
  cases r with
  | ok fl => cases fl <;> exact z
  | error e =>
    obtain ⟨_, _, _, _, _, _, _, _, _, _, _, _, no⟩ := z
    exact no.elim
end
section
variable {X : Cx} {k j : Nat} {x : Str} {sp : Sp} {p pos : Pos} {e : Expr} {es : List Expr} {t : TA} {W : WX}
theorem pe_cN (c : CalN X.prog X.w X.K X.mg X.base k x sp) (tk : L2N.Takes X W) (hr : Room j X.A) (hk : k ≤ j) (hg : Gl X x) (ha : PA X (e :: es) t)
    (hdb : (x == ("__debug__" : Str)) = false := by decide) (he : starEach (e :: es) X.env = (false, eval e X.env) :: starEach es X.env := by rfl) (hpl : (backTo pos (starEach es X.env)).any (·.1) = false := by rfl) :
    PE X (.Call (.Name x p) (e :: es) [] pos) (tCallS sp (fun σ cls d H => W cls d σ H) t) := by
  obtain ⟨f, fd, ps, F, hm, kp, b⟩ := c.ex
  exact pe_callS F (hr.mono hk) hg hm kp b (fun σ => L2N.passAt tk σ) ha hdb he hpl
end
end Z

set_option Elab.async false
set_option linter.all false
set_option maxRecDepth 100000
set_option maxHeartbeats 4000000
namespace Z
open PySem PySem.Spec PyProof.Rows L2
/-! ### try: body, except (x1, x2, x3) as n: suite; all that is raised is named -/
theorem fly_on {B h h' : Heap} {l : List Env} {e : Addr} {Zp : Obj → Prop} (k : ∀ b o, h.get? b = some o → h'.get? b = some o) (x : HandSPX.FlyingZ B l e Zp h) : HandSPX.FlyingZ B l e Zp h' := by
  obtain ⟨x1, x2, x3, oe, vs, T, oT, ts, y1, y2, y3, y4, y5, y6, y7, y8, y9⟩ := x
  exact ⟨fun b o q => k _ _ (x1 b o q), x2, x3.of_keeps fun b o q _ => ⟨o, k b o q, rfl⟩, oe, vs, T, oT, ts, k _ _ y1, y2, y3, y4, y5, y6, k _ _ y7, y8, y9⟩
/-- what is wished of what the body raises -/
def w3 (K : PySem.W.Frag) (c1 c2 c3 : Value) (i : Nat) (ts : Addr → Value → Option Addr → TS) (D : Ends) : WX := fun cls d σ H =>
  PySem.W.exmAny K cls [c1, c2, c3] = some true ∧ ∀ a, H a = none → ts a cls d { nx := fun σ' H' => D.nx (σ'.set i none) H', rt := D.rt, bk := fun σ' H' => D.bk (σ'.set i none) H', ct := fun σ' H' => D.ct (σ'.set i none) H' } (σ.set i (some (.ref a))) H
section
variable {X : Cx} {x1 x2 x3 n : Str} {c1 c2 c3 : Value} {i j : Nat} {body suite : List Stmt} {b0 : Stmt} {p1 p2 p3 tp q1 q2 : Pos} {tb : WX → TS} {ts : Addr → Value → Option Addr → TS}
theorem try_as3 (hs : X.stack = X.env :: X.outer) (hf : X.env.frame = some X.env.locals) (hN : X.N.Nodup) (hi : X.N[i]? = some n) (hln : X.env.kindOf n = some .local) (n1 : Names X x1 c1) (n2 : Names X x2 c2) (n3 : Names X x3 c3)
    (hb : ∀ (W : WX) (pn : List (Addr × Obj)) (xe : Value → Shared → Prop), L2N.Takes (X.tr pn xe) W → PassesOwn (model X.prog X.w) X.A X.env xe → PSs (X.tr pn xe) body (tb W))
    (hsu : ∀ (a : Addr) (oe : Obj) (cls : Value) (d : Option Addr) (pn : List (Addr × Obj)), L2N.Zn cls d oe → (∃ vs, oe.data = .fields vs) → PSs (X.suite a ((a, oe) :: pn)) (b0 :: suite) (ts a cls d)) :
    PS X (.Try body [.ExceptHandler (some (.Tuple [.Name x1 p1, .Name x2 p2, .Name x3 p3] j tp)) (some n) (b0 :: suite) q1] [] [] q2) (fun D σ H => tb (w3 X.K c1 c2 c3 i ts D) D σ H) := by
  refine ⟨fun pins s0 σ H D I hq => ?_⟩
  have okX := I.ok
  have frX : X.A.frames = some (X.env :: X.outer) := by rw [okX.frames, hs]
  have caught : ∀ (u : Value) (sv : Shared), L2N.XE (X.tr (X.pn ++ pins) (fun e sa => wpAny (model X.prog X.w) X.A (noteFrame e X.env) (fun _ sb => wpAny (model X.prog X.w) X.A (setFlight e none) (fun _ sc =>
      wpAny (model X.prog X.w) X.A (handleBy e X.env [.ExceptHandler (some (.Tuple [.Name x1 p1, .Name x2 p2, .Name x3 p3] j tp)) (some n) (b0 :: suite) q1]) (SP X pins D) X.xe sc) X.xe sb) X.xe sa)) (w3 X.K c1 c2 c3 i ts D) u sv →
      wpAny (model X.prog X.w) X.A (noteFrame u X.env) (fun _ sb => wpAny (model X.prog X.w) X.A (setFlight u none) (fun _ sc =>
        wpAny (model X.prog X.w) X.A (handleBy u X.env [.ExceptHandler (some (.Tuple [.Name x1 p1, .Name x2 p2, .Name x3 p3] j tp)) (some n) (b0 :: suite) q1]) (SP X pins D) X.xe sc) X.xe sb) X.xe sv := by
    rintro u sv ⟨a, B, sI, pI, σI, HI, cls, d, rfl, JT, nbI, upI, skyI, naI, osI, agI, hm, hw⟩
    have J : Inv X pins σI HI sI := JT.ofTry okX
    have skyE : L2.Sky B (X.env :: X.outer) a (L2N.Zn cls d) X.env.locals sv.heap := by rw [← hs]; exact skyI
    refine L2N.Sky.land L2N.Zn.steady frX hf skyE fun hl fl upl => ?_
    have Jl : Inv X pins σI HI { sv with heap := hl } := J.landed nbI fl.1 (upI.trans upl) osI agI
    obtain ⟨oe, vs, he, hz, hd⟩ := fl.there
    have notF : a ∉ frs (X.env :: X.outer) := fun hin => by
      obtain ⟨_, o', e', hn⟩ := fl.2.2.1.mem hin
      rw [he] at e'
      cases e'
      exact hn _ hd
    have notL : a ≠ X.env.locals := fun z => notF (List.mem_filterMap.mpr ⟨X.env, List.mem_cons_self, by rw [hf, z]⟩)
    have notS : a ∉ X.fs := fun hin => by
      obtain ⟨ev, hev, q⟩ := List.mem_filterMap.mp hin
      exact notF (List.mem_filterMap.mpr ⟨ev, List.mem_cons_of_mem _ hev, q⟩)
    have Sl := Jl.suite he hd naI notL notS
    have name : ∀ {x : Str} {c : Value} {pp : Pos} {Q : Value → Shared → Prop} {E : Value → Shared → Prop}, Names X x c → Q c { sv with heap := hl } → wpAny (model X.prog X.w) (X.A.mark (some (.ref a))) (eval (.Name x pp) X.env) Q E { sv with heap := hl } := fun {x c pp Q E} hc q => by
      obtain ⟨hg, hdb, hm | ⟨hm, hv, hnn⟩⟩ := hc
      · exact ld_glob (X := X.suite a ((a, oe) :: (X.pn ++ pins))) Sl hg hm q hdb
      · exact ld_blt (X := X.suite a ((a, oe) :: (X.pn ++ pins))) Sl hg hm hv q hnn hdb
    refine wpAny_handleBy_cons (codeAny_handlers_test ?_) (by intro q; cases q)
    refine wpAny_Tuple ?_
    refine Calls.spliced_cons (name n1 ?_)
    refine Calls.spliced_cons (name n2 ?_)
    refine Calls.spliced_cons (name n3 ?_)
    refine Calls.spliced_nil ⟨by size_fits, ?_⟩
    have grow : ∀ b o, hl.get? b = some o → (hl.push { cls := .type "tuple", data := .seq [c1, c2, c3].toArray }).get? b = some o := fun _ _ z => Heap.get?_push_of_some _ z
    have tyE : PySem.W.Looks (model X.prog X.w) (hl.push { cls := .type "tuple", data := .seq [c1, c2, c3].toArray }) (typeOf (.ref a)) cls := fun A Q E s k q => wpAny_typeOf_ref (k _ _ (grow _ _ he)) (by rw [hz.1]; exact q)
    refine (PySem.W.exm_tup3 (M := model X.prog X.w) (Jl.kIn.keeps grow) tyE (Heap.get?_push_size hl rfl) hm).here ?_
    refine codeAny_handlers_suite_as ?_
    refine HandSPX.lands_againZ (fly_on grow fl) fun h4 fl4 up4 => ?_
    have J4 : Inv X pins σI HI { sv with heap := h4 } := J.landed nbI fl4.1 (((upI.trans upl).trans (Heap.UpToSlots.of_keeps grow)).trans up4) osI agI
    obtain ⟨o4, v4, e4, z4, d4⟩ := fl4.there
    have S4 := J4.suite e4 d4 naI notL notS
    refine store_ok (X := X.suite a ((a, o4) :: (X.pn ++ pins))) (v := .ref a) S4 hN hi (.inl hln) rfl (fun s5 S5 => ?_) (.inr hln)
    refine wpAny_mono ((hsu a o4 cls d (X.pn ++ pins) z4 ⟨_, d4⟩).run [] s5 _ HI _ S5 (hw a naI)) (fun fw s6 out => ?_) (fun _ _ z => False.elim z)
    have fin : ∀ {σ6 : L2.St} {H6 : Hp} {Q : Shared → Prop}, Inv (X.suite a ((a, o4) :: (X.pn ++ pins))) [] σ6 H6 s6 → (∀ s7, Inv X pins (σ6.set i none) H6 s7 → Q s7) →
        wpAny (model X.prog X.w) X.A (do bindName X.env n .none; unbindBehindTheSuite X.env n q1) (fun _ s7 => Q s7) X.xe s6 := fun {σ6 H6 Q} S6 q => gone_ok (S6.unsuite okX) hN hi hln q
    cases fw with
    | ret u =>
      obtain ⟨v6, σ6, H6, S6, r6, q6⟩ := out
      exact fin S6 fun s7 J7 => ⟨v6, σ6.set i none, H6, J7, r6, q6⟩
    | next =>
      obtain ⟨σ6, H6, S6, q6⟩ := out
      exact fin S6 fun s7 J7 => ⟨σ6.set i none, H6, J7, q6⟩
    | brk =>
      obtain ⟨σ6, H6, S6, q6⟩ := out
      exact fin S6 fun s7 J7 => ⟨σ6.set i none, H6, J7, q6⟩
    | cont =>
      obtain ⟨σ6, H6, S6, q6⟩ := out
      exact fin S6 fun s7 J7 => ⟨σ6.set i none, H6, J7, q6⟩
  refine wpAny_Try_except ?_
  refine wpAny_mono ((hb (w3 X.K c1 c2 c3 i ts D) (X.pn ++ pins) _ caught PassesOwn.looking).run [] s0 σ H D (I.toTry _) hq) (fun fw s1 out => ?_) (fun e s1 he => he)
  cases fw with
  | ret u =>
    obtain ⟨v6, σ6, H6, S6, r6, q6⟩ := out
    exact ⟨v6, σ6, H6, S6.ofTry okX, r6, q6⟩
  | next =>
    obtain ⟨σ6, H6, S6, q6⟩ := out
    exact wpAny_execs_nil ⟨σ6, H6, S6.ofTry okX, q6⟩
  | brk =>
    obtain ⟨σ6, H6, S6, q6⟩ := out
    exact ⟨σ6, H6, S6.ofTry okX, q6⟩
  | cont =>
    obtain ⟨σ6, H6, S6, q6⟩ := out
    exact ⟨σ6, H6, S6.ofTry okX, q6⟩
end
end Z

set_option Elab.async false
set_option linter.all false
set_option maxRecDepth 100000
set_option maxHeartbeats 4000000
namespace Z
open PySem PySem.Spec PyProof.Rows L2
open LamX (CodeO Tabs ExtN TabB LamS lamEnv lamCx)
/-! ### lambdas that may raise, handed to a def -/
/-- the context of such a lambda's body -/
abbrev lamN (X : Cx) (A : Around) (outer : List Env) (s : Shared) (H : Hp) (E : XK) (scope : Scope) (f c' : Addr) : Cx :=
  (lamCx X A outer s H E scope f c').wish fun e sv => wpAny (model X.prog X.w) (A.deeper (lamEnv X scope s.heap.objs.size f c')) (leaving (lamEnv X scope s.heap.objs.size f c') e) (fun _ sz => L2N.CX X.prog X.w outer H s E e sz) (fun er sz => L2N.CX X.prog X.w outer H s E er sz) sv
/-- what such a body may let out -/
theorem lam_tk {X : Cx} {A : Around} {outer : List Env} {s : Shared} {H : Hp} {E : XK} {scope : Scope} {f c' : Addr} : L2N.Takes (lamN X A outer s H E scope f c') (fun cls d _ H' => E cls d H') :=
  L2N.takes_of (X := lamN X A outer s H E scope f c') (E₁ := fun er sz => L2N.CX X.prog X.w outer H s E er sz) rfl rfl rfl rfl
section
variable {X : Cx} {pins : List (Addr × Obj)} {σ : L2.St} {H : Hp} {s : Shared}
theorem act_run {CXg : CXT} {Eg : XK} {Ng : List Str} {qg : Str} {sg : Scope} {g f c' : Addr} {cdg pm ctv : Value} {params : Arguments} {body : Expr} {scope : Scope} {k i : Nat} {a : Str} {pn : List (Addr × Obj)} {xe : Value → Shared → Prop} {W : WX} {tb : XK → TE} {p1 p2 : Pos}
    (I : Inv X pins σ H s) (L : LamS X.env.scope scope) (hf : s.heap.get? f = some (PySem.W.kla_obj "<lambda>" (X.env.qual ++ "<lambda>") params body scope (cloFrom X.env.cells scope.names []) pm c' ctv)) (hfn : H f = none) (hfr : f ∉ frs X.stack)
    (hbind : bindArgs (PySem.W.kla_fn "<lambda>" (X.env.qual ++ "<lambda>") params body scope (cloFrom X.env.cells scope.names []) pm (.ref c') ctv) ⟨[], []⟩ = pure [])
    (tk : L2N.Takes ((cxOf CXg X.prog X.w X.K X.mg X.base Ng qg sg g cdg X.A X.stack s H Eg).tr pn xe) W) (hr : Room (k + 1) (X.A.deeper (envOfC qg sg s.heap.objs.size g cdg)))
    (hbody : ∀ (A : Around) (outer : List Env) (sz : Shared) (Hz : Hp) (E : XK), Room k (A.deeper (lamEnv X scope sz.heap.objs.size f c')) → PE (lamN X A outer sz Hz E scope f c') body (tb E))
    (hN : Ng[i]? = some a) (hv : Vis sg a) (hd : (a == ("__debug__" : Str)) = false := by decide) (hcd : (a == ("__classdict__" : Str)) = false := by decide) :
    PE ((cxOf CXg X.prog X.w X.K X.mg X.base Ng qg sg g cdg X.A X.stack s H Eg).tr pn xe) (.Call (.Name a p1) [] [] p2)
      (fun σZ HZ Q => ∃ E : XK, (∀ cls d H', E cls d H' → W cls d σZ H') ∧ σZ[i]? = some (some (.ref f)) ∧ HZ c' = some (CodeO c' (X.env.qual ++ "<lambda>")) ∧ tb E σ HZ Q) := by
  refine ⟨fun pinsZ s1 σZ HZ Q IZ hq => ?_⟩
  obtain ⟨E, hW, slot, code, goal⟩ := hq
  refine wpAny_Call_Name_kw (thn ((pe_var (pos := p1) (i := i) hN hv hd hcd).run pinsZ s1 σZ HZ (fun v H1 => v = .ref f ∧ H1 = HZ) IZ ⟨.ref f, slot, rfl, rfl⟩) ?_)
  rintro u s2 ⟨v, H1, I1, r1, rfl, rfl⟩
  cases r1
  have standing : s2.heap.get? f = some (PySem.W.kla_obj "<lambda>" (X.env.qual ++ "<lambda>") params body scope (cloFrom X.env.cells scope.names []) pm c' ctv) := I1.base.keep f _ hf hfn hfr (by intro z; cases z)
  refine PySem.W.callWith_F0 ⟨_, _, _, _, standing⟩ ?_
  obtain ⟨⟨oc, vs, t, hoc, hdc, hvc⟩, _, _⟩ := I1.hok c' _ code
  have unX : Un (frs X.stack) [] H H1 s.heap s2.heap := I1.base
  have out : codeAny (model X.prog X.w) (X.A.deeper (envOfC qg sg s.heap.objs.size g cdg)) (.call (.ref f) ⟨[], []⟩) (CR (L2N.CX X.prog X.w) (envOfC qg sg s.heap.objs.size g cdg :: X.stack) X.prog X.w H1 s2 Q E) s2 := by
    refine PySem.W.kla_callFunE hr.depth standing rfl L.co L.gen rfl ⟨c', oc, vs, t, rfl, hoc, hdc, hvc⟩ ?_
    rw [hbind]
    refine wpAny_pure (wpAny_newFunctionEnv (fun y hy => (L.own y hy).2) (fun y hy => absurd hy (by simp)) (fun hz hns hsb => ⟨I1.nolimit.fresh _ hsb, ?_⟩) L.kind)
    show codeAny _ _ (.expr body (lamEnv X scope s2.heap.objs.size f c')) _ _
    have grown : ∀ b o, s2.heap.get? b = some o → hz.get? b = some o := fun b o q => hsb.extBut b o (Nat.ne_of_lt (Heap.lt_size q)) (Heap.get?_push_of_some _ q)
    have J0 : Inv (lamCx X (X.A.deeper (envOfC qg sg s.heap.objs.size g cdg)) (envOfC qg sg s.heap.objs.size g cdg :: X.stack) s2 H1 E scope f c') [] σ H1 { s2 with heap := hz, toks := s2.toks + ([] : List (Str × Value)).length } :=
      LamX.lam_start2 I L I1.env0 hr.hd unX hns grown
    have J : Inv (lamN X (X.A.deeper (envOfC qg sg s.heap.objs.size g cdg)) (envOfC qg sg s.heap.objs.size g cdg :: X.stack) s2 H1 E scope f c') [] σ H1 { s2 with heap := hz, toks := s2.toks + ([] : List (Str × Value)).length } := J0.wish _
    refine PySem.W.kla_codeExpr (wpAny_mono ((hbody _ _ s2 H1 E (hr.deeper _)).run [] _ _ H1 Q J goal) ?_ fun e sz hz => hz)
    rintro v sz ⟨wv, Hw, Jw, rw_, qw⟩
    exact ⟨wv, Hw, Jw.os, Jw.bare, Jw.base, Jw.hok, rw_, qw⟩
  refine wpAny_call (codeAny_mono out fun r sz hz => ?_)
  cases r with
  | ok fl =>
    cases fl with
    | ret u => exact I1.after hz
    | next => exact False.elim hz
    | brk => exact False.elim hz
    | cont => exact False.elim hz
  | error e => exact tk e sz (L2N.XE.of_call I1 (fun cls d H' q => hW cls d H' q) hz)
end
/-- the def that calls what it got -/
def GivesN (X : Cx) (k : Nat) (Ng : List Str) (x : Str) (sg : Scope) (g : Addr) (cdg : Value) (bg : List Stmt) (a : Str) (q : Str) (TT : (XK → Hp → VK → Prop) → Hp → VK → Prop) : Prop :=
  ∀ (f c' : Addr) (s : Shared) (H : Hp) (Q : VK) (tl : XK → Hp → VK → Prop), Room k (X.A.deeper (envOfC x sg s.heap.objs.size g cdg)) →
    (∀ (W : WX) (pn : List (Addr × Obj)) (xe : Value → Shared → Prop) (p1 p2 : Pos), L2N.Takes ((cxOf C8.CX0 X.prog X.w X.K X.mg X.base Ng x sg g cdg X.A X.stack s H C8.E0).tr pn xe) W →
      PE ((cxOf C8.CX0 X.prog X.w X.K X.mg X.base Ng x sg g cdg X.A X.stack s H C8.E0).tr pn xe) (.Call (.Name a p1) [] [] p2) (fun σZ HZ Q => ∃ E : XK, (∀ cls d H', E cls d H' → W cls d σZ H') ∧ σZ[0]? = some (some (.ref f)) ∧ HZ c' = some (CodeO c' q) ∧ tl E HZ Q)) →
    H c' = some (CodeO c' q) → TT tl H Q →
    ∃ t, PSs (cxOf C8.CX0 X.prog X.w X.K X.mg X.base Ng x sg g cdg X.A X.stack s H C8.E0).nox bg t ∧ t { nx := fun _ H' => Q .non H', rt := Q } (L2.start Ng [.ref f]) H
/-- the reading of x(lambda: body) -/
def tLamN (T : List (Addr × Str)) (TT : (XK → Hp → VK → Prop) → Hp → VK → Prop) (t : XK → TE) : TE := fun σ H Q => Tabs T H ∧ ∀ H1, ExtN H H1 → Tabs T H1 → TT (fun E H' Q' => t E σ H' Q') H1 Q
section
variable {X : Cx}
theorem pe_lamN {T : List (Addr × Str)} {TT : (XK → Hp → VK → Prop) → Hp → VK → Prop} {x a : Str} {g c P : Addr} {k : Nat} {pg : Arguments} {bg : List Stmt} {sg : Scope} {dV kV doc pm cdv ct oc : Value} {an od : Option Addr} {osl : Array (Option Value)} {Ng : List Str}
    {params : Arguments} {body : Expr} {scope : Scope} {t : XK → TE} {p lpos pos : Pos} (hg : Gl X x) (hm : X.mg x = some (.ref g)) (hk : PySem.W.keepIn X.K (.ref g) = true)
    (lk : X.K.lookup g = some ⟨oc, od, .func (PySem.W.fnOf x x pg bg sg dV kV doc pm an cdv ct), osl⟩) (hcg : PySem.W.codeIn X.K cdv x = true) (hb : L2.Binds X.K (PySem.W.fnOf x x pg bg sg dV kV doc pm an cdv ct) [a] []) (Sg : FnScope Ng [a] sg) (hNg : Ng[0]? = some a) (hva : Vis sg a)
    (hG : GivesN X (k + 1) Ng x sg g cdv bg a (X.env.qual ++ "<lambda>") TT)
    (TB : TabB X.base X.mg c P) (hcode : X.env.code = .ref c) (hmT : (P, X.env.qual ++ "<lambda>") ∈ T) (hu : ∀ p ∈ T, p.1 = P → p.2 = X.env.qual ++ "<lambda>") (hr : Room (k + 2) X.A) (L : LamS X.env.scope scope) (hdef : defaultsOf params X.env = ([], []))
    (hbind : ∀ (q : Str) (cl : List (Str × Addr)) (pm cv ctv : Value), bindArgs (PySem.W.kla_fn "<lambda>" q params body scope cl pm cv ctv) ⟨[], []⟩ = pure [])
    (hbody : ∀ (A : Around) (outer : List Env) (s : Shared) (H : Hp) (E : XK) (f c' : Addr), Room k (A.deeper (lamEnv X scope s.heap.objs.size f c')) → PE (lamN X A outer s H E scope f c') body (t E))
    (hdb : (x == ("__debug__" : Str)) = false := by decide) (hd : (a == ("__debug__" : Str)) = false := by decide) (hcd : (a == ("__classdict__" : Str)) = false := by decide) :
    PE X (.Call (.Name x p) [.Lambda params body scope lpos] [] pos) (tLamN T TT t) := by
  refine ⟨fun pins s σ H Q I hq => ?_⟩
  obtain ⟨tabs, goal⟩ := hq
  refine wpAny_Call_Name_kw (ld_glob I hg hm ?_ hdb)
  refine PySem.W.callWith_K (h₀ := X.base) I.ok.mod.kin hk ?_ (by rfl) (by rfl)
  show wpAny _ _ (spliced ((false, eval (.Lambda params body scope lpos) X.env) :: backTo pos (starEach [] X.env))) _ _ s
  refine Calls.spliced_cons (LamX.lam_make2 I TB hcode hmT hu tabs hdef (L.has I.ok) ?_)
  intro f c' pmv ctv H1 s1 I1 ext tabs1 made fresh nofr codeAt
  refine Calls.spliced_nil ⟨I1.kIn, ?_⟩
  have out : codeAny (model X.prog X.w) X.A (.call (.ref g) ⟨[.ref f], []⟩) (CR C8.CX0 X.stack X.prog X.w H1 s1 Q C8.E0) s1 := by
    refine LamX.run_ofS (N := Ng) (ps := [a]) (us := [.ref f]) (vs := [.ref f]) lk hcg Sg hr I1.env0 (hb s1 [.ref f] I1.kIn rfl) (.cons rfl .nil) rfl fun hr1 => ?_
    obtain ⟨tz, pz, qz⟩ := hG f c' s1 H1 Q (fun E H' Q' => t E σ H' Q') hr1 (fun W pn xe p1 p2 tk => act_run (i := 0) (tb := t) I1 L made fresh nofr (hbind _ _ _ _ _) tk hr1 (fun A outer sz Hz E hr2 => hbody A outer sz Hz E f c' hr2) hNg hva hd hcd) codeAt (goal H1 ext tabs1)
    exact ⟨tz, pz.nox, qz⟩
  refine wpAny_call (codeAny_mono out fun r sz hz => ?_)
  cases r with
  | ok fl =>
    cases fl with
    | ret u => exact I1.after hz
    | next => exact False.elim hz
    | brk => exact False.elim hz
    | cont => exact False.elim hz
  | error e => exact (show False from hz).elim
end
end Z

set_option Elab.async false
set_option linter.all false
set_option maxRecDepth 100000
set_option maxHeartbeats 4000000
namespace Z
open PySem PySem.Spec PyProof.Rows L2 L2H
/-! ### where an exception is being handled -/
theorem hot_suite {X : Cx} {a : Addr} {oe : Obj} {cls : Value} {d : Option Addr} {pn : List (Addr × Obj)} (hz : L2N.Zn cls d oe) (hf : ∃ vs, oe.data = .fields vs) : HotC (X.suite a ((a, oe) :: pn)) := by
  obtain ⟨vs, hv⟩ := hf
  exact ⟨(a, oe), ⟨rfl, vs, hv, hz.2.2 vs hv⟩, List.mem_cons_self⟩
theorem passAt0 {X : Cx} {σ : L2.St} : PassesAt C8.CX0 X σ C8.E0 := fun _ _ _ _ _ _ h => h.elim
/-- the block of a comprehension there -/
abbrev blkH (X : Cx) (s : Shared) (H : Hp) (scope : Scope) (cenv : Env) (fp : List Addr) (p : Addr × Obj) : Cx := { X.blk s H scope cenv fp with pn := [p] }
theorem blkH_hot {X : Cx} {s : Shared} {H : Hp} {scope : Scope} {cenv : Env} {fp : List Addr} {p : Addr × Obj} (h : Hot1 X.A p) : HotC (blkH X s H scope cenv fp p) := ⟨p, h, List.mem_cons_self⟩
/-- one more object is known -/
theorem pinMore {X : Cx} {pins : List (Addr × Obj)} {σ : L2.St} {H : Hp} {s : Shared} {p : Addr × Obj} (I : Inv X pins σ H s) (hpn : X.pn = []) (h1 : s.heap.get? p.1 = some p.2) (h2 : H p.1 = none) (h3 : p.1 ≠ X.env.locals) (h4 : p.1 ∉ X.fs) (h5 : ∀ v, p.2.data ≠ .cell v) :
    Inv { X with pn := [p] } pins σ H s := by
  refine ⟨⟨I.ok.mod, I.ok.kind, I.ok.glob, I.ok.blt, I.ok.above, I.ok.inj, I.ok.has, I.ok.cab, I.ok.hd, I.ok.frames, I.ok.stk, I.ok.exf, I.ok.bs, I.ok.bsz, I.ok.noex, I.ok.exfs, I.ok.funs, I.ok.frf⟩, I.os, I.bare, I.base, I.loc, I.cell, I.free, I.freeC, fun q hq => ?_, I.hok, I.len⟩
  rcases List.mem_cons.mp hq with e | e
  · rw [e]
    exact ⟨h1, h2, h3, h4, h5⟩
  · exact I.pin q (by rw [hpn]; exact e)
section
variable {X : Cx}
theorem lcH_core {pins : List (Addr × Obj)} {s : Shared} {σ : L2.St} {H : Hp} {Q : VK} {elt tg iter : Expr} {scope : Scope} {own : List (Str × Nat)} {pos pos' : Pos} {wi : TI} {g : TG} {te : TE} {use : Option (Value → Sem Unit)} {Qf : Value → Shared → Prop}
    (hc : HotC X) (hN : X.N.Nodup) (I : Inv X pins σ H s) (hi : PIH X tg iter wi) (ok : BlkOk X.N X.env.scope scope own)
    (hg : ∀ (s : Shared) (H : Hp) (C : Addr) (cl : List (Str × Addr)) (fp : List Addr) (p : Addr × Obj), Hot1 X.A p → PG (blkH X s H scope (compEnvC scope cl C X.env) fp p) tg g)
    (he : ∀ (s : Shared) (H : Hp) (C : Addr) (cl : List (Str × Addr)) (fp : List Addr) (p : Addr × Obj), Hot1 X.A p → PE (blkH X s H scope (compEnvC scope cl C X.env) fp p) elt te) (hs : ∀ x, foldedSetIterable iter X.env x = pure x)
    (h : tLc wi g tYes te (own.map (·.2)) σ H Q)
    (hRR : ∀ D C s' m H', Inv X pins σ H' s' → Q (.ref D) H' → s'.heap.Ns C m → FpOk X pins H' C → compPost (model X.prog X.w) X.A X.xe use Qf (.ref D) C (.ok .next) s') :
    wpAny (model X.prog X.w) X.A (comprehension (.ListComp elt [⟨tg, iter, [], 0⟩] scope pos) scope X.env pos' (newList []) false (eval iter X.env) use) Qf X.xe s := by
  obtain ⟨p, hot, hpn⟩ := hc
  have closed : ∀ y ∈ scope.names, y.2 = .free → ∃ c, X.env.cells.lookup y.1 = some c := fun y hy e => (ok.free y hy e).elim (fun z => I.ok.has _ (.inl z)) fun z => I.ok.has _ (.inr z)
  refine wpAny_comprehension_free (use := use) rfl hs (closure_ok closed) ok.kind (fun y hy e => by rw [ok.uniq y hy, e]) (thn (hi.run pins s σ H _ I h) fun xv s1 hx => thn hx fun itv s2 h2 => ?_)
  obtain ⟨it, fp, tn, J, H2, rfl, I2, T, st2, f2, q⟩ := h2
  refine wpAny_newObj_type (newEnv_comp ?_) (by show 0 ≤ sizeLine; decide)
  generalize hD : s2.heap.objs.size = D
  have fresh : H2 D = none := I2.hok.fresh (Nat.le_of_eq hD)
  obtain ⟨W, ⟨m0, w0⟩, turn⟩ := q D fresh
  have pinP := I2.pin p (List.mem_append_left _ hpn)
  generalize hs3 : ({ s2 with heap := s2.heap.push { cls := .type "list", data := .seq ([] : List Value).toArray } } : Shared) = s3
  have e3 : s3.heap = s2.heap.push { cls := .type "list", data := .seq ([] : List Value).toArray } := by rw [← hs3]
  have I3 : Inv X pins σ (upd H2 D (.lst [])) s3 := by
    rw [← hs3]
    exact I2.laid (t' := s2.toks) (fun b o z => Heap.get?_push_of_some _ z) (Nat.le_of_eq hD) ⟨Nat.zero_le _, [], 0, .nil, by rw [← hD]; exact Heap.get?_push_size _ rfl⟩
  have below : ∀ b ∈ fp, b < s2.heap.objs.size := fun b hb => let ⟨o, z, _⟩ := T.obj _ _ st2 b hb; Heap.lt_size z
  have f3 : ∀ b ∈ fp, FpOk X pins (upd H2 D (.lst [])) b ∧ b < s3.heap.objs.size := fun b hb => by
    have hlt := below b hb
    refine ⟨⟨?_, (f2 b hb).2⟩, by rw [e3, Heap.size_push]; exact Nat.lt_succ_of_lt hlt⟩
    rw [upd_ne (by rw [← hD]; exact Nat.ne_of_lt hlt)]
    exact (f2 b hb).1
  have st3 : tn 0 s3.heap := T.keep _ _ _ st2 fun b _ o z => by rw [e3]; exact Heap.get?_push_of_some _ z
  have I4 := block_start I3 ok hN f3
  have pin3 := I3.pin p (List.mem_append_left _ hpn)
  have notStk : p.1 ∉ frs X.stack := fun hm => (List.mem_cons.mp (I3.stkSub p.1 hm)).elim pin3.2.2.1 pin3.2.2.2.1
  have pg := hg s3 (upd H2 D (.lst [])) s3.heap.objs.size (cellsFrom (s3.heap.objs.size + 1) scope.names (cloFrom X.env.cells scope.names [])) fp p hot
  have pe := he s3 (upd H2 D (.lst [])) s3.heap.objs.size (cellsFrom (s3.heap.objs.size + 1) scope.names (cloFrom X.env.cells scope.names [])) fp p hot
  show codeAny _ _ (.compStart (.ListComp elt [⟨tg, iter, [], 0⟩] scope pos) 0 (.ref it) (.ref D) (compEnvC scope (cellsFrom (s3.heap.objs.size + 1) scope.names (cloFrom X.env.cells scope.names [])) s3.heap.objs.size X.env)) (compPost (model X.prog X.w) X.A X.xe use Qf (.ref D) s3.heap.objs.size) { s3 with heap := pushCells (s3.heap.push { cls := .type "dict", data := .dict #[] }) scope.names }
  have none3 : ∀ b ∈ fp, (upd H2 D (.lst [])) b = none := fun b hb => (f3 b hb).1.1
  have lt3 : p.1 < s3.heap.objs.size := Heap.lt_size pin3.1
  generalize hce : compEnvC scope (cellsFrom (s3.heap.objs.size + 1) scope.names (cloFrom X.env.cells scope.names [])) s3.heap.objs.size X.env = ce at I4 pg pe ⊢
  have locC : ce.locals = s3.heap.objs.size := by subst hce; rfl
  generalize hH3 : upd H2 D (.lst []) = H3 at I3 I4 pg pe w0 none3 f3 pin3
  have keep4 : ∀ b o, s3.heap.get? b = some o → (pushCells (s3.heap.push { cls := .type "dict", data := .dict #[] }) scope.names).get? b = some o := fun b o z => pushCells_keeps _ _ _ _ (Heap.get?_push_of_some _ z)
  have I4' : Inv (blkH X s3 H3 scope ce fp p) [] (wipe σ (own.map (·.2))) H3 { s3 with heap := pushCells (s3.heap.push { cls := .type "dict", data := .dict #[] }) scope.names } :=
    pinMore (X := X.blk s3 H3 scope ce fp) I4 rfl (keep4 _ _ pin3.1) pin3.2.1 (by show p.1 ≠ ce.locals; rw [locC]; exact Nat.ne_of_lt lt3) notStk pin3.2.2.2.2
  have st4 : tn 0 (pushCells (s3.heap.push { cls := .type "dict", data := .dict #[] }) scope.names) := T.keep _ _ _ st3 fun b _ o z => keep4 b o z
  generalize hs4 : ({ s3 with heap := pushCells (s3.heap.push { cls := .type "dict", data := .dict #[] }) scope.names } : Shared) = s4 at I4' ⊢
  have st4 : tn 0 s4.heap := by rw [← hs4]; exact st4
  have notP : ∀ b ∈ fp, p.1 ≠ b := fun b hb z => by
    obtain ⟨z1, z2, z3, z4, z5, z6⟩ := f2 b hb
    exact z6 p (List.mem_append_left _ hpn) z
  have stat : ∀ {σ' : L2.St} {H' : Hp} {sv : Shared}, Inv (blkH X s3 H3 scope ce fp p) [] σ' H' sv → (∀ b ∈ fp, H' b = none) → ∀ b ∈ fp, FpOk (blkH X s3 H3 scope ce fp p) [] H' b := fun {σ' H' sv} Iv hn b hb => by
    refine ⟨hn b hb, (Iv.ok.exf b hb).1, Iv.ok.exfs b hb, .inl hb, fun x c z => (Iv.ok.exf b hb).2 x c z, fun r hr => ?_⟩
    have er : r = p := by simpa using (show r ∈ [p] ++ ([] : List (Addr × Obj)) from hr)
    rw [er]
    exact notP b hb
  have loop : codeAny (model X.prog X.w) X.A (.compLoop (.ListComp elt [⟨tg, iter, [], 0⟩] scope pos) 0 (.ref it) (.ref D) ce) (compPost (model X.prog X.w) X.A X.xe use Qf (.ref D) s3.heap.objs.size) s4 := by
    refine compLoop_any (fun n sv => ∃ i Hv, Inv (blkH X s3 H3 scope ce fp p) [] (wipe σ (own.map (·.2))) Hv sv ∧ tn i sv.heap ∧ (∀ b ∈ fp, Hv b = none) ∧ W i n Hv) ?_ m0 ⟨0, H3, I4', st4, none3, w0⟩
    rintro n s5 ⟨i, H5, I5, st5, n5, w5⟩
    rcases turn i n H5 w5 with ⟨stop, qq⟩ | ⟨go, Nx, hNx, step⟩
    · refine thnF (T.done (blkH X s3 H3 scope ce fp p) rfl rfl rfl (blkH_hot hot) i [] s5 _ H5 (fun _ _ => False) I5 (stat I5 n5) st5 stop) ?_
      rintro r s6 ⟨rfl, I6⟩
      have I7 : Inv X pins σ H5 s6 := I3.call' (ch := fp) I6.os I6.base I6.hok I6.bare fun b hb => ⟨(f3 b hb).1.2.2.2.1, (f3 b hb).1.2.1, (f3 b hb).1.2.2.2.2.1, (f3 b hb).1.2.2.2.2.2⟩
      have nC : H5 s3.heap.objs.size = none := by
        have z : H5 ce.locals = none := I6.free
        rwa [locC] at z
      obtain ⟨m, hn, _⟩ := I6.loc
      have hn : s6.heap.Ns ce.locals m := hn
      rw [locC] at hn
      exact hRR D s3.heap.objs.size s6 m H5 I7 qq hn (I3.fpOk (Nat.le_refl _) nC)
    · refine thnF (T.item (blkH X s3 H3 scope ce fp p) rfl rfl rfl (blkH_hot hot) i [] s5 _ H5 (fun _ _ => False) I5 (stat I5 n5) st5 go) ?_
      rintro r s6 ⟨u, rfl, h6⟩
      refine thnF h6 fun _ s7 ⟨x, H7, I7, r7, y7, st7, n7⟩ => ?_
      refine thnF (pg.run _ s7 _ H7 x u _ (I7.pinned (stat I7 n7) (T.obj _ _ st7)) r7 (step x H7 y7)) fun _ s8 ⟨σ8, H8, I8, hw8, q8⟩ => ?_
      refine thnF ((pts_nil (X := blkH X s3 H3 scope ce fp p)).run _ s8 σ8 H8 _ I8 q8) fun b s9 ⟨H9, I9, q9⟩ => ?_
      have fin : ∀ {sv : Shared} {Hv : Hp}, Inv (blkH X s3 H3 scope ce fp p) ([] ++ pinsAt fp s7.heap) σ8 Hv sv → Nx Hv → ∃ m, m < n ∧ ∃ i Hw, Inv (blkH X s3 H3 scope ce fp p) [] (wipe σ (own.map (·.2))) Hw sv ∧ tn i sv.heap ∧ (∀ b ∈ fp, Hw b = none) ∧ W i m Hw := fun {sv Hv} Iv nx => by
        obtain ⟨m', hm, w'⟩ := hNx Hv nx
        have at_ : ∀ b ∈ fp, ∀ o, s7.heap.get? b = some o → sv.heap.get? b = some o ∧ Hv b = none := fun b hb o z => by
          have y := Iv.pin (b, o) (List.mem_append_right _ (List.mem_append_right _ (mem_pinsAt hb z)))
          exact ⟨y.1, y.2.1⟩
        refine ⟨m', hm, i + 1, Hv, (Iv.unpinned (pins := [])).weak (by rw [← hw8, wipe_length]) (fun j v z => ?_), T.keep _ _ _ st7 fun b hb o z => (at_ b hb o z).1, fun b hb => ?_, w'⟩
        · rw [← hw8] at z
          exact (wipe_some z).1
        · obtain ⟨o, z, _⟩ := T.obj _ _ st7 b hb
          exact (at_ b hb o z).2
      cases b with
      | false =>
        simp only [Bool.false_eq_true, if_false] at q9 ⊢
        exact fin I9 q9
      | true =>
        simp only [if_true] at q9 ⊢
        refine thnF (pe.run _ s9 σ8 H9 _ I9 q9) fun z s10 ⟨yv, H10, I10, r10, acc, hD10, hz10, nx⟩ => ?_
        exact app_ok (X := blkH X s3 H3 scope ce fp p) I10 hD10 hz10 r10 fun s11 I11 => fin I11 nx
  exact codeAny_compStart_list loop (T.self X.A 0 _ _ _ st4 loop)
theorem pe_lcH {elt tg iter : Expr} {scope : Scope} {own : List (Str × Nat)} {pos : Pos} {wi : TI} {g : TG} {te : TE} (hc : HotC X) (hN : X.N.Nodup) (hi : PIH X tg iter wi) (ok : BlkOk X.N X.env.scope scope own)
    (hg : ∀ (s : Shared) (H : Hp) (C : Addr) (cl : List (Str × Addr)) (fp : List Addr) (p : Addr × Obj), Hot1 X.A p → PG (blkH X s H scope (compEnvC scope cl C X.env) fp p) tg g)
    (he : ∀ (s : Shared) (H : Hp) (C : Addr) (cl : List (Str × Addr)) (fp : List Addr) (p : Addr × Obj), Hot1 X.A p → PE (blkH X s H scope (compEnvC scope cl C X.env) fp p) elt te) (hs : ∀ x, foldedSetIterable iter X.env x = pure x := by intro _; rfl) :
    PE X (.ListComp elt [⟨tg, iter, [], 0⟩] scope pos) (tLc wi g tYes te (own.map (·.2))) := by
  refine ⟨fun pins s σ H Q I hq => ?_⟩
  rw [eval_ListComp]
  refine lcH_core hc hN I hi ok hg he hs hq fun D C sv m Hv Iv q hn f => ⟨m, hn, fun hz sb => ?_⟩
  obtain ⟨f0, f1, f2, f3, f4, f5⟩ := f
  exact ⟨.ref D, Hv, Iv.turned (t' := sv.toks) (fun b o hb z => (sb.2 b hb).trans z) f0 f1 f3 f4 f5, rfl, q⟩
/-- isinstance of what is being handled: its class is D, its dict at d -/
def rIsH (K : PySem.W.Frag) (p : Addr × Obj) (D d : Addr) : List V → Hp → VK → Prop := fun xs H Q => ∃ (fs : List (Str × V)) (C : Addr) (b : Bool), xs = [.ref p.1, .ref C] ∧ H d = some (.xd fs) ∧ PySem.W.kitOne K (.ref D) (.ref C) = some b ∧ Q (.bl b) H
structure HotE (X : Cx) (p : Addr × Obj) (D d : Addr) : Prop where
  mem : p ∈ X.pn
  zc : Zc (.ref D) (some d) p.2
  fld : ∃ vs, p.2.data = .fields vs
theorem call_isH {p : Addr × Obj} {D d : Addr} {B newId initId : String} {bmB : List Value} (Hx : HotE X p D d) (T : XcB X.K D B newId initId bmB) : CallR X (.builtin "isinstance") (rIsH X.K p D d) := by
  intro pins s σ H xs us Q I r h
  obtain ⟨fs, C, b, rfl, ed, e, q⟩ := h
  obtain ⟨u1, u2, rfl, r1, r2⟩ := vals2 r
  cases r1
  cases r2
  obtain ⟨vs, hv⟩ := Hx.fld
  obtain ⟨got, _⟩ := I.pin p (List.mem_append_left _ Hx.mem)
  obtain ⟨mA, hns, _⟩ := (show ObjOk X.prog X.w H s.heap d (.xd fs) from I.hok d _ ed)
  obtain ⟨od, ho, _⟩ := lookIn_ns hns
  have J : PySem.W.InstAt s.heap p.1 p.2 D (some od) := ⟨got, Hx.zc.1, by unfold PySem.W.notCls; rw [hv] <;> rfl, by rw [Hx.zc.2]; exact ho⟩
  have hcl : (PySem.W.clsIn X.K D).isSome = true := by
    obtain ⟨cd, hc, _⟩ := PySem.W.any_some T.hd
    rw [hc] <;> rfl
  exact PySem.W.kia_one (PySem.W.kitx_exc hcl T.ga T.gg T.exC T.ha T.hn T.ht T.hm) I.kIn J e (fun z => nomatch z) fun tk => ⟨.bl b, H, I.kept (t' := tk) fun _ _ z => z, rfl, q⟩
/-- xs.count(y), data -/
def rCountD (K : PySem.W.Frag) : V → List V → Hp → VK → Prop := fun x xs H Q => ∃ (a : Addr) (y : V) (ds : List PyData) (d : PyData), x = .ref a ∧ xs = [y] ∧ Dp K H (.ref a) (.list ds) ∧ Dp K H y d ∧ SeqAt.shaped (.list ds) = true ∧ SeqAt.shaped d = true ∧ Q (.int (ds.countP fun e => PyData.eqv e d : Nat)) H
end
end Z

set_option Elab.async false
set_option linter.all false
set_option maxRecDepth 100000
set_option maxHeartbeats 4000000
namespace Z
open PySem PySem.Spec PyProof.Rows L2 L2H
/-! ### defs called with what is being handled -/
structure FnE (P : Program) (w : World) (K : PySem.W.Frag) (mg : Str → Option Value) (base : Heap) (k : Nat) (f : Addr) (fd : FuncData) (ps : List Str) (sp : Addr × Obj → Sp) : Prop where
  len : ∀ p vs H Q E, sp p vs H Q E → vs.length = ps.length
  run : ∀ (A : Around) (outer : List Env) (s : Shared) (H : Hp) (args : Args) (us : List Value) (vs : List V) (Q : VK) (E : XK) (p : Addr × Obj), RoomH k A → A.guards = some [] → Hot1 A p → PinOk outer H s p → Env0 P w K mg base A outer s H → BindsTo s fd args (ps.zip us) → Vals vs us →
    sp p vs H Q E → codeAny (model P w) A (.call (.ref f) args) (CR C8.CX0 outer P w H s Q E) s
section
variable {P : Program} {w : World} {K : PySem.W.Frag} {mg : Str → Option Value} {base : Heap}
theorem okE {x qual : Str} {st : Stmt} {f : Addr} {fd : FuncData} {N ps : List Str} {k : Nat} {sp : Addr × Obj → Sp} (F : Fun K x qual st f fd) (S : FnScope N ps (defScope st)) (len : ∀ p vs H Q E, sp p vs H Q E → vs.length = ps.length)
    (hbody : ∀ (cdv : Value) (A : Around) (outer : List Env) (s : Shared) (H : Hp) (vs : List V) (Q : VK) (E : XK) (p : Addr × Obj), Hot1 A p → RoomH k (A.deeper (envOfC qual (defScope st) s.heap.objs.size f cdv)) → A.guards = some [] → sp p vs H Q E →
      ∃ t, PSs (cxH C8.CX0 P w K mg base N qual (defScope st) f cdv A outer s H E p).nox (defBody st) t ∧ t { nx := fun _ H' => Q .non H', rt := Q } (L2.start N vs) H) : FnE P w K mg base (k + 1) f fd ps sp := by
  obtain ⟨oc, od, kV, doc, pm, an, cdv, ct, osl, rfl, lk, hcd⟩ := F.ex
  refine ⟨len, fun A outer s H args us vs Q E p hr hG hot hpin e0 hb rv hsp => ?_⟩
  have same : ∀ b o, base.get? b = some o → s.heap.get? b = some o := fun b o z => (e0.bs b o z).1
  have inK : K.In s.heap := e0.mod.kin.keeps same
  refine codeAny_call_function hr.depth (inK _ _ lk) rfl S.co S.gen rfl (PySem.W.codeRec_of inK hcd) (hb _ _ _ _ ?_)
  refine wpAny_newFunctionEnv_cells S.kind (fun ⟨n, v⟩ hy => ?_) fun env he s1 x => ?_
  · exact (S.par n (List.of_mem_zip hy).1).elim .inl fun q => .inr ⟨q, PySem.W.cellsFrom_some _ _ _ (.inl q)⟩
  · subst he
    refine ⟨(e0.mod.nolimit.keeps same).keeps x.toInCall.keep, codeAny_func ?_⟩
    obtain ⟨t, ht, hq⟩ := hbody cdv A outer s H vs Q E p hot (hr.deeper _) hG hsp
    have I0 := (inv_startH (CX := C8.CX0) (E := E) S hpin e0 (len _ _ _ _ _ hsp) rv x).wish fun _ _ => False
    refine wpAny_mono (ht.run [] s1 (L2.start N vs) H _ I0 hq) (fun fl sv out => ?_) fun e sv z => False.elim z
    cases fl with
    | next =>
      obtain ⟨σv, Hv, J, q⟩ := out
      exact ⟨.non, Hv, J.os, J.bare, J.base, J.hok, rfl, q⟩
    | ret u =>
      obtain ⟨v, σv, Hv, J, r, q⟩ := out
      exact ⟨v, Hv, J.os, J.bare, J.base, J.hok, r, q⟩
    | brk => exact let ⟨_, _, _, q⟩ := out; q.elim
    | cont => exact let ⟨_, _, _, q⟩ := out; q.elim
structure CalE (P : Program) (w : World) (K : PySem.W.Frag) (mg : Str → Option Value) (base : Heap) (k : Nat) (x : Str) (sp : Addr × Obj → Sp) : Prop where
  ex : ∃ (f : Addr) (fd : FuncData) (ps : List Str), FnE P w K mg base k f fd ps sp ∧ mg x = some (.ref f) ∧ PySem.W.keepIn K (.ref f) = true ∧ Binds K fd ps []
theorem calE {x : Str} {st : Stmt} {N ps : List Str} {k : Nat} {sp : Addr × Obj → Sp} (D : Y.DfT K mg x st ps) (S : FnScope N ps (defScope st)) (len : ∀ p vs H Q E, sp p vs H Q E → vs.length = ps.length)
    (hbody : ∀ (f : Addr) (cdv : Value) (A : Around) (outer : List Env) (s : Shared) (H : Hp) (vs : List V) (Q : VK) (E : XK) (p : Addr × Obj), Hot1 A p → RoomH k (A.deeper (envOfC x (defScope st) s.heap.objs.size f cdv)) → A.guards = some [] → sp p vs H Q E →
      ∃ t, PSs (cxH C8.CX0 P w K mg base N x (defScope st) f cdv A outer s H E p).nox (defBody st) t ∧ t { nx := fun _ H' => Q .non H', rt := Q } (L2.start N vs) H) : CalE P w K mg base (k + 1) x sp := by
  obtain ⟨f, fd, F, b, g⟩ := D.ex
  exact ⟨f, fd, ps, okE F S len fun cdv A outer s H vs Q E p h1 h2 h3 h4 => hbody f cdv A outer s H vs Q E p h1 h2 h3 h4, g, F.kp, b⟩
end
theorem RoomH.units {k : Nat} {A : Around} (r : RoomH k A) : A.units + 66 < cLine := by
  have := r.un
  omega
section
variable {X : Cx} {k j : Nat} {x : Str} {sp : Addr × Obj → Sp} {pp pos : Pos} {e : Expr} {es : List Expr} {t : TA} {p : Addr × Obj}
theorem pe_cER {R : List V → Hp → VK → Prop} (hR : ∀ vs H Q, R vs H Q → sp p vs H Q C8.E0) (c : CalE X.prog X.w X.K X.mg X.base k x sp) (hot : Hot1 X.A p) (hp : p ∈ X.pn) (hr : RoomH j X.A) (hk : k ≤ j) (hG : X.A.guards = some []) (hg : Gl X x) (ha : PA X (e :: es) t)
    (hdb : (x == ("__debug__" : Str)) = false := by decide) (he : starEach (e :: es) X.env = (false, eval e X.env) :: starEach es X.env := by rfl) (hpl : (backTo pos (starEach es X.env)).any (·.1) = false := by rfl) :
    PE X (.Call (.Name x pp) (e :: es) [] pos) (fun σ H Q => t σ H fun vs H1 => R vs H1 Q) := by
  obtain ⟨f, fd, ps, F, hm, kp, b⟩ := c.ex
  refine ⟨fun pins s σ H Q I h => ?_⟩
  refine wpAny_Call_Name_kw (ld_glob I hg hm ?_ hdb)
  refine PySem.W.callWith_K (h₀ := X.base) I.ok.mod.kin kp (thn (ha.run pos pins s σ H _ I h) fun us s1 ⟨vs, H1, I1, r1, q0⟩ => ⟨I1.kIn, ?_⟩) he hpl
  have q1 := hR _ _ _ q0
  have hl : us.length = ps.length := by rw [← r1.length]; exact F.len _ _ _ _ _ q1
  have bind : BindsTo s1 fd ⟨us, []⟩ (ps.zip us) := by
    have q := b s1 us I1.kIn (by rw [List.append_nil]; exact hl)
    rwa [List.append_nil] at q
  have pin := I1.pin p (List.mem_append_left _ hp)
  have hpin : PinOk X.stack H1 s1 p := ⟨pin.1, pin.2.1, fun hm => (List.mem_cons.mp (I1.stkSub p.1 hm)).elim pin.2.2.1 pin.2.2.2.1, pin.2.2.2.2⟩
  refine wpAny_call (codeAny_mono (F.run X.A X.stack s1 H1 ⟨us, []⟩ us vs Q C8.E0 p (hr.mono hk) hG hot hpin I1.env0 bind r1 q1) fun r sv out => ?_)
  cases r with
  | error er => exact False.elim out
  | ok fl =>
    cases fl with
    | ret u => exact I1.after out
    | next => exact False.elim out
    | brk => exact False.elim out
    | cont => exact False.elim out
/-- xs.count(b), a list of truth values -/
def rCountB (K : PySem.W.Frag) : V → List V → Hp → VK → Prop := fun x xs H Q => ∃ (a : Addr) (bs : List Bool) (b : Bool), x = .ref a ∧ xs = [.bl b] ∧ SqL K H a (bs.map V.bl) ∧ Q (.int (bs.count b : Nat)) H
theorem dpB {K : PySem.W.Frag} {H : Hp} : ∀ bs : List Bool, DpAll K H (bs.map V.bl) (bs.map PyData.bool)
  | [] => .nil
  | b :: bs => .cons (.bl b) (dpB bs)
theorem countB (b : Bool) : ∀ bs : List Bool, (bs.map PyData.bool).countP (fun y => PyData.eqv y (.bool b)) = bs.count b
  | [] => rfl
  | c :: bs => by
    rw [List.map_cons, List.countP_cons, countB b bs, List.count_cons, PyData.eqv]
theorem plainB : ∀ bs : List Bool, PyData.plainAll (bs.map PyData.bool) = true ∧ PyData.depthAll (bs.map PyData.bool) = 0
  | [] => ⟨rfl, rfl⟩
  | b :: bs => by
    obtain ⟨h1, h2⟩ := plainB bs
    rw [List.map_cons]
    exact ⟨by rw [PyData.plainAll, h1]; rfl, by rw [PyData.depthAll, h2]; rfl⟩
theorem mt_countB (hu : X.A.units + 65 < cLine) : MtR X "list.count" (rCountB X.K) := by
  intro pins s σ H x xs v us Q I rx rxs h
  obtain ⟨a, bs, b, rfl, rfl, hs, q⟩ := h
  cases rx
  obtain ⟨u, rfl, ru⟩ := rxs.one
  cases ru
  obtain ⟨its, rv, hl, _⟩ := I.list hs
  obtain ⟨as, rs⟩ := Dp.readsAll I _ _ its (dpB (H := H) bs) rv
  obtain ⟨p1, p2⟩ := plainB bs
  refine PySem.SeqAt.count_list_data hl.isList (by simpa using rs) (.bool (h := s.heap) b) p1 rfl (by rw [p2]; simp; omega) ?_
  rw [countB]
  exact ⟨.int _, H, I.tok _, ⟨s.toks, rfl⟩, q⟩
end
end Z

set_option Elab.async false
set_option linter.all false
set_option maxRecDepth 100000
set_option maxHeartbeats 4000000
namespace Y
open PySem L2
open PyProof.Rows (envOfC)
open SX (S)
open C8 (Cal pe_c pe_gc)
/-! ### the classes of errors, by their numbers -/
def bK (n : Nat) : String := if n < 12 then "ValueError" else if n < 14 then "LookupError" else "ArithmeticError"
def bN (n : Nat) : String := if n < 12 then "ValueError.__new__" else if n < 14 then "LookupError.__new__" else "ArithmeticError.__new__"
def bI (n : Nat) : String := if n < 12 then "ValueError.__init__" else if n < 14 then "LookupError.__init__" else "ArithmeticError.__init__"
def bM (n : Nat) : List Value := [.type (bK n), .type "Exception", .type "BaseException", .type "object"]
theorem b_base (n : Nat) : PySem.ExcBaseFacts (bK n) (bN n) (bI n) (bM n) := by
  unfold bM bK bN bI
  by_cases h1 : n < 12
  · simp only [if_pos h1]
    exact PySem.F.excBase_ValueError
  · by_cases h2 : n < 14
    · simp only [if_neg h1, if_pos h2]
      exact PySem.F.excBase_LookupError
    · simp only [if_neg h1, if_neg h2]
      exact PySem.F.excBase_ArithmeticError
theorem b_store (n : Nat) : PySem.StoreFacts (bK n) (bM n) "object.__setattr__" "object" := by
  unfold bM bK
  by_cases h1 : n < 12
  · simp only [if_pos h1]
    exact PySem.F.store_ValueError
  · by_cases h2 : n < 14
    · simp only [if_neg h1, if_pos h2]
      exact PySem.F.store_LookupError
    · simp only [if_neg h1, if_neg h2]
      exact PySem.F.store_ArithmeticError
def bas (n : Nat) : Nat := if n < 12 then 0 else if n < 14 then 1 else 2
def kv (n m : Nat) : Bool := decide (m = n) || decide (m = 20 + bas n)
def fields : List Str := ["given", "index"]
open PySem.W in
def chkE (K : Frag) (cl : Nat → Addr) (n : Nat) : Bool :=
  let C := cl n
  excInitIn K C (bM n) (bN n) && (excOver K C (bM n) && (hasDictIn K C && (findIn K (.ref C) "__setattr__" == some (some (.builtin "object.__setattr__")) && (keepIn K (.ref C) && (findIn K (.ref C) "__getattribute__" == some (some (.builtin "BaseException.__getattribute__")) && (findIn K (.ref C) "__getattr__" == some none && (subIn K (.ref C) (.type "BaseException") == some true
  && (findIn K (.ref C) "__class__" == some (some (.builtin "object.__class__")) && (specialIn K (.builtin "object.__class__") "__get__" == some (some (.builtin "getset_descriptor.__get__")) && (takesIn K (.builtin "object.__class__") == some true && (mroIn K C (.type "object") == some true
  && (typeIn K (.ref C) == some (.type "type") && ((fields.all fun f => findIn K (.ref C) f == some none && takerIn K C f == some none) && (((List.range 23).all fun m => kitOne K (.ref C) (.ref (cl m)) == some (kv n m)) && exmAny K (.ref C) [.ref (cl 20), .ref (cl 21), .ref (cl 22)] == some true))))))))))))))
structure EK (K : PySem.W.Frag) (cl : Nat → Addr) (n : Nat) : Prop where
  x : XcB K (cl n) (bK n) (bN n) (bI n) (bM n)
  ty : PySem.W.typeIn K (.ref (cl n)) = some (.type "type")
  fi : ∀ f ∈ fields, PySem.W.findIn K (.ref (cl n)) f = some none ∧ PySem.W.takerIn K (cl n) f = some none
  kit : ∀ m, m < 23 → PySem.W.kitOne K (.ref (cl n)) (.ref (cl m)) = some (kv n m)
  any : PySem.W.exmAny K (.ref (cl n)) [.ref (cl 20), .ref (cl 21), .ref (cl 22)] = some true
theorem EK.of {K : PySem.W.Frag} {cl : Nat → Addr} {n : Nat} (h : chkE K cl n = true) : EK K cl n := by
  unfold chkE at h
  simp only [Bool.and_eq_true, beq_iff_eq] at h
  obtain ⟨h1, h2, h3, h4, h5, h6, h7, h8, h9, h10, h11, h12, h13, h14, h15, h16⟩ := h
  refine ⟨⟨h1, h2, h3, h4, h5, h6, h7, h8, h9, h10, h11, h12, b_base n, b_store n⟩, h13, fun f hf => ?_, fun m hm => ?_, h16⟩
  · have r := List.all_eq_true.mp h14 f hf
    rw [Bool.and_eq_true] at r
    exact ⟨beq_iff_eq.mp r.1, beq_iff_eq.mp r.2⟩
  · exact beq_iff_eq.mp (List.all_eq_true.mp h15 m (List.mem_range.mpr hm))
theorem EK.xf {K : PySem.W.Frag} {cl : Nat → Addr} {n : Nat} (h : EK K cl n) : XfC K (cl n) := ⟨h.x.ga, h.x.gg, h.x.exC, h.x.hd⟩
/-! ### their __init__ -/
def iA (f : Str) (p1 p2 : Pos) : Arguments := { posonlyargs := [], args := [{ arg := "self", annotation := none, pos := p1 }, { arg := f, annotation := none, pos := p2 }], vararg := none, kwonlyargs := [], kw_defaults := [], kwarg := none, defaults := [] }
def iB (f : Str) (q1 q2 q3 q4 : Pos) : List Stmt := [.Assign [.Attribute (.Name "self" q1) f q2] (.Name f q3) q4]
def iS (f : Str) : Scope := { kind := .function, names := [("self", .local), (f, .local)], isGenerator := false, isCoroutine := false, more := [] }
structure IniT (st : Stmt) (f : Str) : Prop where
  a : ∃ p1 p2, defArgs st = iA f p1 p2
  b : ∃ q1 q2 q3 q4, defBody st = iB f q1 q2 q3 q4
  s : defScope st = iS f
theorem sc_given : FnScope ["self", "given"] ["self", "given"] (iS "given") := ⟨rfl, rfl, rfl, by decide +kernel, rfl, by decide +kernel, by decide +kernel⟩
theorem sc_index : FnScope ["self", "index"] ["self", "index"] (iS "index") := ⟨rfl, rfl, rfl, by decide +kernel, rfl, by decide +kernel, by decide +kernel⟩
theorem xn_of {P : Program} {w : World} {mg : Str → Option Value} {base : Heap} {K : PySem.W.Frag} {cl : Nat → Addr} {n : Nat} {fI : Addr} {f x qual : Str} {st : Stmt} (hf : f = "given" ∨ f = "index") (E : EK K cl n) (gx : mg x = some (.ref (cl n))) (iC : PySem.W.findIn K (.ref (cl n)) "__init__" = some (some (.ref fI))) (hfn : PySem.W.isFn K (.ref fI) = true)
    (I : IniT st f) {oc kV dc pm cd ct : Value} {od an : Option Addr} {osl : Array (Option Value)} (l : K.lookup fI = some ⟨oc, od, .func (PySem.W.fnOf "__init__" qual (defArgs st) (defBody st) (defScope st) .none kV dc pm an cd ct), osl⟩)
    (c : PySem.W.codeIn K cd qual = true) (k : PySem.W.keepIn K (.ref fI) = true) : Z.XN P w K mg base x (cl n) f := by
  have F := fun_mk (st := st) l c k
  obtain ⟨p1, p2, ha⟩ := I.a
  obtain ⟨q1, q2, q3, q4, hb⟩ := I.b
  have hs := I.s
  refine ⟨?_, E.ty⟩
  rcases hf with rfl | rfl
  · have htk := (E.fi "given" (List.mem_cons_self ..)).2
    refine ⟨⟨fI, _, _, _, _, _, E.x, iC, hfn, ok_ini F E.x htk (by rw [hs]; exact sc_given) hb (by decide) (by decide), fun s u v => ?_, fun s u v => ?_⟩, gx⟩ <;> rw [ha] <;> exact .of_eq rfl
  · have htk := (E.fi "index" (List.mem_cons_of_mem _ (List.mem_cons_self ..))).2
    refine ⟨⟨fI, _, _, _, _, _, E.x, iC, hfn, ok_ini F E.x htk (by rw [hs]; exact sc_index) hb (by decide) (by decide), fun s u v => ?_, fun s u v => ?_⟩, gx⟩ <;> rw [ha] <;> exact .of_eq rfl
/-- the classes by their names -/
structure Eg (mg : Str → Option Value) (cl : Nat → Addr) : Prop where
  g_InvalidText : mg "InvalidText" = some (.ref (cl 0))
  g_InvalidName : mg "InvalidName" = some (.ref (cl 1))
  g_InvalidKind : mg "InvalidKind" = some (.ref (cl 2))
  g_InvalidMove : mg "InvalidMove" = some (.ref (cl 3))
  g_InvalidNumber : mg "InvalidNumber" = some (.ref (cl 4))
  g_InvalidWish : mg "InvalidWish" = some (.ref (cl 5))
  g_InvalidIndex : mg "InvalidIndex" = some (.ref (cl 6))
  g_NotYard : mg "NotYard" = some (.ref (cl 7))
  g_InvalidKinds : mg "InvalidKinds" = some (.ref (cl 8))
  g_InvalidRows : mg "InvalidRows" = some (.ref (cl 9))
  g_InvalidPlan : mg "InvalidPlan" = some (.ref (cl 10))
  g_InvalidChanges : mg "InvalidChanges" = some (.ref (cl 11))
  g_UnknownName : mg "UnknownName" = some (.ref (cl 12))
  g_InUse : mg "InUse" = some (.ref (cl 13))
  g_Unbalanced : mg "Unbalanced" = some (.ref (cl 14))
  g_NotThere : mg "NotThere" = some (.ref (cl 15))
  g_OtherKinds : mg "OtherKinds" = some (.ref (cl 16))
  g_TooGreat : mg "TooGreat" = some (.ref (cl 17))
  g_NothingToUndo : mg "NothingToUndo" = some (.ref (cl 18))
  g_Broken : mg "Broken" = some (.ref (cl 19))
  g_WrongValue : mg "WrongValue" = some (.ref (cl 20))
  g_WrongName : mg "WrongName" = some (.ref (cl 21))
  g_NotPossible : mg "NotPossible" = some (.ref (cl 22))
def words : List Str := ["text", "name", "kind", "move", "number", "wish", "index", "yard", "kinds", "rows", "plan", "changes", "unknown", "use", "unbalanced", "there", "other", "great", "nothing", "broken"]
def word (n : Nat) : Str := words.getD n ""
def sorts (n : Nat) : List Bool := [kv n 0, kv n 1, kv n 2, kv n 3, kv n 4, kv n 5, kv n 6, kv n 7, kv n 8, kv n 9, kv n 10, kv n 11, kv n 12, kv n 13, kv n 14, kv n 15, kv n 16, kv n 17, kv n 18, kv n 19]
theorem sorts_ok : ∀ n, n < 20 → (sorts n).count true = 1 ∧ (sorts n)[n]? = some true ∧ (∀ m, m < n → (sorts n)[m]? = some false) ∧ words[n]? = some (word n) ∧ [kv n 20, kv n 21, kv n 22] = [decide (0 = bas n), decide (1 = bas n), decide (2 = bas n)] := by
  have h : ∀ n : Fin 20, ((sorts n).count true = 1 ∧ (sorts n)[(n : Nat)]? = some true ∧ (∀ m : Fin 20, (m : Nat) < n → (sorts n)[(m : Nat)]? = some false) ∧ words[(n : Nat)]? = some (word n) ∧ [kv n 20, kv n 21, kv n 22] = [decide (0 = bas n), decide (1 = bas n), decide (2 = bas n)]) := by decide +kernel
  intro n hn
  obtain ⟨h1, h2, h3, h4, h5⟩ := h ⟨n, hn⟩
  exact ⟨h1, h2, fun m hm => h3 ⟨m, by omega⟩ hm, h4, h5⟩
theorem hu64 {k : Nat} {A : Around} (r : L2H.RoomH k A) : A.units + 64 < cLine := by
  have := r.un
  omega
section
variable {P : Program} {w : World} {K : PySem.W.Frag} {mg : Str → Option Value} {base : Heap} {C : Addr} {cl : Nat → Addr}
abbrev s_class : Stmt := top 77
theorem sc_class : FnScope ["_law_e", "_law_sorts", "_law_words", "_law_bases", "_law_at", "_law_base", "_law_k"] ["_law_e"] (defScope s_class) := ⟨rfl, rfl, rfl, by decide +kernel, rfl, by decide +kernel, by decide +kernel⟩
def spClass (K : PySem.W.Frag) (cl : Nat → Addr) : Addr × Obj → Sp := fun p vs H Q _ => ∃ (n : Nat) (d : Addr) (fs : List (Str × V)), vs = [.ref p.1] ∧ n < 20 ∧ EK K cl n ∧ Zc (.ref (cl n)) (some d) p.2 ∧ (∃ us, p.2.data = .fields us) ∧ H d = some (.xd fs) ∧ ∀ H', Same H H' → Q (.str (word n)) H'
theorem shB (bs : List Bool) (h : bs.length < 1000) : SeqAt.shaped (.list (bs.map PyData.bool)) = true := by
  have hl : ∀ bs : List Bool, PyData.canLayAll0 (bs.map PyData.bool) = true ∧ PyData.depthAll (bs.map PyData.bool) = 0 := fun bs => by
    induction bs with
    | nil => exact ⟨rfl, rfl⟩
    | cons b bs ih =>
      rw [List.map_cons]
      exact ⟨by rw [PyData.canLayAll0, ih.1]; rfl, by rw [PyData.depthAll, ih.2]; rfl⟩
  obtain ⟨h1, h2⟩ := hl bs
  unfold SeqAt.shaped
  rw [Bool.and_eq_true]
  exact ⟨h1, decide_eq_true (by rw [PyData.depth, h2]; decide)⟩
theorem eqvB : ∀ a b : List Bool, PyData.eqvAll (a.map PyData.bool) (b.map PyData.bool) = decide (a = b)
  | [], [] => by simp [PyData.eqvAll]
  | [], _ :: _ => by simp [PyData.eqvAll]
  | _ :: _, [] => by simp [PyData.eqvAll]
  | x :: a, y :: b => by
    rw [List.map_cons, List.map_cons, PyData.eqvAll, eqvB a b, PyData.eqv]
    by_cases h1 : x = y <;> by_cases h2 : a = b <;> simp [h1, h2]
theorem ok_class (D : DfT K mg "_law_class" s_class ["_law_e"]) (T : Tx K mg) (G : Eg mg cl) : Z.CalE P w K mg base 1 "_law_class" (spClass K cl) := by
  have nd := sc_class.nd
  refine Z.calE (k := 0) D sc_class (fun p vs H Q E h => by obtain ⟨n, d, fs, rfl, _⟩ := h; rfl) fun f cdv A outer s H vs Q E p hot hr hG h => ?_
  let sc : Scope := defScope s_class
  obtain ⟨n, d, fs, rfl, hn, EE, hz, hf, hd, hk⟩ := h
  have hu := Z.RoomH.units hr
  have hu : (A.deeper (envOfC "_law_class" (defScope s_class) s.heap.objs.size f cdv)).units + 65 < cLine := by omega
  have Hx : Z.HotE (L2H.cxH C8.CX0 P w K mg base ["_law_e", "_law_sorts", "_law_words", "_law_bases", "_law_at", "_law_base", "_law_k"] "_law_class" (defScope s_class) f cdv A outer s H E p).nox p (cl n) d := ⟨List.mem_cons_self, hz, hf⟩
  have hotC : L2H.HotC (L2H.cxH C8.CX0 P w K mg base ["_law_e", "_law_sorts", "_law_words", "_law_bases", "_law_at", "_law_base", "_law_k"] "_law_class" (defScope s_class) f cdv A outer s H E p).nox := ⟨p, hot, List.mem_cons_self⟩
  refine ⟨_, (pss_cons (ps_set (i := 1) nd rfl (by first | exact Or.inl rfl | exact Or.inr rfl) (pe_lst (pa_cons (pe_callB (r := Z.rIsH K p (cl n) d) (Z.call_isH Hx EE.x) (by rfl) T.n_isinstance (by decide +kernel) (pa_cons (pv 0) (pa_cons (pe_glob (by rfl) G.g_InvalidText (v := .ref _) rfl) pa_nil))) (pa_cons (pe_callB (r := Z.rIsH K p (cl n) d) (Z.call_isH Hx EE.x) (by rfl) T.n_isinstance (by decide +kernel) (pa_cons (pv 0) (pa_cons (pe_glob (by rfl) G.g_InvalidName (v := .ref _) rfl) pa_nil))) (pa_cons (pe_callB (r := Z.rIsH K p (cl n) d) (Z.call_isH Hx EE.x) (by rfl) T.n_isinstance (by decide +kernel) (pa_cons (pv 0) (pa_cons (pe_glob (by rfl) G.g_InvalidKind (v := .ref _) rfl) pa_nil))) pa_nil)))))
    (pss_cons (ps_set (i := 1) nd rfl (by first | exact Or.inl rfl | exact Or.inr rfl) (pe_op op_cat (pv 1) (pe_lst (pa_cons (pe_callB (r := Z.rIsH K p (cl n) d) (Z.call_isH Hx EE.x) (by rfl) T.n_isinstance (by decide +kernel) (pa_cons (pv 0) (pa_cons (pe_glob (by rfl) G.g_InvalidMove (v := .ref _) rfl) pa_nil))) (pa_cons (pe_callB (r := Z.rIsH K p (cl n) d) (Z.call_isH Hx EE.x) (by rfl) T.n_isinstance (by decide +kernel) (pa_cons (pv 0) (pa_cons (pe_glob (by rfl) G.g_InvalidNumber (v := .ref _) rfl) pa_nil))) (pa_cons (pe_callB (r := Z.rIsH K p (cl n) d) (Z.call_isH Hx EE.x) (by rfl) T.n_isinstance (by decide +kernel) (pa_cons (pv 0) (pa_cons (pe_glob (by rfl) G.g_InvalidWish (v := .ref _) rfl) pa_nil))) pa_nil))))))
    (pss_cons (ps_set (i := 1) nd rfl (by first | exact Or.inl rfl | exact Or.inr rfl) (pe_op op_cat (pv 1) (pe_lst (pa_cons (pe_callB (r := Z.rIsH K p (cl n) d) (Z.call_isH Hx EE.x) (by rfl) T.n_isinstance (by decide +kernel) (pa_cons (pv 0) (pa_cons (pe_glob (by rfl) G.g_InvalidIndex (v := .ref _) rfl) pa_nil))) (pa_cons (pe_callB (r := Z.rIsH K p (cl n) d) (Z.call_isH Hx EE.x) (by rfl) T.n_isinstance (by decide +kernel) (pa_cons (pv 0) (pa_cons (pe_glob (by rfl) G.g_NotYard (v := .ref _) rfl) pa_nil))) (pa_cons (pe_callB (r := Z.rIsH K p (cl n) d) (Z.call_isH Hx EE.x) (by rfl) T.n_isinstance (by decide +kernel) (pa_cons (pv 0) (pa_cons (pe_glob (by rfl) G.g_InvalidKinds (v := .ref _) rfl) pa_nil))) pa_nil))))))
    (pss_cons (ps_set (i := 1) nd rfl (by first | exact Or.inl rfl | exact Or.inr rfl) (pe_op op_cat (pv 1) (pe_lst (pa_cons (pe_callB (r := Z.rIsH K p (cl n) d) (Z.call_isH Hx EE.x) (by rfl) T.n_isinstance (by decide +kernel) (pa_cons (pv 0) (pa_cons (pe_glob (by rfl) G.g_InvalidRows (v := .ref _) rfl) pa_nil))) (pa_cons (pe_callB (r := Z.rIsH K p (cl n) d) (Z.call_isH Hx EE.x) (by rfl) T.n_isinstance (by decide +kernel) (pa_cons (pv 0) (pa_cons (pe_glob (by rfl) G.g_InvalidPlan (v := .ref _) rfl) pa_nil))) (pa_cons (pe_callB (r := Z.rIsH K p (cl n) d) (Z.call_isH Hx EE.x) (by rfl) T.n_isinstance (by decide +kernel) (pa_cons (pv 0) (pa_cons (pe_glob (by rfl) G.g_InvalidChanges (v := .ref _) rfl) pa_nil))) pa_nil))))))
    (pss_cons (ps_set (i := 1) nd rfl (by first | exact Or.inl rfl | exact Or.inr rfl) (pe_op op_cat (pv 1) (pe_lst (pa_cons (pe_callB (r := Z.rIsH K p (cl n) d) (Z.call_isH Hx EE.x) (by rfl) T.n_isinstance (by decide +kernel) (pa_cons (pv 0) (pa_cons (pe_glob (by rfl) G.g_UnknownName (v := .ref _) rfl) pa_nil))) (pa_cons (pe_callB (r := Z.rIsH K p (cl n) d) (Z.call_isH Hx EE.x) (by rfl) T.n_isinstance (by decide +kernel) (pa_cons (pv 0) (pa_cons (pe_glob (by rfl) G.g_InUse (v := .ref _) rfl) pa_nil))) (pa_cons (pe_callB (r := Z.rIsH K p (cl n) d) (Z.call_isH Hx EE.x) (by rfl) T.n_isinstance (by decide +kernel) (pa_cons (pv 0) (pa_cons (pe_glob (by rfl) G.g_Unbalanced (v := .ref _) rfl) pa_nil))) pa_nil))))))
    (pss_cons (ps_set (i := 1) nd rfl (by first | exact Or.inl rfl | exact Or.inr rfl) (pe_op op_cat (pv 1) (pe_lst (pa_cons (pe_callB (r := Z.rIsH K p (cl n) d) (Z.call_isH Hx EE.x) (by rfl) T.n_isinstance (by decide +kernel) (pa_cons (pv 0) (pa_cons (pe_glob (by rfl) G.g_NotThere (v := .ref _) rfl) pa_nil))) (pa_cons (pe_callB (r := Z.rIsH K p (cl n) d) (Z.call_isH Hx EE.x) (by rfl) T.n_isinstance (by decide +kernel) (pa_cons (pv 0) (pa_cons (pe_glob (by rfl) G.g_OtherKinds (v := .ref _) rfl) pa_nil))) (pa_cons (pe_callB (r := Z.rIsH K p (cl n) d) (Z.call_isH Hx EE.x) (by rfl) T.n_isinstance (by decide +kernel) (pa_cons (pv 0) (pa_cons (pe_glob (by rfl) G.g_TooGreat (v := .ref _) rfl) pa_nil))) pa_nil))))))
    (pss_cons (ps_set (i := 1) nd rfl (by first | exact Or.inl rfl | exact Or.inr rfl) (pe_op op_cat (pv 1) (pe_lst (pa_cons (pe_callB (r := Z.rIsH K p (cl n) d) (Z.call_isH Hx EE.x) (by rfl) T.n_isinstance (by decide +kernel) (pa_cons (pv 0) (pa_cons (pe_glob (by rfl) G.g_NothingToUndo (v := .ref _) rfl) pa_nil))) (pa_cons (pe_callB (r := Z.rIsH K p (cl n) d) (Z.call_isH Hx EE.x) (by rfl) T.n_isinstance (by decide +kernel) (pa_cons (pv 0) (pa_cons (pe_glob (by rfl) G.g_Broken (v := .ref _) rfl) pa_nil))) pa_nil)))))
    (pss_cons (ps_set (i := 2) nd rfl (by first | exact Or.inl rfl | exact Or.inr rfl) (pe_lst (pa_cons pe_str (pa_cons pe_str (pa_cons pe_str (pa_cons pe_str (pa_cons pe_str (pa_cons pe_str (pa_cons pe_str (pa_cons pe_str (pa_cons pe_str (pa_cons pe_str (pa_cons pe_str (pa_cons pe_str pa_nil))))))))))))))
    (pss_cons (ps_set (i := 2) nd rfl (by first | exact Or.inl rfl | exact Or.inr rfl) (pe_op op_cat (pv 2) (pe_lst (pa_cons pe_str (pa_cons pe_str (pa_cons pe_str (pa_cons pe_str (pa_cons pe_str (pa_cons pe_str (pa_cons pe_str (pa_cons pe_str pa_nil)))))))))))
    (C8.pss_cut (ps_set (i := 3) nd rfl (by first | exact Or.inl rfl | exact Or.inr rfl) (pe_lst (pa_cons (pe_callB (r := Z.rIsH K p (cl n) d) (Z.call_isH Hx EE.x) (by rfl) T.n_isinstance (by decide +kernel) (pa_cons (pv 0) (pa_cons (pe_glob (by rfl) G.g_WrongValue (v := .ref _) rfl) pa_nil))) (pa_cons (pe_callB (r := Z.rIsH K p (cl n) d) (Z.call_isH Hx EE.x) (by rfl) T.n_isinstance (by decide +kernel) (pa_cons (pv 0) (pa_cons (pe_glob (by rfl) G.g_WrongName (v := .ref _) rfl) pa_nil))) (pa_cons (pe_callB (r := Z.rIsH K p (cl n) d) (Z.call_isH Hx EE.x) (by rfl) T.n_isinstance (by decide +kernel) (pa_cons (pv 0) (pa_cons (pe_glob (by rfl) G.g_NotPossible (v := .ref _) rfl) pa_nil))) pa_nil)))))
    (pss_cons (ps_if (pt_cmpR op_ne (pe_bm PySem.F.plainAttrs_list PySem.F.slot_list_count PySem.F.type_list_count (Z.mt_countB hu) (pv 1) (pa_cons pe_bl pa_nil)) pe_int (nomark _)) (pss_one (ps_ret pe_str)) pss_nil)
    (pss_cons (ps_set (i := 4) nd rfl (by first | exact Or.inl rfl | exact Or.inr rfl) (pe_bm PySem.F.plainAttrs_list PySem.F.slot_list_index PySem.F.type_list_index (mt_indexD hu) (pv 1) (pa_cons pe_bl pa_nil)))
    (C8.pss_cut (ps_set (i := 5) nd rfl (by first | exact Or.inl rfl | exact Or.inr rfl) (pe_ifExp (pt_cmpR op_lt (pv 4) pe_int (nomark _)) pe_int (pe_ifExp (pt_cmpR op_lt (pv 4) pe_int (nomark _)) pe_int pe_int)))
    (pss_one (ps_ret (pe_ifExp (pt_cmpR (op_eqD (hu64 hr)) (pv 3) (Z.pe_lcH (X := (L2H.cxH C8.CX0 P w K mg base ["_law_e", "_law_sorts", "_law_words", "_law_bases", "_law_at", "_law_base", "_law_k"] "_law_class" (defScope s_class) f cdv A outer s H E p).nox) hotC (own := [("_law_k", 6)]) (g := gName 6) nd (L2H.pi_range1H (by rfl) T.n_range (pa_cons pe_int pa_nil)) (blkOk_by (own := [("_law_k", 6)]) (N := ["_law_e", "_law_sorts", "_law_words", "_law_bases", "_law_at", "_law_base", "_law_k"]) (sc := sc) (by decide +kernel)) (fun _ _ _ _ _ _ _ => pg_name (i := 6) nd rfl (Or.inl rfl)) (fun _ _ _ _ _ _ _ => (pe_cmpR op_eq (pv 6) (pv 5) (nomark _)))) (nomark _)) (pe_ix (r := rIxL K) ix_list (pv 2) (pv 4) (fun _ _ => rfl)) pe_str)))))))))))))))), ?_⟩
  refine ⟨.ref p.1, rfl, fs, cl 0, _, rfl, hd, EE.kit 0 (by decide), .ref p.1, rfl, fs, cl 1, _, rfl, hd, EE.kit 1 (by decide), .ref p.1, rfl, fs, cl 2, _, rfl, hd, EE.kit 2 (by decide), (by show 3 ≤ sizeLine; decide), fun L0 hf0 => ?_⟩
  have k0 := Same.new (H := H) (o := .lst [V.bl (kv n 0), V.bl (kv n 1), V.bl (kv n 2)]) hf0
  have hL0 : (upd H L0 (.lst [V.bl (kv n 0), V.bl (kv n 1), V.bl (kv n 2)])) L0 = some (.lst [V.bl (kv n 0), V.bl (kv n 1), V.bl (kv n 2)]) := upd_same
  generalize upd H L0 (.lst [V.bl (kv n 0), V.bl (kv n 1), V.bl (kv n 2)]) = H0 at k0 hL0 ⊢
  refine ⟨.ref L0, rfl, .ref p.1, rfl, fs, cl 3, _, rfl, k0 _ _ hd, EE.kit 3 (by decide), .ref p.1, rfl, fs, cl 4, _, rfl, k0 _ _ hd, EE.kit 4 (by decide), .ref p.1, rfl, fs, cl 5, _, rfl, k0 _ _ hd, EE.kit 5 (by decide), (by show 3 ≤ sizeLine; decide), fun M0 hM0 => ?_⟩
  have kM0 := Same.new (o := .lst [V.bl (kv n 3), V.bl (kv n 4), V.bl (kv n 5)]) hM0
  refine ⟨L0, M0, _, _, rfl, rfl, kM0 _ _ hL0, upd_same, (by show 6 ≤ sizeLine; decide), fun L1 hf1 => ?_⟩
  have k1 := (k0.trans kM0).trans (Same.new (o := .lst [V.bl (kv n 0), V.bl (kv n 1), V.bl (kv n 2), V.bl (kv n 3), V.bl (kv n 4), V.bl (kv n 5)]) hf1)
  have hL1 : (upd (upd H0 M0 (.lst [V.bl (kv n 3), V.bl (kv n 4), V.bl (kv n 5)])) L1 (.lst [V.bl (kv n 0), V.bl (kv n 1), V.bl (kv n 2), V.bl (kv n 3), V.bl (kv n 4), V.bl (kv n 5)])) L1 = some (.lst [V.bl (kv n 0), V.bl (kv n 1), V.bl (kv n 2), V.bl (kv n 3), V.bl (kv n 4), V.bl (kv n 5)]) := upd_same
  show _
  generalize hg1 : upd (upd H0 M0 (.lst [V.bl (kv n 3), V.bl (kv n 4), V.bl (kv n 5)])) L1 (.lst [V.bl (kv n 0), V.bl (kv n 1), V.bl (kv n 2), V.bl (kv n 3), V.bl (kv n 4), V.bl (kv n 5)]) = H1 at k1 hL1
  rw [show upd (upd H0 M0 (.lst [V.bl (kv n 3), V.bl (kv n 4), V.bl (kv n 5)])) L1 (.lst (_ ++ [V.bl (kv n 3), V.bl (kv n 4), V.bl (kv n 5)])) = H1 from hg1]
  clear hg1 kM0
  refine ⟨.ref L1, rfl, .ref p.1, rfl, fs, cl 6, _, rfl, k1 _ _ hd, EE.kit 6 (by decide), .ref p.1, rfl, fs, cl 7, _, rfl, k1 _ _ hd, EE.kit 7 (by decide), .ref p.1, rfl, fs, cl 8, _, rfl, k1 _ _ hd, EE.kit 8 (by decide), (by show 3 ≤ sizeLine; decide), fun M1 hM1 => ?_⟩
  have kM1 := Same.new (o := .lst [V.bl (kv n 6), V.bl (kv n 7), V.bl (kv n 8)]) hM1
  refine ⟨L1, M1, _, _, rfl, rfl, kM1 _ _ hL1, upd_same, (by show 9 ≤ sizeLine; decide), fun L2 hf2 => ?_⟩
  have k2 := (k1.trans kM1).trans (Same.new (o := .lst [V.bl (kv n 0), V.bl (kv n 1), V.bl (kv n 2), V.bl (kv n 3), V.bl (kv n 4), V.bl (kv n 5), V.bl (kv n 6), V.bl (kv n 7), V.bl (kv n 8)]) hf2)
  have hL2 : (upd (upd H1 M1 (.lst [V.bl (kv n 6), V.bl (kv n 7), V.bl (kv n 8)])) L2 (.lst [V.bl (kv n 0), V.bl (kv n 1), V.bl (kv n 2), V.bl (kv n 3), V.bl (kv n 4), V.bl (kv n 5), V.bl (kv n 6), V.bl (kv n 7), V.bl (kv n 8)])) L2 = some (.lst [V.bl (kv n 0), V.bl (kv n 1), V.bl (kv n 2), V.bl (kv n 3), V.bl (kv n 4), V.bl (kv n 5), V.bl (kv n 6), V.bl (kv n 7), V.bl (kv n 8)]) := upd_same
  show _
  generalize hg2 : upd (upd H1 M1 (.lst [V.bl (kv n 6), V.bl (kv n 7), V.bl (kv n 8)])) L2 (.lst [V.bl (kv n 0), V.bl (kv n 1), V.bl (kv n 2), V.bl (kv n 3), V.bl (kv n 4), V.bl (kv n 5), V.bl (kv n 6), V.bl (kv n 7), V.bl (kv n 8)]) = H2 at k2 hL2
  rw [show upd (upd H1 M1 (.lst [V.bl (kv n 6), V.bl (kv n 7), V.bl (kv n 8)])) L2 (.lst (_ ++ [V.bl (kv n 6), V.bl (kv n 7), V.bl (kv n 8)])) = H2 from hg2]
  clear hg2 kM1
  refine ⟨.ref L2, rfl, .ref p.1, rfl, fs, cl 9, _, rfl, k2 _ _ hd, EE.kit 9 (by decide), .ref p.1, rfl, fs, cl 10, _, rfl, k2 _ _ hd, EE.kit 10 (by decide), .ref p.1, rfl, fs, cl 11, _, rfl, k2 _ _ hd, EE.kit 11 (by decide), (by show 3 ≤ sizeLine; decide), fun M2 hM2 => ?_⟩
  have kM2 := Same.new (o := .lst [V.bl (kv n 9), V.bl (kv n 10), V.bl (kv n 11)]) hM2
  refine ⟨L2, M2, _, _, rfl, rfl, kM2 _ _ hL2, upd_same, (by show 12 ≤ sizeLine; decide), fun L3 hf3 => ?_⟩
  have k3 := (k2.trans kM2).trans (Same.new (o := .lst [V.bl (kv n 0), V.bl (kv n 1), V.bl (kv n 2), V.bl (kv n 3), V.bl (kv n 4), V.bl (kv n 5), V.bl (kv n 6), V.bl (kv n 7), V.bl (kv n 8), V.bl (kv n 9), V.bl (kv n 10), V.bl (kv n 11)]) hf3)
  have hL3 : (upd (upd H2 M2 (.lst [V.bl (kv n 9), V.bl (kv n 10), V.bl (kv n 11)])) L3 (.lst [V.bl (kv n 0), V.bl (kv n 1), V.bl (kv n 2), V.bl (kv n 3), V.bl (kv n 4), V.bl (kv n 5), V.bl (kv n 6), V.bl (kv n 7), V.bl (kv n 8), V.bl (kv n 9), V.bl (kv n 10), V.bl (kv n 11)])) L3 = some (.lst [V.bl (kv n 0), V.bl (kv n 1), V.bl (kv n 2), V.bl (kv n 3), V.bl (kv n 4), V.bl (kv n 5), V.bl (kv n 6), V.bl (kv n 7), V.bl (kv n 8), V.bl (kv n 9), V.bl (kv n 10), V.bl (kv n 11)]) := upd_same
  show _
  generalize hg3 : upd (upd H2 M2 (.lst [V.bl (kv n 9), V.bl (kv n 10), V.bl (kv n 11)])) L3 (.lst [V.bl (kv n 0), V.bl (kv n 1), V.bl (kv n 2), V.bl (kv n 3), V.bl (kv n 4), V.bl (kv n 5), V.bl (kv n 6), V.bl (kv n 7), V.bl (kv n 8), V.bl (kv n 9), V.bl (kv n 10), V.bl (kv n 11)]) = H3 at k3 hL3
  rw [show upd (upd H2 M2 (.lst [V.bl (kv n 9), V.bl (kv n 10), V.bl (kv n 11)])) L3 (.lst (_ ++ [V.bl (kv n 9), V.bl (kv n 10), V.bl (kv n 11)])) = H3 from hg3]
  clear hg3 kM2
  refine ⟨.ref L3, rfl, .ref p.1, rfl, fs, cl 12, _, rfl, k3 _ _ hd, EE.kit 12 (by decide), .ref p.1, rfl, fs, cl 13, _, rfl, k3 _ _ hd, EE.kit 13 (by decide), .ref p.1, rfl, fs, cl 14, _, rfl, k3 _ _ hd, EE.kit 14 (by decide), (by show 3 ≤ sizeLine; decide), fun M3 hM3 => ?_⟩
  have kM3 := Same.new (o := .lst [V.bl (kv n 12), V.bl (kv n 13), V.bl (kv n 14)]) hM3
  refine ⟨L3, M3, _, _, rfl, rfl, kM3 _ _ hL3, upd_same, (by show 15 ≤ sizeLine; decide), fun L4 hf4 => ?_⟩
  have k4 := (k3.trans kM3).trans (Same.new (o := .lst [V.bl (kv n 0), V.bl (kv n 1), V.bl (kv n 2), V.bl (kv n 3), V.bl (kv n 4), V.bl (kv n 5), V.bl (kv n 6), V.bl (kv n 7), V.bl (kv n 8), V.bl (kv n 9), V.bl (kv n 10), V.bl (kv n 11), V.bl (kv n 12), V.bl (kv n 13), V.bl (kv n 14)]) hf4)
  have hL4 : (upd (upd H3 M3 (.lst [V.bl (kv n 12), V.bl (kv n 13), V.bl (kv n 14)])) L4 (.lst [V.bl (kv n 0), V.bl (kv n 1), V.bl (kv n 2), V.bl (kv n 3), V.bl (kv n 4), V.bl (kv n 5), V.bl (kv n 6), V.bl (kv n 7), V.bl (kv n 8), V.bl (kv n 9), V.bl (kv n 10), V.bl (kv n 11), V.bl (kv n 12), V.bl (kv n 13), V.bl (kv n 14)])) L4 = some (.lst [V.bl (kv n 0), V.bl (kv n 1), V.bl (kv n 2), V.bl (kv n 3), V.bl (kv n 4), V.bl (kv n 5), V.bl (kv n 6), V.bl (kv n 7), V.bl (kv n 8), V.bl (kv n 9), V.bl (kv n 10), V.bl (kv n 11), V.bl (kv n 12), V.bl (kv n 13), V.bl (kv n 14)]) := upd_same
  show _
  generalize hg4 : upd (upd H3 M3 (.lst [V.bl (kv n 12), V.bl (kv n 13), V.bl (kv n 14)])) L4 (.lst [V.bl (kv n 0), V.bl (kv n 1), V.bl (kv n 2), V.bl (kv n 3), V.bl (kv n 4), V.bl (kv n 5), V.bl (kv n 6), V.bl (kv n 7), V.bl (kv n 8), V.bl (kv n 9), V.bl (kv n 10), V.bl (kv n 11), V.bl (kv n 12), V.bl (kv n 13), V.bl (kv n 14)]) = H4 at k4 hL4
  rw [show upd (upd H3 M3 (.lst [V.bl (kv n 12), V.bl (kv n 13), V.bl (kv n 14)])) L4 (.lst (_ ++ [V.bl (kv n 12), V.bl (kv n 13), V.bl (kv n 14)])) = H4 from hg4]
  clear hg4 kM3
  refine ⟨.ref L4, rfl, .ref p.1, rfl, fs, cl 15, _, rfl, k4 _ _ hd, EE.kit 15 (by decide), .ref p.1, rfl, fs, cl 16, _, rfl, k4 _ _ hd, EE.kit 16 (by decide), .ref p.1, rfl, fs, cl 17, _, rfl, k4 _ _ hd, EE.kit 17 (by decide), (by show 3 ≤ sizeLine; decide), fun M4 hM4 => ?_⟩
  have kM4 := Same.new (o := .lst [V.bl (kv n 15), V.bl (kv n 16), V.bl (kv n 17)]) hM4
  refine ⟨L4, M4, _, _, rfl, rfl, kM4 _ _ hL4, upd_same, (by show 18 ≤ sizeLine; decide), fun L5 hf5 => ?_⟩
  have k5 := (k4.trans kM4).trans (Same.new (o := .lst [V.bl (kv n 0), V.bl (kv n 1), V.bl (kv n 2), V.bl (kv n 3), V.bl (kv n 4), V.bl (kv n 5), V.bl (kv n 6), V.bl (kv n 7), V.bl (kv n 8), V.bl (kv n 9), V.bl (kv n 10), V.bl (kv n 11), V.bl (kv n 12), V.bl (kv n 13), V.bl (kv n 14), V.bl (kv n 15), V.bl (kv n 16), V.bl (kv n 17)]) hf5)
  have hL5 : (upd (upd H4 M4 (.lst [V.bl (kv n 15), V.bl (kv n 16), V.bl (kv n 17)])) L5 (.lst [V.bl (kv n 0), V.bl (kv n 1), V.bl (kv n 2), V.bl (kv n 3), V.bl (kv n 4), V.bl (kv n 5), V.bl (kv n 6), V.bl (kv n 7), V.bl (kv n 8), V.bl (kv n 9), V.bl (kv n 10), V.bl (kv n 11), V.bl (kv n 12), V.bl (kv n 13), V.bl (kv n 14), V.bl (kv n 15), V.bl (kv n 16), V.bl (kv n 17)])) L5 = some (.lst [V.bl (kv n 0), V.bl (kv n 1), V.bl (kv n 2), V.bl (kv n 3), V.bl (kv n 4), V.bl (kv n 5), V.bl (kv n 6), V.bl (kv n 7), V.bl (kv n 8), V.bl (kv n 9), V.bl (kv n 10), V.bl (kv n 11), V.bl (kv n 12), V.bl (kv n 13), V.bl (kv n 14), V.bl (kv n 15), V.bl (kv n 16), V.bl (kv n 17)]) := upd_same
  show _
  generalize hg5 : upd (upd H4 M4 (.lst [V.bl (kv n 15), V.bl (kv n 16), V.bl (kv n 17)])) L5 (.lst [V.bl (kv n 0), V.bl (kv n 1), V.bl (kv n 2), V.bl (kv n 3), V.bl (kv n 4), V.bl (kv n 5), V.bl (kv n 6), V.bl (kv n 7), V.bl (kv n 8), V.bl (kv n 9), V.bl (kv n 10), V.bl (kv n 11), V.bl (kv n 12), V.bl (kv n 13), V.bl (kv n 14), V.bl (kv n 15), V.bl (kv n 16), V.bl (kv n 17)]) = H5 at k5 hL5
  rw [show upd (upd H4 M4 (.lst [V.bl (kv n 15), V.bl (kv n 16), V.bl (kv n 17)])) L5 (.lst (_ ++ [V.bl (kv n 15), V.bl (kv n 16), V.bl (kv n 17)])) = H5 from hg5]
  clear hg5 kM4
  refine ⟨.ref L5, rfl, .ref p.1, rfl, fs, cl 18, _, rfl, k5 _ _ hd, EE.kit 18 (by decide), .ref p.1, rfl, fs, cl 19, _, rfl, k5 _ _ hd, EE.kit 19 (by decide), (by show 2 ≤ sizeLine; decide), fun M5 hM5 => ?_⟩
  have kM5 := Same.new (o := .lst [V.bl (kv n 18), V.bl (kv n 19)]) hM5
  refine ⟨L5, M5, _, _, rfl, rfl, kM5 _ _ hL5, upd_same, (by show 20 ≤ sizeLine; decide), fun L6 hf6 => ?_⟩
  have k6 := (k5.trans kM5).trans (Same.new (o := .lst [V.bl (kv n 0), V.bl (kv n 1), V.bl (kv n 2), V.bl (kv n 3), V.bl (kv n 4), V.bl (kv n 5), V.bl (kv n 6), V.bl (kv n 7), V.bl (kv n 8), V.bl (kv n 9), V.bl (kv n 10), V.bl (kv n 11), V.bl (kv n 12), V.bl (kv n 13), V.bl (kv n 14), V.bl (kv n 15), V.bl (kv n 16), V.bl (kv n 17), V.bl (kv n 18), V.bl (kv n 19)]) hf6)
  have hL6 : (upd (upd H5 M5 (.lst [V.bl (kv n 18), V.bl (kv n 19)])) L6 (.lst [V.bl (kv n 0), V.bl (kv n 1), V.bl (kv n 2), V.bl (kv n 3), V.bl (kv n 4), V.bl (kv n 5), V.bl (kv n 6), V.bl (kv n 7), V.bl (kv n 8), V.bl (kv n 9), V.bl (kv n 10), V.bl (kv n 11), V.bl (kv n 12), V.bl (kv n 13), V.bl (kv n 14), V.bl (kv n 15), V.bl (kv n 16), V.bl (kv n 17), V.bl (kv n 18), V.bl (kv n 19)])) L6 = some (.lst [V.bl (kv n 0), V.bl (kv n 1), V.bl (kv n 2), V.bl (kv n 3), V.bl (kv n 4), V.bl (kv n 5), V.bl (kv n 6), V.bl (kv n 7), V.bl (kv n 8), V.bl (kv n 9), V.bl (kv n 10), V.bl (kv n 11), V.bl (kv n 12), V.bl (kv n 13), V.bl (kv n 14), V.bl (kv n 15), V.bl (kv n 16), V.bl (kv n 17), V.bl (kv n 18), V.bl (kv n 19)]) := upd_same
  show _
  generalize hg6 : upd (upd H5 M5 (.lst [V.bl (kv n 18), V.bl (kv n 19)])) L6 (.lst [V.bl (kv n 0), V.bl (kv n 1), V.bl (kv n 2), V.bl (kv n 3), V.bl (kv n 4), V.bl (kv n 5), V.bl (kv n 6), V.bl (kv n 7), V.bl (kv n 8), V.bl (kv n 9), V.bl (kv n 10), V.bl (kv n 11), V.bl (kv n 12), V.bl (kv n 13), V.bl (kv n 14), V.bl (kv n 15), V.bl (kv n 16), V.bl (kv n 17), V.bl (kv n 18), V.bl (kv n 19)]) = H6 at k6 hL6
  rw [show upd (upd H5 M5 (.lst [V.bl (kv n 18), V.bl (kv n 19)])) L6 (.lst (_ ++ [V.bl (kv n 18), V.bl (kv n 19)])) = H6 from hg6]
  clear hg6 kM5
  refine ⟨(by show 12 ≤ sizeLine; decide), fun M hM => ?_⟩
  have kM := Same.new (o := .lst [V.str "text", V.str "name", V.str "kind", V.str "move", V.str "number", V.str "wish", V.str "index", V.str "yard", V.str "kinds", V.str "rows", V.str "plan", V.str "changes"]) hM
  refine ⟨.ref M, rfl, (by show 8 ≤ sizeLine; decide), fun M2 hM2 => ?_⟩
  have kM2 := Same.new (o := .lst [V.str "unknown", V.str "use", V.str "unbalanced", V.str "there", V.str "other", V.str "great", V.str "nothing", V.str "broken"]) hM2
  refine ⟨M, M2, _, _, rfl, rfl, kM2 _ _ upd_same, upd_same, (by show 20 ≤ sizeLine; decide), fun Wd hW => ?_⟩
  have kW := ((k6.trans kM).trans kM2).trans (Same.new (o := .lst [V.str "text", V.str "name", V.str "kind", V.str "move", V.str "number", V.str "wish", V.str "index", V.str "yard", V.str "kinds", V.str "rows", V.str "plan", V.str "changes", V.str "unknown", V.str "use", V.str "unbalanced", V.str "there", V.str "other", V.str "great", V.str "nothing", V.str "broken"]) hW)
  have hLW : (upd (upd (upd H6 M (.lst [V.str "text", V.str "name", V.str "kind", V.str "move", V.str "number", V.str "wish", V.str "index", V.str "yard", V.str "kinds", V.str "rows", V.str "plan", V.str "changes"])) M2 (.lst [V.str "unknown", V.str "use", V.str "unbalanced", V.str "there", V.str "other", V.str "great", V.str "nothing", V.str "broken"])) Wd (.lst [V.str "text", V.str "name", V.str "kind", V.str "move", V.str "number", V.str "wish", V.str "index", V.str "yard", V.str "kinds", V.str "rows", V.str "plan", V.str "changes", V.str "unknown", V.str "use", V.str "unbalanced", V.str "there", V.str "other", V.str "great", V.str "nothing", V.str "broken"])) L6 = some (.lst ((sorts n).map V.bl)) := Same.new hW _ _ (kM2 _ _ (kM _ _ hL6))
  have hWW : (upd (upd (upd H6 M (.lst [V.str "text", V.str "name", V.str "kind", V.str "move", V.str "number", V.str "wish", V.str "index", V.str "yard", V.str "kinds", V.str "rows", V.str "plan", V.str "changes"])) M2 (.lst [V.str "unknown", V.str "use", V.str "unbalanced", V.str "there", V.str "other", V.str "great", V.str "nothing", V.str "broken"])) Wd (.lst [V.str "text", V.str "name", V.str "kind", V.str "move", V.str "number", V.str "wish", V.str "index", V.str "yard", V.str "kinds", V.str "rows", V.str "plan", V.str "changes", V.str "unknown", V.str "use", V.str "unbalanced", V.str "there", V.str "other", V.str "great", V.str "nothing", V.str "broken"])) Wd = some (.lst (words.map V.str)) := upd_same
  generalize hgw : upd (upd (upd H6 M (.lst [V.str "text", V.str "name", V.str "kind", V.str "move", V.str "number", V.str "wish", V.str "index", V.str "yard", V.str "kinds", V.str "rows", V.str "plan", V.str "changes"])) M2 (.lst [V.str "unknown", V.str "use", V.str "unbalanced", V.str "there", V.str "other", V.str "great", V.str "nothing", V.str "broken"])) Wd (.lst [V.str "text", V.str "name", V.str "kind", V.str "move", V.str "number", V.str "wish", V.str "index", V.str "yard", V.str "kinds", V.str "rows", V.str "plan", V.str "changes", V.str "unknown", V.str "use", V.str "unbalanced", V.str "there", V.str "other", V.str "great", V.str "nothing", V.str "broken"]) = Hw at kW hLW hWW
  rw [show upd (upd (upd H6 M (.lst [V.str "text", V.str "name", V.str "kind", V.str "move", V.str "number", V.str "wish", V.str "index", V.str "yard", V.str "kinds", V.str "rows", V.str "plan", V.str "changes"])) M2 (.lst [V.str "unknown", V.str "use", V.str "unbalanced", V.str "there", V.str "other", V.str "great", V.str "nothing", V.str "broken"])) Wd (.lst (_ ++ [V.str "unknown", V.str "use", V.str "unbalanced", V.str "there", V.str "other", V.str "great", V.str "nothing", V.str "broken"])) = Hw from hgw]
  clear hgw
  refine ⟨fun σ' H' => ∃ L Wd Bs : Addr, σ' = [some (.ref p.1), some (.ref L), some (.ref Wd), some (.ref Bs), none, none, none] ∧ H' L = some (.lst ((sorts n).map V.bl)) ∧ H' Wd = some (.lst (words.map V.str)) ∧ H' Bs = some (.lst ([kv n 20, kv n 21, kv n 22].map V.bl)) ∧ Same H H', ?_, ?_⟩
  · refine ⟨.ref p.1, rfl, fs, cl 20, _, rfl, kW _ _ hd, EE.kit 20 (by decide), .ref p.1, rfl, fs, cl 21, _, rfl, kW _ _ hd, EE.kit 21 (by decide), .ref p.1, rfl, fs, cl 22, _, rfl, kW _ _ hd, EE.kit 22 (by decide), (by show 3 ≤ sizeLine; decide), fun Bs hB => ?_⟩
    have kB := Same.new (o := .lst [V.bl (kv n 20), V.bl (kv n 21), V.bl (kv n 22)]) hB
    exact ⟨L6, Wd, Bs, rfl, kB _ _ hLW, kB _ _ hWW, upd_same, kW.trans kB⟩
  clear kW hLW hWW hW hM hM2 kM kM2
  rintro σ' Hb ⟨L, Wd, Bs, rfl, hLB, hWB, hBB, kAll⟩
  obtain ⟨s1, s2, s3, s4, s5⟩ := sorts_ok n hn
  refine ⟨.ref L, rfl, .inl ⟨rfl, _, SqL.of hLB⟩, L, sorts n, true, rfl, rfl, SqL.of hLB, ?_⟩
  rw [s1]
  refine ⟨rfl, _, rfl, ?_⟩
  refine ite2 (fun h => absurd h (by decide)) (fun _ => ?_)
  refine ⟨.ref L, rfl, .inl ⟨rfl, _, SqL.of hLB⟩, L, .bl true, .bool true, (sorts n).map PyData.bool, n, .bool true, rfl, rfl, .lst (SqL.of hLB) (Z.dpB _), .bl true, shB _ (by show 20 < 1000; decide), rfl, by rw [List.getElem?_map, s2]; rfl, by decide, fun m z hm hz => ?_, ?_⟩
  · rw [List.getElem?_map, s3 m hm] at hz
    cases hz
    decide
  refine ⟨fun σ' H' => σ' = [some (.ref p.1), some (.ref L), some (.ref Wd), some (.ref Bs), some (.int (n : Nat)), some (.int ((bas n : Nat) : Int)), none] ∧ H' = Hb, ?_, ?_⟩
  · have leaf : ∀ c : Int, c = (bas n : Nat) → ([some (.ref p.1), some (.ref L), some (.ref Wd), some (.ref Bs), some (.int (n : Nat)), none, none].set 5 (some (V.int c)) : St) = [some (.ref p.1), some (.ref L), some (.ref Wd), some (.ref Bs), some (.int (n : Nat)), some (.int ((bas n : Nat) : Int)), none] ∧ Hb = Hb := fun c e => by
      rw [e]
      exact ⟨rfl, rfl⟩
    refine ⟨.int (n : Nat), rfl, _, _, rfl, rfl, _, rfl, ?_⟩
    refine ite2 (fun h => ?_) (fun h => ?_)
    · refine leaf 0 ?_
      unfold bas
      rw [if_pos (by have := of_decide_eq_true h; omega)]
      rfl
    refine ⟨.int (n : Nat), rfl, _, _, rfl, rfl, _, rfl, ?_⟩
    refine ite2 (fun h2 => ?_) (fun h2 => ?_)
    · refine leaf 1 ?_
      unfold bas
      rw [if_neg (by intro z; exact h (decide_eq_true (by omega))), if_pos (by have := of_decide_eq_true h2; omega)]
      rfl
    · refine leaf 2 ?_
      unfold bas
      rw [if_neg (by intro z; exact h (decide_eq_true (by omega))), if_neg (by intro z; exact h2 (decide_eq_true (by omega)))]
      rfl
  rintro σ' H5 ⟨rfl, hH5⟩
  rw [hH5]
  clear hH5
  have hb3 : bas n = 0 ∨ bas n = 1 ∨ bas n = 2 := by
    unfold bas
    split
    · exact .inl rfl
    · split
      · exact .inr (.inl rfl)
      · exact .inr (.inr rfl)
  have hj3 : ∀ j : Nat, j < 3 → ([decide (0 = bas n), decide (1 = bas n), decide (2 = bas n)].take (j + 1)).map V.bl = ([decide (0 = bas n), decide (1 = bas n), decide (2 = bas n)].take j).map V.bl ++ [V.bl (decide (V.int (0 + (j : Int)) = V.int ((bas n : Nat) : Int)))] := fun j hj => by
    rcases hb3 with e | e | e <;> rw [e] <;> (match j, hj with | 0, _ => simp | 1, _ => simp | 2, _ => simp)
  rw [s5] at hBB
  generalize hbs : [decide (0 = bas n), decide (1 = bas n), decide (2 = bas n)] = bs at hj3 hBB
  have hl3 : bs.length = 3 := by rw [← hbs]; rfl
  refine ⟨.ref Bs, rfl, 3, rfl, by decide, by decide, fun Dl hD => ?_⟩
  refine lc_range (lo := 0) (n := 3) (fun j H' => H' Dl = some (.lst ((bs.take j).map V.bl)) ∧ Same Hb H') ⟨upd_same, Same.new hD⟩ ?_ ?_
  · rintro j H' hj ⟨hD', kk⟩
    refine ⟨rfl, ?_⟩
    refine ⟨.int (0 + (j : Int)), rfl, ?_⟩
    refine ⟨_, rfl, ?_⟩
    refine ⟨rfl, ?_⟩
    refine ⟨_, hD', ?_⟩
    refine ⟨?_, ?_, fun b o e2 => ?_⟩
    · rw [List.length_map]
      exact Nat.lt_of_le_of_lt (List.length_take_le _ _) (Nat.lt_of_lt_of_le (show j < 4 by omega) (show (4 : Nat) ≤ sizeLine by decide))
    · rw [upd_same, hj3 j hj]
    · rw [upd_ne (ne_of_none e2 hD)]
      exact kk b o e2
  · rintro H' ⟨hD', kk⟩
    rw [List.take_of_length_le (by omega)] at hD'
    have kkB := kk _ _ hBB
    have hsh := shB bs (by omega)
    refine ⟨.list (bs.map PyData.bool), .list (bs.map PyData.bool), ?_⟩
    refine ⟨.lst (SqL.of kkB) (Z.dpB bs), ?_⟩
    refine ⟨.lst (SqL.of hD') (Z.dpB bs), ?_⟩
    refine ⟨hsh, hsh, ?_⟩
    refine ⟨_, rfl, ?_⟩
    rw [PyData.eqv, eqvB, decide_eq_true rfl]
    refine iteT ?_
    exact ⟨.ref Wd, rfl, .int (n : Nat), rfl, Wd, _, _, .str (word n), rfl, rfl, SqL.of (kk _ _ hWB), (by exact atI_nat (by rw [List.getElem?_map, s4]; rfl)), hk H' (kAll.trans kk)⟩
end
end Y

set_option Elab.async false
set_option linter.all false
set_option maxRecDepth 100000
set_option maxHeartbeats 4000000
namespace Y
open PySem L2
open PyProof.Rows (envOfC)
open SX (S)
open C8 (Cal pe_c pe_gc)
theorem pe_no {X : Cx} {e : Expr} : PE X e (fun _ _ _ => False) := ⟨fun _ _ _ _ _ _ h => h.elim⟩
theorem pe_weak {X : Cx} {e : Expr} {t : TE} (h : PE X e t) : PE X e (fun σ H Q => ∃ Q0 : VK, (∀ v H', Q0 v H' → Q v H') ∧ t σ H Q0) :=
  ⟨fun pins s σ H Q I ⟨Q0, hQ, q⟩ => thn (h.run pins s σ H Q0 I q) fun u s' ⟨v, H', I', r, z⟩ => ⟨v, H', I', r, hQ v H' z⟩⟩
/-- e.f of what is being handled, its class by the reading -/
def tXfA (K : PySem.W.Frag) (a : Addr) (cls : Value) (d : Option Addr) (f : Str) (te : TE) : TE := fun σ H Q => ∃ C, XfC K C ∧ PySem.W.findIn K (.ref C) f = some none ∧ tXf a cls d C f te σ H Q
theorem pe_xfA {X : Cx} {a : Addr} {oe : Obj} {cls : Value} {d : Option Addr} {pn : List (Addr × Obj)} {e : Expr} {te : TE} {pos : Pos} {n : Str} (hz : Zc cls d oe) (hf : ∃ vs, oe.data = .fields vs) (he : PE (X.suite a ((a, oe) :: pn)) e te) (hb : attributeBase e n X.env (eval e X.env) = eval e X.env := by rfl) :
    PE (X.suite a ((a, oe) :: pn)) (.Attribute e n pos) (tXfA X.K a cls d n te) :=
  ⟨fun pins s σ H Q I ⟨_, T, hno, h⟩ => (pe_xf (pos := pos) T hno hz hf he hb).run pins s σ H Q I h⟩
/-- a call with what is being handled, whichever record it has -/
def tCe (a : Addr) (cls : Value) (d : Option Addr) (sp : Addr × Obj → Sp) (t : TA) : TE := fun σ H Q => t σ H fun vs H1 => ∀ oe, Zc cls d oe → (∃ us, oe.data = .fields us) → sp (a, oe) vs H1 Q C8.E0
theorem pe_cEs {X : Cx} {k j : Nat} {x : Str} {sp : Addr × Obj → Sp} {pp pos : Pos} {e : Expr} {es : List Expr} {t : TA} {a : Addr} {oe : Obj} {cls : Value} {d : Option Addr} {pn : List (Addr × Obj)} (hz : L2N.Zn cls d oe) (hf : ∃ vs, oe.data = .fields vs)
    (c : Z.CalE X.prog X.w X.K X.mg X.base k x sp) (hr : L2H.RoomH j (X.A.mark (some (.ref a)))) (hk : k ≤ j) (hG : X.A.guards = some []) (hg : Gl X x) (ha : PA (X.suite a ((a, oe) :: pn)) (e :: es) t)
    (hdb : (x == ("__debug__" : Str)) = false := by decide) (he : starEach (e :: es) X.env = (false, eval e X.env) :: starEach es X.env := by rfl) (hpl : (backTo pos (starEach es X.env)).any (·.1) = false := by rfl) :
    PE (X.suite a ((a, oe) :: pn)) (.Call (.Name x pp) (e :: es) [] pos) (tCe a cls d sp t) := by
  exact Z.pe_cER (X := X.suite a ((a, oe) :: pn)) (p := (a, oe)) (R := fun vs H1 Q => ∀ oe, Zc cls d oe → (∃ us, oe.data = .fields us) → sp (a, oe) vs H1 Q C8.E0) (fun vs H Q q => q oe hz.zc hf) c ⟨rfl, hf.imp fun vs hv => ⟨hv, hz.2.2 vs hv⟩⟩ List.mem_cons_self hr hk hG hg ha hdb he hpl
def tyNames : List String := ["NoneType", "bool", "int", "str", "list", "tuple", "dict"]
theorem ty_lst {K : PySem.W.Frag} {H : Hp} {a : Addr} {xs : List V} (h : SqL K H a xs) : TyX K H (.ref a) (.type "list") := by
  rcases h with (h | ⟨o, h⟩) | ⟨o, its, n, h, c, _⟩
  · exact .base (.lst h)
  · exact .base (.frz h)
  · exact .kList h c
theorem ty_dp {K : PySem.W.Frag} {H : Hp} {v : V} {d : PyData} (h : Dp K H v d) : ∃ s, s ∈ tyNames ∧ TyX K H v (.type s) := by
  cases h with
  | non => exact ⟨"NoneType", by decide, .base .non⟩
  | bl b => exact ⟨"bool", by decide, .base (.bl b)⟩
  | int i => exact ⟨"int", by decide, .base (.int i)⟩
  | str x => exact ⟨"str", by decide, .base (.str x)⟩
  | lst h _ => exact ⟨"list", by decide, ty_lst h⟩
  | tup h _ => exact ⟨"tuple", by decide, ty_tup h⟩
def chkNo (K : PySem.W.Frag) (C : Addr) : Bool := tyNames.all fun s => PySem.W.kitOne K (.type s) (.ref C) == some false
theorem no_of {K : PySem.W.Frag} {C : Addr} (h : chkNo K C = true) {s : String} (hs : s ∈ tyNames) : PySem.W.kitOne K (.type s) (.ref C) = some false := beq_iff_eq.mp (List.all_eq_true.mp h s hs)
structure YNo (K : PySem.W.Frag) (C : Addr) : Prop where
  no : chkNo K C = true
/-- what can be shown, and how -/
def ShowS (K : PySem.W.Frag) (H : Hp) (v : V) (z : Str) : Prop :=
  (∃ d, Dp K H v d ∧ d.showable = true ∧ d.shown.length ≤ sizeLine ∧ d.depth ≤ 10 ∧ z = d.shown) ∨
    ∃ a kvs ds, v = .ref a ∧ H a = some (.dK kvs) ∧ kvsD flatD kvs = some ds ∧ (PyData.dict ds).showable = true ∧ (PyData.dict ds).shown.length ≤ sizeLine ∧ (PyData.dict ds).depth ≤ 10 ∧ z = (PyData.dict ds).shown
theorem ShowS.of {K : PySem.W.Frag} {H : Hp} {v : V} {d : PyData} (h : Dp K H v d) (f : d.showable = true ∧ d.shown.length ≤ sizeLine ∧ d.depth ≤ 10) : ShowS K H v d.shown := .inl ⟨d, h, f.1, f.2.1, f.2.2, rfl⟩
theorem ShowS.ty {K : PySem.W.Frag} {H : Hp} {v : V} {z : Str} (h : ShowS K H v z) : ∃ s, s ∈ tyNames ∧ TyX K H v (.type s) := by
  rcases h with ⟨d, h, _⟩ | ⟨a, kvs, ds, rfl, h, _⟩
  · exact ty_dp h
  · exact ⟨"dict", by decide, .base (.dK h)⟩
def rShow (K : PySem.W.Frag) : List V → Hp → VK → Prop := fun xs H Q => ∃ (v : V) (z : Str), xs = [v] ∧ ShowS K H v z ∧ Q (.str z) H
theorem call_show {X : Cx} (hu : X.A.units + 64 < cLine) (hG : X.A.guards = some []) : CallR X (.builtin "repr") (rShow X.K) := by
  intro pins s σ H xs us Q I r h
  obtain ⟨v, z, rfl, hs, q⟩ := h
  rcases hs with ⟨d, h1, h2, h3, h4, rfl⟩ | ⟨a, kvs, ds, rfl, h1, h2, h3, h4, h5, rfl⟩
  · exact call_reprU hu hG pins s σ H [v] us Q I r ⟨v, d, rfl, h1, h2, h3, h4, q⟩
  · exact call_reprKU hu hG pins s σ H _ us Q I r ⟨a, kvs, ds, rfl, h1, h2, h3, h4, h5, q⟩
theorem dp_seqL {K : PySem.W.Frag} {H H' : Hp} {a : Addr} {xs : List V} (k : Same H H') (h : SqL K H a xs) : SqL K H' a xs := Same.seq k h
mutual
theorem dp_same {K : PySem.W.Frag} {H H' : Hp} (k : Same H H') : ∀ (d : PyData) (v : V), Dp K H v d → Dp K H' v d
  | .none, _, h => by cases h; exact .non
  | .bool _, _, h => by cases h; exact .bl _
  | .int _, _, h => by cases h; exact .int _
  | .str _, _, h => by cases h; exact .str _
  | .list ds, _, h => by
    cases h with
    | lst h1 h2 => exact .lst (dp_seqL k h1) (dp_sames k ds _ h2)
  | .tuple ds, _, h => by
    cases h with
    | tup h1 h2 => exact .tup (Same.tup k h1) (dp_sames k ds _ h2)
  | .dict _, _, h => by cases h
theorem dp_sames {K : PySem.W.Frag} {H H' : Hp} (k : Same H H') : ∀ (ds : List PyData) (vs : List V), DpAll K H vs ds → DpAll K H' vs ds
  | [], _, h => by cases h; exact .nil
  | d :: ds, _, h => by
    cases h with
    | cons h1 h2 => exact .cons (dp_same k d _ h1) (dp_sames k ds _ h2)
end
theorem ShowS.same {K : PySem.W.Frag} {H H' : Hp} {v : V} {z : Str} (h : ShowS K H v z) (k : Same H H') : ShowS K H' v z := by
  rcases h with ⟨d, h1, h2⟩ | ⟨a, kvs, ds, e, h1, h2⟩
  · exact .inl ⟨d, dp_same k d v h1, h2⟩
  · exact .inr ⟨a, kvs, ds, e, k _ _ h1, h2⟩
section
variable {P : Program} {w : World} {K : PySem.W.Frag} {mg : Str → Option Value} {base : Heap} {C : Addr} {cl : Nat → Addr}
abbrev s_shown : Stmt := top 76
theorem sc_shown : FnScope ["_law_thing"] ["_law_thing"] (defScope s_shown) := ⟨rfl, rfl, rfl, by decide +kernel, rfl, by decide +kernel, by decide +kernel⟩
def spShown (K : PySem.W.Frag) (C : Addr) : Sp := fun vs H Q _ => (∃ (y : Addr) (zs : List (List Nat)) (g : Gr), vs = [.ref y] ∧ YardS K C H y zs g ∧ ∀ l H', H' l = some (.lst [.str "yard", vS (sheetL zs g)]) → H l = none → Same H H' → Q (.ref l) H') ∨
  ∃ (v : V) (z : Str), vs = [v] ∧ ShowS K H v z ∧ Q (.str z) H
theorem ok_shown {fs fl fr fe : Addr} (D : DfT K mg "_law_shown" s_shown ["_law_thing"]) (T : Tx K mg) (Y : YT K mg C) (Y2 : YOwn K C fs fl fr) (Yi : YIs K C fe) (Yn : YNo K C) (h_str : MfC P w K mg base 3 fs ["self"] (spStr K C)) : CalG P w K mg base 6 "_law_shown" (spShown K C) := by
  have nd := sc_shown.nd
  refine calG (k := 5) D sc_shown (fun vs H Q E h => by rcases h with ⟨y, zs, g, rfl, _⟩ | ⟨v, d, rfl, _⟩ <;> rfl) fun f cdv A outer s H vs Q E hr hG h => ?_
  let sc : Scope := defScope s_shown
  refine ⟨_, (pss_one (ps_ret (pe_ifExp (pt_val (pe_callB (r := rIsi K) call_isi (by rfl) T.n_isinstance (by decide +kernel) (pa_cons (pv 0) (pa_cons (pe_glob (by rfl) Y.mgC (v := .ref _) rfl) pa_nil)))) (pe_lst (pa_cons pe_str (pa_cons (pe_callTy (call_strO (k := 3) (hr.mono (by decide)) Y2.sStr Y2.fStr h_str.raw) (by rfl) T.n_str (by decide +kernel) (pa_cons (pv 0) pa_nil)) pa_nil))) (pe_callB (r := rShow K) (call_show hr.units hG) (by rfl) T.n_repr (by decide +kernel) (pa_cons (pv 0) pa_nil))))), ?_⟩
  rcases h with ⟨y, zs, g, rfl, hy, hk⟩ | ⟨v, d, rfl, hd, hk⟩
  · obtain ⟨dx, tz, tg, h1, h2, h3⟩ := hy.ex
    refine ⟨.ref y, rfl, .ref y, .ref C, .ref C, .ref C, true, rfl, .own C, isY Y Yi h1, kit_self, true, rfl, ?_⟩
    refine iteT ?_
    refine ⟨.ref y, rfl, y, dx, _, rfl, h1, y, zs, g, rfl, hy, fun H1 k1 => ⟨_, rfl, ?_⟩⟩
    refine ⟨(by show 2 ≤ sizeLine; decide), fun l hl => ?_⟩
    exact hk l _ upd_same (same_none k1 hl) (k1.trans (Same.new hl))
  · obtain ⟨s, hs, ht⟩ := hd.ty
    refine ⟨v, rfl, v, .ref C, .type s, .ref C, false, rfl, .own C, ht, no_of Yn.no hs, false, rfl, ?_⟩
    refine iteF ?_
    exact ⟨v, rfl, v, d, rfl, hd, hk⟩
def spShownH (K : PySem.W.Frag) : Addr × Obj → Sp := fun _ vs H Q _ => ∃ (v : V) (z : Str), vs = [v] ∧ ShowS K H v z ∧ Q (.str z) H
theorem ok_shownH (D : DfT K mg "_law_shown" s_shown ["_law_thing"]) (T : Tx K mg) (Y : YT K mg C) (Yn : YNo K C) : Z.CalE P w K mg base 1 "_law_shown" (spShownH K) := by
  have nd := sc_shown.nd
  refine Z.calE (k := 0) D sc_shown (fun p vs H Q E h => by obtain ⟨v, d, rfl, _⟩ := h; rfl) fun f cdv A outer s H vs Q E p hot hr hG h => ?_
  let sc : Scope := defScope s_shown
  refine ⟨_, (pss_one (ps_ret (pe_ifExp (pt_val (pe_callB (r := rIsi K) call_isi (by rfl) T.n_isinstance (by decide +kernel) (pa_cons (pv 0) (pa_cons (pe_glob (by rfl) Y.mgC (v := .ref _) rfl) pa_nil)))) pe_no (pe_callB (r := rShow K) (call_show (hu64 hr) hG) (by rfl) T.n_repr (by decide +kernel) (pa_cons (pv 0) pa_nil))))), ?_⟩
  obtain ⟨v, d, rfl, hd, hk⟩ := h
  obtain ⟨s, hs, ht⟩ := hd.ty
  refine ⟨v, rfl, v, .ref C, .type s, .ref C, false, rfl, .own C, ht, no_of Yn.no hs, false, rfl, ?_⟩
  refine iteF ?_
  exact ⟨v, rfl, v, d, rfl, hd, hk⟩
/-! ### a call's end -/
def isIx (n : Nat) : Bool := n == 8 || n == 9 || n == 10 || n == 11 || n == 13 || n == 19
def fieldOf (n : Nat) : Str := if isIx n = true then "index" else "given"
/-- what is told of a call: tl, the call's reading -/
def TTend (K : PySem.W.Frag) (C : Addr) (cl : Nat → Addr) : (XK → Hp → VK → Prop) → Hp → VK → Prop := fun tl H Q =>
  tl (fun cls d H' => ∃ (n : Nat) (dd : Addr) (v : V) (z : Str), cls = .ref (cl n) ∧ d = some dd ∧ n < 20 ∧ n ≠ 18 ∧ EK K cl n ∧ H' dd = some (.xd [(fieldOf n, v)]) ∧ ShowS K H' v z ∧
      ∀ l H'', H' l = none → Same H' H'' → H'' l = some (.lst [.str (word n), .str z]) → Q (.ref l) H'') H
    fun v H' => (∃ (y : Addr) (zs : List (List Nat)) (g : Gr), v = .ref y ∧ YardS K C H' y zs g ∧ ∀ l l2 H'', H' l = none → H' l2 = none → l2 ≠ l → Same H' H'' → H'' l2 = some (.lst [.str "yard", vS (sheetL zs g)]) → H'' l = some (.lst [.str "back", .ref l2]) → Q (.ref l) H'') ∨
      ∃ (z : Str), ShowS K H' v z ∧ ∀ l H'', H' l = none → Same H' H'' → H'' l = some (.lst [.str "back", .str z]) → Q (.ref l) H''
abbrev s_end : Stmt := top 78
theorem sc_end : FnScope ["_law_act", "_law_back", "_law_word", "_law_e"] ["_law_act"] (defScope s_end) := ⟨rfl, rfl, rfl, by decide +kernel, rfl, by decide +kernel, by decide +kernel⟩
def ixWords : List V := [.str "kinds", .str "rows", .str "plan", .str "changes", .str "use", .str "broken"]
def noWords : List V := [.str "nothing", .str "another error", .str "another base"]
theorem in_ix : ∀ n, n < 20 → inV (.str (word n)) ixWords = isIx n ∧ (n ≠ 18 → inV (.str (word n)) noWords = false) := by
  have h : ∀ n : Fin 20, inV (.str (word n)) ixWords = isIx n ∧ ((n : Nat) ≠ 18 → inV (.str (word n)) noWords = false) := by decide +kernel
  exact fun n hn => h ⟨n, hn⟩
theorem end_gives {X : Cx} {k : Nat} {g : Addr} {cdg : Value} {q : Str} (hmg : X.mg = mg) (hK : X.K = K) (T : Tx K mg) (G : Eg mg cl) (hG : X.A.guards = some []) (hk5 : 6 ≤ k)
    (h_class : Z.CalE X.prog X.w X.K X.mg X.base 1 "_law_class" (spClass K cl)) (h_shown : CalG X.prog X.w X.K X.mg X.base 6 "_law_shown" (spShown K C)) (h_shownH : Z.CalE X.prog X.w X.K X.mg X.base 1 "_law_shown" (spShownH K)) :
    Z.GivesN X k ["_law_act", "_law_back", "_law_word", "_law_e"] "_law_end" (defScope s_end) g cdg (defBody s_end) "_law_act" q (TTend K C cl) := by
  intro f c' s H Q tl hr act hc h
  subst hmg hK
  have nd := sc_end.nd
  let sc : Scope := defScope s_end
  have hrm : ∀ a : Addr, L2H.RoomH k ((X.A.deeper (envOfC "_law_end" (defScope s_end) s.heap.objs.size g cdg)).mark (some (.ref a))) := fun a => ⟨hr.dp, hr.un⟩
  refine ⟨_, pss_cons (Z.try_as3 (X := (cxOf C8.CX0 X.prog X.w X.K X.mg X.base ["_law_act", "_law_back", "_law_word", "_law_e"] "_law_end" (defScope s_end) g cdg X.A X.stack s H C8.E0).nox) (c1 := .ref (cl 20)) (c2 := .ref (cl 21)) (c3 := .ref (cl 22)) (i := 3)
      (tb := fun W D σ H => ∃ Q0 : VK, (∀ v H', Q0 v H' → D.nx (σ.set 1 (some v)) H') ∧ ∃ Ech : XK, (∀ cls d H', Ech cls d H' → W cls d σ H') ∧ σ[0]? = some (some (.ref f)) ∧ H c' = some (LamX.CodeO c' q) ∧ tl Ech H Q0)
      rfl rfl nd rfl rfl ⟨rfl, by decide, .inl G.g_WrongValue⟩ ⟨rfl, by decide, .inl G.g_WrongName⟩ ⟨rfl, by decide, .inl G.g_NotPossible⟩
      (fun W pn xe tk _ => pss_one (ps_set (i := 1) nd rfl (Or.inl rfl) (pe_weak (act W pn xe _ _ tk))))
      (fun a oe cls d pn hz hf => pss_cons (ps_set (i := 2) nd rfl (Or.inl rfl) (pe_cEs (X := (cxOf C8.CX0 X.prog X.w X.K X.mg X.base ["_law_act", "_law_back", "_law_word", "_law_e"] "_law_end" (defScope s_end) g cdg X.A X.stack s H C8.E0).nox) hz hf h_class (hrm a) (Nat.le_trans (by decide) hk5) hG (by rfl) (pa_cons (pv 3) pa_nil)))
        (pss_cons (ps_if (pt_cmpR (r := rIn X.K false) op_in_seq (pv 2) (pe_lst (pa_cons pe_str (pa_cons pe_str (pa_cons pe_str (pa_cons pe_str (pa_cons pe_str (pa_cons pe_str pa_nil))))))) (by rfl))
            (pss_one (ps_ret (pe_lst (pa_cons (pv 2) (pa_cons (pe_callB (r := rShow X.K) (call_show (X := (cxOf C8.CX0 X.prog X.w X.K X.mg X.base ["_law_act", "_law_back", "_law_word", "_law_e"] "_law_end" (defScope s_end) g cdg X.A X.stack s H C8.E0).nox.suite a ((a, oe) :: pn)) (hu64 (hrm a)) hG) (by rfl) T.n_repr (by decide +kernel) (pa_cons (pe_xfA hz.zc hf (pv 3)) pa_nil)) pa_nil))))) pss_nil)
          (pss_one (ps_ret (pe_lst (pa_cons (pv 2) (pa_cons (pe_ifExp (pt_cmpR (r := rIn X.K false) op_in_seq (pv 2) (pe_lst (pa_cons pe_str (pa_cons pe_str (pa_cons pe_str pa_nil)))) (by rfl)) pe_str
            (pe_cEs (X := (cxOf C8.CX0 X.prog X.w X.K X.mg X.base ["_law_act", "_law_back", "_law_word", "_law_e"] "_law_end" (defScope s_end) g cdg X.A X.stack s H C8.E0).nox) hz hf h_shownH (hrm a) (Nat.le_trans (by decide) hk5) hG (by rfl) (pa_cons (pe_xfA hz.zc hf (pv 3)) pa_nil))) pa_nil))))))))
    (pss_one (ps_ret (pe_lst (pa_cons pe_str (pa_cons (pe_cG h_shown hr hk5 hG (by rfl) (pa_cons (pv 1) pa_nil)) pa_nil))))), ?_⟩
  refine ⟨_, ?_, _, ?_, rfl, hc, h⟩
  · rintro v H' (⟨y, zs, g, rfl, hy, q⟩ | ⟨d, hd, q⟩)
    · refine ⟨.ref y, rfl, .inl ⟨y, zs, g, rfl, hy, fun l2 H1 e1 n1 k1 => ?_⟩⟩
      refine ⟨(by show 2 ≤ sizeLine; decide), fun l hl => ?_⟩
      have hne : l2 ≠ l := ne_of_none e1 hl
      exact q l l2 _ (same_none k1 hl) n1 hne (k1.trans (Same.new hl)) (Same.new hl _ _ e1) upd_same
    · refine ⟨v, rfl, .inr ⟨v, d, rfl, hd, ?_⟩⟩
      exact ⟨(by show 2 ≤ sizeLine; decide), fun l hl => q l _ hl (Same.new hl) upd_same⟩
  · rintro cls d H' ⟨n, dd, v, dv, rfl, rfl, hn, hn18, EE, hdd, hv, q⟩
    refine ⟨EE.any, fun a ha => ?_⟩
    refine ⟨.ref a, rfl, fun oe hz hf => ⟨n, dd, _, rfl, hn, EE, hz, hf, hdd, fun H1 k1 => ?_⟩⟩
    refine ⟨.str (word n), rfl, (by show 6 ≤ sizeLine; decide), fun l1 h1 => ?_⟩
    have k2 := k1.trans (Same.new (o := .lst ixWords) h1)
    refine ⟨l1, ixWords, rfl, .inl (SqL.of upd_same), rfl, rfl, _, rfl, ?_⟩
    rw [(in_ix n hn).1]
    by_cases hi : isIx n = true
    · rw [hi]
      refine iteT ?_
      have hfl : fieldOf n = "index" := if_pos hi
      rw [hfl] at hdd
      refine ⟨.str (word n), rfl, cl n, EE.xf, (EE.fi "index" (by decide)).1, .ref a, rfl, rfl, rfl, dd, _, v, rfl, k2 _ _ hdd, rfl, ?_⟩
      have hv2 := hv.same k2
      refine ⟨v, dv, rfl, hv2, (by show 2 ≤ sizeLine; decide), fun l hl => ?_⟩
      exact q l _ (same_none k2 hl) (k2.trans (Same.new hl)) upd_same
    · rw [Bool.eq_false_iff.mpr hi]
      refine iteF ?_
      have hfl : fieldOf n = "given" := if_neg hi
      rw [hfl] at hdd
      refine ⟨.str (word n), rfl, .str (word n), rfl, (by show 3 ≤ sizeLine; decide), fun l2 h2 => ?_⟩
      have k3 := k2.trans (Same.new (o := .lst noWords) h2)
      refine ⟨l2, noWords, rfl, .inl (SqL.of upd_same), rfl, rfl, _, rfl, ?_⟩
      rw [(in_ix n hn).2 hn18]
      refine iteF ?_
      refine ⟨cl n, EE.xf, (EE.fi "given" (by decide)).1, .ref a, rfl, rfl, rfl, dd, _, v, rfl, k3 _ _ hdd, rfl, fun oe hz hf => ⟨v, dv, rfl, hv.same k3, ?_⟩⟩
      refine ⟨(by show 2 ≤ sizeLine; decide), fun l hl => ?_⟩
      exact q l _ (same_none k3 hl) (k3.trans (Same.new hl)) upd_same
end
end Y

set_option Elab.async false
set_option linter.all false
set_option maxRecDepth 100000
set_option maxHeartbeats 4000000
namespace Y
open PySem L2
open PyProof.Rows (envOfC)
open SX (S)
open C8 (Cal pe_c pe_gc)
/-! ### the checks, over any values -/
/-- an element of a tuple that may be kinds -/
def ElV (K : PySem.W.Frag) (H : Hp) (v : V) : Prop := (∃ z, v = vS z ∧ z.length ≤ 1000) ∨ NoStr K H v
theorem ElV.same {K : PySem.W.Frag} {H H' : Hp} {v : V} (k : Same H H') (h : ElV K H v) : ElV K H' v := by
  rcases h with h | ⟨h1, s, h2, h3⟩
  · exact .inl h
  · exact .inr ⟨h1, s, h2, TyX.same k h3⟩
/-- the element at i is wrong, if those ahead are right -/
def badAt (xs : List V) (i : Nat) : Bool := decide (4 ≤ i) || (!nameV (xs.getD i .non) || inV (xs.getD i .non) (xs.take i))
theorem nameV_is {v : V} (h : nameV v = true) : ∃ z, v = vS z ∧ IsName z := by
  cases v with
  | str x => exact ⟨x.cps.toList, congrArg V.str (SX.S_tl x).symm, h⟩
  | _ => cases h
/-- an error of that class, with its index -/
def ErrI (cK : Addr) (E : XK) (w : V) (H : Hp) : Prop := ∀ d, H d = none → E (.ref cK) (some d) (upd H d (.xd [("index", w)]))
section
variable {P : Program} {w : World} {K : PySem.W.Frag} {mg : Str → Option Value} {base : Heap} {c8 : Addr}
def spCKN (K : PySem.W.Frag) (c8 : Addr) : Sp := fun vs H Q E => ∃ v, vs = [v] ∧ ((NoTup K H v ∧ ErrI c8 E .non H) ∨ ∃ (t : Addr) (xs : List V), v = .ref t ∧ SqT K H t xs ∧ xs.length ≤ 1000 ∧ (∀ x ∈ xs, ElV K H x) ∧ (xs.length < 2 → ErrI c8 E .non H) ∧
  (2 ≤ xs.length → (∀ i, i < xs.length → (∀ j, j < i → badAt xs j = false) → badAt xs i = true → ∀ H', Same H H' → ErrI c8 E (vN i) H') ∧ ((∀ i, i < xs.length → badAt xs i = false) → ∀ H', Same H H' → Q .non H')))
theorem ok_check_kindsN (D : DfT K mg "check_kinds" s_check_kinds ["kinds"]) (T : Tx K mg) (x_InvalidKinds : Z.XN P w K mg base "InvalidKinds" c8 "index") (his_name : Cal P w K mg base 1 "is_name" (spName K) []) : Z.CalN P w K mg base 3 "check_kinds" (spCKN K c8) := by
  have nd := sc_check_kinds.nd
  refine Z.calN (k := 2) D sc_check_kinds (fun vs H Q E h => by obtain ⟨v, rfl, _⟩ := h; rfl) fun f cdv A outer s H vs Q E hr h => ?_
  let sc : Scope := defScope s_check_kinds
  have tk : L2N.Takes (cxOf (L2N.CX P w) P w K mg base ["kinds", "at", "kind"] "check_kinds" (defScope s_check_kinds) f cdv A outer s H E) (fun cls d _ H' => E cls d H') := L2N.takes_of (E₁ := fun e s' => L2N.CX P w outer H s E e s') rfl rfl rfl rfl
  refine ⟨_, (pss_cons (ps_if (PW.pt (pw_or (pt_not (pt_val (pe_callB (r := rIsi K) call_isi (by rfl) T.n_isinstance (by decide +kernel) (pa_cons (pv 0) (pa_cons (pe_bltn (v := .ty "tuple") (by rfl) T.n_tuple (by decide +kernel) rfl) pa_nil))))) (pw_or1 (pt_cmpR op_lt (pe_callB (r := rLenQ K) call_len_seq (by rfl) T.n_len (by decide +kernel) (pa_cons (pv 0) pa_nil)) pe_int (nomark _))))) (pss_one (L2N.ps_raise rfl tk (Z.pmkX x_InvalidKinds (hr.mono (by decide)) (pa_cons pe_non pa_nil)))) pss_nil)
    (pss_one (ps_for (passes_of rfl) rfl (pi_enumT (by rfl) T.n_enumerate (pa_cons (pv 0) pa_nil)) (pg_tup (by rfl) (pgs_cons (pg_name (i := 1) nd rfl (by first | exact Or.inl rfl | exact Or.inr rfl)) (pgs_cons (pg_name (i := 2) nd rfl (by first | exact Or.inl rfl | exact Or.inr rfl)) pgs_nil))) (pss_one (ps_if (PW.pt (pw_or (pt_cmpR op_ge (pv 1) (pe_gc (by rfl) T.g_MOST_KINDS) (nomark _)) (pw_or (pt_not (pt_val (pe_c his_name hr (by decide) (by rfl) (pa_cons (pv 2) pa_nil)))) (pw_or1 (pt_cmpR (r := rIn K false) op_in_seq (pv 2) (pe_slice (r := rSlT K) sl_tup (pv 0) po_none (po_some (pv 1))) (by rfl)))))) (pss_one (L2N.ps_raise rfl tk (Z.pmkX x_InvalidKinds (hr.mono (by decide)) (pa_cons (pv 1) pa_nil)))) pss_nil))))), ?_⟩
  obtain ⟨v, rfl, ⟨⟨s, hs, ht⟩, he⟩ | ⟨t, xs, rfl, hx, hl, hel, h1, h2⟩⟩ := h
  · refine ⟨v, rfl, v, .ty "tuple", .type s, .type "tuple", false, rfl, .ty _, ht, kit_ty hs, false, rfl, ?_⟩
    refine iteT ?_
    refine iteT ?_
    exact ⟨.non, rfl, he⟩
  refine ⟨.ref t, rfl, .ref t, .ty "tuple", .type "tuple", .type "tuple", true, rfl, .ty _, ty_tup hx, kit_ty (by decide +kernel), true, rfl, ?_⟩
  refine iteF ?_
  refine ⟨.ref t, rfl, t, _, rfl, .inr hx, _, 2, rfl, rfl, _, rfl, ?_⟩
  refine ite2 (fun h => ?_) (fun h => ?_)
  · exact ⟨.non, rfl, h1 (by have := of_decide_eq_true h; omega)⟩
  have hn : 2 ≤ xs.length := by
    by_cases q : 2 ≤ xs.length
    · exact q
    · exact absurd (decide_eq_true (show (xs.length : Int) < 2 by omega)) h
  obtain ⟨hb, hg⟩ := h2 hn
  refine ⟨.ref t, rfl, t, _, rfl, hx, for_enumT (K := K) (a := t) (xs := xs) (fun i σ H' => ∃ e1 e2, σ = [some (.ref t), e1, e2] ∧ Same H H' ∧ ∀ j, j < i → badAt xs j = false) ⟨none, none, rfl, Same.refl _, fun j h => absurd h (by omega)⟩ (fun i σ H' _ ⟨_, _, _, k, _⟩ => Same.tup k hx) ?_ ?_⟩
  · rintro i x Tt σ H1 hi ⟨e1, e2, rfl, k1, hj⟩ hT
    have hi2 : i < xs.length := (List.getElem?_eq_some_iff.mp hi).1
    have hxi : xs.getD i .non = x := by rw [List.getD_eq_getElem?_getD, hi]; rfl
    refine ⟨Tt, _, rfl, SqT.of upd_same, rfl, _, _, rfl, _, _, rfl, rfl, ?_⟩
    have k2 : Same H (upd H1 Tt (.tup [.int (i : Nat), x])) := k1.trans (Same.new hT)
    generalize upd H1 Tt (.tup [.int (i : Nat), x]) = H2 at k2 ⊢
    refine ⟨vN i, rfl, (i : Int), 4, rfl, rfl, _, rfl, ?_⟩
    by_cases c4 : 4 ≤ i
    · refine ite2 (fun _ => ?_) (fun h => absurd (decide_eq_true (show (4 : Int) ≤ i by omega)) h)
      refine iteT ?_
      exact ⟨vN i, rfl, vN i, rfl, hb i hi2 hj (by unfold badAt; rw [decide_eq_true c4]; rfl) _ k2⟩
    refine ite2 (fun h => absurd (of_decide_eq_true h) (by omega)) (fun _ => ?_)
    refine ⟨x, rfl, x, rfl, (hel x (List.mem_of_getElem? hi)).same k2, fun H3 k3 => ⟨_, rfl, ?_⟩⟩
    by_cases cn : nameV x = true
    · rw [cn]
      refine iteF ?_
      obtain ⟨z, rfl, hz⟩ := nameV_is cn
      have k23 := k2.trans k3
      refine ⟨vS z, rfl, .ref t, rfl, vN i, rfl, (i : Int), rfl, t, _, rfl, Same.tup k23 hx, ?_, fun p hp => ?_⟩
      · rintro ⟨_, h⟩
        rw [HT.sIx_nat] at h
        omega
      · rw [cut_to (by omega)]
        have fl : (xs.take i).all flatV = true := List.all_eq_true.mpr fun y hy => by
          obtain ⟨j, hj2⟩ := List.getElem?_of_mem hy
          have hji : j < i := by
            have := (List.getElem?_eq_some_iff.mp hj2).1
            rw [List.length_take] at this
            omega
          have hy2 : xs.getD j .non = y := by
            rw [List.getElem?_take_of_lt hji] at hj2
            rw [List.getD_eq_getElem?_getD, hj2]
            rfl
          have q := hj j hji
          unfold badAt at q
          rw [hy2] at q
          simp only [Bool.or_eq_false_iff, Bool.not_eq_false'] at q
          obtain ⟨z', rfl, _⟩ := nameV_is q.2.1
          rfl
        have k24 := k23.trans (Same.new (o := .tup (xs.take i)) hp)
        refine ⟨p, _, rfl, .inr (SqT.of upd_same), rfl, fl, _, rfl, ?_⟩
        refine ite2 (fun h => ?_) (fun h => ?_)
        · refine ⟨vN i, rfl, vN i, rfl, hb i hi2 hj ?_ _ k24⟩
          unfold badAt
          rw [hxi, show inV (vS z) (xs.take i) = true from h]
          simp
        · refine ⟨_, _, rfl, k24, fun j hj' => ?_⟩
          by_cases e : j = i
          · subst e
            unfold badAt
            rw [hxi, cn, show inV (vS z) (xs.take j) = false from Bool.eq_false_iff.mpr h, decide_eq_false c4]
            rfl
          · exact hj j (by omega)
    · rw [Bool.eq_false_iff.mpr cn]
      refine iteT ?_
      refine iteT ?_
      refine ⟨vN i, rfl, vN i, rfl, hb i hi2 hj ?_ _ (k2.trans k3)⟩
      unfold badAt
      rw [hxi, Bool.eq_false_iff.mpr cn]
      simp
  · rintro σ H1 ⟨e1, e2, rfl, k1, hj⟩
    exact hg hj H1 k1
/-- rows that may be none -/
def spCRN (K : PySem.W.Frag) (c9 : Addr) : Sp := fun vs H Q E => ∃ (v : V) (n : Int), vs = [v, vI n] ∧ ((NoTup K H v ∧ ErrI c9 E .non H) ∨ ∃ (t : Addr) (xs : List V) (bs : List Bool), v = .ref t ∧ SqT K H t xs ∧ xs.length ≤ 1000 ∧ ((xs.length : Int) ≠ n → ErrI c9 E .non H) ∧
  ((xs.length : Int) = n → bs.length = xs.length ∧ (∀ (i : Nat) (x : V) (b : Bool), xs[i]? = some x → bs[i]? = some b → RowIs K H x n b) ∧
    (∀ i : Nat, (∀ j : Nat, j < i → bs[j]? = some true) → bs[i]? = some false → ∀ H', Same H H' → ErrI c9 E (vN i) H') ∧ ((∀ b ∈ bs, b = true) → ∀ H', Same H H' → Q .non H')))
theorem RowIs.same {H H' : Hp} {v : V} {n : Int} {b : Bool} (k : Same H H') (h : RowIs K H v n b) : RowIs K H' v n b := by
  rcases h with ⟨⟨s, h1, h2⟩, e⟩ | ⟨a, xs, e, h1, h2, h3, h4⟩
  · exact .inl ⟨⟨s, h1, TyX.same k h2⟩, e⟩
  · refine .inr ⟨a, xs, e, Same.tup k h1, h2, fun x hx => ?_, h4⟩
    rcases h3 x hx with h | ⟨h, t, b1, b2, q1, q2⟩
    · exact .inl h
    · exact .inr ⟨h, t, b1, b2, TyX.same k q1, q2⟩
theorem ok_check_rowsN {c9 : Addr} (D : DfT K mg "check_rows" s_check_rows ["rows", "count"]) (T : Tx K mg) (x_InvalidRows : Z.XN P w K mg base "InvalidRows" c9 "index") (his_row : Cal P w K mg base 3 "is_row" (spRow K) []) : Z.CalN P w K mg base 4 "check_rows" (spCRN K c9) := by
  have nd := sc_check_rows.nd
  refine Z.calN (k := 3) D sc_check_rows (fun vs H Q E h => by obtain ⟨v, n, rfl, _⟩ := h; rfl) fun f cdv A outer s H vs Q E hr h => ?_
  let sc : Scope := defScope s_check_rows
  have tk : L2N.Takes (cxOf (L2N.CX P w) P w K mg base ["rows", "count", "at", "row"] "check_rows" (defScope s_check_rows) f cdv A outer s H E) (fun cls d _ H' => E cls d H') := L2N.takes_of (E₁ := fun e s' => L2N.CX P w outer H s E e s') rfl rfl rfl rfl
  refine ⟨_, (pss_cons (ps_if (PW.pt (pw_or (pt_not (pt_val (pe_callB (r := rIsi K) call_isi (by rfl) T.n_isinstance (by decide +kernel) (pa_cons (pv 0) (pa_cons (pe_bltn (v := .ty "tuple") (by rfl) T.n_tuple (by decide +kernel) rfl) pa_nil))))) (pw_or1 (pt_cmpR op_ne (pe_callB (r := rLenQ K) call_len_seq (by rfl) T.n_len (by decide +kernel) (pa_cons (pv 0) pa_nil)) (pv 1) (nomark _))))) (pss_one (L2N.ps_raise rfl tk (Z.pmkX x_InvalidRows (hr.mono (by decide)) (pa_cons pe_non pa_nil)))) pss_nil)
    (pss_one (ps_for (passes_of rfl) rfl (pi_enumT (by rfl) T.n_enumerate (pa_cons (pv 0) pa_nil)) (pg_tup (by rfl) (pgs_cons (pg_name (i := 2) nd rfl (by first | exact Or.inl rfl | exact Or.inr rfl)) (pgs_cons (pg_name (i := 3) nd rfl (by first | exact Or.inl rfl | exact Or.inr rfl)) pgs_nil))) (pss_one (ps_if (pt_not (pt_val (pe_c his_row hr (by decide) (by rfl) (pa_cons (pv 3) (pa_cons (pv 1) pa_nil))))) (pss_one (L2N.ps_raise rfl tk (Z.pmkX x_InvalidRows (hr.mono (by decide)) (pa_cons (pv 2) pa_nil)))) pss_nil))))), ?_⟩
  obtain ⟨v, n, rfl, ⟨⟨s, hs, ht⟩, he⟩ | ⟨t, xs, bs, rfl, hx, hl, h1, h2⟩⟩ := h
  · refine ⟨v, rfl, v, .ty "tuple", .type s, .type "tuple", false, rfl, .ty _, ht, kit_ty hs, false, rfl, ?_⟩
    refine iteT ?_
    refine iteT ?_
    exact ⟨.non, rfl, he⟩
  refine ⟨.ref t, rfl, .ref t, .ty "tuple", .type "tuple", .type "tuple", true, rfl, .ty _, ty_tup hx, kit_ty (by decide +kernel), true, rfl, ?_⟩
  refine iteF ?_
  refine ⟨.ref t, rfl, t, _, rfl, .inr hx, vI n, rfl, rfl, _, rfl, ?_⟩
  by_cases hn : (xs.length : Int) = n
  · refine ite2 (fun h => absurd h (by rw [hn]; simp)) (fun _ => ?_)
    obtain ⟨hbl, hrow, hb, hg⟩ := h2 hn
    refine ⟨.ref t, rfl, t, _, rfl, hx, for_enumT (K := K) (a := t) (xs := xs) (fun i σ H' => ∃ e1 e2, σ = [some (.ref t), some (vI n), e1, e2] ∧ Same H H' ∧ ∀ j : Nat, j < i → bs[j]? = some true) ⟨none, none, rfl, Same.refl _, fun j h => absurd h (by omega)⟩ (fun i σ H' _ ⟨_, _, _, k, _⟩ => Same.tup k hx) ?_ ?_⟩
    · rintro i x Tt σ H1 hi ⟨e1, e2, rfl, k1, hj⟩ hT
      have hi2 : i < xs.length := (List.getElem?_eq_some_iff.mp hi).1
      obtain ⟨b, hbi⟩ : ∃ b, bs[i]? = some b := at_some (by omega)
      refine ⟨Tt, _, rfl, SqT.of upd_same, rfl, _, _, rfl, _, _, rfl, rfl, ?_⟩
      have k2 : Same H (upd H1 Tt (.tup [.int (i : Nat), x])) := k1.trans (Same.new hT)
      generalize upd H1 Tt (.tup [.int (i : Nat), x]) = H2 at k2 ⊢
      refine ⟨x, rfl, vI n, rfl, x, n, b, rfl, (hrow i x b hi hbi).same k2, fun H3 k3 => ⟨_, rfl, ?_⟩⟩
      cases b with
      | true =>
        refine iteF ?_
        refine ⟨_, _, rfl, k2.trans k3, fun j hj' => ?_⟩
        by_cases e : j = i
        · rw [e]
          exact hbi
        · exact hj j (by omega)
      | false =>
        refine iteT ?_
        exact ⟨vN i, rfl, vN i, rfl, hb i hj hbi _ (k2.trans k3)⟩
    · rintro σ H1 ⟨e1, e2, rfl, k1, hj⟩
      refine hg (fun b hb => ?_) H1 k1
      obtain ⟨j, hj2⟩ := List.getElem?_of_mem hb
      have := hj j (by rw [← hbl]; exact (List.getElem?_eq_some_iff.mp hj2).1)
      rw [hj2] at this
      exact Option.some.inj this
  · refine ite2 (fun _ => ?_) (fun h => absurd ?_ h)
    · exact ⟨.non, rfl, h1 hn⟩
    · simp only [Bool.not_eq_true', decide_eq_false_iff_not]
      intro e
      injection e with e
      exact hn e
end
end Y

set_option Elab.async false
set_option linter.all false
set_option maxRecDepth 100000
set_option maxHeartbeats 4000000
namespace Y
open PySem L2
open PyProof.Rows (envOfC)
open SX (S)
open C8 (Cal pe_c pe_gc)
/-- an error of that class, with what it was given -/
def ErrG (cK : Addr) (E : XK) (w : V) (H : Hp) : Prop := ∀ d, H d = none → E (.ref cK) (some d) (upd H d (.xd [("given", w)]))
section
variable {P : Program} {w : World} {K : PySem.W.Frag} {mg : Str → Option Value} {base : Heap} {cB : Addr}
def spCBN (K : PySem.W.Frag) (cB : Addr) : Sp := fun vs H Q E => ∃ (tz t : Addr) (zs : List (List Nat)) (g : Gr), vs = [.ref tz, .ref t] ∧ SqT K H tz (zs.map vS) ∧ GridAt K H t g ∧ zs.length ≤ 4 ∧ g.length = zs.length ∧ (∀ (i : Nat) (r : List Int), g[i]? = some r → r.length = zs.length) ∧
  (∀ (i : Nat) (z : List Nat), zs[i]? = some z → (∀ j, j < i → rowS g j = colS g j) → rowS g i ≠ colS g i → ∀ H', Same H H' → ErrG cB E (vS z) H') ∧ ((∀ i, i < zs.length → rowS g i = colS g i) → ∀ H', Same H H' → Q .non H')
theorem ok_check_balanceN (D : DfT K mg "check_balance" s_check_balance ["kinds", "rows"]) (T : Tx K mg) (x_Unbalanced : Z.XN P w K mg base "Unbalanced" cB "given") (hunbalanced_at : Cal P w K mg base 1 "unbalanced_at" (spUB K) []) : Z.CalN P w K mg base 3 "check_balance" (spCBN K cB) := by
  have nd := sc_check_balance.nd
  refine Z.calN (k := 2) D sc_check_balance (fun vs H Q E h => by obtain ⟨tz, t, zs, g, rfl, _⟩ := h; rfl) fun f cdv A outer s H vs Q E hr h => ?_
  let sc : Scope := defScope s_check_balance
  have tk : L2N.Takes (cxOf (L2N.CX P w) P w K mg base ["kinds", "rows", "at"] "check_balance" (defScope s_check_balance) f cdv A outer s H E) (fun cls d _ H' => E cls d H') := L2N.takes_of (E₁ := fun e s' => L2N.CX P w outer H s E e s') rfl rfl rfl rfl
  refine ⟨_, (pss_cons (ps_set (i := 2) nd rfl (by first | exact Or.inl rfl | exact Or.inr rfl) (pe_c hunbalanced_at hr (by decide) (by rfl) (pa_cons (pv 1) pa_nil)))
    (pss_one (ps_if (pt_cmpR op_notN (pv 2) pe_non (nomark _)) (pss_one (L2N.ps_raise rfl tk (Z.pmkX x_Unbalanced (hr.mono (by decide)) (pa_cons (pe_ix (r := rIxT K) ix_tup (pv 0) (pv 2) (fun _ _ => rfl)) pa_nil)))) pss_nil))), ?_⟩
  obtain ⟨tz, t, zs, g, rfl, htz, hG, hn4, hgl, hrl, hb, hk⟩ := h
  refine ⟨.ref t, rfl, t, g, rfl, hG, by omega, fun i r h => by rw [hrl i r h, hgl], fun i hi hj hne H1 k1 => ?_, fun hall H1 k1 => ?_⟩
  · refine ⟨vN i, rfl, rfl, _, rfl, ?_⟩
    refine iteT ?_
    obtain ⟨z, hz⟩ : ∃ z, zs[i]? = some z := at_some (by omega)
    have at1 : atI (zs.map vS) (i : Int) = some (vS z) := atI_nat (by rw [List.getElem?_map, hz]; rfl)
    exact ⟨.ref tz, rfl, vN i, rfl, tz, _, _, vS z, rfl, rfl, Same.tup k1 htz, at1, vS z, rfl, hb i z hz hj hne H1 k1⟩
  · refine ⟨.non, rfl, rfl, _, rfl, ?_⟩
    refine iteF ?_
    exact hk (fun i hi => hall i (by omega)) H1 k1
end
end Y

set_option Elab.async false
set_option linter.all false
set_option maxRecDepth 100000
set_option maxHeartbeats 4000000
namespace Y
open PySem L2
open PyProof.Rows (envOfC)
open SX (S)
open C8 (Cal pe_c pe_gc)
section
variable {P : Program} {w : World} {K : PySem.W.Frag} {mg : Str → Option Value} {base : Heap} {C c8 c9 cB : Addr}
theorem spCKN.mono {H : Hp} {v : V} {Q Q' : VK} {E : XK} (k : ∀ H', Q .non H' → Q' .non H') (h : spCKN K c8 [v] H Q E) : spCKN K c8 [v] H Q' E := by
  obtain ⟨u, e, h⟩ := h
  refine ⟨u, e, ?_⟩
  rcases h with h | ⟨t, xs, e1, e2, e3, e4, e5, e6⟩
  · exact .inl h
  · exact .inr ⟨t, xs, e1, e2, e3, e4, e5, fun n => ⟨(e6 n).1, fun q H' z => k _ ((e6 n).2 q H' z)⟩⟩
theorem spCRN.mono {H : Hp} {v n : V} {Q Q' : VK} {E : XK} (k : ∀ H', Q .non H' → Q' .non H') (h : spCRN K c9 [v, n] H Q E) : spCRN K c9 [v, n] H Q' E := by
  obtain ⟨u, m, e, h⟩ := h
  refine ⟨u, m, e, ?_⟩
  rcases h with h | ⟨t, xs, bs, e1, e2, e3, e4, e5⟩
  · exact .inl h
  · exact .inr ⟨t, xs, bs, e1, e2, e3, e4, fun n => ⟨(e5 n).1, (e5 n).2.1, (e5 n).2.2.1, fun q H' z => k _ ((e5 n).2.2.2 q H' z)⟩⟩
theorem spCBN.mono {H : Hp} {v n : V} {Q Q' : VK} {E : XK} (k : ∀ H', Q .non H' → Q' .non H') (h : spCBN K cB [v, n] H Q E) : spCBN K cB [v, n] H Q' E := by
  obtain ⟨tz, t, zs, g, e, e1, e2, e3, e4, e5, e6, e7⟩ := h
  exact ⟨tz, t, zs, g, e, e1, e2, e3, e4, e5, e6, fun q H' z => k _ (e7 q H' z)⟩
/-- the making of a yard of any values -/
def spInitN (K : PySem.W.Frag) (C c8 c9 cB : Addr) : Sp := fun vs H Q E => ∃ (p dx : Addr) (v1 v2 : V), vs = [.ref p, v1, v2] ∧ spCKN K c8 [v1] H (fun _ H1 => ∃ (t : Addr) (xs : List V), v1 = .ref t ∧ SqT K H1 t xs ∧
  spCRN K c9 [v2, vN xs.length] H1 (fun _ H2 => spCBN K cB [v1, v2] H2 (fun _ H3 => H3 p = some (.ins C dx []) ∧ ∃ tg, v2 = .ref tg ∧
    ∀ H', (∃ dx, H' p = some (.ins C dx (fl t tg))) → (∀ b o, H3 b = some o → b ≠ p → H' b = some o) → Q .non H') E) E) E
theorem init_kb2 {K : PySem.W.Frag} {f : Addr} {fd : FuncData} (F : Fun K "__init__" "Yard.__init__" s_init f fd) : KBn K fd ["self", "kinds", "rows"] 1 ["kinds", "rows"] (fun us ws => us ++ ws) (fun vs zs => vs ++ zs) := by
  obtain ⟨oc, od, kV, doc, pm, an, cdv, ct, osl, rfl, lk, hcd⟩ := F.ex
  refine ⟨fun s us ws X l1 l2 => BindsTo.of_eq ?_, fun r1 r2 => r1.append r2⟩
  match us, ws, l1, l2 with
  | [u], [a, b], _, _ => rfl
theorem ok_initN {f : Addr} (D : MfT K "__init__" "Yard.__init__" s_init ["self", "kinds", "rows"] f) (T : Tx K mg) (Y : YT K mg C) (hcheck_kindsN : Z.CalN P w K mg base 3 "check_kinds" (spCKN K c8)) (hcheck_rowsN : Z.CalN P w K mg base 4 "check_rows" (spCRN K c9)) (hcheck_balanceN : Z.CalN P w K mg base 3 "check_balance" (spCBN K cB)) :
    ∃ (fd : FuncData), FnOk P w K mg base (L2N.CX P w) 5 f fd ["self", "kinds", "rows"] (spInitN K C c8 c9 cB) ∧ Binds K fd ["self", "kinds", "rows"] [] ∧ KBn K fd ["self", "kinds", "rows"] 1 ["rows", "kinds"] (fun us ws => us ++ ws.reverse) (fun vs zs => vs ++ zs.reverse) ∧ KBn K fd ["self", "kinds", "rows"] 1 ["kinds", "rows"] (fun us ws => us ++ ws) (fun vs zs => vs ++ zs) := by
  have nd := sc_init.nd
  obtain ⟨fd, F, b⟩ := D.ex
  refine ⟨fd, Z.okN (k := 4) F sc_init (fun vs H Q E h => by obtain ⟨p, dx, v1, v2, rfl, _⟩ := h; rfl) fun cdv A outer s H vs Q E hr h => ?_, b, init_kb F, init_kb2 F⟩
  let sc : Scope := defScope s_init
  have tk : L2N.Takes (cxOf (L2N.CX P w) P w K mg base ["self", "kinds", "rows"] "Yard.__init__" (defScope s_init) f cdv A outer s H E) (fun cls d _ H' => E cls d H') := L2N.takes_of (E₁ := fun e s' => L2N.CX P w outer H s E e s') rfl rfl rfl rfl
  refine ⟨_, (pss_cons (ps_expr (Z.pe_cN hcheck_kindsN tk hr (by decide) (by rfl) (pa_cons (pv 1) pa_nil)))
    (pss_cons (ps_expr (Z.pe_cN hcheck_rowsN tk hr (by decide) (by rfl) (pa_cons (pv 2) (pa_cons (pe_callB (r := rLenQ K) call_len_seq (by rfl) T.n_len (by decide +kernel) (pa_cons (pv 1) pa_nil)) pa_nil))))
    (pss_cons (ps_expr (Z.pe_cN hcheck_balanceN tk hr (by decide) (by rfl) (pa_cons (pv 1) (pa_cons (pv 2) pa_nil))))
    (pss_cons (ps_fld (pv 0) (pv 1) rfl)
    (pss_one (ps_fld (pv 0) (pv 2) rfl)))))), ?_⟩
  obtain ⟨p, dx, v1, v2, rfl, h⟩ := h
  refine ⟨v1, rfl, ?_⟩
  dsimp only [tNil]
  refine spCKN.mono (fun H1 h1 => ?_) h
  obtain ⟨t, xs, rfl, hx, h1⟩ := h1
  refine ⟨v2, rfl, .ref t, rfl, t, xs, rfl, .inr hx, ?_⟩
  dsimp only [tNil]
  refine spCRN.mono (fun H2 h2 => ?_) h1
  refine ⟨.ref t, rfl, v2, rfl, ?_⟩
  dsimp only [tNil]
  refine spCBN.mono (fun H3 h3 => ?_) h2
  obtain ⟨hp3, tg, rfl, hk⟩ := h3
  refine ⟨.ref t, rfl, .ref p, rfl, p, C, dx, [], rfl, hp3, Y.cl, Y.nK, by show 0 < 1000; decide, ?_⟩
  refine ⟨.ref tg, rfl, .ref p, rfl, p, C, dx, _, rfl, upd_same, Y.cl, Y.nR, by show 1 < 1000; decide, ?_⟩
  refine hk _ ⟨dx, upd_same⟩ fun b o e hb => ?_
  rw [upd_ne hb, upd_ne hb]
  exact e
end
end Y

set_option Elab.async false
set_option linter.all false
set_option maxRecDepth 100000
set_option maxHeartbeats 4000000
namespace Y
open PySem L2
open PyProof.Rows (envOfC)
open SX (S)
open C8 (Cal pe_c pe_gc)
/-! ### any value -/
def menuD : List PyData := [.none, .bool true, .bool false, .int 0, .int 1, .int (-1), .int 2, .int (10 ^ 39), .str "", .str "a", .str "kinds a b", .str "kinds a b\na 0 0\nb 0 0", .tuple [], .tuple [.int 0], .list [], .list [.int 1],
  .tuple [.str "a", .none], .tuple [.str "a", .str "b"], .tuple [.tuple [.int 0, .int 0], .tuple [.int 0, .int 0]], .list [.str "a", .str "b"], .tuple [.str "a", .str "b", .str "b", .str "a"]]
def AnyV (K : PySem.W.Frag) (H : Hp) (v : V) : Prop := (∃ d, d ∈ menuD ∧ Dp K H v d) ∨ ∃ a kvs, v = .ref a ∧ H a = some (.dK kvs) ∧ (kvs = [] ∨ kvs = [((Sum.inr ("a" : Str) : Key), V.int 1)])
theorem menu_fit : ∀ d ∈ menuD, d.showable = true ∧ d.shown.length ≤ 1000 ∧ d.depth ≤ 10 := by decide +kernel
theorem AnyV.show {K : PySem.W.Frag} {H : Hp} {v : V} (h : AnyV K H v) : ∃ z, ShowS K H v z := by
  rcases h with ⟨d, hd, h⟩ | ⟨a, kvs, rfl, h, e | e⟩
  · obtain ⟨f1, f2, f3⟩ := menu_fit d hd
    exact ⟨_, ShowS.of h ⟨f1, Nat.le_trans f2 (by decide), f3⟩⟩
  · subst e
    exact ⟨_, .inr ⟨a, _, [], rfl, h, rfl, by decide +kernel, by decide +kernel, by decide +kernel, rfl⟩⟩
  · subst e
    exact ⟨_, .inr ⟨a, _, [(.str "a", .int 1)], rfl, h, rfl, by decide +kernel, by decide +kernel, by decide +kernel, rfl⟩⟩
theorem AnyV.same {K : PySem.W.Frag} {H H' : Hp} {v : V} (h : AnyV K H v) (k : Same H H') : AnyV K H' v := by
  rcases h with ⟨d, hd, h⟩ | ⟨a, kvs, e, h, q⟩
  · exact .inl ⟨d, hd, dp_same k d v h⟩
  · exact .inr ⟨a, kvs, e, k _ _ h, q⟩
section
variable {P : Program} {w : World} {K : PySem.W.Frag} {mg : Str → Option Value} {base : Heap}
def spAnything (K : PySem.W.Frag) : Sp := fun vs H Q _ => ∃ (p : Addr), vs = [.ref p] ∧ PailAt H p ∧ ∀ v H', AnyV K H' v → PailAt H' p → KpX p H H' → Q v H'
end
end Y

set_option Elab.async false
set_option linter.all false
set_option maxRecDepth 100000
set_option maxHeartbeats 4000000
namespace Z
open PySem PySem.Spec PyProof.Rows L2
open LamX (TabB)
/-! ### the law's own end, guarded, with tables of code objects -/
theorem law_callGT {P : Program} {w : World} {K : PySem.W.Frag} {mg mb : Str → Option Value} {k : Nat} {fa a : Addr} {cs : List (Addr × Addr)} {fd : FuncData} {x : Str} {sp : Sp} {s₁ : Shared} {vs : List Value} {ns : List Int}
    (KX : K.In s₁.heap) (hns : s₁.heap.Ns mainGlobals mg) (hb : s₁.heap.Ns builtinsNs mb) (hbb : ∀ x : Str, x ≠ "__name__" → mb x = bootBuiltins x) (hlim : s₁.heap.NoLimit) (hg : s₁.gens = #[])
    (hT : ∀ p ∈ cs, s₁.heap.get? p.2 = some { cls := .none, data := .fields #[] }) (nT : ∀ p ∈ cs, K.lookup p.2 = none) (C : ∀ p ∈ cs, PySem.W.CodeHd s₁.heap p.1 p.2)
    (hbm : ∃ (bm : Addr) (ob : Obj), mg "__builtins__" = some (.ref bm) ∧ bm ≠ builtinsNs ∧ s₁.heap.get? bm = some ob ∧ ob.cls = .type "module" ∧ ob.dict = some builtinsNs ∧ ob.data = .plain)
    (ha : s₁.heap.get? a = some { cls := .type "list", data := .seq vs.toArray }) (hi : IntsAre vs ns) (hl : ns.length ≤ sizeLine) (hr : Room k callerA)
    (F : ∀ base : Heap, K.In base → base.Ns mainGlobals mg → (∀ p ∈ cs, TabB base mg p.1 p.2) → FnG P w K mg base k fa fd [x] sp) (hbind : ∀ (s : Shared) (u : Value), BindsTo s fd ⟨[u], []⟩ [(x, u)])
    (hsp : ∀ H : Hp, (∀ p ∈ cs, H p.2 = some (.tbl #[])) → SqL K H a (ns.map V.int) → sp [.ref a] H (fun v _ => v = .bl true) fun _ _ _ => False) :
    codeAny (model P w) callerA (.call (.ref fa) ⟨[.ref a], []⟩) (fun r s' => r = .ok (.ret (.bool true)) ∧ OldK s₁.heap s'.heap ∧ s'.os = s₁.os ∧ AllBare s'.gens) s₁ := by
  let o0 : Obj := { cls := .type "list", data := .seq vs.toArray }
  let oT : Obj := { cls := .none, data := .fields #[] }
  let ts : List Addr := cs.map (·.2)
  have inT : ∀ p ∈ cs, p.2 ∈ ts := fun p hp => List.mem_map_of_mem hp
  have isT : ∀ b ∈ ts, ∃ p ∈ cs, b = p.2 ∧ s₁.heap.get? b = some oT := fun b hb => by
    obtain ⟨p, hp, rfl⟩ := List.mem_map.mp hb
    exact ⟨p, hp, rfl, hT p hp⟩
  have aT : a ∉ ts := fun z => by
    obtain ⟨_, _, _, e⟩ := isT a z
    rw [ha] at e
    exact nomatch (congrArg Obj.data (Option.some.inj e) : Data.seq vs.toArray 0 = Data.fields #[])
  -- what is tracked at the beginning
  obtain ⟨H, h1, h2, h3, h4⟩ : ∃ H : Hp, (∀ b ∈ ts, H b = some (.tbl #[])) ∧ (∀ b u, H b = some u → (b ∈ ts ∧ u = .tbl #[]) ∨ (b = a ∧ u = .frz o0 (.lst (ns.map V.int)))) ∧ SqL K H a (ns.map V.int) ∧ (H a ≠ none → K.lookup a = none) := by
    refine ⟨fun b => if b ∈ ts then some (.tbl #[]) else if b = a ∧ K.lookup a = none then some (.frz o0 (.lst (ns.map V.int))) else none, fun b hb => if_pos hb, fun b u e => ?_, ?_, fun z => ?_⟩
    · by_cases c1 : b ∈ ts
      · exact .inl ⟨c1, (Option.some.inj ((if_pos c1).symm.trans e)).symm⟩
      · have e := (if_neg c1).symm.trans e
        by_cases c2 : b = a ∧ K.lookup a = none
        · exact .inr ⟨c2.1, (Option.some.inj ((if_pos c2).symm.trans e)).symm⟩
        · exact nomatch (if_neg c2).symm.trans e
    · cases q : K.lookup a with
      | some o =>
        have e := KX a o q
        rw [ha] at e
        cases e
        exact .inr ⟨_, vs.toArray, _, q, rfl, rfl, rfl, by rw [List.size_toArray, hi.length]; exact hl, by simpa using vals_ints hi⟩
      | none => exact .inl (.inr ⟨o0, (if_neg aT).trans (if_pos ⟨rfl, rfl⟩)⟩)
    · refine Classical.byContradiction fun q => z ((if_neg aT).trans (if_neg fun y => q y.2))
  have hok : HOk P w H s₁.heap := fun b u e => by
    rcases h2 b u e with ⟨q1, rfl⟩ | ⟨rfl, rfl⟩
    · obtain ⟨_, _, _, q⟩ := isT b q1
      exact q
    · exact ⟨ha, by rw [List.length_map]; exact hl, vs, _, vals_ints hi, ha⟩
  -- an object that is neither
  have free : ∀ {b : Addr} {o : Obj}, s₁.heap.get? b = some o → o.data ≠ .seq vs.toArray 0 → o.data ≠ .fields #[] → H b = none := fun {b o} e n1 n2 => by
    refine Classical.byContradiction fun q => ?_
    obtain ⟨u, hu⟩ := Option.ne_none_iff_exists'.mp q
    rcases h2 b u hu with ⟨q1, _⟩ | ⟨rfl, _⟩
    · obtain ⟨_, _, _, q2⟩ := isT b q1
      rw [e] at q2
      exact n2 (congrArg Obj.data (Option.some.inj q2))
    · rw [e] at ha
      exact n1 (congrArg Obj.data (Option.some.inj ha))
  have nsK : ∀ {b : Addr} {m : Str → Option Value}, s₁.heap.Ns b m → (hidT s₁.heap H).Ns b m := fun {b m} ⟨o, es, ep, e, d, r⟩ =>
    ⟨o, es, ep, hidT_get e (free e (by rw [d]; exact fun z => nomatch z) (by rw [d]; exact fun z => nomatch z)), d, r⟩
  have hKb : K.In (hidT s₁.heap H) := fun b o e => hidT_get (KX b o e) (by
    refine Classical.byContradiction fun q => ?_
    obtain ⟨u, hu⟩ := Option.ne_none_iff_exists'.mp q
    rcases h2 b u hu with ⟨q1, _⟩ | ⟨rfl, _⟩
    · obtain ⟨p, hp, rfl, _⟩ := isT b q1
      rw [nT p hp] at e
      cases e
    · rw [h4 q] at e
      cases e)
  have hM : Mod K mg (hidT s₁.heap H) := ⟨hKb, nsK hns, ⟨mb, nsK hb, hbb⟩, hlim.elim fun mc z => ⟨mc, nsK z.1, z.2⟩⟩
  have TB : ∀ p ∈ cs, TabB (hidT s₁.heap H) mg p.1 p.2 := fun p hp => by
    refine ⟨?_, ?_, fun z => ?_⟩
    · obtain ⟨o, us, file, tf, flags, tg, inF, text, tt, e1, r1, r2, r3, r4⟩ := C p hp
      refine ⟨o, us, file, tf, flags, tg, inF, text, tt, hidT_get e1 (free e1 (by rw [r2]; exact fun z => nomatch z) fun z => ?_), r1, r2, r3, r4⟩
      rw [r2] at z
      injection z with z
      rw [z] at r3
      simp at r3
    · obtain ⟨bm, ob, b1, b2, b3, b4, b5, b6⟩ := hbm
      have nG : bm ≠ mainGlobals := fun q => by
        obtain ⟨o, es, ep, e, hd, _⟩ := hns
        rw [q, e] at b3
        cases b3
        rw [hd] at b6
        cases b6
      have nP : bm ≠ p.2 := fun q => by
        rw [q, hT p hp] at b3
        cases b3
        cases b6
      exact ⟨bm, ob, b1, b2, nG, nP, hidT_get b3 (free b3 (by rw [b6]; exact fun z => nomatch z) (by rw [b6]; exact fun z => nomatch z)), b4, b5, b6⟩
    · obtain ⟨o, es, ep, e, hd, _⟩ := hns
      rw [z, hT p hp] at e
      cases e
      cases hd
  have e0 : Env0 P w K mg (hidT s₁.heap H) callerA [] s₁ H := ⟨rfl, hM, fun b o e => of_hidT e, Nat.le_of_eq (hidT_size _ _), trivial, fun b z => (nomatch z), hok, .of_eq hg⟩
  refine codeAny_mono ((F _ hKb (nsK hns) TB).run callerA [] s₁ H ⟨[.ref a], []⟩ [.ref a] [.ref a] _ _ hr rfl e0 (hbind s₁ (.ref a)) (.cons rfl .nil) (hsp H (fun p hp => h1 _ (inT p hp)) h3)) fun r s' h => ?_
  match r, h with
  | .ok (.ret u), ⟨v, H', os, bare, un, hok', r', q⟩ =>
    have qv : v = .bl true := q
    subst qv
    obtain rfl : u = Value.bool true := r'
    have keep : ∀ b o, b ∉ ts → s₁.heap.get? b = some o → s'.heap.get? b = some o := fun b o nb e => by
      cases z : H b with
      | none => exact un.keep b o e z (fun m => (nomatch m)) (fun m => (nomatch m))
      | some u =>
        rcases h2 b u z with ⟨y, _⟩ | ⟨rfl, rfl⟩
        · exact absurd y nb
        · obtain ⟨e2, _⟩ := hok' _ _ (un.frzs _ _ _ z)
          rw [ha] at e
          cases e
          exact e2
    have more : ∀ p ∈ cs, ∃ m : Array Value, s'.heap.get? p.2 = some { cls := .none, data := .fields m } := fun p hp => by
      obtain ⟨m, z⟩ := un.tbls p.2 #[] (h1 _ (inT p hp))
      exact ⟨_, hok' _ _ z⟩
    refine ⟨rfl, ⟨fun b o e => ?_, fun b o e => ?_⟩, os, bare⟩
    · by_cases nb : b ∈ ts
      · obtain ⟨p, hp, rfl, e2⟩ := isT b nb
        obtain ⟨m, hm⟩ := more p hp
        rw [e] at e2
        cases e2
        exact .inr (.inl ⟨((C p hp).tab (hT p hp)).isCodeTable, rfl, #[], m, rfl, by rw [Array.empty_append]; exact hm⟩)
      · exact .inl (keep b o nb e)
    · by_cases nb : b ∈ ts
      · obtain ⟨p, hp, rfl, e2⟩ := isT b nb
        obtain ⟨m, hm⟩ := more p hp
        exact ⟨_, hm⟩
      · exact ⟨o, keep b o nb e⟩
/-- what is known of the law at the head's heap -/
def LawAtG (l : PySem.W.OpenLaw) (w : World) (K : PySem.W.Frag) (k n : Nat) (x : Str) (mg : Str → Option Value) (fa : Addr) (h : Heap) : Prop :=
  ∃ (fd : FuncData) (cs : List (Addr × Addr)) (sp : Sp), (∀ p ∈ cs, h.get? p.2 = some { cls := .none, data := .fields #[] }) ∧ (∀ p ∈ cs, K.lookup p.2 = none) ∧ (∀ p ∈ cs, PySem.W.CodeHd h p.1 p.2) ∧ (∀ (s : Shared) (u : Value), BindsTo s fd ⟨[u], []⟩ [(x, u)]) ∧
    (∀ (H : Hp) (a : Addr) (ns : List Int), ns.length ≤ n → (∀ z ∈ ns, Builtin.Int.intBits z ≤ 1048576) → (∀ p ∈ cs, H p.2 = some (.tbl #[])) → SqL K H a (ns.map V.int) → sp [.ref a] H (fun v _ => v = .bl true) fun _ _ _ => False) ∧
    ∀ base : Heap, K.In base → base.Ns mainGlobals mg → (∀ p ∈ cs, TabB base mg p.1 p.2) → FnG l.prog w K mg base k fa fd [x] sp
theorem walk_ofGT {l : PySem.W.OpenLaw} {n k : Nat} {q : Program} {loose : List Str} {XP : (Str → Option Value) → Heap → Prop} {YP : World → Heap → Prop} {d : DefRec} {K : Params → PySem.W.Frag} {x : Str}
    (hn : l.most = some n) (hn2 : n ≤ sizeLine) (hdf : d.params.defaults = []) (hr : Room k callerA) (hY : ∀ (w : World) (h : Heap), YP w h → (K w.params).In h)
    (F : ∀ (w : World) (s₀ : Shared) (mg mb : Str → Option Value) (fa : Addr) (h : Heap), PySem.W.Ground q loose [] XP w s₀ mg mb h → YP w h → (K w.params).In h → h.Ns mainGlobals mg → mg d.name = some (.ref fa) → LawAtG l w (K w.params) k n x mg fa h) :
    PySem.W.WalkO q loose XP YP l.row.toRowW d [] (fun f vs => PySem.call f vs) := by
  refine Att.attach_callB hn hdf fun w s₀ s₁ mg mb fa o pm cd doc a vs ns G Y ho hd hcd hmg hobj hints hlen hbits hg => ?_
  have KX := hY w _ Y
  obtain ⟨fd, cs, sp, hT, nT, C, hb, hsp, hF⟩ := F w s₀ mg mb fa _ G Y KX G.T.g hmg
  exact law_callGT KX G.T.g G.T.b G.T.builtins G.T.nolimit hg hT nT C G.T.bmain hobj hints (Nat.le_trans hlen hn2) hr hF hb fun H hH hS => hsp H a ns hlen hbits hH hS
end Z

set_option Elab.async false
set_option linter.all false
set_option maxRecDepth 100000
set_option maxHeartbeats 4000000
namespace Y
open PySem L2 PySem.Builtin.Str
open SX (S)
/-! ### what is shown has signs alone -/
def okS (x : Str) : Prop := ∀ c ∈ x.cps.toList, c < 0x110000
theorem okS.ok {x : Str} (h : okS x) : PyData.strOk x = true := by
  unfold PyData.strOk
  rw [← Array.all_toList]
  exact List.all_eq_true.mpr fun c hc => decide_eq_true (h c hc)
theorem okS.of {x : Str} (h : PyData.strOk x = true) : okS x := by
  unfold PyData.strOk at h
  rw [← Array.all_toList] at h
  exact fun c hc => of_decide_eq_true (List.all_eq_true.mp h c hc)
theorem okS.app {x y : Str} (h : okS x) (k : okS y) : okS (x ++ y) := fun c hc => by
  rw [show (x ++ y).cps.toList = x.cps.toList ++ y.cps.toList from TL.tl_append x y] at hc
  rcases List.mem_append.mp hc with e | e
  · exact h c e
  · exact k c e
theorem okS.lit (x : Str) (h : (x.cps.toList.all fun c => decide (c < 0x110000)) = true) : okS x := fun c hc => of_decide_eq_true (List.all_eq_true.mp h c hc)
theorem sign_ok : ∀ c, c < 128 → ((reprChar 39 c).all (fun d => decide (d < 0x110000)) && (reprChar 34 c).all (fun d => decide (d < 0x110000))) = true := by decide +kernel
theorem fold_ok (q : Nat) (hq : q = 39 ∨ q = 34) : ∀ (l : List Nat) (acc : Array Nat), (∀ c ∈ l, c < 128) → (∀ c ∈ acc.toList, c < 0x110000) → ∀ c ∈ (l.foldl (fun out c => out ++ (reprChar q c).toArray) acc).toList, c < 0x110000
  | [], acc, _, h => h
  | d :: l, acc, hl, h => by
    rw [List.foldl_cons]
    refine fold_ok q hq l _ (fun c hc => hl c (List.mem_cons_of_mem _ hc)) fun c hc => ?_
    rw [Array.toList_append] at hc
    rcases List.mem_append.mp hc with e | e
    · exact h c e
    · have := sign_ok d (hl d (List.mem_cons_self ..))
      rw [Bool.and_eq_true] at this
      rcases hq with rfl | rfl
      · exact of_decide_eq_true (List.all_eq_true.mp this.1 c (by simpa using e))
      · exact of_decide_eq_true (List.all_eq_true.mp this.2 c (by simpa using e))
theorem quote_is (x : Str) : reprQuote x = 39 ∨ reprQuote x = 34 := by
  unfold reprQuote
  split <;> first | exact .inl rfl | exact .inr rfl
theorem repr_ok {l : List Nat} (h : ∀ c ∈ l, c < 128) : okS (reprText (S l)) := fun c hc => by
  have hq := quote_is (S l)
  have hb : reprQuote (S l) < 0x110000 := by rcases hq with e | e <;> rw [e] <;> decide
  unfold reprText at hc
  replace hc : c ∈ (((S l).cps.foldl (fun out c => out ++ (reprChar (reprQuote (S l)) c).toArray) #[reprQuote (S l)]).push (reprQuote (S l))).toList := hc
  rw [Array.toList_push] at hc
  rcases List.mem_append.mp hc with e | e
  · have e2 : (S l).cps.foldl (fun out c => out ++ (reprChar (reprQuote (S l)) c).toArray) #[reprQuote (S l)] = l.foldl (fun out c => out ++ (reprChar (reprQuote (S l)) c).toArray) #[reprQuote (S l)] := (Array.foldl_toList _).symm
    rw [e2] at e
    refine fold_ok _ hq l #[reprQuote (S l)] h (fun c hc => ?_) c e
    have e3 : c = reprQuote (S l) := by simpa using hc
    rw [e3]
    exact hb
  · rw [List.mem_singleton.mp e]
    exact hb
theorem strD_ok {l : List Nat} (h : ∀ c ∈ l, c < 128) : okS (PyData.str (S l)).shown := repr_ok h
theorem tup1_ok {l : List Nat} (h : ∀ c ∈ l, c < 128) : okS (PyData.tuple [.str (S l)]).shown := by
  show okS (("(" : Str) ++ reprText (S l) ++ ((",)" : String) : Str))
  exact ((okS.lit _ (by decide +kernel)).app (repr_ok h)).app (okS.lit _ (by decide +kernel))
theorem lst1_ok {l : List Nat} (h : ∀ c ∈ l, c < 128) : okS (PyData.list [.str (S l)]).shown := by
  show okS (("[" : Str) ++ (("" : String) : Str) ++ reprText (S l) ++ ("]" : Str))
  exact (((okS.lit _ (by decide +kernel)).app (okS.lit _ (by decide +kernel))).app (repr_ok h)).app (okS.lit _ (by decide +kernel))
end Y

set_option Elab.async false
set_option linter.all false
set_option maxRecDepth 100000
set_option maxHeartbeats 4000000
namespace Y
open PySem L2
open PyProof.Rows (envOfC)
open SX (S)
open C8 (Cal pe_c pe_gc)
open LamX (Tabs TabS ExtN CodeO)
/-! ### heaps: all kept but the pail and the tables -/
def KpT (p : Addr) (H H' : Hp) : Prop := ∀ b o, H b = some o → b ≠ p → (∀ ps, o ≠ .tbl ps) → H' b = some o
theorem KpT.refl (p : Addr) (H : Hp) : KpT p H H := fun _ _ e _ _ => e
theorem KpT.trans {p : Addr} {H H1 H2 : Hp} (a : KpT p H H1) (b : KpT p H1 H2) : KpT p H H2 := fun c o e n t => b c o (a c o e n t) n t
theorem KpT.ofX {p : Addr} {H H' : Hp} (k : KpX p H H') : KpT p H H' := fun b o e n _ => k b o e n
theorem KpT.ofN {p : Addr} {H H' : Hp} (k : ExtN H H') : KpT p H H' := fun b o e _ t => k b o e t
theorem KpT.of {p : Addr} {H H' : Hp} (k : Same H H') : KpT p H H' := fun b o e _ _ => k b o e
theorem PailAt.ext {p : Addr} {H H' : Hp} (h : PailAt H p) (k : ExtN H H') : PailAt H' p := by
  obtain ⟨a, b, c, hb, e⟩ := h.ex
  exact ⟨a, b, c, hb, k _ _ e fun _ => nofun⟩
theorem KpT.tup {p : Addr} {H H' : Hp} {K : PySem.W.Frag} {a : Addr} {xs : List V} (k : KpT p H H') (h : PailAt H p) (t : SqT K H a xs) : SqT K H' a xs := by
  obtain ⟨x, b, c, _, e⟩ := h.ex
  rcases t with (t | ⟨o, t⟩) | t
  · exact .inl (.inl (k _ _ t (fun z => by subst z; rw [e] at t; cases t) fun _ => nofun))
  · exact .inl (.inr ⟨o, k _ _ t (fun z => by subst z; rw [e] at t; cases t) fun _ => nofun⟩)
  · exact .inr t
theorem KpT.kt {p : Addr} {H H' : Hp} {a : Addr} {xs : List V} (k : KpT p H H') (hP : PailAt H p) (h : KTup H a xs) : KTup H' a xs := by
  obtain ⟨o, e, d⟩ := h
  obtain ⟨x, b, c, _, e2⟩ := hP.ex
  exact ⟨o, k _ _ e (fun z => by subst z; rw [e2] at e; cases e) fun _ => nofun, d⟩
theorem GridAt.kpt {K : PySem.W.Frag} {H H' : Hp} {t p : Addr} {g : Gr} (h : GridAt K H t g) (hP : PailAt H p) (k : KpT p H H') : GridAt K H' t g := by
  obtain ⟨as, h1, h2, h3⟩ := h.ex
  exact ⟨as, k.tup hP h1, h2, fun i a r x y => k.tup hP (h3 i a r x y)⟩
theorem YardAt.kpt {K : PySem.W.Frag} {C p : Addr} {H H' : Hp} {y : Addr} {zs : List (List Nat)} {g : Gr} (h : YardAt K C H y zs g) (hP : PailAt H p) (k : KpT p H H') : YardAt K C H' y zs g := by
  obtain ⟨dx, tz, tg, h1, h2, h3⟩ := h.ex0
  refine ⟨⟨dx, tz, tg, k _ _ h1 (fun z => ?_) (fun _ => nofun), k.kt hP h2, h3.kpt hP k⟩, h.good⟩
  subst z
  obtain ⟨a, b, c, _, e⟩ := hP.ex
  rw [e] at h1
  cases h1
/-- the tables stay where all but the pail stays -/
theorem tabs_kpx {T : List (Addr × Str)} {H H' : Hp} {p : Addr} (t : Tabs T H) (hP : PailAt H p) (k : KpX p H H') : Tabs T H' := fun q hq => by
  obtain ⟨ps, h1, h2, h3⟩ := t q hq
  obtain ⟨x, b, c, _, e⟩ := hP.ex
  refine ⟨ps, k _ _ h1 (fun z => by rw [z, e] at h1; cases h1), h2, fun pos cv hc => ?_⟩
  obtain ⟨c, e1, e2⟩ := h3 pos cv hc
  exact ⟨c, e1, k _ _ e2 fun z => by rw [z, e] at e2; cases e2⟩
/-! ### values that are not the pail -/
mutual
def no3 : PyData → Bool
  | .list ds => ds.length != 3 && no3s ds
  | .tuple ds => no3s ds
  | _ => true
def no3s : List PyData → Bool
  | [] => true
  | d :: ds => no3 d && no3s ds
end
theorem DpAll.len {K : PySem.W.Frag} {H : Hp} : ∀ {vs : List V} {ds : List PyData}, DpAll K H vs ds → vs.length = ds.length
  | _, _, .nil => rfl
  | _, _, .cons _ h => congrArg (· + 1) (DpAll.len h)
theorem seq_kpt {K : PySem.W.Frag} {H H' : Hp} {p a : Addr} {xs : List V} (hP : PailAt H p) (k : KpT p H H') (n : xs.length ≠ 3) (h : SqL K H a xs) : SqL K H' a xs := by
  obtain ⟨x, b, c, _, e⟩ := hP.ex
  rcases h with (h | ⟨o, h⟩) | h
  · refine .inl (.inl (k _ _ h (fun z => ?_) fun _ => nofun))
    subst z
    rw [e] at h
    cases h
    exact n rfl
  · exact .inl (.inr ⟨o, k _ _ h (fun z => by subst z; rw [e] at h; cases h) fun _ => nofun⟩)
  · exact .inr h
mutual
theorem dp_kpt {K : PySem.W.Frag} {H H' : Hp} {p : Addr} (hP : PailAt H p) (k : KpT p H H') : ∀ (d : PyData) (v : V), no3 d = true → Dp K H v d → Dp K H' v d
  | .none, _, _, h => by cases h; exact .non
  | .bool _, _, _, h => by cases h; exact .bl _
  | .int _, _, _, h => by cases h; exact .int _
  | .str _, _, _, h => by cases h; exact .str _
  | .list ds, _, n, h => by
    cases h with
    | lst h1 h2 =>
      rw [no3, Bool.and_eq_true] at n
      exact .lst (seq_kpt hP k (by rw [DpAll.len h2]; simpa using n.1) h1) (dp_kpts hP k ds _ n.2 h2)
  | .tuple ds, _, n, h => by
    cases h with
    | tup h1 h2 =>
      rw [no3] at n
      exact .tup (k.tup hP h1) (dp_kpts hP k ds _ n h2)
  | .dict _, _, _, h => by cases h
theorem dp_kpts {K : PySem.W.Frag} {H H' : Hp} {p : Addr} (hP : PailAt H p) (k : KpT p H H') : ∀ (ds : List PyData) (vs : List V), no3s ds = true → DpAll K H vs ds → DpAll K H' vs ds
  | [], _, _, h => by cases h; exact .nil
  | d :: ds, _, n, h => by
    cases h with
    | cons h1 h2 =>
      rw [no3s, Bool.and_eq_true] at n
      exact .cons (dp_kpt hP k d _ n.1 h1) (dp_kpts hP k ds _ n.2 h2)
end
/-- a value, how it is shown, and that it is not the pail -/
def OddV (K : PySem.W.Frag) (H : Hp) (v : V) (z : Str) : Prop := okS z ∧
  ((∃ d, Dp K H v d ∧ no3 d = true ∧ d.showable = true ∧ d.shown.length ≤ sizeLine ∧ d.depth ≤ 10 ∧ z = d.shown) ∨
    ∃ a kvs ds, v = .ref a ∧ H a = some (.dK kvs) ∧ kvsD flatD kvs = some ds ∧ (PyData.dict ds).showable = true ∧ (PyData.dict ds).shown.length ≤ sizeLine ∧ (PyData.dict ds).depth ≤ 10 ∧ z = (PyData.dict ds).shown)
theorem OddV.show {K : PySem.W.Frag} {H : Hp} {v : V} {z : Str} (h : OddV K H v z) : ShowS K H v z := by
  rcases h.2 with ⟨d, h1, _, h2⟩ | h
  · exact .inl ⟨d, h1, h2⟩
  · exact .inr h
theorem OddV.kpt {K : PySem.W.Frag} {H H' : Hp} {p : Addr} {v : V} {z : Str} (h : OddV K H v z) (hP : PailAt H p) (k : KpT p H H') : OddV K H' v z := by
  refine ⟨h.1, ?_⟩
  rcases h.2 with ⟨d, h1, h2, h3⟩ | ⟨a, kvs, ds, e, h1, h2⟩
  · exact .inl ⟨d, dp_kpt hP k d v h2 h1, h2, h3⟩
  · obtain ⟨x, b, c, _, e2⟩ := hP.ex
    exact .inr ⟨a, kvs, ds, e, k _ _ h1 (fun z => by subst z; rw [e2] at h1; cases h1) (fun _ => nofun), h2⟩
theorem OddV.same {K : PySem.W.Frag} {H H' : Hp} {v : V} {z : Str} (h : OddV K H v z) (k : Same H H') : OddV K H' v z := by
  refine ⟨h.1, ?_⟩
  rcases h.2 with ⟨d, h1, h2⟩ | ⟨a, kvs, ds, e, h1, h2⟩
  · exact .inl ⟨d, dp_same k d v h1, h2⟩
  · exact .inr ⟨a, kvs, ds, e, k _ _ h1, h2⟩
theorem OddV.of {K : PySem.W.Frag} {H : Hp} {v : V} {d : PyData} {w : Nat} (h : Dp K H v d) (n : no3 d = true) (F : Fit d w) (hw : w ≤ 100000) (ok : okS d.shown) : OddV K H v d.shown :=
  let f := fit_out F hw
  ⟨ok, .inl ⟨d, h, n, f.1, f.2.1, f.2.2, rfl⟩⟩
theorem menu_no3 : ∀ d ∈ menuD, no3 d = true ∧ PyData.strOk d.shown = true := by decide +kernel
theorem AnyV.odd {K : PySem.W.Frag} {H : Hp} {v : V} (h : AnyV K H v) : ∃ z, OddV K H v z := by
  rcases h with ⟨d, hd, h⟩ | ⟨a, kvs, rfl, h, e | e⟩
  · obtain ⟨f1, f2, f3⟩ := menu_fit d hd
    exact ⟨_, okS.of (menu_no3 d hd).2, .inl ⟨d, h, (menu_no3 d hd).1, f1, Nat.le_trans f2 (by decide), f3, rfl⟩⟩
  · subst e
    exact ⟨_, okS.of (by decide +kernel), .inr ⟨a, _, [], rfl, h, rfl, by decide +kernel, by decide +kernel, by decide +kernel, rfl⟩⟩
  · subst e
    exact ⟨_, okS.of (by decide +kernel), .inr ⟨a, _, [(.str "a", .int 1)], rfl, h, rfl, by decide +kernel, by decide +kernel, by decide +kernel, rfl⟩⟩
/-! ### a def whose code object is known -/
structure DfL (K : PySem.W.Frag) (mg : Str → Option Value) (x : Str) (st : Stmt) (ps : List Str) (c : Addr) : Prop where
  ex : ∃ (f : Addr) (oc : Value) (od : Option Addr) (kV doc pm : Value) (an : Option Addr) (ct : Value) (osl : Array (Option Value)),
    K.lookup f = some ⟨oc, od, .func (PySem.W.fnOf x x (defArgs st) (defBody st) (defScope st) .none kV doc pm an (.ref c) ct), osl⟩ ∧ PySem.W.codeIn K (.ref c) x = true ∧ PySem.W.keepIn K (.ref f) = true ∧
    Binds K (PySem.W.fnOf x x (defArgs st) (defBody st) (defScope st) .none kV doc pm an (.ref c) ct) ps [] ∧ mg x = some (.ref f)
section
variable {P : Program} {w : World} {K : PySem.W.Frag} {mg : Str → Option Value} {base : Heap}
theorem calGL {x : Str} {st : Stmt} {N ps : List Str} {k : Nat} {c : Addr} {sp : Sp} (D : DfL K mg x st ps c) (S : FnScope N ps (defScope st)) (len : ∀ vs H Q E, sp vs H Q E → vs.length = ps.length)
    (hbody : ∀ (f : Addr) (A : Around) (outer : List Env) (s : Shared) (H : Hp) (vs : List V) (Q : VK) (E : XK), Room k (A.deeper (envOfC x (defScope st) s.heap.objs.size f (.ref c))) → A.guards = some [] → sp vs H Q E →
      ∃ t, PSs (cxOf CX0 P w K mg base N x (defScope st) f (.ref c) A outer s H E).nox (defBody st) t ∧ t { nx := fun _ H' => Q .non H', rt := Q } (L2.start N vs) H) : CalG P w K mg base (k + 1) x sp := by
  obtain ⟨f, oc, od, kV, doc, pm, an, ct, osl, lk, hcd, hkp, b, g⟩ := D.ex
  refine ⟨f, _, ps, ⟨len, fun A outer s H args us vs Q E hr hA e0 hb r hsp => ?_⟩, g, hkp, b⟩
  have kept : ∀ b o, base.get? b = some o → s.heap.get? b = some o := fun b o e => (e0.bs b o e).1
  have KX : K.In s.heap := e0.mod.kin.keeps kept
  refine codeAny_call_function hr.depth (KX _ _ lk) rfl S.co S.gen rfl (PySem.W.codeRec_of KX hcd) (hb _ _ _ _ ?_)
  refine wpAny_newFunctionEnv_cells S.kind (fun ⟨n, v⟩ hy => ?_) fun env he s1 x => ?_
  · rcases S.par n (List.of_mem_zip hy).1 with q | q
    · exact .inl q
    · exact .inr ⟨q, PySem.W.cellsFrom_some _ _ _ (.inl q)⟩
  subst he
  refine ⟨(e0.mod.nolimit.keeps kept).keeps x.toInCall.keep, codeAny_func ?_⟩
  obtain ⟨t, ht, hq⟩ := hbody f A outer s H vs Q E (hr.deeper _) hA hsp
  refine wpAny_mono (ht.nox.run [] s1 (L2.start N vs) H _ (inv_start S hr.hd e0 (len _ _ _ _ hsp) r x) hq) (fun fl s' hs => ?_) fun e s' hs => hs
  cases fl with
  | ret u =>
    obtain ⟨v, σ', H', J, rv, q⟩ := hs
    exact ⟨v, H', J.os, J.bare, J.base, J.hok, rv, q⟩
  | next =>
    obtain ⟨σ', H', J, q⟩ := hs
    exact ⟨.non, H', J.os, J.bare, J.base, J.hok, rfl, q⟩
  | brk => exact hs.elim fun _ z => z.elim fun _ y => y.2.elim
  | cont => exact hs.elim fun _ z => z.elim fun _ y => y.2.elim
end
/-- what stays through the law's turns -/
structure RightI (p : Addr) (T : List (Addr × Str)) (H2 H' : Hp) : Prop where
  pl : PailAt H' p
  kp : KpT p H2 H'
  tb : Tabs T H'
theorem RightI.same {p : Addr} {T : List (Addr × Str)} {H2 H' H'' : Hp} (I : RightI p T H2 H') (k : Same H' H'') : RightI p T H2 H'' := ⟨I.pl.same k, I.kp.trans (.of k), I.tb.ext k⟩
def spRightT (T : List (Addr × Str)) : Sp := fun vs H Q _ => ∃ (p : Addr), vs = [.ref p] ∧ PailAt H p ∧ Tabs T H ∧ ∀ H', KpT p H H' → Tabs T H' → Q (.bl true) H'
theorem tabs_updL {T : List (Addr × Str)} {H1 : Hp} {a : Addr} {ls : List V} {o : HO} (t : Tabs T H1) (h : H1 a = some (.lst ls)) : Tabs T (upd H1 a o) := fun q hq => by
  obtain ⟨ps, h1, h2, h3⟩ := t q hq
  refine ⟨ps, by rw [upd_ne (fun z => by rw [z, h] at h1; cases h1)]; exact h1, h2, fun pos cv hc => ?_⟩
  obtain ⟨c, e1, e2⟩ := h3 pos cv hc
  exact ⟨c, e1, by rw [upd_ne (fun z => by rw [z, h] at e2; cases e2)]; exact e2⟩
end Y

set_option Elab.async false
set_option linter.all false
set_option maxRecDepth 100000
set_option maxHeartbeats 4000000
namespace Y
open PySem L2
open PyProof.Rows (envOfC)
open SX (S)
open C8 (Cal pe_c pe_gc)
/-! ### a list beside the empty one -/
def rNeE (K : PySem.W.Frag) : R2 := fun x y H Q => ∃ a b xs, x = .ref a ∧ y = .ref b ∧ SqL K H a xs ∧ SqL K H b [] ∧ Q (.bl (!xs.isEmpty)) H
theorem op_neE {X : Cx} (hu : X.A.units + 64 < cLine) : OpR X (compareOp .NotEq) (rNeE X.K) := by
  intro pins s σ H x y v u Q I rx ry h
  obtain ⟨a, b, xs, rfl, rfl, ha, hb, q⟩ := h
  cases rx
  cases ry
  obtain ⟨its, rv, ⟨o, n, ho, hc, _, hd⟩, _⟩ := I.list ha
  obtain ⟨its2, rv2, ⟨o2, n2, ho2, hc2, _, hd2⟩, _⟩ := I.list hb
  cases rv2
  have hl : s.heap.IsList a its.toArray := ⟨_, ho, hc, _, hd⟩
  have hl2 : s.heap.IsList b #[] := ⟨_, ho2, hc2, _, hd2⟩
  have hu2 : X.A.units < cLine := Nat.lt_of_le_of_lt (Nat.le_add_right _ _) hu
  have key : SeqAt.RcNeAt X.A s (.ref a) (.ref b) (!xs.isEmpty) := by
    cases rv with
    | nil => exact SeqAt.RcNeAt.lists (e := fun _ => true) hl hl2 rfl hu2 fun j j1 => absurd j1 (Nat.not_lt_zero _)
    | cons r rs => exact SeqAt.RcNeAt.lists_lengths hl hl2 (by simp) hu2
  exact key _ _ _ _ ⟨.bl _, H, I, rfl, q⟩
def rEqE (K : PySem.W.Frag) : R2 := fun x y H Q => ∃ a b xs, x = .ref a ∧ y = .ref b ∧ SqL K H a xs ∧ SqL K H b [] ∧ Q (.bl xs.isEmpty) H
theorem op_eqE {X : Cx} (hu : X.A.units + 64 < cLine) : OpR X (compareOp .Eq) (rEqE X.K) := by
  intro pins s σ H x y v u Q I rx ry h
  obtain ⟨a, b, xs, rfl, rfl, ha, hb, q⟩ := h
  cases rx
  cases ry
  obtain ⟨its, rv, ⟨o, n, ho, hc, _, hd⟩, _⟩ := I.list ha
  obtain ⟨its2, rv2, ⟨o2, n2, ho2, hc2, _, hd2⟩, _⟩ := I.list hb
  cases rv2
  have hl : s.heap.IsList a its.toArray := ⟨_, ho, hc, _, hd⟩
  have hl2 : s.heap.IsList b #[] := ⟨_, ho2, hc2, _, hd2⟩
  have hu2 : X.A.units < cLine := Nat.lt_of_le_of_lt (Nat.le_add_right _ _) hu
  have key : SeqAt.RcAt X.A s (.ref a) (.ref b) xs.isEmpty := by
    cases rv with
    | nil => exact SeqAt.RcAt.lists (e := fun _ => true) hl hl2 rfl hu2 fun j j1 => absurd j1 (Nat.not_lt_zero _)
    | cons r rs => exact SeqAt.RcAt.lists_lengths hl hl2 (by simp) hu2
  exact key _ _ _ _ ⟨.bl _, H, I, rfl, q⟩
/-! ### values that are not the pail -/
inductive TopV (K : PySem.W.Frag) (p : Addr) (H : Hp) : Bool → V → Prop
  | str (z : List Nat) : z.length ≤ 1000 → (∀ c ∈ z, c < 128) → TopV K p H false (vS z)
  | non : TopV K p H false .non
  | bl (b : Bool) : TopV K p H false (.bl b)
  | int (i : Int) : TopV K p H false (.int i)
  | tup {a : Addr} {xs : List V} : SqT K H a xs → TopV K p H true (.ref a)
  | lst {a : Addr} {xs : List V} : H a = some (.lst xs) → a ≠ p → TopV K p H false (.ref a)
  | frz {a : Addr} {o : Obj} {xs : List V} : H a = some (.frz o (.lst xs)) → TopV K p H false (.ref a)
  | kls {a : Addr} {xs : List V} : (∀ H', SqL K H' a xs) → TopV K p H false (.ref a)
  | dic {a : Addr} {kvs : List (Key × V)} : H a = some (.dK kvs) → TopV K p H false (.ref a)
theorem TopV.kpt {K : PySem.W.Frag} {H H' : Hp} {p : Addr} {b : Bool} {v : V} (h : TopV K p H b v) (hP : PailAt H p) (k : KpT p H H') : TopV K p H' b v := by
  obtain ⟨x, y, z, _, e⟩ := hP.ex
  cases h with
  | str z h1 h2 => exact .str z h1 h2
  | non => exact .non
  | bl b => exact .bl b
  | int i => exact .int i
  | tup h => exact .tup (k.tup hP h)
  | lst h n => exact .lst (k _ _ h n fun _ => nofun) n
  | frz h => exact .frz (k _ _ h (fun z => by subst z; rw [e] at h; cases h) fun _ => nofun)
  | kls h => exact .kls h
  | dic h => exact .dic (k _ _ h (fun z => by subst z; rw [e] at h; cases h) fun _ => nofun)
theorem TopV.kpx {K : PySem.W.Frag} {H H' : Hp} {p : Addr} {b : Bool} {v : V} (h : TopV K p H b v) (hP : PailAt H p) (k : KpX p H H') : TopV K p H' b v := h.kpt hP (KpT.ofX k)
theorem TopV.same {K : PySem.W.Frag} {H H' : Hp} {p : Addr} {b : Bool} {v : V} (h : TopV K p H b v) (hP : PailAt H p) (k : Same H H') : TopV K p H' b v := h.kpt hP (KpT.of k)
/-- lists of signs, short -/
def OkL (n : Nat) (l : List Nat) : Prop := l.length ≤ n ∧ ∀ c ∈ l, c < 128
theorem OkL.top {K : PySem.W.Frag} {p : Addr} {H : Hp} {n : Nat} {l : List Nat} (h : OkL n l) (hn : n ≤ 1000) : TopV K p H false (vS l) := .str l (Nat.le_trans h.1 hn) h.2
theorem OkL.cut {n : Nat} {z : List Nat} (h : OkL n z) (lo hi : Option Int) : ∃ l, cutS (S z) lo hi = S l ∧ OkL n l :=
  ⟨((S z).cps.toList.drop (HT.sIx (S z).length 0 lo)).take (HT.sIx (S z).length (S z).length hi - HT.sIx (S z).length 0 lo), rfl, Nat.le_trans (List.length_take_le' _ _) (by rw [List.length_drop]; exact Nat.le_trans (Nat.sub_le _ _) h.1), fun c hc => h.2 c (List.mem_of_mem_drop (List.mem_of_mem_take hc))⟩
theorem OkL.cat {n m : Nat} {a b : List Nat} (h : OkL n a) (h2 : OkL m b) : OkL (n + m) (a ++ b) := ⟨by rw [List.length_append]; exact Nat.add_le_add h.1 h2.1, fun c hc => by rcases List.mem_append.mp hc with h' | h'; exact h.2 c h'; exact h2.2 c h'⟩
theorem OkL.le {n : Nat} {z : List Nat} (h : OkL n z) (hn : n ≤ 100000) : (S z).length ≤ sizeLine := S_ge h.1 hn
theorem OkL.up {n : Nat} {z : List Nat} (h : OkL n z) : OkL n (z.map PyProof.Rows.up1) := ⟨by rw [List.length_map]; exact h.1, fun c hc => by
  obtain ⟨d, hd, rfl⟩ := List.mem_map.mp hc
  have := h.2 d hd
  unfold PyProof.Rows.up1
  split <;> omega⟩
theorem IsName.okL {z : List Nat} (h : IsName z) : OkL 8 z := ⟨h.len.2, fun c hc => name_ch h hc⟩
def topD (d : PyData) : Bool := match d with | .str x => decide (x.cps.toList.length ≤ 1000) && x.cps.toList.all (fun c => decide (c < 128)) | .list ds => ds.length != 3 | .dict _ => false | _ => true
def someD (d : PyData) : Bool := match d with | .tuple ds => decide (ds.length ≤ 10) && ds.all topD | _ => true
theorem menu_top : ∀ d ∈ menuD, topD d = true ∧ someD d = true := by decide +kernel
theorem dp_top {K : PySem.W.Frag} {H : Hp} {p : Addr} {v : V} {d : PyData} (hm : topD d = true) (h : Dp K H v d) (hP : PailAt H p) : ∃ b, TopV K p H b v := by
  obtain ⟨x, y, z, _, e⟩ := hP.ex
  cases h with
  | non => exact ⟨_, .non⟩
  | bl b => exact ⟨_, .bl b⟩
  | int i => exact ⟨_, .int i⟩
  | str x =>
    unfold topD at hm
    simp only [Bool.and_eq_true, decide_eq_true_eq] at hm
    refine ⟨false, ?_⟩
    rw [← SX.S_tl x]
    exact .str _ hm.1 fun c hc => of_decide_eq_true (List.all_eq_true.mp hm.2 c hc)
  | @lst a xs ds h1 h2 =>
    rcases h1 with (h1 | ⟨o, h1⟩) | h1
    · refine ⟨_, .lst h1 fun z => ?_⟩
      subst z
      rw [e] at h1
      cases h1
      have := DpAll.len h2
      simp only [List.length_cons, List.length_nil] at this
      have hm : (ds.length != 3) = true := hm
      rw [← this] at hm
      exact absurd hm (by decide)
    · exact ⟨_, .frz h1⟩
    · exact ⟨_, .kls fun H' => .inr h1⟩
  | tup h1 h2 => exact ⟨_, .tup h1⟩
theorem AnyV.top {K : PySem.W.Frag} {H : Hp} {p : Addr} {v : V} (h : AnyV K H v) (hP : PailAt H p) : ∃ b, TopV K p H b v := by
  rcases h with ⟨d, hd, h⟩ | ⟨a, kvs, rfl, h, _⟩
  · exact dp_top (menu_top d hd).1 h hP
  · exact ⟨_, .dic h⟩
theorem dps_top {K : PySem.W.Frag} {H : Hp} {p : Addr} (hP : PailAt H p) : ∀ {ds : List PyData} {xs : List V}, ds.all topD = true → DpAll K H xs ds → ∀ x ∈ xs, ∃ b, TopV K p H b x
  | [], _, _, h, x, hx => by
    cases h
    cases hx
  | d :: ds, _, n, h, x, hx => by
    cases h with
    | cons h1 h2 =>
      rw [List.all_cons, Bool.and_eq_true] at n
      rcases List.mem_cons.mp hx with rfl | hx
      · exact dp_top n.1 h1 hP
      · exact dps_top hP n.2 h2 x hx
/-- what may stand for kinds, or rows -/
inductive SomeV (K : PySem.W.Frag) (p : Addr) (H : Hp) : V → Prop
  | tup {a : Addr} {xs : List V} : SqT K H a xs → xs.length ≤ 10 → (∀ x ∈ xs, ∃ b, TopV K p H b x) → SomeV K p H (.ref a)
  | no {v : V} : TopV K p H false v → SomeV K p H v
theorem SomeV.kpt {K : PySem.W.Frag} {H H' : Hp} {p : Addr} {v : V} (h : SomeV K p H v) (hP : PailAt H p) (k : KpT p H H') : SomeV K p H' v := by
  cases h with
  | tup h1 h2 h3 => exact .tup (k.tup hP h1) h2 fun x hx => let ⟨b, hb⟩ := h3 x hx; ⟨b, hb.kpt hP k⟩
  | no h => exact .no (h.kpt hP k)
theorem AnyV.some {K : PySem.W.Frag} {H : Hp} {p : Addr} {v : V} (h : AnyV K H v) (hP : PailAt H p) : SomeV K p H v := by
  rcases h with ⟨d, hd, h⟩ | ⟨a, kvs, rfl, h, _⟩
  · obtain ⟨m1, m2⟩ := menu_top d hd
    cases h with
    | tup h1 h2 =>
      unfold someD at m2
      simp only [Bool.and_eq_true, decide_eq_true_eq] at m2
      exact .tup h1 (by rw [DpAll.len h2]; exact m2.1) (dps_top hP m2.2 h2)
    | non => exact .no .non
    | bl b => exact .no (.bl b)
    | int i => exact .no (.int i)
    | str x =>
      obtain ⟨b, hb⟩ := dp_top (K := K) m1 (.str x) hP
      cases hb with
      | str z h1 h2 => exact .no (.str z h1 h2)
    | @lst a xs ds h1 h2 =>
      obtain ⟨x, y, z, _, e⟩ := hP.ex
      rcases h1 with (h1 | ⟨o, h1⟩) | h1
      · refine .no (.lst h1 fun z => ?_)
        subst z
        rw [e] at h1
        cases h1
        have := DpAll.len h2
        simp only [List.length_cons, List.length_nil] at this
        have hm : (ds.length != 3) = true := m1
        rw [← this] at hm
        exact absurd hm (by decide)
      · exact .no (.frz h1)
      · exact .no (.kls fun H' => .inr h1)
  · exact .no (.dic h)
theorem kit_seven : kitB "NoneType" "str" = some false ∧ kitB "bool" "str" = some false ∧ kitB "int" "str" = some false ∧ kitB "list" "str" = some false ∧ kitB "tuple" "str" = some false ∧ kitB "dict" "str" = some false := by decide +kernel
theorem kit_sevenT : kitB "NoneType" "tuple" = some false ∧ kitB "bool" "tuple" = some false ∧ kitB "int" "tuple" = some false ∧ kitB "list" "tuple" = some false ∧ kitB "str" "tuple" = some false ∧ kitB "dict" "tuple" = some false := by decide +kernel
theorem TopV.ell {K : PySem.W.Frag} {H : Hp} {p : Addr} {b : Bool} {v : V} (h : TopV K p H b v) : (∃ z, v = vS z ∧ z.length ≤ 1000 ∧ ∀ c ∈ z, c < 128) ∨ NoStr K H v := by
  obtain ⟨k1, k2, k3, k4, k5, k6⟩ := kit_seven
  cases h with
  | str z h1 h2 => exact .inl ⟨z, rfl, h1, h2⟩
  | non => exact .inr ⟨nofun, _, k1, .base .non⟩
  | bl b => exact .inr ⟨nofun, _, k2, .base (.bl b)⟩
  | int i => exact .inr ⟨nofun, _, k3, .base (.int i)⟩
  | tup h => exact .inr ⟨nofun, _, k5, ty_tup h⟩
  | lst h n => exact .inr ⟨nofun, _, k4, ty_lst (SqL.of h)⟩
  | frz h => exact .inr ⟨nofun, _, k4, ty_lst (.inl (.inr ⟨_, h⟩))⟩
  | kls h => exact .inr ⟨nofun, _, k4, ty_lst (h H)⟩
  | dic h => exact .inr ⟨nofun, _, k6, .base (.dK h)⟩
theorem TopV.elv {K : PySem.W.Frag} {H : Hp} {p : Addr} {b : Bool} {v : V} (h : TopV K p H b v) : ElV K H v := by
  rcases h.ell with ⟨z, h1, h2, _⟩ | h
  · exact .inl ⟨z, h1, h2⟩
  · exact .inr h
theorem TopV.noT {K : PySem.W.Frag} {H : Hp} {p : Addr} {v : V} (h : TopV K p H false v) : NoTup K H v := by
  obtain ⟨k1, k2, k3, k4, k5, k6⟩ := kit_sevenT
  cases h with
  | str z h1 h2 => exact ⟨_, k5, .base (.str _)⟩
  | non => exact ⟨_, k1, .base .non⟩
  | bl b => exact ⟨_, k2, .base (.bl b)⟩
  | int i => exact ⟨_, k3, .base (.int i)⟩
  | lst h n => exact ⟨_, k4, ty_lst (SqL.of h)⟩
  | frz h => exact ⟨_, k4, ty_lst (.inl (.inr ⟨_, h⟩))⟩
  | kls h => exact ⟨_, k4, ty_lst (h H)⟩
  | dic h => exact ⟨_, k6, .base (.dK h)⟩
theorem kit_ints : kitB "NoneType" "int" = some false ∧ kitB "NoneType" "bool" = some false ∧ kitB "bool" "int" = some true ∧ kitB "bool" "bool" = some true ∧ kitB "list" "int" = some false ∧ kitB "list" "bool" = some false ∧ kitB "str" "int" = some false ∧ kitB "str" "bool" = some false ∧
    kitB "tuple" "int" = some false ∧ kitB "tuple" "bool" = some false ∧ kitB "dict" "int" = some false ∧ kitB "dict" "bool" = some false := by decide +kernel
theorem TopV.num {K : PySem.W.Frag} {H : Hp} {p : Addr} {b : Bool} {v : V} (h : TopV K p H b v) : NumV K H v := by
  obtain ⟨a1, a2, b1, b2, l1, l2, s1, s2, t1, t2, d1, d2⟩ := kit_ints
  cases h with
  | str z h1 h2 => exact .inr ⟨nofun, _, _, _, .base (.str _), s1, s2, rfl⟩
  | non => exact .inr ⟨nofun, _, _, _, .base .non, a1, a2, rfl⟩
  | bl b => exact .inr ⟨nofun, _, _, _, .base (.bl b), b1, b2, rfl⟩
  | int i => exact .inl ⟨i, rfl⟩
  | tup h => exact .inr ⟨nofun, _, _, _, ty_tup h, t1, t2, rfl⟩
  | lst h n => exact .inr ⟨nofun, _, _, _, ty_lst (SqL.of h), l1, l2, rfl⟩
  | frz h => exact .inr ⟨nofun, _, _, _, ty_lst (.inl (.inr ⟨_, h⟩)), l1, l2, rfl⟩
  | kls h => exact .inr ⟨nofun, _, _, _, ty_lst (h H), l1, l2, rfl⟩
  | dic h => exact .inr ⟨nofun, _, _, _, .base (.dK h), d1, d2, rfl⟩
/-- a change of a list that is no pail leaves what values are -/
theorem TopV.updL {K : PySem.W.Frag} {H : Hp} {p l : Addr} {b : Bool} {v : V} {xs ys : List V} (h : TopV K p H b v) (hl : H l = some (.lst xs)) : TopV K p (upd H l (.lst ys)) b v := by
  have ne : ∀ {a : Addr} {o : HO}, H a = some o → (∀ zs, o ≠ .lst zs) → (upd H l (.lst ys)) a = some o := fun {a o} e n => by
    rw [upd_ne (fun z => by subst z; rw [hl] at e; cases e; exact n _ rfl)]
    exact e
  cases h with
  | str z h1 h2 => exact .str z h1 h2
  | non => exact .non
  | bl b => exact .bl b
  | int i => exact .int i
  | tup h =>
    rcases h with (h | ⟨o, h⟩) | h
    · exact .tup (.inl (.inl (ne h fun _ => nofun)))
    · exact .tup (.inl (.inr ⟨o, ne h fun _ => nofun⟩))
    · exact .tup (.inr h)
  | @lst a zs h n =>
    by_cases e : a = l
    · subst e
      exact .lst upd_same n
    · exact .lst (by rw [upd_ne e]; exact h) n
  | frz h => exact .frz (ne h fun _ => nofun)
  | kls h => exact .kls h
  | dic h => exact .dic (ne h fun _ => nofun)
theorem dp_nt {K : PySem.W.Frag} {H : Hp} {p : Addr} {v : V} {d : PyData} (m1 : topD d = true) (nt : ∀ ds, d ≠ .tuple ds) (h : Dp K H v d) (hP : PailAt H p) : TopV K p H false v := by
  cases h with
  | tup h1 h2 => exact absurd rfl (nt _)
  | non => exact .non
  | bl b => exact .bl b
  | int i => exact .int i
  | str x =>
    obtain ⟨b, hb⟩ := dp_top (K := K) m1 (.str x) hP
    cases hb with
    | str z h1 h2 => exact .str z h1 h2
  | @lst a xs ds h1 h2 =>
    obtain ⟨x, y, z, _, e⟩ := hP.ex
    rcases h1 with (h1 | ⟨o, h1⟩) | h1
    · refine .lst h1 fun z => ?_
      subst z
      rw [e] at h1
      cases h1
      have := DpAll.len h2
      simp only [List.length_cons, List.length_nil] at this
      have hm : (ds.length != 3) = true := m1
      rw [← this] at hm
      exact absurd hm (by decide)
    · exact .frz h1
    · exact .kls fun H' => .inr h1
theorem dp_some {K : PySem.W.Frag} {H : Hp} {p : Addr} {v : V} {d : PyData} (m1 : topD d = true) (m2 : someD d = true) (h : Dp K H v d) (hP : PailAt H p) : SomeV K p H v := by
  cases h with
  | tup h1 h2 =>
    unfold someD at m2
    simp only [Bool.and_eq_true, decide_eq_true_eq] at m2
    exact .tup h1 (by rw [DpAll.len h2]; exact m2.1) (dps_top hP m2.2 h2)
  | non => exact .no .non
  | bl b => exact .no (.bl b)
  | int i => exact .no (.int i)
  | str x => exact .no (dp_nt m1 (fun _ => nofun) (.str x) hP)
  | lst h1 h2 => exact .no (dp_nt m1 (fun _ => nofun) (.lst h1 h2) hP)
theorem SomeV.updL {K : PySem.W.Frag} {H : Hp} {p l : Addr} {v : V} {xs ys : List V} (h : SomeV K p H v) (hl : H l = some (.lst xs)) : SomeV K p (upd H l (.lst ys)) v := by
  cases h with
  | @tup a zs h1 h2 h3 =>
    have ht := (TopV.tup (p := p) h1).updL (ys := ys) hl
    cases ht with
    | @tup a zs' h' =>
      refine .tup (xs := zs) ?_ h2 fun x hx => let ⟨b, hb⟩ := h3 x hx; ⟨b, hb.updL hl⟩
      rcases h1 with (h | ⟨o, h⟩) | h
      · exact .inl (.inl (by rw [upd_ne (fun z => by subst z; rw [hl] at h; cases h)]; exact h))
      · exact .inl (.inr ⟨o, by rw [upd_ne (fun z => by subst z; rw [hl] at h; cases h)]; exact h⟩)
      · exact .inr h
  | no h => exact .no (h.updL hl)
/-- what may stand for rows -/
inductive OutV (K : PySem.W.Frag) (p : Addr) (H : Hp) : V → Prop
  | tup {a : Addr} {xs : List V} : SqT K H a xs → xs.length ≤ 10 → (∀ x ∈ xs, SomeV K p H x) → OutV K p H (.ref a)
  | no {v : V} : TopV K p H false v → OutV K p H v
theorem OutV.kpt {K : PySem.W.Frag} {H H' : Hp} {p : Addr} {v : V} (h : OutV K p H v) (hP : PailAt H p) (k : KpT p H H') : OutV K p H' v := by
  cases h with
  | tup h1 h2 h3 => exact .tup (k.tup hP h1) h2 fun x hx => (h3 x hx).kpt hP k
  | no h => exact .no (h.kpt hP k)
def outD (d : PyData) : Bool := match d with | .tuple ds => decide (ds.length ≤ 10) && ds.all fun e => topD e && someD e | _ => true
theorem menu_out : ∀ d ∈ menuD, topD d = true ∧ someD d = true ∧ outD d = true := by decide +kernel
theorem dps_some {K : PySem.W.Frag} {H : Hp} {p : Addr} (hP : PailAt H p) : ∀ {ds : List PyData} {xs : List V}, (ds.all fun e => topD e && someD e) = true → DpAll K H xs ds → ∀ x ∈ xs, SomeV K p H x
  | [], _, _, h, x, hx => by
    cases h
    cases hx
  | d :: ds, _, n, h, x, hx => by
    cases h with
    | cons h1 h2 =>
      rw [List.all_cons, Bool.and_eq_true, Bool.and_eq_true] at n
      rcases List.mem_cons.mp hx with rfl | hx
      · exact dp_some n.1.1 n.1.2 h1 hP
      · exact dps_some hP n.2 h2 x hx
theorem AnyV.out {K : PySem.W.Frag} {H : Hp} {p : Addr} {v : V} (h : AnyV K H v) (hP : PailAt H p) : OutV K p H v := by
  rcases h with ⟨d, hd, h⟩ | ⟨a, kvs, rfl, h, _⟩
  · obtain ⟨m1, m2, m3⟩ := menu_out d hd
    cases h with
    | tup h1 h2 =>
      unfold outD at m3
      simp only [Bool.and_eq_true, decide_eq_true_eq] at m3
      exact .tup h1 (by rw [DpAll.len h2]; exact m3.1) (dps_some hP m3.2 h2)
    | non => exact .no .non
    | bl b => exact .no (.bl b)
    | int i => exact .no (.int i)
    | str x => exact .no (dp_nt m1 (fun _ => nofun) (.str x) hP)
    | lst h1 h2 => exact .no (dp_nt m1 (fun _ => nofun) (.lst h1 h2) hP)
  · exact .no (.dic h)
end Y

set_option Elab.async false
set_option linter.all false
set_option maxRecDepth 100000
set_option maxHeartbeats 4000000
/-! tuple * 0 and tuple * 1 -/
namespace Z
open PySem PySem.Spec PyProof.Rows L2
theorem tuple_mul1 (l : Addr) (items : Array Value) (n : Nat) (dd : Option Addr) (sl : Array (Option Value)) (u : Tok) :
    Meets (Builtin.«tuple.__mul__» ⟨[.ref l, .int 1 u], []⟩) (fun _ R s => s.heap.get? l = some { cls := .type "tuple", dict := dd, data := .seq items n, slots := sl } ∧ R (.ok (.ret (.ref l))) s) :=
  .of_wp fun prog w A R s h => by
    obtain ⟨hp, g, d, tk, os⟩ := s
    obtain ⟨hl, h⟩ := h
    have f1 := AutoSeq1.idx_int
    wp_walk using wpAny_loadPart' hl
    exact ⟨_, rfl, h⟩
theorem tuple_mul0 (l : Addr) (items : Array Value) (n : Nat) (dd : Option Addr) (sl : Array (Option Value)) (u : Tok) (c1 : items.isEmpty = false) :
    Meets (Builtin.«tuple.__mul__» ⟨[.ref l, .int 0 u], []⟩) (fun _ R s => s.heap.get? l = some { cls := .type "tuple", dict := dd, data := .seq items n, slots := sl } ∧
      R (.ok (.ret (Value.ref s.heap.objs.size))) { s with heap := s.heap.push { cls := Value.type "tuple", data := Data.seq #[] }, toks := s.toks }) :=
  .of_wp fun prog w A R s h => by
    obtain ⟨hp, g, d, tk, os⟩ := s
    obtain ⟨hl, h⟩ := h
    have f1 := AutoSeq1.idx_int
    wp_walk using wpAny_loadPart' hl
    exact ⟨_, rfl, h⟩
/-- a tuple so often: once it is itself, not at all it is a new one -/
def rRep1 (K : PySem.W.Frag) : R2 := fun x y H Q => ∃ l xs, x = .ref l ∧ SqT K H l xs ∧ ((y = .int 1 ∧ Q (.ref l) H) ∨ (y = .int 0 ∧ xs ≠ [] ∧ ∀ p, H p = none → Q (.ref p) (upd H p (.tup []))))
theorem op_rep1 {X : Cx} : OpR X (binaryOp .Mult) (rRep1 X.K) := by
  intro pins s σ H x y v u Q I rx ry h
  obtain ⟨l, xs, rfl, hT, h⟩ := h
  cases rx
  obtain ⟨its, r, ⟨⟨cls, dd, data, sl⟩, ho, hc, n, hd⟩, hs⟩ := I.tuple hT
  simp only at hc hd
  subst hc hd
  rcases h with ⟨rfl, q⟩ | ⟨rfl, hne, q⟩
  · obtain ⟨t, rfl⟩ := ry
    refine wpAny_binaryOp_repeat_ref (T := "tuple") (U := "int") (by decide) ⟨_, ho, rfl⟩ (fun s' => typeIs_int s' 1 t) noFill_tuple_mul F.fills_int_mul F.slot_int_rmul repeat_tuple F.slot_int_index.lookup
      (call_meets F.slot_int_rmul (typeIs_int s 1 t) F.entry_int_rmul (F.args_int_rmul_2 _ _) (int_rmul_tuple 1 t l its.toArray n dd sl)
        ⟨ho, rfl, ⟨_, ho, rfl⟩, call_meets F.slot_tuple_mul ⟨_, ho, rfl⟩ F.entry_tuple_mul (F.args_tuple_mul_2 _ _) (tuple_mul1 l its.toArray n dd sl t) ⟨ho, ?_⟩⟩)
    exact ⟨.ref l, H, I, rfl, q⟩
  · obtain ⟨t, rfl⟩ := ry
    have hi : its.toArray.isEmpty = false := by
      cases its with
      | nil => exact absurd (List.eq_nil_of_length_eq_zero r.length) hne
      | cons a b => rfl
    refine wpAny_binaryOp_repeat_ref (T := "tuple") (U := "int") (by decide) ⟨_, ho, rfl⟩ (fun s' => typeIs_int s' 0 t) noFill_tuple_mul F.fills_int_mul F.slot_int_rmul repeat_tuple F.slot_int_index.lookup
      (call_meets F.slot_int_rmul (typeIs_int s 0 t) F.entry_int_rmul (F.args_int_rmul_2 _ _) (int_rmul_tuple 0 t l its.toArray n dd sl)
        ⟨ho, rfl, ⟨_, ho, rfl⟩, call_meets F.slot_tuple_mul ⟨_, ho, rfl⟩ F.entry_tuple_mul (F.args_tuple_mul_2 _ _) (tuple_mul0 l its.toArray n dd sl t hi) ⟨ho, ?_⟩⟩)
    refine ⟨.ref s.heap.objs.size, _, I.laid (t' := s.toks) (o := .tup []) (fun b ob q => Heap.get?_push_of_some _ q) (Nat.le_refl _) ?_, rfl, q _ (I.hok.fresh (Nat.le_refl _))⟩
    exact ⟨Nat.zero_le _, [], .nil, IsTup.new _ _⟩
/-- either way -/
def rRepA (K : PySem.W.Frag) : R2 := fun x y H Q => rRep1 K x y H Q ∨ rRepT K x y H Q
theorem op_repA {X : Cx} : OpR X (binaryOp .Mult) (rRepA X.K) := by
  intro pins s σ H x y v u Q I rx ry h
  rcases h with h | h
  · exact op_rep1 pins s σ H x y v u Q I rx ry h
  · exact op_repT pins s σ H x y v u Q I rx ry h
end Z

set_option Elab.async false
set_option linter.all false
set_option maxRecDepth 100000
set_option maxHeartbeats 4000000
namespace Y
open PySem L2
open PyProof.Rows (envOfC)
open SX (S)
open C8 (Cal pe_c pe_gc)
open LamX (Tabs TabS ExtN CodeO TabB)
/-- where rows are wrong -/
def wrongs (bs : List Bool) : List Nat := (List.range bs.length).filter fun i => !(bs.getD i true)
def dueR (bs : List Bool) : Str := match wrongs bs with
  | [] => ""
  | i :: _ => (PyData.int (i : Nat)).shown
theorem NoTup.same {K : PySem.W.Frag} {H H' : Hp} {v : V} (k : Same H H') (h : NoTup K H v) : NoTup K H' v := by
  obtain ⟨s, h1, h2⟩ := h
  exact ⟨s, h1, TyX.same k h2⟩
/-- a value as a row of so many -/
def RowS (K : PySem.W.Frag) (p : Addr) (H : Hp) (x : V) (n : Nat) (b : Bool) : Prop := (TopV K p H false x ∧ b = false) ∨
  ∃ a ys, x = .ref a ∧ SqT K H a ys ∧ ys.length ≤ 10 ∧ (∀ y ∈ ys, ∃ c, TopV K p H c y) ∧ b = (decide ((ys.length : Int) = (n : Int)) && ys.all numB)
theorem RowS.kpt {K : PySem.W.Frag} {p : Addr} {H H' : Hp} {x : V} {n : Nat} {b : Bool} (h : RowS K p H x n b) (hP : PailAt H p) (k : KpT p H H') : RowS K p H' x n b := by
  rcases h with ⟨h, e⟩ | ⟨a, ys, e, h1, h2, h3, h4⟩
  · exact .inl ⟨h.kpt hP k, e⟩
  · exact .inr ⟨a, ys, e, k.tup hP h1, h2, fun y hy => let ⟨c, hc⟩ := h3 y hy; ⟨c, hc.kpt hP k⟩, h4⟩
theorem RowS.is {K : PySem.W.Frag} {p : Addr} {H : Hp} {x : V} {n : Nat} {b : Bool} (h : RowS K p H x n b) : RowIs K H x n b := by
  rcases h with ⟨h, e⟩ | ⟨a, ys, e, h1, h2, h3, h4⟩
  · exact .inl ⟨h.noT, e⟩
  · exact .inr ⟨a, ys, e, h1, by omega, fun y hy => let ⟨c, hc⟩ := h3 y hy; hc.num, h4⟩
theorem SomeV.rowS {K : PySem.W.Frag} {p : Addr} {H : Hp} {x : V} (h : SomeV K p H x) (n : Nat) : ∃ b, RowS K p H x n b := by
  cases h with
  | tup h1 h2 h3 => exact ⟨_, .inr ⟨_, _, rfl, h1, h2, h3, rfl⟩⟩
  | no h => exact ⟨_, .inl ⟨h, rfl⟩⟩
/-- a value as rows of a table, and what is due -/
def OutS (K : PySem.W.Frag) (p : Addr) (H : Hp) (v : V) (n : Nat) (due : Str) : Prop := (TopV K p H false v ∧ due = "None") ∨ ∃ t xs, v = .ref t ∧ SqT K H t xs ∧ xs.length ≤ 10 ∧ ((xs.length ≠ n ∧ due = "None") ∨
  (xs.length = n ∧ ∃ bs : List Bool, bs.length = n ∧ (∀ (i : Nat) (x : V) (b : Bool), xs[i]? = some x → bs[i]? = some b → RowS K p H x n b) ∧ due = dueR bs))
theorem OutS.kpt {K : PySem.W.Frag} {p : Addr} {H H' : Hp} {v : V} {n : Nat} {due : Str} (h : OutS K p H v n due) (hP : PailAt H p) (k : KpT p H H') : OutS K p H' v n due := by
  rcases h with ⟨h, e⟩ | ⟨t, xs, e, h1, h2, h3 | ⟨h3, bs, h4, h5, h6⟩⟩
  · exact .inl ⟨h.kpt hP k, e⟩
  · exact .inr ⟨t, xs, e, k.tup hP h1, h2, .inl h3⟩
  · exact .inr ⟨t, xs, e, k.tup hP h1, h2, .inr ⟨h3, bs, h4, fun i x b hx hb => (h5 i x b hx hb).kpt hP k, h6⟩⟩
theorem list_of {α β : Type} {q : α → β → Prop} : ∀ xs : List α, (∀ x ∈ xs, ∃ b, q x b) → ∃ bs : List β, bs.length = xs.length ∧ ∀ (i : Nat) (x : α) (b : β), xs[i]? = some x → bs[i]? = some b → q x b
  | [], _ => ⟨[], rfl, fun i x b h => by simp at h⟩
  | x :: xs, h => by
    obtain ⟨b, hb⟩ := h x (List.mem_cons_self ..)
    obtain ⟨bs, h1, h2⟩ := list_of xs fun y hy => h y (List.mem_cons_of_mem _ hy)
    refine ⟨b :: bs, by simp [h1], fun i y c hy hc => ?_⟩
    cases i with
    | zero =>
      simp at hy hc
      rw [← hy, ← hc]
      exact hb
    | succ i =>
      simp at hy hc
      exact h2 i y c hy hc
theorem OutV.outS {K : PySem.W.Frag} {p : Addr} {H : Hp} {v : V} (h : OutV K p H v) (n : Nat) : ∃ due, OutS K p H v n due := by
  cases h with
  | @tup a xs h1 h2 h3 =>
    by_cases hn : xs.length = n
    · obtain ⟨bs, hb1, hb2⟩ := list_of (q := fun x b => RowS K p H x n b) xs fun x hx => (h3 x hx).rowS n
      exact ⟨_, .inr ⟨a, xs, rfl, h1, h2, .inr ⟨hn, bs, by omega, hb2, rfl⟩⟩⟩
    · exact ⟨_, .inr ⟨a, xs, rfl, h1, h2, .inl ⟨hn, rfl⟩⟩⟩
  | no h => exact ⟨_, .inl ⟨h, rfl⟩⟩
theorem wrongs_nil {bs : List Bool} (h : wrongs bs = []) : ∀ b ∈ bs, b = true := fun b hb => by
  obtain ⟨i, hi⟩ := List.getElem?_of_mem hb
  unfold wrongs at h
  rw [List.filter_eq_nil_iff] at h
  have := h i (List.mem_range.mpr (List.getElem?_eq_some_iff.mp hi).1)
  rw [List.getD_eq_getElem?_getD, hi] at this
  simpa using this
theorem shown_ne : ∀ i, i < 11 → (PyData.int (i : Nat)).shown ≠ "" := by
  have h : ∀ i : Fin 11, (PyData.int ((i : Nat) : Int)).shown ≠ "" := by decide +kernel
  exact fun i hi => h ⟨i, hi⟩
theorem dueR_nil {bs : List Bool} (hl : bs.length ≤ 10) (h : dueR bs = "") : wrongs bs = [] := by
  unfold dueR at h
  cases hw : wrongs bs with
  | nil => rfl
  | cons i r =>
    rw [hw] at h
    have hi : i ∈ wrongs bs := by rw [hw]; exact List.mem_cons_self ..
    unfold wrongs at hi
    have := List.mem_range.mp (List.mem_filter.mp hi).1
    exact absurd h (shown_ne i (by omega))
theorem OutS.grid {K : PySem.W.Frag} {p : Addr} {H : Hp} {v : V} {n : Nat} (hn : n ≤ 4) (h : OutS K p H v n "") : ∃ t g, v = .ref t ∧ GridAt K H t g ∧ TabU n g := by
  rcases h with ⟨_, e⟩ | ⟨t, xs, rfl, h1, h2, ⟨_, e⟩ | ⟨h3, bs, h4, h5, h6⟩⟩
  · exact absurd e (by decide +kernel)
  · exact absurd e (by decide +kernel)
  · have hw := wrongs_nil (dueR_nil (by omega) h6.symm)
    have hr : ∀ x ∈ xs, ∃ q : Addr × List Int, x = .ref q.1 ∧ SqT K H q.1 (q.2.map vI) ∧ q.2.length = n ∧ q.2.all rowB = true := fun x hx => by
      obtain ⟨i, hi⟩ := List.getElem?_of_mem hx
      obtain ⟨b, hb⟩ : ∃ b, bs[i]? = some b := at_some (by have := (List.getElem?_eq_some_iff.mp hi).1; omega)
      have hbt := hw b (List.mem_of_getElem? hb)
      rcases h5 i x b hi hb with ⟨_, e⟩ | ⟨a, ys, e, q1, q2, q3, q4⟩
      · rw [hbt] at e
        cases e
      · rw [hbt] at q4
        have q5 := q4.symm
        rw [Bool.and_eq_true, decide_eq_true_eq] at q5
        obtain ⟨r, rfl⟩ : ∃ r : List Int, ys = r.map vI := by
          clear q1 q2 q3 q4 hx hi e
          have q6 := q5.2
          clear q5
          induction ys with
          | nil => exact ⟨[], rfl⟩
          | cons y ys ih =>
            rw [List.all_cons, Bool.and_eq_true] at q6
            obtain ⟨r, rfl⟩ := ih q6.2
            cases y with
            | int z => exact ⟨z :: r, rfl⟩
            | _ => cases q6.1
        rw [List.length_map] at q5
        refine ⟨(a, r), e, q1, by have := q5.1; simp only; omega, ?_⟩
        have := q5.2
        rw [List.all_map] at this
        exact this
    obtain ⟨qs, hq1, hq2⟩ := list_of xs hr
    refine ⟨t, qs.map (·.2), rfl, ⟨qs.map (·.1), ?_, by simp, fun i a r ha hr => ?_⟩, ⟨by simp; omega, fun i r hr => ?_⟩⟩
    · have : (qs.map (·.1)).map V.ref = xs := by
        refine List.ext_getElem (by simp [hq1]) fun i i1 i2 => ?_
        have i3 : i < qs.length := by simpa using i1
        have := (hq2 i xs[i] qs[i] (List.getElem?_eq_getElem i2) (List.getElem?_eq_getElem i3)).1
        simp only [List.getElem_map]
        exact this.symm
      rw [this]
      exact h1
    · rw [List.getElem?_map] at ha hr
      obtain ⟨q, hq, rfl⟩ := Option.map_eq_some_iff.mp ha
      rw [hq] at hr
      cases hr
      have hi : i < xs.length := by rw [← hq1]; exact (List.getElem?_eq_some_iff.mp hq).1
      exact (hq2 i xs[i] q (List.getElem?_eq_getElem hi) hq).2.1
    · rw [List.getElem?_map] at hr
      obtain ⟨q, hq, rfl⟩ := Option.map_eq_some_iff.mp hr
      have hi : i < xs.length := by rw [← hq1]; exact (List.getElem?_eq_some_iff.mp hq).1
      exact (hq2 i xs[i] q (List.getElem?_eq_getElem hi) hq).2.2
def d2 (a b : Str) : PyData := .list [.str a, .str b]
/-- the first kind with another number of things than of places -/
def unb (n : Nat) (g : Gr) : Option Nat := (List.range n).find? fun i => !decide (rowS g i = colS g i)
def resY (zs : List (List Nat)) (g : Gr) : PyData := match unb zs.length g with
  | some i => d2 "unbalanced" (PyData.str (S (zs.getD i []))).shown
  | none => .list [.str "back", d2 "yard" (S (sheetL zs g))]
theorem unb_some {n : Nat} {g : Gr} {i : Nat} (h1 : i < n) (h2 : ∀ j, j < i → rowS g j = colS g j) (h3 : rowS g i ≠ colS g i) : unb n g = some i := by
  unfold unb
  rw [List.find?_range_eq_some]
  exact ⟨by simpa using h3, List.mem_range.mpr h1, fun j hj => by simpa using h2 j hj⟩
theorem unb_none {n : Nat} {g : Gr} (h : ∀ i, i < n → rowS g i = colS g i) : unb n g = none := by
  unfold unb
  rw [List.find?_range_eq_none]
  exact fun i hi => by simpa using h i hi
/-- names of kinds -/
structure Nms (zs : List (List Nat)) : Prop where
  n2 : 2 ≤ zs.length
  n4 : zs.length ≤ 4
  nd : zs.Nodup
  nm : ∀ z ∈ zs, IsName z
theorem TabU.table {n : Nat} {g : Gr} (h : TabU n g) (hb : ∀ i, i < n → rowS g i = colS g i) : Table n g := by
  refine ⟨⟨h.len, fun i r hr => (h.row i r hr).1⟩, hb, fun i j hi hj => ?_⟩
  have hig : i < g.length := by rw [h.len]; exact hi
  obtain ⟨q1, q2⟩ := h.row i _ (getD_at hig)
  have hj2 : j < (g.getD i []).length := by rw [q1]; exact hj
  have hr := List.all_eq_true.mp q2 ((g.getD i [])[j]) (List.getElem_mem hj2)
  have e : ent g i j = (g.getD i [])[j] := by
    show (g.getD i []).getD j 0 = _
    rw [List.getD_eq_getElem?_getD, List.getElem?_eq_getElem hj2]
    rfl
  rw [e]
  unfold rowB at hr
  simp only [Bool.and_eq_true, decide_eq_true_eq] at hr
  exact hr
theorem badAt_names {zs : List (List Nat)} (h : Nms zs) : ∀ i, i < (zs.map vS).length → badAt (zs.map vS) i = false := fun i hi => by
  rw [List.length_map] at hi
  have hz : zs[i]? = some zs[i] := List.getElem?_eq_getElem hi
  unfold badAt
  rw [List.getD_eq_getElem?_getD, List.getElem?_map, hz]
  have h4 := h.n4
  rw [decide_eq_false (by omega), Bool.false_or]
  show (!nameB zs[i] || inV (vS zs[i]) ((zs.map vS).take i)) = false
  rw [show nameB zs[i] = true from h.nm _ (List.getElem_mem hi), ← List.map_take, inV_S, decide_eq_false (not_mem_take h.nd hz)]
  rfl
theorem w9 : word 9 = ("rows" : Str) ∧ word 14 = ("unbalanced" : Str) ∧ fieldOf 9 = ("index" : Str) ∧ fieldOf 14 = ("given" : Str) ∧ PyData.none.shown = ("None" : Str) := by decide +kernel
section
variable {P : Program} {w : World} {K : PySem.W.Frag} {mg : Str → Option Value} {base : Heap} {C : Addr} {cl : Nat → Addr}
theorem end_rows {tl : XK → Hp → VK → Prop} {H0 : Hp} {Q : VK} {v : V} {p tz : Addr} {zs : List (List Nat)} {due : Str} {t0 : Addr} {g : Gr} {d : PyData} (E9 : EK K cl 9) (E14 : EK K cl 14) (hN : Nms zs) (hz : SqT K H0 tz (zs.map vS))
    (htl : ∀ (E : XK) (Q' : VK), (∀ x dx, H0 x = none → H0 dx = none → dx ≠ x → spInitN K C (cl 8) (cl 9) (cl 14) [.ref x, .ref tz, v] (upd (upd H0 dx (.own x)) x (.ins C dx [])) (fun u H2 => u = .non ∧ Q' (.ref x) H2) E) → tl E H0 Q')
    (hv : OutS K p H0 v zs.length due) (hg : due = "" → v = .ref t0 ∧ GridAt K H0 t0 g ∧ TabU zs.length g) (hd : d = if due = "" then resY zs g else d2 "rows" due)
    (hk : ∀ l H'', H0 l = none → (∀ HJ : Hp, (∀ b xs, H0 b = none → H'' b = some (.lst xs) → HJ b = some (.lst xs)) → Dp K HJ (.ref l) d) → Same H0 H'' → Q (.ref l) H'') : TTend K C cl tl H0 Q := by
  obtain ⟨w9, w14, f9, f14, wN⟩ := w9
  refine htl _ _ fun x dx hx hdx hne => ?_
  have hx2 : (upd H0 dx (.own x)) x = none := by rw [upd_ne hne.symm]; exact hx
  have k1 : Same H0 (upd (upd H0 dx (.own x)) x (.ins C dx [])) := (Same.new hdx).trans (Same.new hx2)
  have ex : (upd (upd H0 dx (.own x)) x (.ins C dx [])) x = some (.ins C dx []) := upd_same
  generalize upd (upd H0 dx (.own x)) x (.ins C dx []) = H1 at k1 ex ⊢
  have er9 : ∀ {H' : Hp} {u : V} {z : Str}, Same H0 H' → ShowS K H' u z → d = d2 "rows" z → ∀ dd, H' dd = none →
      (fun cls d H' => ∃ (n : Nat) (dd : Addr) (v : V) (z : Str), cls = .ref (cl n) ∧ d = some dd ∧ n < 20 ∧ n ≠ 18 ∧ EK K cl n ∧ H' dd = some (.xd [(fieldOf n, v)]) ∧ ShowS K H' v z ∧ ∀ l H'', H' l = none → Same H' H'' → H'' l = some (.lst [.str (word n), .str z]) → Q (.ref l) H'') (Value.ref (cl 9)) (some dd) (upd H' dd (.xd [("index", u)])) := fun {H' u z} k hs hd dd hdd => by
    have k2 := Same.new (o := .xd [("index", u)]) hdd
    refine ⟨9, dd, u, z, rfl, rfl, by decide, by decide, E9, by rw [f9]; exact upd_same, hs.same k2, fun l H'' hl k3 e => ?_⟩
    refine hk l H'' (same_none k (same_none k2 hl)) (fun HJ hj => ?_) ((k.trans k2).trans k3)
    rw [hd]
    rw [w9] at e
    exact .lst (SqL.of (hj _ _ (same_none k (same_none k2 hl)) e)) (.cons (.str _) (.cons (.str _) .nil))
  have noneS : ∀ H', ShowS K H' .non ("None" : Str) := fun H' => by
    rw [← wN]
    exact ShowS.of .non (by decide +kernel)
  have numS : ∀ {H' : Hp} {i : Nat}, i ≤ 100 → ShowS K H' (vN i) (PyData.int i).shown := fun {H' i} hi => by
    refine ShowS.of (.int _) (fit_out (fit_int ?_) (by decide))
    unfold rowB
    rw [decide_eq_true (show (0 : Int) ≤ (i : Int) by omega), decide_eq_true (show (i : Int) ≤ 1000000000000000000000000000000 by omega)]
    rfl
  have n2 := hN.n2
  have n4 := hN.n4
  have hbad := badAt_names hN
  have hzl : (zs.map vS).length = zs.length := List.length_map _
  have neN : ("None" : Str) ≠ "" := by decide +kernel
  have dN : due = "None" → d = d2 "rows" "None" := fun e => by rw [hd, e, if_neg neN]
  refine ⟨x, dx, .ref tz, v, rfl, .ref tz, rfl, .inr ⟨tz, zs.map vS, rfl, Same.tup k1 hz, by omega, fun y hy => ?_, fun h => absurd h (by omega), fun _ => ⟨fun i hi _ hb => ?_, fun _ H2 k2 => ?_⟩⟩⟩
  · obtain ⟨z, hz2, rfl⟩ := List.mem_map.mp hy
    exact .inl ⟨z, rfl, Nat.le_trans (hN.nm z hz2).len.2 (by decide)⟩
  · rw [hbad i hi] at hb
    cases hb
  have k12 := k1.trans k2
  refine ⟨tz, zs.map vS, rfl, Same.tup k12 hz, v, ((zs.map vS).length : Nat), rfl, ?_⟩
  rw [hzl]
  rcases hv with ⟨h, e⟩ | ⟨t, xs, rfl, h1, h2, ⟨h3, e⟩ | ⟨h3, bs, h4, h5, h6⟩⟩
  · exact .inl ⟨h.noT.same k12, er9 k12 (noneS _) (dN e)⟩
  · exact .inr ⟨t, xs, [], rfl, Same.tup k12 h1, by omega, fun _ => er9 k12 (noneS _) (dN e), fun h => absurd h (by omega)⟩
  refine .inr ⟨t, xs, bs, rfl, Same.tup k12 h1, by omega, fun h => absurd (show (xs.length : Int) = (zs.length : Int) by rw [h3]) h, fun _ => ⟨by omega, fun i y b hy hb => RowIs.same k12 (h5 i y b hy hb).is, fun i hj hb H3 k3 => ?_, fun hall H3 k3 => ?_⟩⟩
  · have hi : i < bs.length := (List.getElem?_eq_some_iff.mp hb).1
    have hw : ∃ r, wrongs bs = i :: r := by
      have hsplit : List.range bs.length = List.range i ++ (List.range bs.length).drop i := by
        have := (List.take_append_drop i (List.range bs.length)).symm
        rw [List.take_range, Nat.min_eq_left (by omega)] at this
        exact this
      have hdrop : (List.range bs.length).drop i = i :: (List.range bs.length).drop (i + 1) := by
        rw [List.drop_eq_getElem_cons (by simpa using hi)]
        simp
      have h0 : (List.range i).filter (fun i => !(bs.getD i true)) = [] := by
        rw [List.filter_eq_nil_iff]
        intro j hj2
        have := hj j (List.mem_range.mp hj2)
        rw [List.getD_eq_getElem?_getD, this]
        simp
      have e1 : wrongs bs = (List.range i).filter (fun i => !(bs.getD i true)) ++ ((List.range bs.length).drop i).filter (fun i => !(bs.getD i true)) := by
        rw [← List.filter_append, ← hsplit]
        rfl
      refine ⟨((List.range bs.length).drop (i + 1)).filter (fun i => !(bs.getD i true)), ?_⟩
      rw [e1, h0, List.nil_append, hdrop, List.filter_cons_of_pos (by rw [List.getD_eq_getElem?_getD, hb]; rfl)]
    obtain ⟨r, hw⟩ := hw
    have hdue : due = (PyData.int (i : Nat)).shown := by
      rw [h6]
      unfold dueR
      rw [hw]
    have hne2 : due ≠ "" := by
      rw [hdue]
      exact shown_ne i (by omega)
    exact er9 (k12.trans k3) (numS (by omega)) (by rw [hd, if_neg hne2, hdue])
  · have hw : wrongs bs = [] := by
      unfold wrongs
      rw [List.filter_eq_nil_iff]
      intro i hi
      have hi2 : i < bs.length := List.mem_range.mp hi
      rw [List.getD_eq_getElem?_getD, List.getElem?_eq_getElem hi2, Option.getD_some, hall _ (List.getElem_mem hi2)]
      simp
    have hdue : due = "" := by
      rw [h6]
      unfold dueR
      rw [hw]
    obtain ⟨e0, hG, hU⟩ := hg hdue
    injection e0 with e0
    subst e0
    rw [if_pos hdue] at hd
    have k13 := k12.trans k3
    refine ⟨tz, t, zs, g, rfl, Same.tup k13 hz, hG.same k13, n4, hU.len, fun i r hr => (hU.row i r hr).1, fun i z hzi hj hne H4 k4 dd hdd => ?_, fun hb H4 k4 => ?_⟩
    · have hi : i < zs.length := (List.getElem?_eq_some_iff.mp hzi).1
      have k14 := k13.trans k4
      have k5 := Same.new (o := .xd [("given", vS z)]) hdd
      have hzn := hN.nm z (List.mem_of_getElem? hzi)
      have hu := unb_some hi hj hne
      refine ⟨14, dd, vS z, (PyData.str (S z)).shown, rfl, rfl, by decide, by decide, E14, by rw [f14]; exact upd_same, ShowS.of (.str _) (fit_out (fit_str (fun c hc => name_ch hzn hc) hzn.len.2) (by decide)), fun l H'' hl k6 e => ?_⟩
      refine hk l H'' (same_none k14 (same_none k5 hl)) (fun HJ hj => ?_) ((k14.trans k5).trans k6)
      rw [hd]
      unfold resY
      rw [hu]
      rw [w14] at e
      show Dp K HJ (.ref l) (d2 "unbalanced" (PyData.str (S (zs.getD i []))).shown)
      rw [List.getD_eq_getElem?_getD, hzi]
      exact .lst (SqL.of (hj _ _ (same_none k14 (same_none k5 hl)) e)) (.cons (.str _) (.cons (.str _) .nil))
    · have hT := hU.table hb
      have hgood : Good zs g := ⟨n2, n4, hN.nd, hN.nm, hT⟩
      have hu := unb_none hb
      have k24 := (k2.trans k3).trans k4
      refine ⟨k24 _ _ ex, t, rfl, fun H5 ⟨dx', h1'⟩ h5' => ⟨rfl, .inl ⟨x, zs, g, rfl, ?_, fun l l2 H6 hl hl2 hne k e2 e3 => ?_⟩⟩⟩
      · have k15 : Same H0 H5 := fun b o e => h5' b o ((k1.trans k24) b o e) (ne_of_none e hx)
        exact ⟨⟨dx', tz, t, h1', Same.tup k15 hz, hG.same k15⟩, hgood⟩
      · have k15 : Same H0 H5 := fun b o e => h5' b o ((k1.trans k24) b o e) (ne_of_none e hx)
        refine hk l H6 (same_none k15 hl) (fun HJ hj => ?_) (k15.trans k)
        rw [hd]
        unfold resY
        rw [hu]
        exact .lst (SqL.of (hj _ _ (same_none k15 hl) e3)) (.cons (.str _) (.cons (.lst (SqL.of (hj _ _ (same_none k15 hl2) e2)) (.cons (.str _) (.cons (.str _) .nil))) .nil))
end
end Y

-- sums of tables
set_option Elab.async false
set_option linter.all false
set_option maxRecDepth 100000
set_option maxHeartbeats 4000000
namespace Y
open PySem L2
def addR (a b : List Int) : List Int := List.zipWith (· + ·) a b
def addG (g h : Gr) : Gr := List.zipWith addR g h
theorem addR_len {a b : List Int} (h : a.length = b.length) : (addR a b).length = a.length := by
  unfold addR
  rw [List.length_zipWith, ← h, Nat.min_self]
theorem addR_getD {a b : List Int} (h : a.length = b.length) (k : Nat) : (addR a b).getD k 0 = a.getD k 0 + b.getD k 0 := by
  unfold addR
  rw [List.getD_eq_getElem?_getD, List.getD_eq_getElem?_getD, List.getD_eq_getElem?_getD, List.getElem?_zipWith]
  by_cases hk : k < a.length
  · rw [List.getElem?_eq_getElem hk, List.getElem?_eq_getElem (show k < b.length by omega)]
    rfl
  · rw [List.getElem?_eq_none (l := a) (by omega), List.getElem?_eq_none (l := b) (by omega)]
    rfl
theorem addR_sum : ∀ {a b : List Int}, a.length = b.length → (addR a b).sum = a.sum + b.sum
  | [], [], _ => rfl
  | [], _ :: _, h => by cases h
  | _ :: _, [], h => by cases h
  | x :: a, y :: b, h => by
    have ih := addR_sum (a := a) (b := b) (Nat.succ.inj h)
    show (x + y) + (addR a b).sum = (x + a.sum) + (y + b.sum)
    rw [ih]
    omega
section
variable {n : Nat} {g h : Gr}
theorem addG_len (hg : Sq n g) (hh : Sq n h) : (addG g h).length = n := by
  unfold addG
  rw [List.length_zipWith, hg.1, hh.1, Nat.min_self]
theorem addG_at (hg : Sq n g) (hh : Sq n h) {i : Nat} (hi : i < n) : (addG g h)[i]? = some (addR (g.getD i []) (h.getD i [])) := by
  unfold addG
  rw [List.getElem?_zipWith, getD_at (show i < g.length by rw [hg.1]; exact hi), getD_at (show i < h.length by rw [hh.1]; exact hi)]
theorem addG_getD (hg : Sq n g) (hh : Sq n h) {i : Nat} (hi : i < n) : (addG g h).getD i [] = addR (g.getD i []) (h.getD i []) := by
  rw [List.getD_eq_getElem?_getD, addG_at hg hh hi]
  rfl
theorem addG_sq (hg : Sq n g) (hh : Sq n h) : Sq n (addG g h) := by
  refine ⟨addG_len hg hh, fun i r hr => ?_⟩
  have hi : i < n := by
    rw [← addG_len hg hh]
    exact (List.getElem?_eq_some_iff.mp hr).1
  rw [addG_at hg hh hi] at hr
  cases hr
  rw [addR_len (by rw [hg.row hi, hh.row hi])]
  exact hg.row hi
theorem ent_addG (hg : Sq n g) (hh : Sq n h) {i : Nat} (hi : i < n) (j : Nat) : ent (addG g h) i j = ent g i j + ent h i j := by
  unfold ent
  rw [addG_getD hg hh hi]
  exact addR_getD (by rw [hg.row hi, hh.row hi]) j
theorem row_addG (hg : Sq n g) (hh : Sq n h) {i : Nat} (hi : i < n) : rowS (addG g h) i = rowS g i + rowS h i := by
  unfold rowS
  rw [addG_getD hg hh hi]
  exact addR_sum (by rw [hg.row hi, hh.row hi])
theorem col_addG (hg : Sq n g) (hh : Sq n h) (k : Nat) : colS (addG g h) k = colS g k + colS h k := by
  unfold colS
  have e : (addG g h).map (fun r => r.getD k 0) = addR (g.map fun r => r.getD k 0) (h.map fun r => r.getD k 0) := by
    refine List.ext_getElem? fun i => ?_
    by_cases hi : i < n
    · unfold addR
      rw [List.getElem?_map, addG_at hg hh hi, List.getElem?_zipWith, List.getElem?_map, List.getElem?_map, getD_at (show i < g.length by rw [hg.1]; exact hi), getD_at (show i < h.length by rw [hh.1]; exact hi)]
      show some ((addR (g.getD i []) (h.getD i [])).getD k 0) = some _
      rw [addR_getD (by rw [hg.row hi, hh.row hi])]
    · have h1 := addG_len hg hh
      have h2 := hg.1
      have h3 := hh.1
      rw [List.getElem?_eq_none (by rw [List.length_map]; omega), List.getElem?_eq_none (by rw [addR_len (by rw [List.length_map, List.length_map]; omega), List.length_map]; omega)]
  rw [e]
  exact addR_sum (by rw [List.length_map, List.length_map, hg.1, hh.1])
theorem addG_table (hg : Table n g) (hh : Table n h) (hm : ∀ r ∈ addG g h, ∀ x ∈ r, x ≤ 1000000000000000000000000000000) : Table n (addG g h) := by
  have hs := addG_sq hg.sq hh.sq
  refine ⟨hs, fun k hk => ?_, fun i j hi hj => ⟨?_, ?_⟩⟩
  · rw [row_addG hg.sq hh.sq hk, col_addG hg.sq hh.sq, hg.bal k hk, hh.bal k hk]
  · rw [ent_addG hg.sq hh.sq hi]
    have h1 := (hg.lie i j hi hj).1
    have h2 := (hh.lie i j hi hj).1
    omega
  · have hr := addG_at hg.sq hh.sq hi
    have hl := hs.2 i _ hr
    refine hm _ (List.mem_of_getElem? hr) _ ?_
    unfold ent
    rw [addG_getD hg.sq hh.sq hi]
    generalize addR (g.getD i []) (h.getD i []) = r at hl ⊢
    rw [List.getD_eq_getElem?_getD, List.getElem?_eq_getElem (show j < r.length by omega)]
    exact List.getElem_mem _
theorem addG_comm (hg : Sq n g) (hh : Sq n h) : addG h g = addG g h := by
  unfold addG
  rw [List.zipWith_comm]
  congr 1
  funext a b
  unfold addR
  rw [List.zipWith_comm]
  congr 1
  funext x y
  exact Int.add_comm _ _
end
end Y

set_option Elab.async false
set_option linter.all false
set_option maxRecDepth 100000
set_option maxHeartbeats 4000000
namespace Z
open PySem PySem.Spec PyProof.Rows L2 L2H RZ HotX
/-! ### a tuple, and zip of two, walked while an exception is handled -/
section
variable {prog : Program} {w : World} {A : Around} {E : Value → Shared → Prop} {s : Shared}
theorem stopH {α : Type} {x1 : Addr} {Q : α → Shared → Prop} (hot : HotAt A x1 s.heap) (hE : ∀ h' e, (∀ b o, s.heap.get? b = some o → h'.get? b = some o) → (∃ o, h'.get? e = some o ∧ o.cls = .type "StopIteration") → E (.ref e) { s with heap := h' }) :
    wpAny (model prog w) A (newExc (.type "StopIteration") [] >>= fun e => (raiseNew e : Sem α)) Q E s := by
  obtain ⟨hh, o1, vs1, h1, d1, c1⟩ := hot
  refine wpAny_bind ?_
  simp only [newExc, newTuple]
  refine wpAny_bind (wpAny_newObj_type ?_ (by size_fits))
  refine wpAny_bind (m := firstArgMember _ _) (wpAny_of_eq (a := Value.none) (by first | rfl | (simp only [firstArgMember]; rfl)) ?_)
  refine wpAny_newObj_type ?_ (by size_fits)
  refine raiseNew_hot ⟨hh, o1, vs1, Heap.get?_push_of_some _ (Heap.get?_push_of_some _ h1), d1, c1⟩ (Nat.ne_of_lt (Heap.lt_size (Heap.get?_push_of_some _ h1))) (Heap.get?_push_size _ rfl) rfl (by first | (simp; done) | (simp; omega) | (simp only [Array.size_append]; simp; omega)) ?_
  refine hE _ _ (fun b o e => ?_) ⟨_, Heap.get?_update_self _ (Heap.get?_push_size _ rfl) rfl, rfl⟩
  rw [Heap.get?_update_other _ _ (Nat.ne_of_gt (Heap.lt_size (Heap.get?_push_of_some _ e)))]
  exact Heap.get?_push_of_some _ (Heap.get?_push_of_some _ e)
/-- the iterator of a tuple at its end -/
theorem tupEndH {it t x1 : Addr} {i : Nat} {items : Array Value} {Q : Fin → Shared → Prop} (hot : HotAt A x1 s.heap) (hne : x1 ≠ it) (hit : s.heap.IsTupleIter it t i) (ht : s.heap.IsTuple t items) (hx : items[i]? = none)
    (hE : ∀ h' e, (∀ b o, b ≠ it → s.heap.get? b = some o → h'.get? b = some o) → (∃ o, h'.get? e = some o ∧ o.cls = .type "StopIteration") → E (.ref e) { s with heap := h' }) :
    wpAny (model prog w) A (Builtin.«tuple_iterator.__next__» ⟨[.ref it], []⟩) Q E s := by
  obtain ⟨o, ho, hc, hd⟩ := id hit
  obtain ⟨ol, hol, _, nl, hdl⟩ := ht
  show wpAny _ _ (field (.ref it) 0 >>= _) _ _ s
  refine wpAny_bind (wpAny_field ho hd (x := .ref t) rfl ?_)
  show wpAny _ _ (if (Value.ref t == Value.none) = true then _ else _) _ _ s
  rw [if_neg (show ¬ ((Value.ref t == Value.none) = true) from Bool.false_ne_true)]
  show wpAny _ _ (field (.ref it) 1 >>= _) _ _ s
  refine wpAny_bind (wpAny_field ho hd (x := .int i 0) rfl ?_)
  show wpAny _ _ (seqItems? (.ref t) >>= _) _ _ s
  refine wpAny_bind (wpAny_seqItems hol hdl ?_)
  simp only [Int.toNat_natCast, hx]
  refine wpAny_bind (wpAny_rule (wpAny_bind (wpAny_setField ho hd (by simp) ?_)))
  obtain ⟨hh, o1, vs1, h1, d1, c1⟩ := hot
  refine stopH (x1 := x1) ⟨hh, o1, vs1, ?_, d1, c1⟩ fun h' e hk he => hE h' e (fun b o nb eb => hk b o ?_) he
  · exact (Heap.get?_update_other _ _ hne.symm).trans h1
  · exact (Heap.get?_update_other _ _ (Ne.symm nb)).trans eb
theorem nextTupH {it t x1 : Addr} {i : Nat} {items : Array Value} {Q : Option Value → Shared → Prop} (hot : HotAt A x1 s.heap) (hne : x1 ≠ it) (hit : s.heap.IsTupleIter it t i) (ht : s.heap.IsTuple t items) (hx : items[i]? = none)
    (hQ : ∀ h', (∀ b o, b ≠ it → s.heap.get? b = some o → h'.get? b = some o) → Q none { s with heap := h' }) : wpAny (model prog w) A (pyNext (.ref it)) Q E s := by
  unfold pyNext
  refine wpAny_bind (wpAny_attempt (wpAny_callSpecial?_slot (name := Str.ofString "__next__") hit.typeIs F.slot_tuple_iterator_next
    (wpAny_call_entry F.slot_tuple_iterator_next hit.typeIs F.entry_tuple_iterator_next (tupEndH hot hne hit ht hx fun h' e hk he => ?_) (F.args_tuple_iterator_next_1 _))))
  obtain ⟨o, ho, hc⟩ := he
  refine wpAny_bind (wpAny_isInstance (T := "StopIteration") (b := true) ⟨o, ho, hc⟩ isSubtype_stop ?_)
  exact wpAny_pure (hQ _ hk)
/-- zip of two tuples where the first one is at its end -/
theorem zipEndH {z TI TO i1 i2 l1 l2 x1 : Addr} {k1 : Nat} {xs : Array Value} {Q : Option Value → Shared → Prop} (hot : HotAt A x1 s.heap) (n1 : x1 ≠ i1) (nz : x1 ≠ z) (D : ZipApart z TI TO i1 i2 l1 l2)
    (hz : IsZip s.heap z TI TO .none) (hTI : IsPair s.heap TI (.ref i1) (.ref i2)) (h1 : s.heap.IsTupleIter i1 l1 k1) (hl1 : s.heap.IsTuple l1 xs) (hx : xs[k1]? = none)
    (hQ : ∀ h', (∀ c o, c ≠ z → c ≠ i1 → s.heap.get? c = some o → h'.get? c = some o) → Q none { s with heap := h' }) : wpAny (model prog w) A (pyNext (.ref z)) Q E s := by
  have hT : s.TypeIs (.ref z) "zip" := ⟨_, hz, rfl⟩
  unfold pyNext
  refine wpAny_bind (wpAny_attempt (wpAny_callSpecial?_slot (name := Str.ofString "__next__") hT F.slot_zip_next (wpAny_call_entry F.slot_zip_next hT F.entry_zip_next ?_ (F.args_zip_next_1 _))))
  show wpAny _ _ (field (.ref z) 2 >>= _) _ _ _
  refine wpAny_bind (wpAny_field hz rfl (x := .bool false) rfl ?_)
  show wpAny _ _ (field (.ref z) 3 >>= _) _ _ _
  refine wpAny_bind (wpAny_field hz rfl (x := .ref TI) rfl ?_)
  refine wpAny_bind (wpAny_seqItems hTI rfl ?_)
  show wpAny _ _ (Builtin.SmallTypes.ownedTupleIsFree (.ref z) >>= _) _ _ _
  refine wpAny_bind ?_
  unfold Builtin.SmallTypes.ownedTupleIsFree
  refine wpAny_bind (wpAny_field hz rfl (x := .none) rfl (wpAny_pure ?_))
  simp only [if_true]
  refine wpAny_bind (wpAny_rule ?_)
  refine wpAny_bind (wpAny_field hz rfl (x := .ref TO) rfl ?_)
  refine wpAny_bind (wpAny_setField_rec hz (by simp) fun h₁ hz₁ hs₁ => ?_)
  replace hz₁ : IsZip h₁ z TI TO .ellipsis := hz₁
  refine wpAny_bind ?_
  simp only [List.zipIdx_cons, List.zipIdx_nil, List.forIn_cons, List.forIn_nil]
  refine wpAny_bind (wpAny_bind (wpAny_onRaise ?_))
  show wpAny _ _ (Builtin.SmallTypes.nextOf (.ref i1) >>= _) _ _ _
  refine wpAny_bind ?_
  have hit := h1.extBut hs₁.extBut D.i1z
  have hlt := hl1.extBut hs₁.extBut D.l1z
  obtain ⟨hh, o1, vs1, e1, d1, c1⟩ := hot
  unfold Builtin.SmallTypes.nextOf
  refine wpAny_bind (wpAny_callSpecial?_slot (name := Str.ofString "__next__") hit.typeIs F.slot_tuple_iterator_next
    (wpAny_call_entry F.slot_tuple_iterator_next hit.typeIs F.entry_tuple_iterator_next (tupEndH (x1 := x1) ⟨hh, o1, vs1, hs₁.extBut _ _ nz e1, d1, c1⟩ n1 hit hlt hx fun h₂ e hs₂ he => ?_) (F.args_tuple_iterator_next_1 _)))
  obtain ⟨oe, hoe, hce⟩ := he
  have hz₂ : IsZip h₂ z TI TO .ellipsis := hs₂ _ _ D.i1z.symm hz₁
  have hez : e ≠ z := fun x => by subst x; rw [hz₂] at hoe; cases hoe; simp at hce
  refine wpAny_setField_rec hz₂ (by simp) fun h₃ _ hs₃ => ?_
  refine wpAny_bind (wpAny_isInstance (T := "StopIteration") (b := true) ⟨oe, hs₃.extBut _ _ hez hoe, hce⟩ isSubtype_stop ?_)
  exact wpAny_pure (hQ _ fun c o c1 c3 x => hs₃.extBut _ _ c1 (hs₂ _ _ c3 (hs₁.extBut _ _ c1 x)))
end
/-- the handled exception's object, apart from what is walked -/
theorem hot_at {X : Cx} {pins : List (Addr × Obj)} {σ : L2.St} {H : Hp} {s : Shared} (c : HotC X) (I : Inv X pins σ H s) : ∃ p : Addr × Obj, p ∈ X.pn ∧ HotAt X.A p.1 s.heap := by
  obtain ⟨x1, h⟩ := c.at I
  obtain ⟨p, hp, hm⟩ := c
  have : x1 = p.1 := by
    have := h.1.symm.trans hp.1
    injection this with this
    injection this
  exact ⟨p, hm, this ▸ h⟩
theorem turn_tupleH {P : Program} {w : World} {K : PySem.W.Frag} {tg : Expr} (a it : Addr) : TurnH P w K tg (Itt K a) [it] it (fun i h => h.IsTupleIter it a i) where
  mem := List.mem_singleton.mpr rfl
  obj := fun i h st b hb => by
    rw [List.mem_singleton.mp hb]
    obtain ⟨o, e, _, d⟩ := st
    exact ⟨o, e, fun v z => nomatch d.symm.trans z⟩
  keep := fun i h h' st k => st.at fun o e => k it (List.mem_singleton.mpr rfl) o e
  item := by
    rintro X rfl rfl rfl hc i pins s σ H E I hf st ⟨xs, x, hq, hx⟩
    obtain ⟨its, rv, p, _⟩ := I.tuple hq
    obtain ⟨u, hu, ru⟩ := rv.get hx
    obtain ⟨f0, f1, f2, f3, f4, f5⟩ := hf it (List.mem_singleton.mpr rfl)
    refine wpAny_pyNext_tuple_item st (show s.heap.IsTuple a its.toArray from p) (x := u) (by simpa using hu) fun h' st' sb => ?_
    have I1 : Inv X pins σ H { s with heap := h' } := I.turned (t' := s.toks) (fun b o hb e => (sb.2 b hb).trans e) f0 f1 f3 f4 f5
    obtain ⟨o, e, c, d⟩ := id st'
    exact ⟨u, rfl, go_of (s := { s with heap := h' }) e c d (by decide) ⟨x, H, I1, ru, ⟨rfl, fun ys hy => by rw [I.tuple_inj hy hq]; exact hx⟩, st', fun b hb => (hf b hb).1⟩⟩
  done := by
    rintro X rfl rfl rfl hc i pins s σ H E I hf st ⟨xs, hq, hx⟩
    obtain ⟨its, rv, p, _⟩ := I.tuple hq
    obtain ⟨f0, f1, f2, f3, f4, f5⟩ := hf it (List.mem_singleton.mpr rfl)
    have hl := rv.length
    obtain ⟨pr, hpr, hot⟩ := hot_at hc I
    refine nextTupH hot (fun z => f5 pr (List.mem_append_left _ hpr) z) st (show s.heap.IsTuple a its.toArray from p) (by simp; omega) fun h' eb => ⟨rfl, I.turned (t' := s.toks) (fun b o hb e => eb b o hb e) f0 f1 f3 f4 f5⟩
  self := fun _ _ _ _ _ st h => wpAny_pyIter_tupleiter st h
section
variable {X : Cx} {tg : Expr}
theorem pi_tupH {l : Expr} {tl : TE} (hl : PE X l tl) : PIH X tg l (iTup X.K tl) := by
  refine ⟨fun pins s σ H R I h => ?_⟩
  refine thn (hl.run pins s σ H _ I h) fun v s1 ⟨x, H1, I1, r1, a, e, ⟨xs, hq⟩, q⟩ => ?_
  subst e
  cases r1
  obtain ⟨its, rv, p, hz⟩ := I1.tuple hq
  refine wpAny_pyIter_tuple (show s1.heap.IsTuple a its.toArray from p) ?_
  refine ⟨s1.heap.objs.size, [s1.heap.objs.size], _, _, H1, rfl, I1.kept (t' := s1.toks) fun b o e => Heap.get?_push_of_some _ e, turn_tupleH a _, ⟨_, Heap.get?_push_size _ rfl, rfl, rfl⟩, fun b hb => ?_, q⟩
  rw [List.mem_singleton.mp hb]
  exact I1.fpOk (Nat.le_refl _) (I1.hok.fresh (Nat.le_refl _))
/-- two tuples walked together, till the first one ends -/
def Itz1 (K : PySem.W.Frag) (a b : Addr) : It := { ItzT K a b with stop := fun i H => ∃ xs : List V, SqT K H a xs ∧ xs.length ≤ i }
theorem turn_zipH {P : Program} {w : World} {K : PySem.W.Frag} {elts : List Expr} {kk : Nat} {tpos : Pos} {a b z TI TO i1 i2 : Addr} (D : ZipApart z TI TO i1 i2 a b) :
    TurnH P w K (.Tuple elts kk tpos) (Itz1 K a b) [z, TI, TO, i1, i2] z (fun i h => IsZip h z TI TO .none ∧ IsPair h TI (.ref i1) (.ref i2) ∧ (∃ x y, IsPair h TO x y) ∧ h.IsTupleIter i1 a i ∧ h.IsTupleIter i2 b i) := by
  have T := turn_zipT (P := P) (w := w) (K := K) (elts := elts) (kk := kk) (tpos := tpos) D
  refine ⟨T.mem, T.obj, T.keep, ?_, ?_, T.self⟩
  · rintro X rfl rfl rfl hc i pins s σ H E I hf ⟨hz, hTI, ⟨x0, y0, hTO⟩, h1, h2⟩ ⟨xs, ys, x, y, hqx, hqy, hx, hy⟩
    obtain ⟨its, rv, p, _⟩ := I.tuple hqx
    obtain ⟨its2, rv2, p2, _⟩ := I.tuple hqy
    obtain ⟨u, hu, ru⟩ := rv.get hx
    obtain ⟨u2, hu2, ru2⟩ := rv2.get hy
    have hzl : z < s.heap.objs.size := Heap.lt_size hz
    refine pyNext_zipT_item D hz hTI hTO h1 h2 p p2 (x := u) (y := u2) (by simpa using hu) (by simpa using hu2) fun h' z' TO' h1' h2' hT hsz hk => ?_
    refine ⟨_, rfl, wpAny_letOwnedTupleGo_zip (s := { s with heap := h' }) z' fun h'' z'' sb => ?_⟩
    have hT2 : h''.get? s.heap.objs.size = some { cls := .type "tuple", data := .seq #[u, u2] } := (sb.2 _ (Nat.ne_of_gt hzl)).trans hT
    have new : ObjOk X.prog X.w (upd H s.heap.objs.size (.tup [x, y])) h'' s.heap.objs.size (.tup [x, y]) :=
      ⟨by show 2 ≤ sizeLine; decide, [u, u2], .cons ru (.cons ru2 .nil), ⟨_, hT2, rfl, _, rfl⟩⟩
    have I1 : Inv X pins σ (upd H s.heap.objs.size (.tup [x, y])) { s with heap := h'' } :=
      I.turnedNew (t' := s.toks) (ch := [z, TI, TO, i1, i2]) (fun c o hb q => (sb.2 c (fun q' => hb (by simp [q']))).trans (hk c o (fun q' => hb (by simp [q'])) (fun q' => hb (by simp [q'])) (fun q' => hb (by simp [q'])) (fun q' => hb (by simp [q'])) q)) hf (Nat.le_refl _) new
    have lt : ∀ c ∈ [z, TI, TO, i1, i2], c < s.heap.objs.size := fun c hc => by
      obtain ⟨o, e, _⟩ := T.obj i s.heap ⟨hz, hTI, ⟨x0, y0, hTO⟩, h1, h2⟩ c hc
      exact Heap.lt_size e
    refine ⟨.ref s.heap.objs.size, _, I1, rfl, ⟨_, x, y, rfl, I.hok.fresh (Nat.le_refl _), rfl, fun l hl => by rw [I.tuple_inj hl hqx]; exact hx, fun l hl => by rw [I.tuple_inj hl hqy]; exact hy⟩, ⟨z'', (sb.2 _ D.TIz).trans (hk _ _ D.TIz D.TITO D.TIi1 D.TIi2 hTI), ⟨u, u2, (sb.2 _ D.TOz).trans TO'⟩, h1'.at fun o q => (sb.2 _ D.i1z).trans q, h2'.at fun o q => (sb.2 _ D.i2z).trans q⟩, fun c hcm => ?_⟩
    rw [upd_ne (Nat.ne_of_lt (lt c hcm))]
    exact (hf c hcm).1
  · rintro X rfl rfl rfl hc i pins s σ H E I hf ⟨hz, hTI, _, h1, _⟩ ⟨xs, hqx, hx⟩
    obtain ⟨its, rv, p, _⟩ := I.tuple hqx
    have l1 := rv.length
    obtain ⟨pr, hpr, hot⟩ := hot_at hc I
    have ne : ∀ c ∈ [z, TI, TO, i1, i2], pr.1 ≠ c := fun c hcm e => by
      obtain ⟨_, _, _, _, _, f5⟩ := hf c hcm
      exact f5 pr (List.mem_append_left _ hpr) e
    refine zipEndH hot (ne i1 (by simp)) (ne z (by simp)) D hz hTI h1 (show s.heap.IsTuple a its.toArray from p) (by simp; omega) fun h' hk => ⟨rfl, I.turnedL (t' := s.toks) (ch := [z, TI, TO, i1, i2]) (fun c o hb q => hk c o (fun q' => hb (by simp [q'])) (fun q' => hb (by simp [q'])) q) hf⟩
def iZipH (K : PySem.W.Frag) (ta : TA) : TI := fun σ H R => ta σ H fun vs H1 => ∃ a b xs ys, vs = [.ref a, .ref b] ∧ SqT K H1 a xs ∧ SqT K H1 b ys ∧ R (Itz1 K a b) H1
theorem pi_zipH {e e2 : Expr} {ta : TA} {p pos tpos : Pos} {elts : List Expr} {kk : Nat} (hg : Gl X "zip") (hm : X.mg "zip" = none) (ha : PA X [e, e2] ta)
    (hs : starEach [e, e2] X.env = (false, eval e X.env) :: starEach [e2] X.env := by rfl) (hpl : (backTo pos (starEach [e2] X.env)).any (·.1) = false := by rfl) :
    PIH X (.Tuple elts kk tpos) (.Call (.Name "zip" p) [e, e2] [] pos) (iZipH X.K ta) := by
  refine ⟨fun pins s σ H R I h => ?_⟩
  refine Call_ (ld_blt I hg hm PyProof.Rows.boot_zip (PyProof.Rows.callWith_type1 (thn (ha.run pos pins s σ H _ I h) fun us s1 ⟨vs, H1, I1, r1, a, b, xs, ys, ex, hqx, hqy, q⟩ => ?_) hs hpl))
  subst ex
  obtain ⟨u1, u2, rfl, ra, rb⟩ := vals2 r1
  cases ra
  cases rb
  obtain ⟨its, rv, p1, _⟩ := I1.tuple hqx
  obtain ⟨its2, rv2, p2, _⟩ := I1.tuple hqy
  obtain ⟨o1, ho1, _⟩ := id p1
  obtain ⟨o2, ho2, _⟩ := id p2
  have fresh5 : ∀ c, c ∈ [s1.heap.objs.size + 4, s1.heap.objs.size + 2, s1.heap.objs.size + 3, s1.heap.objs.size, s1.heap.objs.size + 1] → FpOk X pins H1 c := fun c hcm => by
    have hle : s1.heap.objs.size ≤ c := by
      simp only [List.mem_cons, List.not_mem_nil, or_false] at hcm
      omega
    exact I1.fpOk hle (I1.hok.fresh hle)
  refine call_zipT (show s1.heap.IsTuple a its.toArray from p1) (show s1.heap.IsTuple b its2.toArray from p2) fun h' hz hTI hTO h1 h2 hsz hk => wpAny_pyIter_zip hz ?_
  have I2 : Inv X pins σ H1 { s1 with heap := h' } := I1.kept (t' := s1.toks) hk
  exact ⟨s1.heap.objs.size + 4, [s1.heap.objs.size + 4, s1.heap.objs.size + 2, s1.heap.objs.size + 3, s1.heap.objs.size, s1.heap.objs.size + 1], _, _, H1, rfl, I2, turn_zipH (PySem.W.ktu_apart s1.heap.objs.size a b (Heap.lt_size ho1) (Heap.lt_size ho2)), ⟨hz, hTI, ⟨_, _, hTO⟩, h1, h2⟩, fresh5, q⟩
/-- y = [..] -/
theorem ps_setLcH {i : Nat} {y : Str} {py : Pos} {elt tg iter : Expr} {scope : Scope} {own : List (Str × Nat)} {pos spos : Pos} {wi : TI} {g : TG} {te : TE} (hc : HotC X) (hN : X.N.Nodup) (hy : X.N[i]? = some y) (hyl : X.env.scope.names.lookup y = some .local)
    (hsw : swapsWith (.ListComp elt [⟨tg, iter, [], 0⟩] scope pos) (some (.Name y py)) spos.line X.env = pure true) (hi : PIH X tg iter wi) (ok : BlkOk X.N X.env.scope scope own)
    (hg : ∀ (s : Shared) (H : Hp) (C : Addr) (cl : List (Str × Addr)) (fp : List Addr) (p : Addr × Obj), Hot1 X.A p → PG (blkH X s H scope (compEnvC scope cl C X.env) fp p) tg g)
    (he : ∀ (s : Shared) (H : Hp) (C : Addr) (cl : List (Str × Addr)) (fp : List Addr) (p : Addr × Obj), Hot1 X.A p → PE (blkH X s H scope (compEnvC scope cl C X.env) fp p) elt te) (hs : ∀ x, foldedSetIterable iter X.env x = pure x := by intro _; rfl) :
    PS X (.Assign [.Name y py] (.ListComp elt [⟨tg, iter, [], 0⟩] scope pos) spos) (tAsg (tLc wi g tYes te (own.map (·.2))) (gName i)) := by
  refine ⟨fun pins s σ H D I h => ?_⟩
  rw [exec_Assign_Name_used _ _ _ _ hsw]
  refine wpAny_bind (wpAny_standAt (wpAny_bind ?_))
  show wpAny _ X.A (do let _ ← comprehension (.ListComp elt [⟨tg, iter, [], 0⟩] scope pos) scope X.env (firstIterPos [⟨tg, iter, [], 0⟩] pos) (newList []) false (eval iter X.env) (some (assign (.Name y py) X.env))) _ _ s
  have h : tLc wi g tYes te (own.map (·.2)) σ H (fun x H1 => gName i x σ H1 D.nx) := h
  refine wpAny_bind (thn (lcH_core (Qf := fun _ s' => SP X pins D .next s') hc hN I hi ok hg he hs h fun L C s' m H' I' q hn f => ?_) fun _ s' hq => wpAny_pure (wpAny_pure hq))
  show wpAny _ _ (assign (.Name y py) X.env (.ref L)) _ _ _
  refine wpAny_assign_Name (store_ok2 (v := V.ref L) I' hN hy (.inl hyl) rfl (fun s2 I2 ⟨a, sb, ha⟩ => ?_) (.inr hyl))
  obtain ⟨f0, f1, f2, f3, f4, f5⟩ := f
  have haC : C ≠ a := ha.elim (fun z => z ▸ f1) fun z e => f4 y a z e.symm
  exact ⟨m, hn.sameBut sb haC, fun h3 sb3 => ⟨_, H', I2.turned (t' := s2.toks) (fun b o hb e => (sb3.2 b hb).trans e) f0 f1 f3 f4 f5, q⟩⟩
end
end Z

set_option Elab.async false
set_option linter.all false
set_option maxRecDepth 100000
set_option maxHeartbeats 4000000
namespace Z
open PySem PySem.Spec PyProof.Rows L2 L2H
/-! ### str(o) by the class's own def, while an exception is handled -/
structure MfE (P : Program) (w : World) (K : PySem.W.Frag) (mg : Str → Option Value) (base : Heap) (k : Nat) (f : Addr) (ps : List Str) (sp : Addr × Obj → Sp) : Prop where
  ex : ∃ (fd : FuncData), FnE P w K mg base k f fd ps sp ∧ Binds K fd ps []
theorem RoomH.in1 {k : Nat} {A : Around} (r : RoomH (k + 1) A) : RoomH k A.in1.in1 := ⟨by have := r.dp; show A.depth + 3 * k + 5 < _; omega, by have := r.un; show A.units + 1 + 1 + 16 * k + 200 < _; omega⟩
theorem RoomH.units0 {k : Nat} {A : Around} (r : RoomH k A) : A.units < cLine := by
  have := r.un
  omega
section
variable {X : Cx} {k : Nat} {C f : Addr} {sp : Addr × Obj → Sp} {p : Addr × Obj}
theorem call_strOH (hr : RoomH (k + 1) X.A) (hot : Hot1 X.A p) (hp : p ∈ X.pn) (hG : X.A.guards = some []) (hs : PySem.W.findIn X.K (.ref C) "__str__" = some (some (.ref f))) (hf : PySem.W.isFn X.K (.ref f) = true) (F : MfE X.prog X.w X.K X.mg X.base k f ["self"] sp) : CallR X (.type "str") (Y.rStrO C (sp p)) := by
  intro pins s σ H xs us Q I r h
  obtain ⟨a, dx, fs, rfl, ea, h⟩ := h
  obtain rfl := Vals.ref1 r
  obtain ⟨mA, O, _⟩ := ins_get I.hok ea
  obtain ⟨od, J, _⟩ := O.look
  obtain ⟨fd, F, b⟩ := F.ex
  have bind : BindsTo s fd ⟨[.ref a], []⟩ ((["self"] : List Str).zip [.ref a]) := by
    have q := b s [.ref a] I.kIn rfl
    rwa [List.append_nil] at q
  have pin := I.pin p (List.mem_append_left _ hp)
  have hpin : PinOk X.stack H s p := ⟨pin.1, pin.2.1, fun hm => (List.mem_cons.mp (I.stkSub p.1 hm)).elim pin.2.2.1 pin.2.2.2.1, pin.2.2.2.2⟩
  refine PySem.W.kso_call (RoomH.units0 (RoomH.in1 hr)) I.kIn J hs hf (wpAny_call (codeAny_mono (F.run X.A.in1.in1 X.stack s H ⟨[.ref a], []⟩ [.ref a] [.ref a] _ C8.E0 p (RoomH.in1 hr) hG hot hpin I.env0.in1.in1 bind (.cons rfl .nil) h) fun r s' hq => ?_))
  cases r with
  | error er => exact False.elim hq
  | ok fl =>
    cases fl with
    | ret u =>
      obtain ⟨v, H', I3, rv, z, ev, q⟩ := I.after hq
      subst ev
      obtain ⟨t, rfl⟩ := rv
      exact ⟨.str z, H', I3, ⟨_, rfl⟩, q⟩
    | next => exact False.elim hq
    | brk => exact False.elim hq
    | cont => exact False.elim hq
end
end Z

set_option Elab.async false
set_option linter.all false
set_option maxRecDepth 100000
set_option maxHeartbeats 4000000
namespace Z
open PySem PySem.Spec PyProof.Rows L2 L2H RZ HotX
/-! ### (a, b) = a tuple, while an exception is handled -/
section
variable {prog : Program} {w : World} {A : Around} {E : Value → Shared → Prop} {s : Shared}
theorem HotAt.keeps {x1 : Addr} {h h' : Heap} (c : HotAt A x1 h) (k : ∀ b o, h.get? b = some o → h'.get? b = some o) : HotAt A x1 h' := by
  obtain ⟨hh, o1, vs1, h1, d1, c1⟩ := c
  exact ⟨hh, o1, vs1, k _ _ h1, d1, c1⟩
theorem unpackH {t x1 : Addr} {items : Array Value} {Q : List Value → Shared → Prop} (hot : HotAt A x1 s.heap) (ht : s.heap.IsTuple t items)
    (hQ : ∀ h', (∀ b o, s.heap.get? b = some o → h'.get? b = some o) → Q items.toList { s with heap := h' }) : wpAny (model prog w) A (unpackItems (.ref t) items.size none) Q E s := by
  have hlt : t ≠ s.heap.objs.size := by obtain ⟨o, ho, _⟩ := ht; exact Nat.ne_of_lt (Heap.lt_size ho)
  have hx1 : x1 ≠ s.heap.objs.size := by obtain ⟨_, o1, _, h1, _⟩ := hot; exact Nat.ne_of_lt (Heap.lt_size h1)
  unfold unpackItems
  refine wpAny_bind ?_
  unfold notIterableAtAll
  refine wpAny_bind (wpAny_specialOf ht.typeIs F.slot_tuple_iter.lookup (wpAny_pure ?_))
  simp only [Bool.false_eq_true, if_false]
  refine wpAny_bind (wpAny_holding (wpAny_pyIter_tuple ht ?_))
  refine wpAny_bind (wpAny_holding (wpAny_draw_tuple hlt items.size 0 _ _ ⟨_, Heap.get?_push_size _ rfl, rfl, rfl⟩ (ht.push _) (by omega) fun h₁ hit₁ hs₁ => ?_))
  have hall : List.take items.size (List.drop 0 items.toList) = items.toList := by
    rw [List.drop_zero]
    exact List.take_of_length_le (by simp)
  rw [hall, if_neg (by simp)]
  have k1 : ∀ b o, s.heap.get? b = some o → h₁.get? b = some o := fun b o e => hs₁.extBut b o (Nat.ne_of_lt (Heap.lt_size e)) (Heap.get?_push_of_some _ e)
  have ht₁ : h₁.IsTuple t items := (ht.push _).extBut hs₁.extBut hlt
  refine wpAny_bind (wpAny_holding (nextTupH (x1 := x1) (HotAt.keeps hot k1) hx1 hit₁ ht₁ (by simp) fun h₂ he₂ => ?_))
  simp only [Option.isSome_none, Bool.false_eq_true, if_false]
  exact wpAny_pure (hQ h₂ fun b o e => he₂ b o (Nat.ne_of_lt (Heap.lt_size e)) (k1 b o e))
end
theorem pg_tupH {X : Cx} {es : List Expr} {k : Nat} {t : TGs} {n : Nat} {pos : Pos} (hc : HotC X) (h : PGs X es t) (hn : (assignEach es X.env).length = n := by rfl) (hst : (assignEach es X.env).findIdx? (·.1) = none := by rfl) : PG X (.Tuple es k pos) (gTup X.K n t) := by
  refine ⟨fun pins s σ H v u Q I r ⟨a, xs, e1, hq, hl, hw⟩ => ?_⟩
  subst e1
  cases r
  obtain ⟨its, rv, ht, hz⟩ := I.tuple hq
  obtain ⟨p, _, hot⟩ := hot_at hc I
  rw [assign_Tuple]
  have en : (assignEach es X.env).length = its.toArray.size := by simp [hn, ← hl, rv.length]
  refine wpAny_bind (wpAny_standAt ?_)
  unfold unpack
  rw [en, hst]
  refine wpAny_bind (wpAny_holding (unpackH hot (show s.heap.IsTuple a its.toArray from ht) fun h' hx => ?_))
  have I1 : Inv X pins σ H { s with heap := h' } := I.kept (t' := s.toks) hx
  exact h.run pins _ σ H xs _ Q I1 (by simpa using rv) hw
end Z

set_option Elab.async false
set_option linter.all false
set_option maxRecDepth 100000
set_option maxHeartbeats 4000000
namespace Z
open PySem PySem.Spec PyProof.Rows L2
/-! ### o + y by the class's own def -/
def rAddO (K : PySem.W.Frag) (C : Addr) (sp : Sp) (E : XK) : R2 := fun x y H Q => ∃ (a dx : Addr) (fs : List (Str × V)) (c dy : Addr) (gs : List (Str × V)), x = .ref a ∧ y = .ref c ∧ H a = some (.ins C dx fs) ∧ H c = some (.ins C dy gs) ∧
  sp [.ref a, .ref c] H (fun v H' => ∃ b, v = .ref b ∧ Q (.ref b) H') E
section
variable {X : Cx} {CX : CXT} {k : Nat} {C f : Addr} {sp : Sp} {E : XK}
theorem op_addO (hr : Room k X.A) (hc : PySem.W.selfFirst X.K C = true) (hs : PySem.W.findIn X.K (.ref C) "__add__" = some (some (.ref f))) (hf : PySem.W.isFn X.K (.ref f) = true) (hx : Passes CX X E) (F : FnR X.prog X.w X.K X.mg X.base CX k f sp) : OpR X (binaryOp .Add) (rAddO X.K C sp E) := by
  intro pins s σ H x y v u Q I rx ry hq
  obtain ⟨a, dx, fs, c, dy, gs, rfl, rfl, ha, hcc, hsp⟩ := hq
  cases rx
  cases ry
  obtain ⟨mA, J, _⟩ := ins_get I.hok ha
  obtain ⟨mB, J', _⟩ := ins_get I.hok hcc
  obtain ⟨od, J, _⟩ := J.look
  obtain ⟨od', J', _⟩ := J'.look
  obtain ⟨mm, hF⟩ := I.fr
  refine PySem.W.binop_K (op := .Add) hF I.ok.mod.kin J J'.type hc hs hf ?_
  refine thn (wpAny_call (run_fnR (us := [.ref a, .ref c]) (vs := [.ref a, .ref c]) F hr hx I (.cons rfl (.cons rfl .nil)) hsp)) fun u s1 ⟨z, H', I', rz, b, ez, q⟩ => ?_
  subst ez
  cases rz
  exact ⟨.ref b, H', I', rfl, q⟩
end
end Z

set_option Elab.async false
set_option linter.all false
set_option maxRecDepth 100000
set_option maxHeartbeats 4000000
namespace Z
open PySem PySem.Spec PyProof.Rows L2 RZ
/-! ### list(zip(a, b)), a and b tuples -/
/-- a zip that has handed out a tuple which is kept -/
abbrev IsZipK (h : Heap) (z TI TO : Addr) (f0 : Value) (f : Bool) : Prop := h.get? z = some { cls := .type "zip", dict := none, data := .fields #[f0, .bool f, .bool false, .ref TI, .ref TO], slots := #[] }
theorem zip_no_len : typeLookup (.type "zip") "__len__" = pure none := by rw [typeLookup_type, builtinLookup_eq_fast]; kernel_rfl
theorem zip_no_hint : typeLookup (.type "zip") "__length_hint__" = pure none := by rw [typeLookup_type, builtinLookup_eq_fast]; kernel_rfl
section
variable {prog : Program} {w : World} {A : Around} {E : Value → Shared → Prop} {s : Shared}
theorem alive {a : Addr} {o : Obj} {Q : Option Obj → Shared → Prop} (h : s.heap.get? a = some o) (q : Q (some o) s) : wpAny (model prog w) A (loadIfAlive a) Q E s := by
  rw [← h] at q
  exact fun _ _ _ => q
/-- the beginning of a turn: what it handed out is alive -/
theorem heldH {z TI TO T0 : Addr} {o : Obj} {f : Bool} {Q : Bool → Shared → Prop} (hz : IsZipK s.heap z TI TO (rawInt T0) f) (ho : s.heap.get? T0 = some o)
    (hQ : ∀ h', IsZipK h' z TI TO (rawInt T0) true → Heap.SameBut z s.heap h' → Q false { s with heap := h' }) : wpAny (model prog w) A (Builtin.SmallTypes.ownedTupleIsFree (.ref z)) Q E s := by
  unfold Builtin.SmallTypes.ownedTupleIsFree
  refine wpAny_bind (wpAny_field hz rfl (x := rawInt T0) rfl ?_)
  show wpAny _ _ (loadIfAlive ((T0 : Int).toNat) >>= _) _ _ _
  rw [Int.toNat_natCast]
  refine wpAny_bind (alive ho ?_)
  simp only [Option.isNone_some, Bool.false_eq_true, if_false]
  refine wpAny_bind (wpAny_field hz rfl (x := .bool f) rfl ?_)
  cases f with
  | true =>
    rw [if_neg (show ¬ ((Value.bool true != Value.bool true) = true) from Bool.false_ne_true)]
    exact wpAny_pure (hQ s.heap hz (Heap.SameBut.refl _ _))
  | false =>
    rw [if_pos (show (Value.bool false != Value.bool true) = true from rfl)]
    refine wpAny_bind (wpAny_setField_rec hz (by simp) fun h₃ hz₃ hs₃ => ?_)
    exact wpAny_pure (hQ h₃ hz₃ hs₃)
variable {z TI TO i1 i2 l1 l2 T0 : Addr} {k1 k2 : Nat} {xs ys : Array Value} {o : Obj} {f : Bool}
theorem nextHeld {x y : Value} {Q : Option Value → Shared → Prop} (D : ZipApart z TI TO i1 i2 l1 l2) (hz : IsZipK s.heap z TI TO (rawInt T0) f) (ho : s.heap.get? T0 = some o) (hTI : IsPair s.heap TI (.ref i1) (.ref i2))
    (h1 : s.heap.IsTupleIter i1 l1 k1) (h2 : s.heap.IsTupleIter i2 l2 k2) (hl1 : s.heap.IsTuple l1 xs) (hl2 : s.heap.IsTuple l2 ys) (hx : xs[k1]? = some x) (hy : ys[k2]? = some y)
    (hQ : ∀ h', IsZipK h' z TI TO (rawInt T0) true → h'.IsTupleIter i1 l1 (k1 + 1) → h'.IsTupleIter i2 l2 (k2 + 1) → IsPair h' s.heap.objs.size x y → (∀ c o, c ≠ z → c ≠ i1 → c ≠ i2 → s.heap.get? c = some o → h'.get? c = some o) → Q (some (.ref s.heap.objs.size)) { s with heap := h' }) :
    wpAny (model prog w) A (pyNext (.ref z)) Q E s := by
  have hT : s.TypeIs (.ref z) "zip" := ⟨_, hz, rfl⟩
  unfold pyNext
  refine wpAny_bind (wpAny_attempt (wpAny_callSpecial?_slot (name := Str.ofString "__next__") hT F.slot_zip_next (wpAny_call_entry F.slot_zip_next hT F.entry_zip_next ?_ (F.args_zip_next_1 _))))
  show wpAny _ _ (field (.ref z) 2 >>= _) _ _ _
  refine wpAny_bind (wpAny_field hz rfl (x := .bool false) rfl ?_)
  show wpAny _ _ (field (.ref z) 3 >>= _) _ _ _
  refine wpAny_bind (wpAny_field hz rfl (x := .ref TI) rfl ?_)
  refine wpAny_bind (wpAny_seqItems hTI rfl ?_)
  show wpAny _ _ (Builtin.SmallTypes.ownedTupleIsFree (.ref z) >>= _) _ _ _
  refine wpAny_bind (heldH hz ho fun h₁ hz₁ hs₁ => ?_)
  simp only [Bool.false_eq_true, if_false]
  refine wpAny_bind ?_
  simp only [List.forIn_cons, List.forIn_nil, ← Array.forIn_toList]
  refine wpAny_bind (wpAny_bind (wpAny_holding ?_))
  show wpAny _ _ (Builtin.SmallTypes.nextOf (.ref i1) >>= _) _ _ _
  refine wpAny_bind (nextOf_tuple_item (h1.extBut hs₁.extBut D.i1z) (hl1.extBut hs₁.extBut D.l1z) hx fun h₂ h1₂ hs₂ => wpAny_pure (wpAny_pure ?_))
  refine wpAny_bind (wpAny_bind (wpAny_holding ?_))
  show wpAny _ _ (Builtin.SmallTypes.nextOf (.ref i2) >>= _) _ _ _
  refine wpAny_bind (nextOf_tuple_item ((h2.extBut hs₁.extBut D.i2z).extBut hs₂.extBut D.i12.symm) ((hl2.extBut hs₁.extBut D.l2z).extBut hs₂.extBut D.l2i1) hy fun h₃ h2₃ hs₃ => wpAny_pure (wpAny_pure ?_))
  refine wpAny_pure ?_
  refine wpAny_bind (wpAny_newTuple (hsz := by show 2 ≤ sizeLine; decide) ?_)
  have hsz : h₃.objs.size = s.heap.objs.size := by rw [hs₃.1, hs₂.1, hs₁.1]
  have hz₃ : IsZipK h₃ z TI TO (rawInt T0) true := hs₃.extBut _ _ D.i2z.symm (hs₂.extBut _ _ D.i1z.symm hz₁)
  refine wpAny_pure ⟨_, rfl, wpAny_pure ?_⟩
  show Q (some (.ref h₃.objs.size)) _
  rw [hsz]
  have up : ∀ c o, h₃.get? c = some o → (h₃.push { cls := .type "tuple", data := .seq #[x, y] }).get? c = some o := fun c o e => Heap.get?_push_of_some _ e
  refine hQ _ (up _ _ hz₃) (((h1₂.extBut hs₃.extBut D.i12).at fun o e => up _ o e)) (h2₃.at fun o e => up _ o e) ?_ fun c o c1 c2 c3 e => up _ _ (hs₃.extBut _ _ c3 (hs₂.extBut _ _ c2 (hs₁.extBut _ _ c1 e)))
  have := Heap.get?_push_size h₃ (o := { cls := .type "tuple", data := .seq #[x, y] }) rfl
  rwa [hsz] at this
theorem endHeld {Q : Option Value → Shared → Prop} (hh : A.handled = none) (D : ZipApart z TI TO i1 i2 l1 l2) (hz : IsZipK s.heap z TI TO (rawInt T0) f) (ho : s.heap.get? T0 = some o) (hTI : IsPair s.heap TI (.ref i1) (.ref i2))
    (h1 : s.heap.IsTupleIter i1 l1 k1) (hl1 : s.heap.IsTuple l1 xs) (hx : xs[k1]? = none)
    (hQ : ∀ h', (∀ c o, c ≠ z → c ≠ i1 → s.heap.get? c = some o → h'.get? c = some o) → Q none { s with heap := h' }) : wpAny (model prog w) A (pyNext (.ref z)) Q E s := by
  have hT : s.TypeIs (.ref z) "zip" := ⟨_, hz, rfl⟩
  unfold pyNext
  refine wpAny_bind (wpAny_attempt (wpAny_callSpecial?_slot (name := Str.ofString "__next__") hT F.slot_zip_next (wpAny_call_entry F.slot_zip_next hT F.entry_zip_next ?_ (F.args_zip_next_1 _))))
  show wpAny _ _ (field (.ref z) 2 >>= _) _ _ _
  refine wpAny_bind (wpAny_field hz rfl (x := .bool false) rfl ?_)
  show wpAny _ _ (field (.ref z) 3 >>= _) _ _ _
  refine wpAny_bind (wpAny_field hz rfl (x := .ref TI) rfl ?_)
  refine wpAny_bind (wpAny_seqItems hTI rfl ?_)
  show wpAny _ _ (Builtin.SmallTypes.ownedTupleIsFree (.ref z) >>= _) _ _ _
  refine wpAny_bind (heldH hz ho fun h₁ hz₁ hs₁ => ?_)
  simp only [Bool.false_eq_true, if_false]
  refine wpAny_bind ?_
  simp only [List.forIn_cons, List.forIn_nil, ← Array.forIn_toList]
  refine wpAny_bind (wpAny_bind (wpAny_holding ?_))
  show wpAny _ _ (Builtin.SmallTypes.nextOf (.ref i1) >>= _) _ _ _
  refine wpAny_bind (nextOf_tuple_end hh (h1.extBut hs₁.extBut D.i1z) (hl1.extBut hs₁.extBut D.l1z) hx fun h₂ e hs₂ he => ?_)
  obtain ⟨oe, hoe, hce⟩ := he
  refine wpAny_bind (wpAny_isInstance (T := "StopIteration") (b := true) ⟨oe, hoe, hce⟩ isSubtype_stop ?_)
  exact wpAny_pure (hQ _ fun c o c1 c3 x => hs₂ _ _ c3 (hs₁.extBut _ _ c1 x))
end
end Z

set_option Elab.async false
set_option linter.all false
set_option maxRecDepth 100000
set_option maxHeartbeats 4000000
namespace Z
open PySem PySem.Spec PyProof.Rows L2 RZ
def ZSt (z TI TO i1 i2 a b : Addr) (i : Nat) (h : Heap) (ts : List Addr) : Prop := ((i = 0 ∧ IsZip h z TI TO .none ∧ ∃ x y, IsPair h TO x y) ∨ ∃ (T0 : Addr) (f : Bool), ts[0]? = some T0 ∧ IsZipK h z TI TO (rawInt (T0 : Nat)) f) ∧ IsPair h TI (.ref i1) (.ref i2) ∧ h.IsTupleIter i1 a i ∧ h.IsTupleIter i2 b i ∧ ∃ o, h.get? TO = some o
def Prs (H : Hp) (xs ys : List V) (ts : List Addr) : Prop := ∀ (i : Nat) (t : Addr) (x y : V), ts[i]? = some t → xs[i]? = some x → ys[i]? = some y → H t = some (.tup [x, y])
section
variable {X : Cx} {pins : List (Addr × Obj)} {σ : L2.St} {z TI TO i1 i2 a b S : Addr} {xs ys : List V}
theorem loopZ {A : Around} {R : Result → Shared → Prop} (hh : A.handled = none) (D : ZipApart z TI TO i1 i2 a b) (hl : xs.length = ys.length) (h1 : 1 ≤ xs.length) (hmax : xs.length ≤ 1000) :
    ∀ (k i : Nat) (s : Shared) (H : Hp) (ts : List Addr), xs.length - i = k → i ≤ xs.length → Inv X pins σ H s → (∀ c ∈ [z, TI, TO, i1, i2], FpOk X pins H c) → ZSt z TI TO i1 i2 a b i s.heap ts → H S = some (.lst (ts.map V.ref)) → ts.length = i → (∀ t ∈ ts, t ≠ S) → Prs H xs ys ts → SqT X.K H a xs → SqT X.K H b ys →
      (∀ (H' : Hp) (s' : Shared) (ts' : List Addr), Inv X pins σ H' s' → H' S = some (.lst (ts'.map V.ref)) → ts'.length = xs.length → Prs H' xs ys ts' → (∀ c o, H c = some o → c ≠ S → H' c = some o) → R (.ok (.ret .none)) s') →
      codeAny (model X.prog X.w) A (.builtin "list.extend.loop" ⟨[.ref S, .ref z, .none], []⟩) R s := by
  intro k
  induction k with
  | zero =>
    intro i s H ts hk hi I hf ⟨hz, hTI, hi1, hi2, hTOx⟩ hS htl htS hP hqx hqy hR
    have hin : i = xs.length := by omega
    subst hin
    refine codeAny_builtin F.entry_extend_loop ?_
    rw [Around.under_plainId F.plain_extend_loop _]
    show wpAny _ A.in1 (pyNext (.ref z) >>= _) _ _ s
    obtain ⟨its, rv, p, _⟩ := I.tuple hqx
    have l1 := rv.length
    rcases hz with ⟨e, _⟩ | ⟨T0, f, hT0, hz⟩
    · omega
    have h0 : 0 < xs.length := by omega
    have hT := hP 0 T0 _ _ hT0 (List.getElem?_eq_getElem h0) (List.getElem?_eq_getElem (by omega))
    obtain ⟨itsT, _, pT, _⟩ := I.tuple (SqT.of hT)
    obtain ⟨oT, hoT, _⟩ := id pT
    refine wpAny_bind (endHeld hh D hz hoT hTI hi1 (show s.heap.IsTuple a its.toArray from p) (by simp; omega) fun h' hk' => ?_)
    exact wpAny_pure (hR H _ ts (I.turnedL (t' := s.toks) (ch := [z, TI, TO, i1, i2]) (fun c o hb q => hk' c o (fun q' => hb (by simp [q'])) (fun q' => hb (by simp [q'])) q) hf) hS htl hP fun c o e _ => e)
  | succ k ih =>
    intro i s H ts hk hi I hf ⟨hz, hTI, hi1, hi2, hTOx⟩ hS htl htS hP hqx hqy hR
    have hlt : i < xs.length := by omega
    refine codeAny_builtin F.entry_extend_loop ?_
    rw [Around.under_plainId F.plain_extend_loop _]
    show wpAny _ A.in1 (pyNext (.ref z) >>= _) _ _ s
    obtain ⟨its, rv, p, _⟩ := I.tuple hqx
    obtain ⟨its2, rv2, p2, _⟩ := I.tuple hqy
    obtain ⟨x, hx⟩ : ∃ x, xs[i]? = some x := ⟨_, List.getElem?_eq_getElem hlt⟩
    obtain ⟨y, hy⟩ : ∃ y, ys[i]? = some y := ⟨_, List.getElem?_eq_getElem (by omega)⟩
    obtain ⟨u, hu, ru⟩ := rv.get hx
    obtain ⟨u2, hu2, ru2⟩ := rv2.get hy
    have lt : ∀ c ∈ [z, TI, TO, i1, i2], c < s.heap.objs.size → c ≠ s.heap.objs.size := fun c _ h => Nat.ne_of_lt h
    have nT : H s.heap.objs.size = none := I.hok.fresh (Nat.le_refl _)
    have hST : S ≠ s.heap.objs.size := fun e => by rw [e, nT] at hS; cases hS
    -- behind a turn: the tuple is pushed, the rest follows
    have go : ∀ h', (∀ c o, c ∉ [z, TI, TO, i1, i2] → s.heap.get? c = some o → h'.get? c = some o) → IsPair h' s.heap.objs.size u u2 → (∃ (T0 : Addr) (f : Bool), (ts ++ [s.heap.objs.size])[0]? = some T0 ∧ IsZipK h' z TI TO (rawInt T0) f) → IsPair h' TI (.ref i1) (.ref i2) → h'.IsTupleIter i1 a (i + 1) → h'.IsTupleIter i2 b (i + 1) → (∃ o, h'.get? TO = some o) →
        wpAny (model X.prog X.w) A.in1 (updateSeq S (·.push (.ref s.heap.objs.size)) >>= fun _ => again (.builtin "list.extend.loop" ⟨[.ref S, .ref z, .none], []⟩)) (fun fin s' => match fin with | .done f => R (.ok f) s' | .again c' => c'.quiet = true ∧ codeAny (model X.prog X.w) A c' R s') (fun e s' => R (.error e) s') { s with heap := h' } := by
      intro h' hk' hT hzK hTI' h1' h2' hTO'
      have new : ObjOk X.prog X.w (upd H s.heap.objs.size (.tup [x, y])) h' s.heap.objs.size (.tup [x, y]) := ⟨by show 2 ≤ sizeLine; decide, [u, u2], .cons ru (.cons ru2 .nil), ⟨_, hT, rfl, _, rfl⟩⟩
      have I1 : Inv X pins σ (upd H s.heap.objs.size (.tup [x, y])) { s with heap := h' } := I.turnedNew (t' := s.toks) (ch := [z, TI, TO, i1, i2]) hk' hf (Nat.le_refl _) new
      have hS1 : (upd H s.heap.objs.size (.tup [x, y])) S = some (.lst (ts.map V.ref)) := by rw [upd_ne hST]; exact hS
      obtain ⟨hz', itS, nS, rS, eS⟩ := I1.hok S _ hS1
      have lS := rS.length
      rw [List.length_map] at lS
      refine wpAny_bind (wpAny_updateSeq eS rfl ?_ (by rw [List.size_toArray]; exact Nat.le_trans (show itS.length ≤ 1001 by omega) (by decide)) (by show (itS.toArray.push (Value.ref s.heap.objs.size)).size ≤ sizeLine + 1; rw [Array.size_push, List.size_toArray]; exact Nat.le_trans (show itS.length + 1 ≤ 1001 by omega) (by decide)))
      have sbS : Heap.SameBut S h' (h'.update S (Obj.mapSeq (·.push (Value.ref s.heap.objs.size)))) := Heap.SameBut.update ..
      have eS2 := Heap.get?_update_self (Obj.mapSeq (·.push (Value.ref s.heap.objs.size))) eS rfl
      generalize hh2 : h'.update S (Obj.mapSeq (·.push (Value.ref s.heap.objs.size))) = h2 at sbS eS2 ⊢
      have I2 : Inv X pins σ (upd (upd H s.heap.objs.size (.tup [x, y])) S (.lst ((ts ++ [s.heap.objs.size]).map V.ref))) { s with heap := h2 } :=
        I1.write (t' := s.toks) (by rw [hS1]; trivial) (.inl rfl) (fun b u hb q => (sbS.2 b hb).trans q) ⟨_, eS2⟩ ⟨by rw [List.length_map, List.length_append]; exact Nat.le_trans (show ts.length + 1 ≤ 1000 by omega) (by decide), itS ++ [.ref s.heap.objs.size], nS + 1, by rw [List.map_append]; exact rS.append (.cons rfl .nil), by rw [eS2]; simp [Obj.mapSeq]⟩
      have low : ∀ c ∈ [z, TI, TO, i1, i2], c ≠ S ∧ c ≠ s.heap.objs.size := by
        intro c hc
        have hn := (hf c hc).1
        have ex : ∃ o, s.heap.get? c = some o := by
          obtain ⟨o1, e1, _⟩ := id hi1
          obtain ⟨o2, e2, _⟩ := id hi2
          simp only [List.mem_cons, List.not_mem_nil, or_false] at hc
          rcases hc with rfl | rfl | rfl | rfl | rfl
          · rcases hz with ⟨_, e, _⟩ | ⟨_, _, _, e⟩ <;> exact ⟨_, e⟩
          · exact ⟨_, hTI⟩
          · exact hTOx
          · exact ⟨_, e1⟩
          · exact ⟨_, e2⟩
        obtain ⟨o, ho⟩ := ex
        refine ⟨fun e => ?_, Nat.ne_of_lt (Heap.lt_size ho)⟩
        rw [e, hS] at hn
        cases hn
      have keep2 : ∀ c o, c ≠ S → c ≠ s.heap.objs.size → H c = some o → (upd (upd H s.heap.objs.size (.tup [x, y])) S (.lst ((ts ++ [s.heap.objs.size]).map V.ref))) c = some o := fun c o c1 c2 e => by rw [upd_ne c1, upd_ne c2]; exact e
      have hP2 : Prs (upd (upd H s.heap.objs.size (.tup [x, y])) S (.lst ((ts ++ [s.heap.objs.size]).map V.ref))) xs ys (ts ++ [s.heap.objs.size]) := fun j t x' y' e1 e2 e3 => by
        by_cases hj : j < ts.length
        · rw [List.getElem?_append_left hj] at e1
          have := hP j t x' y' e1 e2 e3
          exact keep2 t _ (htS t (List.mem_of_getElem? e1)) (fun e => by rw [e, nT] at this; cases this) this
        · have hj2 : j = ts.length := by
            have := (List.getElem?_eq_some_iff.mp e1).1
            rw [List.length_append, List.length_singleton] at this
            omega
          rw [hj2, List.getElem?_append_right (Nat.le_refl _), Nat.sub_self] at e1
          cases e1
          rw [hj2, htl] at e2 e3
          rw [hx] at e2
          rw [hy] at e3
          cases e2
          cases e3
          rw [upd_ne hST.symm, upd_same]
      have tupK : ∀ {c : Addr} {vs : List V}, SqT X.K H c vs → SqT X.K (upd (upd H s.heap.objs.size (.tup [x, y])) S (.lst ((ts ++ [s.heap.objs.size]).map V.ref))) c vs := fun {c vs} h => by
        have kk : ∀ o, H c = some o → (∀ ls, o ≠ .lst ls) → (upd (upd H s.heap.objs.size (.tup [x, y])) S (.lst ((ts ++ [s.heap.objs.size]).map V.ref))) c = some o := fun o e n => keep2 c o (fun e2 => by rw [e2, hS] at e; cases e; exact n _ rfl) (fun e2 => by rw [e2, nT] at e; cases e) e
        rcases h with (h | ⟨o, h⟩) | h
        · exact .inl (.inl (kk _ h fun _ => nofun))
        · exact .inl (.inr ⟨o, kk _ h fun _ => nofun⟩)
        · exact .inr h
      have up : ∀ c o, c ≠ S → h'.get? c = some o → h2.get? c = some o := fun c o n e => (sbS.2 c n).trans e
      refine wpAny_pure ⟨plainId_quiet F.plain_extend_loop _, ih (i + 1) _ _ (ts ++ [s.heap.objs.size]) (by omega) (by omega) I2 (fun c hc => ⟨?_, (hf c hc).2⟩) ⟨.inr ?_, up _ _ (low TI (by simp)).1 hTI', h1'.at fun o e => up _ o (low i1 (by simp)).1 e, h2'.at fun o e => up _ o (low i2 (by simp)).1 e, let ⟨o, e⟩ := hTO'; ⟨o, up _ _ (low TO (by simp)).1 e⟩⟩ upd_same (by rw [List.length_append, htl]; rfl) (fun t ht => ?_) hP2 (tupK hqx) (tupK hqy) fun H' s' ts' J1 J2 J3 J4 J5 => hR H' s' ts' J1 J2 J3 J4 fun c o e n => J5 c o (keep2 c o n (fun e2 => by rw [e2, nT] at e; cases e) e) n⟩
      · rw [upd_ne (low c hc).1, upd_ne (low c hc).2]
        exact (hf c hc).1
      · obtain ⟨T0, f, e1, e2⟩ := hzK
        exact ⟨T0, f, e1, up _ _ (low z (by simp)).1 e2⟩
      · rcases List.mem_append.mp ht with h | h
        · exact htS t h
        · rw [List.mem_singleton.mp h]
          exact hST.symm
    rcases hz with ⟨rfl, hz, x0, y0, hTO⟩ | ⟨T0, f, hT0, hz⟩
    · refine wpAny_bind (pyNext_zipT_item D hz hTI hTO hi1 hi2 p p2 (x := u) (y := u2) (by simpa using hu) (by simpa using hu2) fun h' z' TO' h1' h2' hT hsz hk' => ?_)
      have ets : ts = [] := List.length_eq_zero_iff.mp htl
      refine go h' (fun c o hb q => hk' c o (fun q' => hb (by simp [q'])) (fun q' => hb (by simp [q'])) (fun q' => hb (by simp [q'])) (fun q' => hb (by simp [q'])) q) hT ⟨s.heap.objs.size, false, by rw [ets]; rfl, z'⟩ (hk' _ _ D.TIz D.TITO D.TIi1 D.TIi2 hTI) h1' h2' ⟨_, TO'⟩
    · have h0 : 0 < ts.length := (List.getElem?_eq_some_iff.mp hT0).1
      have hTt := hP 0 T0 _ _ hT0 (List.getElem?_eq_getElem (by omega)) (List.getElem?_eq_getElem (by omega))
      obtain ⟨itsT, _, pT, _⟩ := I.tuple (SqT.of hTt)
      obtain ⟨oT, hoT, _⟩ := id pT
      refine wpAny_bind (nextHeld D hz hoT hTI hi1 hi2 p p2 (x := u) (y := u2) (by simpa using hu) (by simpa using hu2) fun h' z' h1' h2' hT hk' => ?_)
      exact go h' (fun c o hb q => hk' c o (fun q' => hb (by simp [q'])) (fun q' => hb (by simp [q'])) (fun q' => hb (by simp [q'])) q) hT ⟨T0, true, by rw [List.getElem?_append_left h0]; exact hT0, z'⟩ (hk' _ _ D.TIz D.TIi1 D.TIi2 hTI) h1' h2' (let ⟨o, e⟩ := hTOx; ⟨o, hk' _ _ D.TOz D.TOi1 D.TOi2 e⟩)
/-- list.__init__ of the zip -/
theorem initZ {A : Around} {R : Result → Shared → Prop} {s : Shared} {H : Hp} (hh : A.handled = none) (D : ZipApart z TI TO i1 i2 a b) (hl : xs.length = ys.length) (h1 : 1 ≤ xs.length) (hmax : xs.length ≤ 1000)
    (I : Inv X pins σ H s) (hf : ∀ c ∈ [z, TI, TO, i1, i2], FpOk X pins H c) (hz : IsZip s.heap z TI TO .none) (hTI : IsPair s.heap TI (.ref i1) (.ref i2)) (hTO : ∃ x y, IsPair s.heap TO x y) (hi1 : s.heap.IsTupleIter i1 a 0) (hi2 : s.heap.IsTupleIter i2 b 0)
    (hS : H S = some (.lst [])) (eS : s.heap.get? S = some { cls := .type "list", data := .seq #[] }) (hqx : SqT X.K H a xs) (hqy : SqT X.K H b ys)
    (hR : ∀ (H' : Hp) (s' : Shared) (ts' : List Addr), Inv X pins σ H' s' → H' S = some (.lst (ts'.map V.ref)) → ts'.length = xs.length → Prs H' xs ys ts' → (∀ c o, H c = some o → c ≠ S → H' c = some o) → R (.ok (.ret .none)) s') :
    wpAny (model X.prog X.w) A.in1 (Builtin.«list.__init__» ⟨[.ref S, .ref z], []⟩) (fun fin s' => match fin with | .done f => R (.ok f) s' | .again c' => c'.quiet = true ∧ codeAny (model X.prog X.w) A c' R s') (fun e s' => R (.error e) s') s := by
  have hSz : S ≠ z := fun e => by rw [e, hz] at eS; simp at eS
  show wpAny _ A.in1 (do let old ← Builtin.List.listItems (.ref S); Builtin.List.listUpdate (.ref S) (fun _ => #[]); letGo old.toList.reverse; Builtin.List.listExtendWith (.ref S) (.ref z) .none) _ _ s
  refine wpAny_bind ?_
  unfold Builtin.List.listItems
  refine wpAny_bind (wpAny_seqItems eS rfl (wpAny_pure ?_))
  show wpAny _ A.in1 (updateSeq S (fun _ => #[]) >>= fun _ => letGo (#[] : Array Value).toList.reverse >>= fun _ => Builtin.List.listExtendWith (.ref S) (.ref z) .none) _ _ s
  refine wpAny_bind (wpAny_updateSeq eS rfl ?_)
  -- every write to S leaves an empty list there
  have wr : ∀ {s1 : Shared} {h2 : Heap} {o : Obj}, Inv X pins σ H s1 → Heap.SameBut S s1.heap h2 → h2.get? S = some o → (∃ n, o = { cls := .type "list", data := .seq #[] n }) → Inv X pins σ H { s1 with heap := h2 } := fun {s1 h2 o} J sb e ⟨n, eo⟩ => by
    have := J.write (t' := s1.toks) (x := S) (o := .lst []) (h' := h2) (by rw [hS]; trivial) (.inl rfl) (fun b u hb q => (sb.2 b hb).trans q) ⟨_, e⟩ ⟨Nat.zero_le _, [], n, .nil, by rw [e, eo]⟩
    rwa [show upd H S (.lst []) = H from funext fun c => by by_cases hc : c = S; rw [hc, upd_same, hS]; rw [upd_ne hc]] at this
  have eS2 := Heap.get?_update_self (Obj.mapSeq (fun _ => (#[] : Array Value))) eS rfl
  have sb2 : Heap.SameBut S s.heap (s.heap.update S (Obj.mapSeq (fun _ => (#[] : Array Value)))) := Heap.SameBut.update ..
  generalize s.heap.update S (Obj.mapSeq (fun _ => (#[] : Array Value))) = h2 at eS2 sb2 ⊢
  have I2 : Inv X pins σ H { s with heap := h2 } := wr I sb2 eS2 ⟨_, rfl⟩
  refine wpAny_bind (wpAny_letGo ?_)
  have nS : ∀ c ∈ [z, TI, TO, i1, i2], c ≠ S := fun c hc e => by
    have := (hf c hc).1
    rw [e, hS] at this
    cases this
  have hz2 : IsZip h2 z TI TO .none := (sb2.2 _ (nS z (by simp))).trans hz
  unfold Builtin.List.listExtendWith
  have hT : (⟨h2, s.gens, s.drawn, s.toks, s.os⟩ : Shared).TypeIs (.ref z) "zip" := ⟨_, hz2, rfl⟩
  refine wpAny_bind (wpAny_typeOf hT ?_)
  have q1 : Builtin.List.listSameRef (.ref S) (.ref z) = false := by simp [Builtin.List.listSameRef, hSz]
  have q2 : (Value.type "zip" == Value.type "list") = false := by decide
  have q3 : (Value.type "zip" == Value.type "tuple") = false := by decide
  simp only [q1, q2, q3, Bool.or_false, Bool.false_eq_true, if_false]
  refine wpAny_bind (wpAny_pyIter_zip hz2 ?_)
  refine wpAny_bind (wpAny_holding ?_)
  unfold Builtin.List.listLengthHint
  refine wpAny_bind (wpAny_specialOf hT zip_no_len ?_)
  show wpAny _ A.in1 (specialOf (Value.ref z) (Str.ofString "__length_hint__") >>= _) _ _ _
  refine wpAny_bind (wpAny_specialOf hT zip_no_hint ?_)
  refine wpAny_pure ?_
  show wpAny _ A.in1 (rule "list.extend.makes-room" >>= fun _ => Builtin.List.listTouch (.ref S) >>= fun _ => again (.builtin "list.extend.loop" ⟨[.ref S, .ref z, .none], []⟩)) _ _ _
  refine wpAny_bind (wpAny_rule ?_)
  refine wpAny_bind ?_
  show wpAny _ A.in1 (updateSeq S (·.push .none) >>= fun _ => updateSeq S (·.pop)) _ _ _
  refine wpAny_bind (wpAny_updateSeq eS2 rfl ?_)
  have eS3 := Heap.get?_update_self (Obj.mapSeq (·.push Value.none)) eS2 rfl
  refine wpAny_updateSeq (hz := by seq_fits) eS3 rfl ?_
  have eS4 := Heap.get?_update_self (Obj.mapSeq (·.pop)) eS3 rfl
  have sb4 : Heap.SameBut S h2 ((h2.update S (Obj.mapSeq (·.push Value.none))).update S (Obj.mapSeq (·.pop))) := ⟨by rw [Heap.size_update, Heap.size_update], fun b hb => (Heap.get?_update_other _ _ (Ne.symm hb)).trans (Heap.get?_update_other _ _ (Ne.symm hb))⟩
  generalize (h2.update S (Obj.mapSeq (·.push Value.none))).update S (Obj.mapSeq (·.pop)) = h4 at eS4 sb4 ⊢
  have I4 : Inv X pins σ H { s with heap := h4 } := wr (s1 := { s with heap := h2 }) I2 sb4 eS4 ⟨_, rfl⟩
  have at4 : ∀ c ∈ [z, TI, TO, i1, i2], ∀ o, s.heap.get? c = some o → h4.get? c = some o := fun c hc o e => (sb4.2 _ (nS c hc)).trans ((sb2.2 _ (nS c hc)).trans e)
  obtain ⟨x0, y0, hTO⟩ := hTO
  refine wpAny_pure ⟨plainId_quiet F.plain_extend_loop _, loopZ hh D hl h1 hmax _ 0 _ H [] rfl (Nat.zero_le _) I4 hf ⟨.inl ⟨rfl, at4 z (by simp) _ hz, x0, y0, at4 TO (by simp) _ hTO⟩, at4 TI (by simp) _ hTI, hi1.at fun o e => at4 i1 (by simp) o e, hi2.at fun o e => at4 i2 (by simp) o e, _, at4 TO (by simp) _ hTO⟩ hS rfl (fun t ht => nomatch ht) (fun i t x y e => by simp at e) hqx hqy hR⟩
end
end Z

set_option Elab.async false
set_option linter.all false
set_option maxRecDepth 100000
set_option maxHeartbeats 4000000
namespace Z
open PySem PySem.Spec PyProof.Rows L2 RZ
/-- list(zip(a, b)), two tuples of one length -/
def tLZip (K : PySem.W.Frag) (ta : TA) : TE := fun σ H Q => ta σ H fun vs H1 => ∃ (a b : Addr) (xs ys : List V), vs = [.ref a, .ref b] ∧ SqT K H1 a xs ∧ SqT K H1 b ys ∧ xs.length = ys.length ∧ (1 ≤ xs.length ∧ xs.length ≤ 1000) ∧
  ∀ (l : Addr) (ts : List Addr) (H' : Hp), H1 l = none → (∀ c o, H1 c = some o → H' c = some o) → H' l = some (.lst (ts.map V.ref)) → ts.length = xs.length → Prs H' xs ys ts → Q (.ref l) H'
section
variable {X : Cx}
theorem pe_listZip {e e2 : Expr} {ta : TA} {p p2 pos pos2 : Pos} (hc : X.calm = true) (hg : Gl X "list") (hm : X.mg "list" = none) (hg2 : Gl X "zip") (hm2 : X.mg "zip" = none) (ha : PA X [e, e2] ta)
    (hs : starEach [e, e2] X.env = (false, eval e X.env) :: starEach [e2] X.env := by rfl) (hpl : (backTo pos2 (starEach [e2] X.env)).any (·.1) = false := by rfl)
    (hs2 : starEach [.Call (.Name "zip" p2) [e, e2] [] pos2] X.env = (false, eval (.Call (.Name "zip" p2) [e, e2] [] pos2) X.env) :: starEach [] X.env := by rfl) :
    PE X (.Call (.Name "list" p) [.Call (.Name "zip" p2) [e, e2] [] pos2] [] pos) (tLZip X.K ta) := by
  refine ⟨fun pins s σ H Q I h => ?_⟩
  refine Call_ (ld_blt I hg hm PyProof.Rows.boot_list (PyProof.Rows.callWith_type1 (args_cons (Call_ (ld_blt I hg2 hm2 PyProof.Rows.boot_zip (PyProof.Rows.callWith_type1 (thn (ha.run pos2 pins s σ H _ I h) fun us s1 ⟨vs, H1, I1, r1, a, b, xs, ys, ex, hqx, hqy, hl, ⟨h1, hmax⟩, q⟩ => ?_) hs hpl))) hs2) hs2 rfl))
  subst ex
  obtain ⟨u1, u2, rfl, ra, rb⟩ := vals2 r1
  cases ra
  cases rb
  obtain ⟨its, rv, p1, _⟩ := I1.tuple hqx
  obtain ⟨its2, rv2, p2, _⟩ := I1.tuple hqy
  obtain ⟨o1, ho1, _⟩ := id p1
  obtain ⟨o2, ho2, _⟩ := id p2
  refine call_zipT (show s1.heap.IsTuple a its.toArray from p1) (show s1.heap.IsTuple b its2.toArray from p2) fun h' hz hTI hTO hi1 hi2 hsz hk => args_nil ?_
  have I2 : Inv X pins σ H1 { s1 with heap := h' } := I1.kept (t' := s1.toks) hk
  have fresh5 : ∀ c, c ∈ [s1.heap.objs.size + 4, s1.heap.objs.size + 2, s1.heap.objs.size + 3, s1.heap.objs.size, s1.heap.objs.size + 1] → FpOk X pins H1 c ∧ c < h'.objs.size := fun c hcm => by
    have hle : s1.heap.objs.size ≤ c ∧ c < s1.heap.objs.size + 5 := by
      simp only [List.mem_cons, List.not_mem_nil, or_false] at hcm
      omega
    exact ⟨I1.fpOk hle.1 (I1.hok.fresh hle.1), by omega⟩
  have nS : H1 h'.objs.size = none := I2.hok.fresh (Nat.le_refl _)
  have hpush : ∀ c o, h'.get? c = some o → (h'.push { cls := .type "list", data := .seq #[] }).get? c = some o := fun c o e => Heap.get?_push_of_some _ e
  have eS : (h'.push { cls := .type "list", data := .seq #[] }).get? h'.objs.size = some { cls := .type "list", data := .seq #[] } := Heap.get?_push_size _ rfl
  have I3 : Inv X pins σ (upd H1 h'.objs.size (.lst [])) { s1 with heap := h'.push { cls := .type "list", data := .seq #[] } } :=
    I2.laid (t' := s1.toks) hpush (Nat.le_refl _) ⟨Nat.zero_le _, [], 0, .nil, eS⟩
  refine PySem.callType_codes (Q₁ := fun obj s₁ => obj = .ref h'.objs.size ∧ s₁ = { s1 with heap := h'.push { cls := .type "list", data := .seq #[] } }) F.called_list (F.typeCall_list_1 _) F.entry_list_init (PySem.code_list_new _ ⟨rfl, rfl⟩) fun obj s₁ h₁ => ?_
  obtain ⟨rfl, rfl⟩ := h₁
  have kt : ∀ {c : Addr} {vs : List V}, SqT X.K H1 c vs → SqT X.K (upd H1 h'.objs.size (.lst [])) c vs := fun {c vs} t => by
    rcases t with (t | ⟨o, t⟩) | t
    · exact .inl (.inl (by rw [upd_ne (fun e => by rw [e, nS] at t; cases t)]; exact t))
    · exact .inl (.inr ⟨o, by rw [upd_ne (fun e => by rw [e, nS] at t; cases t)]; exact t⟩)
    · exact .inr t
  refine ⟨⟨_, eS, rfl⟩, F.args_list_init_2 _ _, initZ (H := upd H1 h'.objs.size (.lst [])) (I1.ok.hd hc) (PySem.W.ktu_apart s1.heap.objs.size a b (Heap.lt_size ho1) (Heap.lt_size ho2)) hl h1 hmax I3 (fun c hcm => ⟨?_, (fresh5 c hcm).1.2⟩) (hpush _ _ hz) (hpush _ _ hTI) ⟨_, _, hpush _ _ hTO⟩ (hi1.at fun o e => hpush _ o e) (hi2.at fun o e => hpush _ o e) upd_same eS (kt hqx) (kt hqy) fun H' s' ts' J1 J2 J3 J4 J5 => ?_⟩
  · rw [upd_ne (Nat.ne_of_lt (fresh5 c hcm).2)]
    exact (fresh5 c hcm).1.1
  · exact ⟨rfl, .ref h'.objs.size, H', J1, rfl, q h'.objs.size ts' H' nS (fun c o e => J5 c o (by rw [upd_ne (fun z => by rw [z, nS] at e; cases e)]; exact e) (fun z => by rw [z, nS] at e; cases e)) J2 J3 J4⟩
end
end Z

set_option Elab.async false
set_option linter.all false
set_option maxRecDepth 100000
set_option maxHeartbeats 4000000
namespace Z
open PySem PySem.Spec PyProof.Rows L2
/-! ### try: body, except (x1, x2, x3): suite; all that is raised is named -/
/-- what is wished of what the body raises -/
def w3o (K : PySem.W.Frag) (c1 c2 c3 : Value) (ts : Addr → Value → Option Addr → TS) (D : Ends) : WX := fun cls d σ H =>
  PySem.W.exmAny K cls [c1, c2, c3] = some true ∧ ∀ a, H a = none → ts a cls d D σ H
section
variable {X : Cx} {x1 x2 x3 : Str} {c1 c2 c3 : Value} {j : Nat} {body suite : List Stmt} {b0 : Stmt} {p1 p2 p3 tp q1 q2 : Pos} {tb : WX → TS} {ts : Addr → Value → Option Addr → TS}
theorem try_only3 (hs : X.stack = X.env :: X.outer) (hf : X.env.frame = some X.env.locals) (n1 : Names X x1 c1) (n2 : Names X x2 c2) (n3 : Names X x3 c3)
    (hb : ∀ (W : WX) (pn : List (Addr × Obj)) (xe : Value → Shared → Prop), L2N.Takes (X.tr pn xe) W → PassesOwn (model X.prog X.w) X.A X.env xe → PSs (X.tr pn xe) body (tb W))
    (hsu : ∀ (a : Addr) (oe : Obj) (cls : Value) (d : Option Addr) (pn : List (Addr × Obj)), L2N.Zn cls d oe → (∃ vs, oe.data = .fields vs) → PSs (X.suite a ((a, oe) :: pn)) (b0 :: suite) (ts a cls d)) :
    PS X (.Try body [.ExceptHandler (some (.Tuple [.Name x1 p1, .Name x2 p2, .Name x3 p3] j tp)) none (b0 :: suite) q1] [] [] q2) (fun D σ H => tb (w3o X.K c1 c2 c3 ts D) D σ H) := by
  refine ⟨fun pins s0 σ H D I hq => ?_⟩
  have okX := I.ok
  have frX : X.A.frames = some (X.env :: X.outer) := by rw [okX.frames, hs]
  have caught : ∀ (u : Value) (sv : Shared), L2N.XE (X.tr (X.pn ++ pins) (fun e sa => wpAny (model X.prog X.w) X.A (noteFrame e X.env) (fun _ sb => wpAny (model X.prog X.w) X.A (setFlight e none) (fun _ sc =>
      wpAny (model X.prog X.w) X.A (handleBy e X.env [.ExceptHandler (some (.Tuple [.Name x1 p1, .Name x2 p2, .Name x3 p3] j tp)) none (b0 :: suite) q1]) (SP X pins D) X.xe sc) X.xe sb) X.xe sa)) (w3o X.K c1 c2 c3 ts D) u sv →
      wpAny (model X.prog X.w) X.A (noteFrame u X.env) (fun _ sb => wpAny (model X.prog X.w) X.A (setFlight u none) (fun _ sc =>
        wpAny (model X.prog X.w) X.A (handleBy u X.env [.ExceptHandler (some (.Tuple [.Name x1 p1, .Name x2 p2, .Name x3 p3] j tp)) none (b0 :: suite) q1]) (SP X pins D) X.xe sc) X.xe sb) X.xe sv := by
    rintro u sv ⟨a, B, sI, pI, σI, HI, cls, d, rfl, JT, nbI, upI, skyI, naI, osI, agI, hm, hw⟩
    have J : Inv X pins σI HI sI := JT.ofTry okX
    have skyE : L2.Sky B (X.env :: X.outer) a (L2N.Zn cls d) X.env.locals sv.heap := by rw [← hs]; exact skyI
    refine L2N.Sky.land L2N.Zn.steady frX hf skyE fun hl fl upl => ?_
    have Jl : Inv X pins σI HI { sv with heap := hl } := J.landed nbI fl.1 (upI.trans upl) osI agI
    obtain ⟨oe, vs, he, hz, hd⟩ := fl.there
    have notF : a ∉ frs (X.env :: X.outer) := fun hin => by
      obtain ⟨_, o', e', hn⟩ := fl.2.2.1.mem hin
      rw [he] at e'
      cases e'
      exact hn _ hd
    have notL : a ≠ X.env.locals := fun z => notF (List.mem_filterMap.mpr ⟨X.env, List.mem_cons_self, by rw [hf, z]⟩)
    have notS : a ∉ X.fs := fun hin => by
      obtain ⟨ev, hev, q⟩ := List.mem_filterMap.mp hin
      exact notF (List.mem_filterMap.mpr ⟨ev, List.mem_cons_of_mem _ hev, q⟩)
    have Sl := Jl.suite he hd naI notL notS
    have name : ∀ {x : Str} {c : Value} {pp : Pos} {Q : Value → Shared → Prop} {E : Value → Shared → Prop}, Names X x c → Q c { sv with heap := hl } → wpAny (model X.prog X.w) (X.A.mark (some (.ref a))) (eval (.Name x pp) X.env) Q E { sv with heap := hl } := fun {x c pp Q E} hc q => by
      obtain ⟨hg, hdb, hm | ⟨hm, hv, hnn⟩⟩ := hc
      · exact ld_glob (X := X.suite a ((a, oe) :: (X.pn ++ pins))) Sl hg hm q hdb
      · exact ld_blt (X := X.suite a ((a, oe) :: (X.pn ++ pins))) Sl hg hm hv q hnn hdb
    refine wpAny_handleBy_cons (codeAny_handlers_test ?_) (by intro q; cases q)
    refine wpAny_Tuple ?_
    refine Calls.spliced_cons (name n1 ?_)
    refine Calls.spliced_cons (name n2 ?_)
    refine Calls.spliced_cons (name n3 ?_)
    refine Calls.spliced_nil ⟨by size_fits, ?_⟩
    have grow : ∀ b o, hl.get? b = some o → (hl.push { cls := .type "tuple", data := .seq [c1, c2, c3].toArray }).get? b = some o := fun _ _ z => Heap.get?_push_of_some _ z
    have tyE : PySem.W.Looks (model X.prog X.w) (hl.push { cls := .type "tuple", data := .seq [c1, c2, c3].toArray }) (typeOf (.ref a)) cls := fun A Q E s k q => wpAny_typeOf_ref (k _ _ (grow _ _ he)) (by rw [hz.1]; exact q)
    refine (PySem.W.exm_tup3 (M := model X.prog X.w) (Jl.kIn.keeps grow) tyE (Heap.get?_push_size hl rfl) hm).here ?_
    refine codeAny_handlers_suite ?_
    refine HandSPX.lands_againZ (fly_on grow fl) fun h4 fl4 up4 => ?_
    have J4 : Inv X pins σI HI { sv with heap := h4 } := J.landed nbI fl4.1 (((upI.trans upl).trans (Heap.UpToSlots.of_keeps grow)).trans up4) osI agI
    obtain ⟨o4, v4, e4, z4, d4⟩ := fl4.there
    have S4 := J4.suite e4 d4 naI notL notS
    refine wpAny_mono ((hsu a o4 cls d (X.pn ++ pins) z4 ⟨_, d4⟩).run [] _ _ HI _ S4 (hw a naI)) (fun fw s6 out => ?_) (fun _ _ z => False.elim z)
    cases fw with
    | ret u =>
      obtain ⟨v6, σ6, H6, S6, r6, q6⟩ := out
      exact ⟨v6, σ6, H6, S6.unsuite okX, r6, q6⟩
    | next =>
      obtain ⟨σ6, H6, S6, q6⟩ := out
      exact ⟨σ6, H6, S6.unsuite okX, q6⟩
    | brk =>
      obtain ⟨σ6, H6, S6, q6⟩ := out
      exact ⟨σ6, H6, S6.unsuite okX, q6⟩
    | cont =>
      obtain ⟨σ6, H6, S6, q6⟩ := out
      exact ⟨σ6, H6, S6.unsuite okX, q6⟩
  refine wpAny_Try_except ?_
  refine wpAny_mono ((hb (w3o X.K c1 c2 c3 ts D) (X.pn ++ pins) _ caught PassesOwn.looking).run [] s0 σ H D (I.toTry _) hq) (fun fw s1 out => ?_) (fun e s1 he => he)
  cases fw with
  | ret u =>
    obtain ⟨v6, σ6, H6, S6, r6, q6⟩ := out
    exact ⟨v6, σ6, H6, S6.ofTry okX, r6, q6⟩
  | next =>
    obtain ⟨σ6, H6, S6, q6⟩ := out
    exact wpAny_execs_nil ⟨σ6, H6, S6.ofTry okX, q6⟩
  | brk =>
    obtain ⟨σ6, H6, S6, q6⟩ := out
    exact ⟨σ6, H6, S6.ofTry okX, q6⟩
  | cont =>
    obtain ⟨σ6, H6, S6, q6⟩ := out
    exact ⟨σ6, H6, S6.ofTry okX, q6⟩
end
/-! ### the making of an object in a try -/
section
variable {X : Cx} {CX : CXT} {k : Nat} {fi C : Addr} {fd : FuncData} {ps : List Str} {sp : Sp} {W : WX} {x : Str} {e : Expr} {es : List Expr} {t : TA} {p1 p2 : Pos}
theorem run_mkS {pins : List (Addr × Obj)} {σ : L2.St} {H : Hp} {s : Shared} {Q : VK} {us : List Value} {vs : List V} {E : XK} (M : Mk X.K C fi) (F : FnOk X.prog X.w X.K X.mg X.base CX k fi fd ps sp) (hr : Room (k + 1) X.A) (hb : Binds X.K fd ps [])
    (hx : PassesAt CX X σ E) (I : Inv X pins σ H s) (r : Vals vs us)
    (goal : ∀ y dy, H y = none → H dy = none → dy ≠ y → sp (.ref y :: vs) (upd (upd H dy (.own y)) y (.ins C dy [])) (fun u H2 => u = .non ∧ Q (.ref y) H2) E) : wpAny (model X.prog X.w) X.A (call (.ref C) us) (EP X pins σ Q) X.xe s := by
  obtain ⟨y, hy⟩ : ∃ y, y = s.heap.objs.size + 1 := ⟨_, rfl⟩
  obtain ⟨dy, hdy⟩ : ∃ dy, dy = s.heap.objs.size := ⟨_, rfl⟩
  have g := goal y dy (by rw [hy]; exact I.hok.fresh (Nat.le_succ _)) (by rw [hdy]; exact I.hok.fresh (Nat.le_refl _)) (by rw [hy, hdy]; exact Nat.ne_of_lt (Nat.lt_succ_self _))
  subst hy hdy
  have J := Inv.made (C := C) I
  have rr : Vals (V.ref (s.heap.objs.size + 1) :: vs) (Value.ref (s.heap.objs.size + 1) :: us) := .cons rfl r
  have nl : (Value.ref (s.heap.objs.size + 1) :: us ++ []).length = ps.length := by
    rw [List.append_nil, ← rr.length]
    exact F.len _ _ _ _ g
  have bb := hb _ (Value.ref (s.heap.objs.size + 1) :: us) J.kIn nl
  rw [List.append_nil] at bb
  have runs := F.run _ X.stack _ _ ⟨Value.ref (s.heap.objs.size + 1) :: us, []⟩ (Value.ref (s.heap.objs.size + 1) :: us) _ _ E (hr.make C us []) (J.env0.make C us []) bb rr g
  refine wpAny_call (make_map (f := fi) I.kIn M.makes M.init (beq_iff_eq.mp M.fn) (codeAny_mono runs fun res sz hz => ?_))
  match res, hz with
  | .error er, hz => exact hx pins _ _ er sz J hz
  | .ok (.ret u), hz =>
    obtain ⟨v, Hz, Jz, rv, ev, q⟩ := J.after hz
    subst ev
    exact ⟨rv, V.ref (s.heap.objs.size + 1), Hz, Jz, rfl, q⟩
  | .ok .next, hz => exact False.elim hz
  | .ok .brk, hz => exact False.elim hz
  | .ok .cont, hz => exact False.elim hz
def tMkS (C : Addr) (sp : Sp) (W : WX) (t : TA) : TE := fun σ H Q => t σ H fun vs H1 => ∀ y dy, H1 y = none → H1 dy = none → dy ≠ y → sp (.ref y :: vs) (upd (upd H1 dy (.own y)) y (.ins C dy [])) (fun u H2 => u = .non ∧ Q (.ref y) H2) fun cls d H' => W cls d σ H'
theorem pe_mkS (M : Mk X.K C fi) (F : FnOk X.prog X.w X.K X.mg X.base (L2N.CX X.prog X.w) k fi fd ps sp) (hr : Room (k + 1) X.A) (hg : Gl X x) (hm : X.mg x = some (.ref C)) (hb : Binds X.K fd ps []) (tk : L2N.Takes X W) (ha : PA X (e :: es) t)
    (hdb : (x == ("__debug__" : Str)) = false := by decide) (he : starEach (e :: es) X.env = (false, eval e X.env) :: starEach es X.env := by rfl) (hpl : (backTo p2 (starEach es X.env)).any (·.1) = false := by rfl) : PE X (.Call (.Name x p1) (e :: es) [] p2) (tMkS C sp W t) :=
  ⟨fun pins s σ H Q I h => wpAny_Call_Name_kw (ld_glob I hg hm (PySem.W.callWith_K (h₀ := X.base) I.ok.mod.kin M.kp (thn (ha.run p2 pins s σ H _ I h) fun us s1 ⟨vs, H1, I1, r, q⟩ => ⟨I1.kIn, run_mkS M F hr hb (L2N.passAt tk σ) I1 r q⟩) he hpl) hdb)⟩
end
end Z

/-! slices of tuples with a step; how many different texts a tuple has -/
set_option Elab.async false
set_option linter.all false
set_option maxRecDepth 100000
open PySem PySem.Spec PyProof.Rows
namespace Z
def dd1 (l : List Str) (x : Str) : List Str := if l.any (· == x) = true then l else l ++ [x]
def dd (xs : List Str) : List Str := xs.foldl dd1 []
theorem dd_snoc (xs : List Str) (x : Str) : dd (xs ++ [x]) = dd1 (dd xs) x := by
  unfold dd
  rw [List.foldl_append]
  rfl
theorem dd_len : ∀ xs : List Str, (dd xs).length ≤ xs.length := fun xs => by
  have h : ∀ (xs l : List Str), (xs.foldl dd1 l).length ≤ l.length + xs.length := by
    intro xs
    induction xs with
    | nil => intro l; exact Nat.le_refl _
    | cons x xs ih =>
      intro l
      rw [List.foldl_cons]
      have := ih (dd1 l x)
      have h1 : (dd1 l x).length ≤ l.length + 1 := by
        unfold dd1
        split
        · omega
        · rw [List.length_append]
          exact Nat.le_refl _
      rw [List.length_cons]
      omega
  have := h xs []
  simpa [dd] using this
section
variable {prog : Program} {w : World} {A : Around} {R : Result → Shared → Prop} {I : Addr} {fp wr : List Addr} {G : Array GenState → Array GenState → Prop} {n : Nat} {P : Nat → Value → Prop} {St : Nat → Shared → Prop}
theorem loopD (W : WalksS prog w A.in1 I fp wr G n P St) (S : Addr) (hSf : S ∉ fp) (xs : List Str) (hsz : xs.length = n) (hn : n + 1 < scanBound)
    (hval : ∀ i v, P i v → ∃ t, v = .str (xs.getD i Str.empty) t) :
    ∀ (k i : Nat) (s : Shared), n - i = k → i ≤ n → St i s →
      s.heap.SetOf (PySem.strKind prog w) S (fun k' => (dd (xs.take i)).any (· == k')) (dd (xs.take i)).length →
      (∀ s', Moved (S :: wr) G s s' → s'.heap.SetOf (PySem.strKind prog w) S (fun k' => (dd xs).any (· == k')) (dd xs).length → R (.ok (.ret .none)) s') →
      codeAny (model prog w) A (.builtin "set.update.loop" ⟨[.ref S, .ref I], []⟩) R s := by
  have hSw : S ∉ wr := fun h => hSf (W.sub _ h)
  have up : ∀ b ∈ wr, b ∈ S :: wr := fun b hb => List.mem_cons_of_mem _ hb
  have old : ∀ {s s' : Shared} {S' : Str → Bool} {m : Nat}, Moved wr G s s' → s.heap.SetOf (PySem.strKind prog w) S S' m → s'.heap.SetOf (PySem.strKind prog w) S S' m := fun {s s' S' m} hm hS => by
    obtain ⟨o, es, ep, tb, ho, rest⟩ := hS
    exact ⟨o, es, ep, tb, hm.heap S _ hSw ho, rest⟩
  intro k
  induction k with
  | zero =>
    intro i s hk hi hst hS hR
    obtain rfl : i = n := by omega
    refine codeAny_builtin PyProof.Rows.F.entry_set_update_loop ?_
    rw [Around.under_plainId PyProof.Rows.F.plain_set_update_loop _]
    show wpAny _ A.in1 (pyNext (.ref I) >>= _) _ _ s
    refine wpAny_bind (W.done s _ _ hst fun s' hm => ?_)
    show wpAny _ A.in1 (ret Value.none) _ _ s'
    rw [← hsz, List.take_length] at hS
    exact wpAny_pure (hR s' (hm.mono up) (old hm hS))
  | succ k ih =>
    intro i s hk hi hst hS hR
    have hlt : i < n := by omega
    have hxi : xs[i]? = some (xs.getD i Str.empty) := by
      rw [List.getD_eq_getElem?_getD, List.getElem?_eq_getElem (by omega)]
      rfl
    have hnext : xs.take (i + 1) = xs.take i ++ [xs.getD i Str.empty] := by rw [List.take_succ, hxi]; rfl
    have hroom : (dd (xs.take i)).length + 1 < scanBound := by
      have := dd_len (xs.take i)
      rw [List.length_take] at this
      omega
    refine codeAny_builtin PyProof.Rows.F.entry_set_update_loop ?_
    rw [Around.under_plainId PyProof.Rows.F.plain_set_update_loop _]
    show wpAny _ A.in1 (pyNext (.ref I) >>= _) _ _ s
    refine wpAny_bind (W.item i s _ _ hlt hst fun v s' hP hst' hm => ?_)
    obtain ⟨t, rfl⟩ := hval i v hP
    have hS' := old hm hS
    show wpAny _ A.in1 (holding [Value.str (xs.getD i Str.empty) t] (setAdd S (.str (xs.getD i Str.empty) t)) >>= _) _ _ s'
    refine wpAny_bind (wpAny_holding ?_)
    unfold setAdd
    refine wpAny_holding ?_
    refine wpAny_bind ((PySem.strKind prog w).pyHash (k := xs.getD i Str.empty) (strKind_is _ _ _ _) ?_)
    refine wpAny_setAddHashed_of (knd := PySem.strKind prog w) (s := { s' with toks := s'.toks + 1 }) (strKind_is _ _ _ _) rfl hS' hroom fun h' hsb hS2 => ?_
    have hSi : h'.SetOf (PySem.strKind prog w) S (fun k' => (dd (xs.take (i + 1))).any (· == k')) (dd (xs.take (i + 1))).length := by
      rw [hnext, dd_snoc]
      refine SetOf_congr hS2 (fun k' => ?_) ?_
      · unfold dd1
        by_cases h : (dd (xs.take i)).any (· == xs.getD i Str.empty) = true
        · rw [if_pos h]
          by_cases e : k' = xs.getD i Str.empty
          · rw [e, h]
            rfl
          · rw [decide_eq_false e, Bool.or_false]
        · rw [if_neg h, List.any_append, List.any_cons, List.any_nil, Bool.or_false]
          congr 1
          by_cases e : k' = xs.getD i Str.empty
          · rw [e, decide_eq_true rfl]
            exact (beq_self_eq_true _).symm
          · rw [decide_eq_false e]
            exact (beq_eq_false_iff_ne.mpr fun z => e z.symm).symm
      · unfold dd1
        split <;> simp
    refine wpAny_pure ⟨plainId_quiet PyProof.Rows.F.plain_set_update_loop _, ih (i + 1) _ (by omega) hlt (W.frame _ s' _ _ hst' (Nat.le_succ _) fun b hb o e => ?_) hSi fun s'' hm'' hS'' => ?_⟩
    · rw [hsb.2 b (fun h : b = S => hSf (by rw [← h]; exact hb))]
      exact e
    · refine hR s'' (Moved.trans W.gtrans ((hm.mono up).then_heap (Nat.le_succ _) fun b o hb e => ?_) hm'') hS''
      rw [hsb.2 b (fun h : b = S => hb (by rw [h]; exact List.mem_cons_self))]
      exact e
end
section
variable {prog : Program} {w : World} {A : Around} {E : Value → Shared → Prop} {s : Shared}
set_option maxHeartbeats 3200000 in
/-- set(t), t a tuple of texts -/
theorem call_setD {l : Addr} {items : Array Value} {xs : List Str} {Q : Value → Shared → Prop} (hh : A.handled = none) (hl : s.heap.IsTuple l items) (hi : StrsAre items.toList xs) (hn : xs.length + 1 < scanBound)
    (h : ∀ (h' : Heap) (tk : Nat), h'.SetOf (PySem.strKind prog w) s.heap.objs.size (fun k' => (dd xs).any (· == k')) (dd xs).length →
      (∀ b o, b < s.heap.objs.size → s.heap.get? b = some o → h'.get? b = some o) → Q (.ref s.heap.objs.size) { s with heap := h', toks := tk }) : wpAny (model prog w) A (call (.type "set") [.ref l]) Q E s := by
  obtain ⟨c, tl, hmro⟩ := PySem.F.called_set.mro
  have hmade := PySem.F.called_set.made
  have hsub := PySem.F.called_set.sub
  refine wpAny_call (codeAny_of_tree ?_)
  show wpAny _ _ (callAny (.type "set") _) _ _ _
  refine wpAny_pure ⟨Code.quiet_builtin _ (by decide +kernel), codeAny_builtin PySem.F.entry_type_call ?_⟩
  rw [Around.under_plain (weight_type_call_type "set" [.ref l] []) rfl]
  have h1 := PySem.F.called_set.notType
  have h2 := PySem.F.called_set.canCreate
  have hct := PySem.F.typeCall_set_1 (.ref l)
  repeat (any_goals (first | assumption | wp_step))
  refine codeAny_mono (code_set_new_1 (.ref l) (E := E) (Q₁ := fun obj s₁ => ∃ led : Bool, obj = .ref s.heap.objs.size ∧ s₁ = { s with heap := s.heap.push { cls := .type "set", dict := none, data := .set #[] 0 (.fresh 0 0 led) } }) fun led => ⟨led, rfl, rfl⟩) fun r s₁ hr => ?_
  match r, hr with
  | .error e, hr => exact hr
  | .ok (.ret obj), hr =>
    obtain ⟨led, rfl, rfl⟩ := hr
    have hS : (s.heap.push { cls := .type "set", dict := none, data := .set #[] 0 (.fresh 0 0 led) }).get? s.heap.objs.size = some { cls := .type "set", dict := none, data := .set #[] 0 (.fresh 0 0 led) } := Heap.get?_push_size _ rfl
    have hT : Shared.TypeIs { s with heap := s.heap.push { cls := .type "set", dict := none, data := .set #[] 0 (.fresh 0 0 led) } } (.ref s.heap.objs.size) "set" := ⟨_, hS, rfl⟩
    have hli := PySem.F.called_set.init.lookup
    have hbi := PySem.F.called_set.init.bind (.ref s.heap.objs.size)
    repeat (any_goals (first | assumption | wp_step))
    refine codeAny_mono (codeAny_call_builtin (R := wants (fun r s₂ => r = .none ∧ ∃ h' tk, s₂ = { s with heap := h', toks := tk } ∧ h'.SetOf (PySem.strKind prog w) s.heap.objs.size (fun k' => (dd xs).any (· == k')) (dd xs).length ∧
        (∀ b o, b < s.heap.objs.size → s.heap.get? b = some o → h'.get? b = some o)) E) PySem.F.called_set.init.plain PySem.F.entry_set_init (check_set_init_1 hT ?_)) fun r₂ s₂ hr₂ => ?_
    · obtain ⟨⟨ocls, odict, odata, oslots⟩, hol, hcl, nl, hdl⟩ := hl
      simp only at hcl hdl
      subst hcl hdl
      have hol' : (s.heap.push { cls := .type "set", dict := none, data := .set #[] 0 (.fresh 0 0 led) }).get? l = some { cls := .type "tuple", dict := odict, data := .seq items nl, slots := oslots } := Heap.get?_push_of_some _ hol
      have hsls := PySem.F.sub_tuple_set
      have hslf := PySem.F.sub_tuple_frozenset
      have hne : (Value.type "tuple" == Value.type "dict") = false := by decide
      have hl1 : (s.heap.push { cls := .type "set", dict := none, data := .set #[] 0 (.fresh 0 0 led) }).IsTuple l items := ⟨_, hol', rfl, nl, rfl⟩
      unfold Builtin.«set.__init__» noKeywords Builtin.Frozenset.updateFrom
      generalize hPI : pyIter = PI
      wp_walk
      subst hPI
      refine wpAny_pyIter_tuple hl1 ?_
      refine wpAny_bind (wpAny_runValue ?_)
      have hlS : l < s.heap.objs.size := Heap.lt_size hol
      have hneI : l ≠ (s.heap.push { cls := .type "set", dict := none, data := .set #[] 0 (.fresh 0 0 led) }).objs.size := by
        rw [Heap.size_push]
        exact Nat.ne_of_lt (Nat.lt_succ_of_lt hlS)
      have hSf : s.heap.objs.size ∉ [(s.heap.push { cls := .type "set", dict := none, data := .set #[] 0 (.fresh 0 0 led) }).objs.size, l] := by
        rw [Heap.size_push]
        simp only [List.mem_cons, List.not_mem_nil, or_false, not_or]
        exact ⟨Nat.ne_of_lt (Nat.lt_succ_self _), Nat.ne_of_gt hlS⟩
      have hsz : xs.length = items.size := by rw [← StrsAre.len_eq hi, Array.length_toList]
      refine loopD ((Walks.tuple (by simp [hh]) _ l hneI items).toS) s.heap.objs.size hSf xs hsz (by rw [← hsz]; exact hn) (fun i v hv => SS.strs_at hi i v (by rw [Array.getElem?_toList]; exact hv)) (items.size - 0) 0 _ (by omega) (Nat.zero_le _)
        ⟨⟨_, Heap.get?_push_size _ rfl, rfl, rfl⟩, (hl1.push _)⟩ ?hS0 fun s' hm hS' => ?hR
      case hS0 =>
        exact SetOf_congr ((setObjOf_fresh (knd := PySem.strKind prog w) led).setOf (Heap.get?_push_of_some _ hS) (by unfold scanBound; omega)) (fun _ => rfl) rfl
      case hR =>
        obtain ⟨h', g', d', tk', os'⟩ := s'
        have eg : g' = s.gens := hm.gens
        have ed : d' = s.drawn := hm.drawn
        have eo : os' = s.os := hm.os
        subst eg ed eo
        show wpAny _ _ _ _ _ _
        refine wpAny_pure ?_
        show wpAny _ _ (ret Value.none) _ _ _
        refine wpAny_pure ⟨rfl, h', tk', rfl, hS', fun b o hb e => ?_⟩
        refine hm.heap b o ?_ (Heap.get?_push_of_some _ (Heap.get?_push_of_some _ e))
        rw [Heap.size_push]
        simp only [List.mem_cons, List.not_mem_nil, or_false, not_or]
        exact ⟨Nat.ne_of_lt hb, Nat.ne_of_lt (Nat.lt_succ_of_lt hb)⟩
    · match r₂, hr₂ with
      | .error e, hr₂ => exact hr₂
      | .ok (.ret r), hr₂ =>
        obtain ⟨rfl, h', tk, rfl, hS', hk'⟩ := hr₂
        repeat (any_goals (first | assumption | wp_step))
        exact h _ _ hS' hk'
end
end Z
namespace Z
open L2
section
variable {X : Cx}
def tLenSetD (K : PySem.W.Frag) (ta : TE) : TE := fun σ H Q => ta σ H fun x H1 => ∃ (l : Addr) (xs : List Str), x = .ref l ∧ SqT K H1 l (xs.map V.str) ∧ xs.length ≤ 1000 ∧ Q (.int (dd xs).length) H1
/-- len(set(t)), t a tuple of texts -/
theorem pe_lenSetD {a : Expr} {ta : TE} {p p2 q pos : Pos} (hc : X.calm = true) (hg : Gl X "len") (hm : X.mg "len" = none) (hg2 : Gl X "set") (hm2 : X.mg "set" = none) (ha : PE X a ta)
    (na : starEach [a] X.env = (false, eval a X.env) :: starEach [] X.env := by rfl) : PE X (.Call (.Name "len" p) [.Call (.Name "set" p2) [a] [] q] [] pos) (tLenSetD X.K ta) := by
  refine ⟨fun pins s σ H Q I h => ?_⟩
  refine Call_ (ld_blt I hg hm boot_len ?_)
  refine callWith_builtin1 (args_cons ?_ rfl) rfl rfl
  refine Call_ (ld_blt I hg2 hm2 boot_set ?_)
  refine callWith_type1 (args_cons (thn (ha.run pins s σ H _ I h) fun v s1 ⟨x, H1, I1, r1, q1⟩ => args_nil ?_) na) na rfl
  obtain ⟨l, xs, rfl, hq, h1, q1⟩ := q1
  cases r1
  obtain ⟨its, r, pl, hz⟩ := I1.tuple hq
  refine call_setD (I1.ok.hd hc) pl (by simpa using strsAre_of r) (by unfold scanBound; omega) fun h' tk hS hk => ?_
  refine args_nil ?_
  have hl := dd_len xs
  obtain ⟨o, es, ep, t, ho, hex, hd, _, _, _, hf, hn⟩ := hS
  have I2 : Inv X pins σ H1 { s1 with heap := h', toks := tk } := I1.kept fun b o e => hk b o (Heap.lt_size e) e
  exact call_len_set ho hex hd hf (by rw [hn] <;> omega) ⟨.int (dd xs).length, H1, I2.tok _, ⟨_, by rw [hn]⟩, q1⟩
end
end Z

/-! slices of tuples with a step -/
set_option Elab.async false
set_option linter.all false
set_option maxRecDepth 100000
set_option maxHeartbeats 4000000
namespace Z
open PySem PySem.Spec PyProof.Rows L2
/-- the places of a slice with a step among n -/
def stI (n : Nat) (lo hi : Option Int) (c : Int) : List Nat :=
  (List.range (Builtin.Slice.slicePlaces (Builtin.Slice.sliceAdjust lo hi c (n : Int)).1 (Builtin.Slice.sliceAdjust lo hi c (n : Int)).2 c)).map fun (k : Nat) => ((Builtin.Slice.sliceAdjust lo hi c (n : Int)).1 + (k : Int) * c).toNat
def cutSt (xs : List V) (lo hi : Option Int) (c : Int) : List V := (stI xs.length lo hi c).filterMap fun i => xs[i]?
theorem vals_pick {xs : List V} {us : List Value} (r : Vals xs us) : ∀ is : List Nat, Vals (is.filterMap fun i => xs[i]?) (is.filterMap fun i => us[i]?)
  | [] => .nil
  | i :: is => by
    have ih := vals_pick r is
    have hl := r.length
    rw [List.filterMap_cons, List.filterMap_cons]
    cases h : xs[i]? with
    | none =>
      have : us[i]? = none := by
        rw [List.getElem?_eq_none_iff] at h ⊢
        omega
      rw [this]
      exact ih
    | some x =>
      obtain ⟨u, hu, ru⟩ := r.get h
      rw [hu]
      exact .cons ru ih
section
variable {prog : Program} {w : World} {A : Around} {E : Value → Shared → Prop} {s : Shared}
theorem sliceApplied_st {sl : Addr} {vl vu vs : Value} {lo hi : Option Int} {c : Int} {n : Nat} {Q : Int × Int × Nat → Shared → Prop} (hs : s.heap.IsSliceOf sl vl vu vs) (pl : IsPart vl lo) (pu : IsPart vu hi) (pc : IsPart vs (some c)) (h0 : c ≠ 0)
    (h : Q ((Builtin.Slice.sliceAdjust lo hi c (n : Int)).1, c, Builtin.Slice.slicePlaces (Builtin.Slice.sliceAdjust lo hi c (n : Int)).1 (Builtin.Slice.sliceAdjust lo hi c (n : Int)).2 c) s) : wpAny (model prog w) A (Builtin.Slice.sliceApplied (.ref sl) (pure (n : Int))) Q E s := by
  obtain ⟨os, hos, hcs, hds⟩ := id hs
  unfold Builtin.Slice.sliceApplied Builtin.Slice.sliceFields
  refine wpAny_bind (wpAny_bind (wpAny_field hos hds (x := vl) rfl (wpAny_bind (wpAny_field hos hds (x := vu) rfl (wpAny_bind (wpAny_field hos hds (x := vs) rfl (wpAny_pure ?_)))))))
  refine wpAny_bind (HT.slicePart_ pc ?_)
  show wpAny _ _ (if (c == 0) = true then _ else _) _ _ s
  rw [if_neg (by simpa using h0)]
  refine wpAny_bind (HT.slicePart_ pl (wpAny_bind (HT.slicePart_ pu (wpAny_bind (wpAny_pure ?_)))))
  exact wpAny_pure h
theorem getItem_tuple_st {t sl : Addr} {items : Array Value} {vl vu vs : Value} {lo hi : Option Int} {c : Int} {Q : Value → Shared → Prop} (ht : IsTup s.heap t items) (hs : s.heap.IsSliceOf sl vl vu vs) (pl : IsPart vl lo) (pu : IsPart vu hi) (pc : IsPart vs (some c)) (h0 : c ≠ 0) (h1 : c ≠ 1)
    (h : Q (.ref s.heap.objs.size) { s with heap := s.heap.push { cls := .type "tuple", data := .seq ((stI items.size lo hi c).filterMap fun i => items.toList[i]?).toArray } })
    (hsz : ((stI items.size lo hi c).filterMap fun i => items.toList[i]?).length ≤ sizeLine) : wpAny (model prog w) A (getItem (.ref t) (.ref sl)) Q E s := by
  have hok : sizeOk (.seq ((stI items.size lo hi c).filterMap fun i => items.toList[i]?).toArray) := by
    show ((stI items.size lo hi c).filterMap fun i => items.toList[i]?).toArray.size ≤ sizeLine
    rw [List.size_toArray]
    exact hsz
  obtain ⟨os, hos, hcs, hds⟩ := id hs
  have hTs : s.TypeIs (.ref sl) "slice" := ⟨os, hos, hcs⟩
  unfold getItem
  try with_reducible refine wpAny_holding ?_
  first | refine wpAny_bind (wpAny_pure ?_) | skip
  refine wpAny_bind (wpAny_sequenceKey ht.typeIs (by decide) ?_)
  refine wpAny_bind (wpAny_callSpecial?_slot (name := Str.ofString "__getitem__") ht.typeIs slot_tuple_getitem (wpAny_call_entry slot_tuple_getitem ht.typeIs entry_tuple_getitem ?_ (args_tuple_getitem _ _)))
  show wpAny _ _ (Builtin.Tuple.tupleItemsOf (.ref t) >>= _) _ _ s
  refine wpAny_bind (tupleItemsOf_ ht ?_)
  refine wpAny_bind (wpAny_typeOf hTs ?_)
  rw [if_pos (by decide)]
  refine wpAny_bind (sliceApplied_st hs pl pu pc h0 ?_)
  have hno : ¬ (((Builtin.Slice.sliceAdjust lo hi c (items.size : Int)).1 == 0 && c == 1 && (Builtin.Slice.slicePlaces (Builtin.Slice.sliceAdjust lo hi c (items.size : Int)).1 (Builtin.Slice.sliceAdjust lo hi c (items.size : Int)).2 c) == items.size) = true) := by
    rw [beq_eq_false_iff_ne.mpr h1]
    simp
  show wpAny _ _ (if ((Builtin.Slice.sliceAdjust lo hi c (items.size : Int)).1 == 0 && c == 1 && (Builtin.Slice.slicePlaces (Builtin.Slice.sliceAdjust lo hi c (items.size : Int)).1 (Builtin.Slice.sliceAdjust lo hi c (items.size : Int)).2 c) == items.size) = true then _ else _) _ _ s
  rw [if_neg hno]
  have e : ((List.range (Builtin.Slice.slicePlaces (Builtin.Slice.sliceAdjust lo hi c (items.size : Int)).1 (Builtin.Slice.sliceAdjust lo hi c (items.size : Int)).2 c)).filterMap fun (k : Nat) => items[((Builtin.Slice.sliceAdjust lo hi c (items.size : Int)).1 + (k : Int) * c).toNat]?)
      = ((stI items.size lo hi c).filterMap fun i => items.toList[i]?) := by
    unfold stI
    rw [List.filterMap_map]
    congr 1
    funext k
    show items[_]? = items.toList[_]?
    rw [Array.getElem?_toList]
  rw [e]
  first
    | exact wpAny_bind (m := Builtin.Tuple.tupleExact _) (wpAny_newObj_type (wpAny_pure ⟨_, rfl, wpAny_pure h⟩) hok)
    | exact wpAny_bind (m := Builtin.Tuple.tupleExact _) (wpAny_newObj_type (wpAny_bind (wpAny_pure (wpAny_pure ⟨_, rfl, wpAny_pure h⟩))) hok)
    | exact wpAny_bind (wpAny_bind (m := Builtin.Tuple.tupleExact _) (wpAny_newObj_type (wpAny_pure (wpAny_pure ⟨_, rfl, wpAny_pure h⟩)) hok))
    | exact wpAny_bind (wpAny_bind (m := Builtin.Tuple.tupleExact _) (wpAny_newObj_type (wpAny_pure ⟨_, rfl, wpAny_pure h⟩) hok))
end
section
variable {X : Cx} {e : Expr} {te : TE}
def tSlSt (K : PySem.W.Frag) (te : TE) (tl th ts : TO) : TE := fun σ H Q => te σ H fun x H1 => tl σ H1 fun lo H2 => th σ H2 fun hi H3 => ts σ H3 fun o H4 => ∃ (a : Addr) (xs : List V) (c : Int), x = .ref a ∧ o = some c ∧ SqT K H4 a xs ∧ c ≠ 0 ∧ c ≠ 1 ∧ (cutSt xs lo hi c).length ≤ sizeLine ∧
  ∀ p, H4 p = none → Q (.ref p) (upd H4 p (.tup (cutSt xs lo hi c)))
/-- t[lo:hi:c], t a tuple -/
theorem pe_sliceSt {lo hi : Option Expr} {st : Expr} {tl th : TO} {tc : TE} {p2 pos : Pos} (he : PE X e te) (hl : PO X lo tl) (hu : PO X hi th) (hc : PE X st tc) : PE X (.Subscript e (.Slice lo hi (some st) p2) pos) (tSlSt X.K te tl th (tPart tc)) := by
  refine ⟨fun pins s σ H Q I h => ?_⟩
  refine Subscript_ (thn (he.run pins s σ H _ I h) fun v s1 ⟨x, H1, I1, r1, q1⟩ => ?_)
  refine wpAny_Slice (thn (hl.run pins s1 σ H1 _ I1 q1) fun vl s2 ⟨l, H2, I2, pl, q2⟩ => thn (hu.run pins s2 σ H2 _ I2 q2) fun vu s3 ⟨u, H3, I3, pu, q3⟩ => ?_)
  refine thn ((po_some hc).run pins s3 σ H3 _ I3 q3) fun vs s4 ⟨o, H4, I4, ps, q4⟩ => ?_
  obtain ⟨a, xs, c, rfl, rfl, hx, h0, h1, hz, q⟩ := q4
  cases r1
  have I5 : Inv X pins σ H4 { s4 with heap := s4.heap.push { cls := .type "slice", data := .fields #[vl, vu, vs] } } := I4.kept (t' := s4.toks) fun b ob q => Heap.get?_push_of_some _ q
  obtain ⟨its, r, ht, hz2⟩ := I5.tuple hx
  have hlen := r.length
  have hV := vals_pick r (stI xs.length l u c)
  have hsz : its.toArray.size = xs.length := by rw [List.size_toArray]; exact hlen.symm
  show wpAny (model X.prog X.w) X.A (subscriptTail e (.Slice lo hi (some st) p2) (.ref a) (.ref s4.heap.objs.size)) (EP X pins σ Q) X.xe { s4 with heap := s4.heap.push { cls := .type "slice", data := .fields #[vl, vu, vs] } }
  refine tail_any (ops := [.ref a, .ref s4.heap.objs.size]) ht.typeIs slot_tuple_getitem.lookup ?_ (by with_unfolding_all rfl)
  refine getItem_tuple_st ht (Heap.IsSliceOf.new _ vl vu vs) pl pu ps h0 h1 ?_ ?_
  · rw [hsz]
    refine ⟨.ref _, _, I5.laid (t' := s4.toks) (o := .tup (cutSt xs l u c)) (fun b ob q => Heap.get?_push_of_some _ q) (Nat.le_refl _) ?_, rfl, q _ (I5.hok.fresh (Nat.le_refl _))⟩
    exact ⟨hz, _, hV, IsTup.new _ _⟩
  · rw [hsz]
    have : its.toArray.toList = its := rfl
    rw [this, ← hV.length]
    exact hz
end
end Z

/-! max of a tuple of ints -/
set_option Elab.async false
set_option linter.all false
set_option maxRecDepth 100000
set_option maxHeartbeats 4000000
namespace Z
open PySem PySem.Spec PyProof.Rows L2
theorem fold_max (xs : List Int) : ∀ (x : Int), (xs.foldl (fun a y => if decide (a < y) = true then y else a) x ∈ x :: xs) ∧ ∀ y ∈ x :: xs, y ≤ xs.foldl (fun a y => if decide (a < y) = true then y else a) x := by
  induction xs with
  | nil => intro x; exact ⟨List.mem_cons_self .., fun y hy => by rw [List.mem_singleton.mp hy]; exact Int.le_refl _⟩
  | cons z xs ih =>
    intro x
    rw [List.foldl_cons]
    by_cases h : x < z
    · rw [if_pos (decide_eq_true h)]
      obtain ⟨h1, h2⟩ := ih z
      refine ⟨List.mem_cons_of_mem _ h1, fun y hy => ?_⟩
      rcases List.mem_cons.mp hy with rfl | hy
      · exact Int.le_trans (Int.le_of_lt h) (h2 z (List.mem_cons_self ..))
      · exact h2 y hy
    · rw [if_neg (by simpa using h)]
      obtain ⟨h1, h2⟩ := ih x
      refine ⟨?_, fun y hy => ?_⟩
      · rcases List.mem_cons.mp h1 with e | e
        · rw [e]
          exact List.mem_cons_self ..
        · exact List.mem_cons_of_mem _ (List.mem_cons_of_mem _ e)
      · rcases List.mem_cons.mp hy with rfl | hy
        · exact h2 _ (List.mem_cons_self ..)
        · rcases List.mem_cons.mp hy with rfl | hy
          · exact Int.le_trans (Int.not_lt.mp h) (h2 x (List.mem_cons_self ..))
          · exact h2 y (List.mem_cons_of_mem _ hy)
theorem holdAll_ints {h : Heap} : ∀ {ns : List Int} {us : List Value}, Vals (ns.map V.int) us → PySem.W.HoldAll h us ns
  | [], _, .nil => .nil
  | n :: ns, _, .cons r t => by
    obtain ⟨k, rfl⟩ := r
    exact .cons ⟨_, .int n k⟩ (holdAll_ints t)
def rMaxT (K : PySem.W.Frag) : List V → Hp → VK → Prop := fun vs H Q => ∃ (a : Addr) (ns : List Int), vs = [V.ref a] ∧ SqT K H a (ns.map V.int) ∧ 0 < ns.length ∧ ∀ m, m ∈ ns → (∀ y, y ∈ ns → y ≤ m) → Q (.int m) H
theorem cr_maxT {X : Cx} (hc : X.calm = true) (hu : X.A.units + 64 < cLine) : CallR X (.builtin "max") (rMaxT X.K) := by
  intro pins s σ H vs us Q I r h
  obtain ⟨a, ns, rfl, hs, hne, q⟩ := h
  obtain ⟨its, rv, hl, _⟩ := I.tuple hs
  rw [Vals.ref1 r]
  cases ns with
  | nil => exact absurd hne (by decide)
  | cons n ns =>
    have hH : PySem.W.HoldAll s.heap its.toArray.toList (n :: ns) := by
      have := holdAll_ints (h := s.heap) rv
      simpa using this
    obtain ⟨m1, m2⟩ := fold_max ns n
    refine PySem.W.max_tuple_datum (α := Int) (I.ok.hd hc) hl hH (Nat.lt_of_le_of_lt (show X.A.units + 1 + 0 ≤ X.A.units + 64 by omega) hu) fun i v h' tk hv hh hk => ?_
    obtain ⟨as, hr⟩ := hh
    obtain ⟨t, rfl, _⟩ := reads_int_inv hr
    exact ⟨.int _, H, I.kept hk, ⟨_, rfl⟩, q _ m1 m2⟩
end Z

/-! xs[i] += e, the read; a comprehension over a range with a step -/
set_option Elab.async false
set_option linter.all false
set_option maxRecDepth 100000
set_option maxHeartbeats 4000000
namespace Z
open PySem PySem.Spec PyProof.Rows L2
def rGetN (K : PySem.W.Frag) : V → V → Hp → VK → Prop := fun x y H Q => ∃ (p : Addr) (xs : List V) (i : Int) (z : V), x = .ref p ∧ y = .int i ∧ 0 ≤ i ∧ SqL K H p xs ∧ atI xs i = some z ∧ Q z H
theorem get_listN {X : Cx} : PGet X (rGetN X.K) := by
  intro pins s σ H x y v u Q I rx ry h
  obtain ⟨p, xs, i, z, rfl, rfl, h0, hq, he, q⟩ := h
  cases rx
  obtain ⟨t, rfl⟩ := ry
  obtain ⟨its, r, pl, hz⟩ := I.list hq
  obtain ⟨j, h1, h2, h3, h4, h5⟩ := atI_get he
  obtain ⟨w, ew, rw'⟩ := r.get h2
  have hl := r.length
  have hj : i.toNat = j := by
    rw [seqIndex_of h0 h5] at h1
    exact Option.some.inj h1
  exact PySem.wpAny_getItem_list pl.isList h0 (by have := line63; omega) (by rw [hj]; simpa using ew) ⟨z, H, I, rw', q⟩
/-- the turns of a step range, for a comprehension -/
theorem lc_rangeC {lo c : Int} {n : Nat} {g : TG} {tt : TT} {te : TE} {vs : List Nat} {σ : L2.St} {H1 : Hp} {D : Addr} {Qd : Hp → Prop} (Pv : Nat → Hp → Prop) (h0 : Pv 0 (upd H1 D (.lst [])))
    (hs : ∀ i H, i < n → Pv i H → g (.int (lo + (i : Nat) * c)) (wipe σ vs) H fun σ2 H2 => wipe σ2 vs = wipe σ vs ∧ tt σ2 H2 fun b H3 =>
      if b = true then te σ2 H3 fun y H4 => ∃ acc, H4 D = some (.lst acc) ∧ acc.length < sizeLine ∧ Pv (i + 1) (upd H4 D (.lst (acc ++ [y]))) else Pv (i + 1) H3) (hd : ∀ H, Pv n H → Qd H) :
    ∃ W : Nat → Nat → Hp → Prop, (∃ m, W 0 m (upd H1 D (.lst []))) ∧ ∀ i m H, W i m H →
      ((Itc lo c n).stop i H ∧ Qd H) ∨ ((Itc lo c n).go i H ∧ ∃ Nx : Hp → Prop, (∀ H', Nx H' → ∃ m', m' < m ∧ W (i + 1) m' H') ∧ ∀ x H', (Itc lo c n).yld i H x H' → g x (wipe σ vs) H' fun σ2 H2 => wipe σ2 vs = wipe σ vs ∧ tt σ2 H2 fun b H3 =>
        if b = true then te σ2 H3 fun y H4 => ∃ acc, H4 D = some (.lst acc) ∧ acc.length < sizeLine ∧ Nx (upd H4 D (.lst (acc ++ [y]))) else Nx H3) := by
  refine ⟨fun i m H => m = n - i ∧ i ≤ n ∧ Pv i H, ⟨n, by simp, Nat.zero_le _, h0⟩, ?_⟩
  rintro i m H ⟨rfl, hi, p⟩
  by_cases hlt : i < n
  · refine .inr ⟨hlt, Pv (i + 1), fun H' p' => ⟨n - (i + 1), by omega, rfl, hlt, p'⟩, fun x H' y => ?_⟩
    obtain ⟨rfl, rfl⟩ := y
    exact hs i _ hlt p
  · obtain rfl : i = n := by omega
    exact .inl ⟨Nat.le_refl _, hd H p⟩
/-- range(0, n, 2) -/
theorem rg4 : RgC 0 4 2 2 := ⟨by decide, by decide, by decide +kernel, by decide +kernel⟩
theorem rg6 : RgC 0 6 2 3 := ⟨by decide, by decide, by decide +kernel, by decide +kernel⟩
end Z

set_option Elab.async false
set_option linter.all false
set_option maxRecDepth 100000
set_option maxHeartbeats 4000000
namespace Y
open PySem L2
open PyProof.Rows (envOfC)
open SX (S)
open C8 (Cal pe_c pe_gc)
/-- the making of a yard, over any values -/
structure InitN (P : Program) (w : World) (K : PySem.W.Frag) (mg : Str → Option Value) (base : Heap) (C c8 c9 cB : Addr) : Prop where
  ex : ∃ (fi : Addr) (fd : FuncData), Mk K C fi ∧ FnOk P w K mg base (L2N.CX P w) 5 fi fd ["self", "kinds", "rows"] (spInitN K C c8 c9 cB) ∧ Binds K fd ["self", "kinds", "rows"] [] ∧ KBn K fd ["self", "kinds", "rows"] 1 ["rows", "kinds"] (fun us ws => us ++ ws.reverse) (fun vs zs => vs ++ zs.reverse)
  ex2 : ∃ (fi : Addr) (fd : FuncData), Mk K C fi ∧ FnOk P w K mg base (L2N.CX P w) 5 fi fd ["self", "kinds", "rows"] (spInitN K C c8 c9 cB) ∧ KBn K fd ["self", "kinds", "rows"] 1 ["kinds", "rows"] (fun us ws => us ++ ws) (fun vs zs => vs ++ zs)
section
variable {P : Program} {w : World} {K : PySem.W.Frag} {mg : Str → Option Value} {base : Heap} {C : Addr}
theorem ok_initYN {f : Addr} {c8 c9 cB : Addr} (D : MfT K "__init__" "Yard.__init__" s_init ["self", "kinds", "rows"] f) (M : Mk K C f) (T : Tx K mg) (Y : YT K mg C) (hcheck_kindsN : Z.CalN P w K mg base 3 "check_kinds" (spCKN K c8)) (hcheck_rowsN : Z.CalN P w K mg base 4 "check_rows" (spCRN K c9)) (hcheck_balanceN : Z.CalN P w K mg base 3 "check_balance" (spCBN K cB)) :
    InitN P w K mg base C c8 c9 cB := by
  obtain ⟨fd, Fo, b, kb, kb2⟩ := ok_initN D T Y hcheck_kindsN hcheck_rowsN hcheck_balanceN
  exact ⟨⟨f, fd, M, Fo, b, kb⟩, ⟨f, fd, M, Fo, kb2⟩⟩
end
end Y

set_option Elab.async false
set_option linter.all false
set_option maxRecDepth 100000
set_option maxHeartbeats 4000000
namespace Y
open PySem L2
open PyProof.Rows (envOfC)
open SX (S)
open C8 (Cal pe_c pe_gc)
/-- of the classes that the reading of a text catches -/
structure XAny (K : PySem.W.Frag) (cl : Nat → Addr) : Prop where
  un : PySem.W.exmAny K (.ref (cl 14)) [.ref (cl 8), .ref (cl 9), .ref (cl 14)] = some true
theorem GoodU.nms {zs : List (List Nat)} {g : Gr} (h : GoodU zs g) : Nms zs := ⟨h.n2, h.n4, h.nd, h.nm⟩
theorem unb_lt {n i : Nat} {g : Gr} (h : unb n g = some i) : i < n ∧ (∀ j, j < i → rowS g j = colS g j) ∧ rowS g i ≠ colS g i := by
  unfold unb at h
  rw [List.find?_range_eq_some] at h
  exact ⟨List.mem_range.mp h.2.1, fun j hj => by simpa using h.2.2 j hj, by simpa using h.1⟩
theorem unb_not {n : Nat} {g : Gr} (h : unb n g = none) : ∀ i, i < n → rowS g i = colS g i := by
  unfold unb at h
  rw [List.find?_range_eq_none] at h
  exact fun i hi => by simpa using h i hi
section
variable {P : Program} {w : World} {K : PySem.W.Frag} {mg : Str → Option Value} {base : Heap} {C : Addr} {cl : Nat → Addr}
/-- the making of a yard of names and a table, balanced or not -/
theorem init_grid {H0 : Hp} {tz tg x dx : Addr} {zs : List (List Nat)} {g : Gr} {Q : VK} {E : XK} {c8 c9 cB : Addr} (hN : Nms zs) (hz : SqT K H0 tz (zs.map vS)) (hG : GridAt K H0 tg g) (hU : TabU zs.length g) (hx : H0 x = none) (hdx : H0 dx = none) (hne : dx ≠ x)
    (h1 : unb zs.length g = none → ∀ dx' H', H' x = some (.ins C dx' (fl tz tg)) → Same H0 H' → Q .non H') (h2 : ∀ i z, unb zs.length g = some i → zs[i]? = some z → ∀ H', Same H0 H' → ErrG cB E (vS z) H') :
    spInitN K C c8 c9 cB [.ref x, .ref tz, .ref tg] (upd (upd H0 dx (.own x)) x (.ins C dx [])) Q E := by
  have hx2 : (upd H0 dx (.own x)) x = none := by rw [upd_ne hne.symm]; exact hx
  have k1 : Same H0 (upd (upd H0 dx (.own x)) x (.ins C dx [])) := (Same.new hdx).trans (Same.new hx2)
  have ex : (upd (upd H0 dx (.own x)) x (.ins C dx [])) x = some (.ins C dx []) := upd_same
  generalize upd (upd H0 dx (.own x)) x (.ins C dx []) = H1 at k1 ex ⊢
  have n2 := hN.n2
  have n4 := hN.n4
  have hbad := badAt_names hN
  have hzl : (zs.map vS).length = zs.length := List.length_map _
  obtain ⟨as, hta, hal, har⟩ := hG.ex
  have hul := hU.len
  have hasl : (as.map V.ref).length = zs.length := by rw [List.length_map, hal, hul]
  refine ⟨x, dx, .ref tz, .ref tg, rfl, .ref tz, rfl, .inr ⟨tz, zs.map vS, rfl, Same.tup k1 hz, by omega, fun y hy => ?_, fun h => absurd h (by omega), fun _ => ⟨fun i hi _ hb => ?_, fun _ H2 k2 => ?_⟩⟩⟩
  · obtain ⟨z, hz2, rfl⟩ := List.mem_map.mp hy
    exact .inl ⟨z, rfl, Nat.le_trans (hN.nm z hz2).len.2 (by decide)⟩
  · rw [hbad i hi] at hb
    cases hb
  have k12 := k1.trans k2
  refine ⟨tz, zs.map vS, rfl, Same.tup k12 hz, .ref tg, ((zs.map vS).length : Nat), rfl, ?_⟩
  rw [hzl]
  refine .inr ⟨tg, as.map V.ref, List.replicate zs.length true, rfl, Same.tup k12 hta, by omega, fun h => absurd (by rw [hasl]) h, fun _ => ⟨by rw [List.length_replicate, hasl], fun i y b hy hb => ?_, fun i hj hb => ?_, fun _ H3 k3 => ?_⟩⟩
  · obtain ⟨a, ha, rfl⟩ : ∃ a, as[i]? = some a ∧ V.ref a = y := by
      rw [List.getElem?_map] at hy
      exact Option.map_eq_some_iff.mp hy
    have hi : i < g.length := by
      rw [← hal]
      exact (List.getElem?_eq_some_iff.mp ha).1
    obtain ⟨q1, q2⟩ := hU.rows (getD_at hi)
    have hb2 : b = true := by
      rw [List.getElem?_replicate, if_pos (by omega)] at hb
      exact (Option.some.inj hb).symm
    refine .inr ⟨a, (g.getD i []).map vI, rfl, Same.tup k12 (har i a _ ha (getD_at hi)), by rw [List.length_map]; omega, fun q hq => ?_, ?_⟩
    · obtain ⟨z, _, rfl⟩ := List.mem_map.mp hq
      exact .inl ⟨z, rfl⟩
    · rw [hb2, all_numB, List.length_map, q1, q2, decide_eq_true rfl]
      rfl
  · have : i < zs.length := by
      have := (List.getElem?_eq_some_iff.mp hb).1
      rwa [List.length_replicate] at this
    rw [List.getElem?_replicate, if_pos this] at hb
    cases hb
  have k13 := k12.trans k3
  refine ⟨tz, tg, zs, g, rfl, Same.tup k13 hz, hG.same k13, n4, hul, fun i r hr => (hU.row i r hr).1, fun i z hzi hj hne H4 k4 => ?_, fun hb H4 k4 => ?_⟩
  · exact h2 i z (unb_some (List.getElem?_eq_some_iff.mp hzi).1 hj hne) hzi H4 (k13.trans k4)
  · have k24 := (k2.trans k3).trans k4
    exact ⟨k24 _ _ ex, tg, rfl, fun H5 ⟨dx', e5⟩ h5 => h1 (unb_none hb) dx' H5 e5 fun b o e => h5 b o ((k1.trans k24) b o e) (ne_of_none e hx)⟩
def spYOfU (K : PySem.W.Frag) (C : Addr) : Sp := fun vs H Q _ => ∃ (zs : List (List Nat)) (g : Gr), vs = [vS (sheetL zs g)] ∧ GoodU zs g ∧ (unb zs.length g = none → ∀ y H', YardAt K C H' y zs g → Same H H' → Q (.ref y) H') ∧ (∀ i, unb zs.length g = some i → ∀ H', Same H H' → Q .non H')
theorem ok_yard_of_textU {fs fl fr : Addr} (D : DfT K mg "yard_of_text" s_yard_of_text ["text"]) (T : Tx K mg) (Y : YT K mg C) (Y2 : YOwn K C fs fl fr) (G : Eg mg cl) (XA : XAny K cl) (InN : InitN P w K mg base C (cl 8) (cl 9) (cl 14))
    (h_str : MfC P w K mg base 3 fs ["self"] (spStr K C)) (hkinds_of_text : Cal P w K mg base 1 "kinds_of_text" (spKOf K) []) (hrows_of_text : Cal P w K mg base 3 "rows_of_text" (spROf K) []) : Cal P w K mg base 7 "yard_of_text" (spYOfU K C) [] := by
  have nd := sc_yard_of_text.nd
  obtain ⟨fi, fdi, Mk1, Fi, bi, kb⟩ := InN.ex
  refine calS (k := 6) D sc_yard_of_text (fun vs H Q E h => by obtain ⟨zs, g, rfl, _⟩ := h; rfl) fun f cdv A outer s H vs Q E hr h => ?_
  let sc : Scope := defScope s_yard_of_text
  refine ⟨_, pss_cons (Z.try_only3 (X := (cxOf CX0 P w K mg base ["text", "yard"] "yard_of_text" (defScope s_yard_of_text) f cdv A outer s H E).nox) (c1 := .ref (cl 8)) (c2 := .ref (cl 9)) (c3 := .ref (cl 14)) rfl rfl ⟨rfl, by decide, .inl G.g_InvalidKinds⟩ ⟨rfl, by decide, .inl G.g_InvalidRows⟩ ⟨rfl, by decide, .inl G.g_Unbalanced⟩
      (fun W pn xe tk _ => pss_one (ps_set (i := 1) nd rfl (Or.inl rfl) (Z.pe_mkS Mk1 Fi (hr.mono (by decide)) (by rfl) Y.mgC bi tk (pa_cons (pe_c hkinds_of_text hr (by decide) (by rfl) (pa_cons (pv 0) pa_nil)) (pa_cons (pe_c hrows_of_text hr (by decide) (by rfl) (pa_cons (pv 0) pa_nil)) pa_nil)))))
      (fun a oe cls d pn hz hf => pss_one (ps_ret pe_non)))
    (pss_one (ps_ret (pe_ifExp (pt_cmpR op_eq (pe_callTy (call_strO (k := 3) (hr.mono (by decide)) Y2.sStr Y2.fStr h_str.raw) (by rfl) T.n_str (by decide +kernel) (pa_cons (pv 1) pa_nil)) (pv 0) (nomark _)) (pv 1) pe_non))), ?_⟩
  obtain ⟨zs, g, rfl, hg, hk1, hk2⟩ := h
  refine ⟨vS (sheetL zs g), rfl, zs, g, rfl, hg, fun tz H1 hz k1 => ?_⟩
  refine ⟨vS (sheetL zs g), rfl, zs, g, rfl, hg, fun tg H2 hG k2 => ?_⟩
  intro y dy hy hdy hne
  have hz2 := Same.kt k2 hz
  have k12 := k1.trans k2
  refine init_grid hg.nms hz2.sq hG hg.tb hy hdy hne (fun hu dx' H3 e3 k3 => ⟨rfl, ?_⟩) (fun i z hu hzi H3 k3 dd hdd => ⟨XA.un, fun a ha => ?_⟩)
  · have hgood : Good zs g := ⟨hg.n2, hg.n4, hg.nd, hg.nm, hg.tb.table (unb_not hu)⟩
    have hyd : YardAt K C H3 y zs g := ⟨⟨dx', tz, tg, e3, Same.kt k3 hz2, hG.same k3⟩, hgood⟩
    refine ⟨.ref y, rfl, ?_⟩
    refine ⟨y, dx', _, rfl, e3, y, zs, g, rfl, hyd.s, fun H4 k4 => ⟨_, rfl, ?_⟩⟩
    refine ⟨vS (sheetL zs g), rfl, ?_⟩
    refine ⟨rfl, _, rfl, ?_⟩
    refine ite2 (fun _ => ?_) (fun h => absurd (by simp) h)
    exact ⟨.ref y, rfl, hk1 hu y H4 (hyd.same k4) ((k12.trans k3).trans k4)⟩
  · exact hk2 i hu _ ((k12.trans k3).trans (Same.new hdd))
end
end Y

set_option Elab.async false
set_option linter.all false
set_option maxRecDepth 100000
set_option maxHeartbeats 4000000
namespace Y
open PySem L2
open PyProof.Rows (envOfC)
open SX (S)
open C8 (Cal pe_c pe_gc)
section
variable {P : Program} {w : World} {K : PySem.W.Frag} {mg : Str → Option Value} {base : Heap} {C c0 : Addr}
/-- a method that raises -/
structure MfX (P : Program) (w : World) (K : PySem.W.Frag) (mg : Str → Option Value) (base : Heap) (k : Nat) (f : Addr) (ps : List Str) (sp : Sp) : Prop where
  ex : ∃ (fd : FuncData), FnOk P w K mg base (L2N.CX P w) k f fd ps sp ∧ Binds K fd ps []
theorem MfX.raw {k : Nat} {f : Addr} {ps : List Str} {sp : Sp} (M : MfX P w K mg base k f ps sp) : FnR P w K mg base (L2N.CX P w) k f sp := by
  obtain ⟨fd, F, b⟩ := M.ex
  exact (F.raw b .nil).imp fun vs H Q E h => by rw [List.append_nil]; exact h
def spReadU (K : PySem.W.Frag) (C c0 : Addr) : Sp := fun vs H Q E => ∃ (zs : List (List Nat)) (g : Gr), vs = [.ref C, vS (sheetL zs g)] ∧ GoodU zs g ∧ (unb zs.length g = none → ∀ y H', YardAt K C H' y zs g → Same H H' → Q (.ref y) H') ∧ (∀ i, unb zs.length g = some i → ∀ H', Same H H' → ErrG c0 E (vS (sheetL zs g)) H')
theorem ok_readU {f : Addr} (D : MfT K "read" "Yard.read" s_read ["cls", "text"] f) (T : Tx K mg) (x_InvalidText : Z.XN P w K mg base "InvalidText" c0 "given") (hyard_of_textU : Cal P w K mg base 7 "yard_of_text" (spYOfU K C) []) : MfX P w K mg base 8 f ["cls", "text"] (spReadU K C c0) := by
  have nd := sc_read.nd
  have hyard_of_text := hyard_of_textU
  obtain ⟨fd, F, b⟩ := D.ex
  refine ⟨fd, Z.okN (k := 7) F sc_read (fun vs H Q E h => by obtain ⟨zs, g, rfl, _⟩ := h; rfl) fun cdv A outer s H vs Q E hr h => ?_, b⟩
  let sc : Scope := defScope s_read
  have tk : L2N.Takes (cxOf (L2N.CX P w) P w K mg base ["cls", "text", "yard"] "Yard.read" (defScope s_read) f cdv A outer s H E) (fun cls d _ H' => E cls d H') := L2N.takes_of (E₁ := fun e s' => L2N.CX P w outer H s E e s') rfl rfl rfl rfl
  refine ⟨_, (pss_cons (ps_if (pt_not (pt_val (pe_callB (r := rIsi K) call_isi (by rfl) T.n_isinstance (by decide +kernel) (pa_cons (pv 1) (pa_cons (pe_bltn (v := .ty "str") (by rfl) T.n_str (by decide +kernel) rfl) pa_nil))))) (pss_one (L2N.ps_raise rfl tk (Z.pmkX x_InvalidText (hr.mono (by decide)) (pa_cons (pv 1) pa_nil)))) pss_nil)
    (pss_cons (ps_set (i := 2) nd rfl (by first | exact Or.inl rfl | exact Or.inr rfl) (pe_c hyard_of_text hr (by decide) (by rfl) (pa_cons (pv 1) pa_nil)))
    (pss_cons (ps_if (pt_cmpR op_isN (pv 2) pe_non (nomark _)) (pss_one (L2N.ps_raise rfl tk (Z.pmkX x_InvalidText (hr.mono (by decide)) (pa_cons (pv 1) pa_nil)))) pss_nil)
    (pss_one (ps_ret (pv 2)))))), ?_⟩
  obtain ⟨zs, g, rfl, hg, hk1, hk2⟩ := h
  refine ⟨vS (sheetL zs g), rfl, vS (sheetL zs g), .ty "str", .type "str", .type "str", true, rfl, .ty _, .base (.str _), kit_ty (by decide +kernel), true, rfl, ?_⟩
  refine iteF ?_
  refine ⟨vS (sheetL zs g), rfl, zs, g, rfl, hg, fun hu y H1 hy k1 => ?_, fun i hu H1 k1 => ?_⟩
  · refine ⟨.ref y, rfl, rfl, _, rfl, ?_⟩
    refine iteF ?_
    exact ⟨.ref y, rfl, hk1 hu y H1 hy k1⟩
  · refine ⟨.non, rfl, rfl, _, rfl, ?_⟩
    refine iteT ?_
    exact ⟨vS (sheetL zs g), rfl, vS (sheetL zs g), rfl, hk2 i hu H1 k1⟩
end
end Y

-- the greatest number, Yard.__add__
set_option Elab.async false
set_option linter.all false
set_option maxRecDepth 100000
set_option maxHeartbeats 4000000
namespace Y
open PySem L2
open PyProof.Rows (envOfC)
open SX (S)
open C8 (Cal pe_c pe_gc)
/-- the greatest number of a table -/
def IsMaxA (g : Gr) (m : Int) : Prop := (∃ r ∈ g, m ∈ r) ∧ ∀ r ∈ g, ∀ x ∈ r, x ≤ m
/-- a method that may raise, called by an operator -/
structure MfA (P : Program) (w : World) (K : PySem.W.Frag) (mg : Str → Option Value) (base : Heap) (k : Nat) (f : Addr) (ps : List Str) (sp : Sp) : Prop where
  ex : ∃ (fd : FuncData), FnOk P w K mg base (L2N.CX P w) k f fd ps sp ∧ Binds K fd ps []
section
variable {P : Program} {w : World} {K : PySem.W.Frag} {mg : Str → Option Value} {base : Heap} {C cG cO : Addr}
abbrev s_greatestA : Stmt := top 44
theorem sc_greatestA : FnScope ["rows", "row"] ["rows"] (defScope s_greatestA) := ⟨rfl, rfl, rfl, by decide +kernel, rfl, by decide +kernel, by decide +kernel⟩
def spGreatA (K : PySem.W.Frag) : Sp := fun vs H Q _ => ∃ (t : Addr) (g : Gr) (n : Nat), vs = [.ref t] ∧ GridAt K H t g ∧ Sq n g ∧ 0 < n ∧ n ≤ 100 ∧ ∀ m H', IsMaxA g m → Same H H' → Q (vI m) H'
theorem ok_greatest_numberA (D : DfT K mg "greatest_number" s_greatestA ["rows"]) (T : Tx K mg) : Cal P w K mg base 1 "greatest_number" (spGreatA K) [] := by
  have nd := sc_greatestA.nd
  refine calS (k := 0) D sc_greatestA (fun vs H Q E h => by obtain ⟨t, g, n, rfl, _⟩ := h; rfl) fun f cdv A outer s H vs Q E hr h => ?_
  let sc : Scope := defScope s_greatestA
  refine ⟨_, (pss_one (ps_ret (pe_callB (r := rMax K) (cr_max rfl) (by rfl) T.n_max (by decide +kernel) (pa_cons (pe_lc (own := [("row", 1)]) (g := gName 1) (by rfl) nd (pi_tup (pv 0)) (blkOk_by (own := [("row", 1)]) (N := ["rows", "row"]) (sc := sc) (by decide +kernel)) (fun _ _ _ _ _ => pg_name (i := 1) nd rfl (Or.inl rfl)) (fun _ _ _ _ _ => pts_nil) (fun _ _ _ _ _ => (pe_callB (r := Z.rMaxT K) (Z.cr_maxT rfl hr.units) (by rfl) T.n_max (by decide +kernel) (pa_cons (pv 1) pa_nil)))) pa_nil)))), ?_⟩
  obtain ⟨t, g, n, rfl, hG, hsq, hn0, hn, hk⟩ := h
  obtain ⟨as, hta, hal, har⟩ := hG.ex
  have hgl := hsq.1
  refine ⟨.ref t, rfl, t, rfl, ⟨_, hta⟩, fun D hD => ?_⟩
  refine lc_tup (K := K) (a := t) (xs := as.map V.ref) (fun i H' => ∃ ys : List Int, H' D = some (.lst (ys.map vI)) ∧ ys.length = i ∧ (∀ (j : Nat) (y : Int) (r : List Int), ys[j]? = some y → g[j]? = some r → y ∈ r ∧ ∀ x ∈ r, x ≤ y) ∧ Same H H') ⟨[], upd_same, rfl, fun j y r h => by simp at h, Same.new hD⟩ (fun i H' _ ⟨_, _, _, _, k⟩ => Same.tup k hta) ?_ ?_
  · rintro i x H' hx ⟨ys, hD', hyl, hys, k⟩
    obtain ⟨a, ha, rfl⟩ : ∃ a, as[i]? = some a ∧ V.ref a = x := by
      rw [List.getElem?_map] at hx
      exact Option.map_eq_some_iff.mp hx
    have hi : i < g.length := by
      rw [← hal]
      exact (List.getElem?_eq_some_iff.mp ha).1
    have hrl := hsq.row (i := i) (by omega)
    refine ⟨rfl, .ref a, rfl, a, g.getD i [], rfl, Same.tup k (har i a _ ha (getD_at hi)), by omega, fun m hm hle => ?_⟩
    refine ⟨_, hD', ?_, ys ++ [m], ?_, by simp [hyl], fun j y r hy hr => ?_, fun b o e => ?_⟩
    · rw [List.length_map]
      exact Nat.lt_of_lt_of_le (show ys.length < 101 by omega) (by decide)
    · rw [upd_same, List.map_append]
      rfl
    · by_cases hj : j < ys.length
      · rw [List.getElem?_append_left hj] at hy
        exact hys j y r hy hr
      · have hj2 : j = ys.length := by
          have := (List.getElem?_eq_some_iff.mp hy).1
          simp at this
          omega
        subst hj2
        rw [List.getElem?_append_right (Nat.le_refl _), Nat.sub_self] at hy
        cases hy
        rw [hyl, getD_at hi] at hr
        cases hr
        exact ⟨hm, hle⟩
    · rw [upd_ne (ne_of_none e hD)]
      exact k b o e
  · rintro H1 ⟨ys, hD', hyl, hys, k⟩
    rw [List.length_map, hal] at hyl
    refine ⟨D, ys, rfl, SqL.of hD', by omega, fun m hm hle => hk m H1 ⟨?_, fun r hr x hx => ?_⟩ k⟩
    · obtain ⟨j, hj⟩ := List.getElem?_of_mem hm
      have hjg : j < g.length := by rw [← hyl]; exact (List.getElem?_eq_some_iff.mp hj).1
      exact ⟨_, List.mem_of_getElem? (getD_at hjg), (hys j m _ hj (getD_at hjg)).1⟩
    · obtain ⟨j, hj⟩ := List.getElem?_of_mem hr
      obtain ⟨y, hy⟩ : ∃ y, ys[j]? = some y := at_some (by rw [hyl]; exact (List.getElem?_eq_some_iff.mp hj).1)
      exact Int.le_trans ((hys j y r hy hj).2 x hx) (hle y (List.mem_of_getElem? hy))
abbrev s_check_greatA : Stmt := top 55
theorem sc_check_greatA : FnScope ["rows", "greatest"] ["rows"] (defScope s_check_greatA) := ⟨rfl, rfl, rfl, by decide +kernel, rfl, by decide +kernel, by decide +kernel⟩
def spCGA (K : PySem.W.Frag) (cG : Addr) : Sp := fun vs H Q E => ∃ (t : Addr) (g : Gr) (n : Nat), vs = [.ref t] ∧ GridAt K H t g ∧ Sq n g ∧ 0 < n ∧ n ≤ 100 ∧ ∀ k, IsMaxA g k → (1000000000000000000000000000000 < k → ∀ H', Same H H' → ErrG cG E (vI k) H') ∧ (k ≤ 1000000000000000000000000000000 → ∀ H', Same H H' → Q .non H')
theorem ok_check_not_too_greatA (D : DfT K mg "check_not_too_great" s_check_greatA ["rows"]) (T : Tx K mg) (x_TooGreat : Z.XN P w K mg base "TooGreat" cG "given") (hgreatest_numberA : Cal P w K mg base 1 "greatest_number" (spGreatA K) []) : Z.CalN P w K mg base 3 "check_not_too_great" (spCGA K cG) := by
  have nd := sc_check_greatA.nd
  refine Z.calN (k := 2) D sc_check_greatA (fun vs H Q E h => by obtain ⟨t, g, n, rfl, _⟩ := h; rfl) fun f cdv A outer s H vs Q E hr h => ?_
  let sc : Scope := defScope s_check_greatA
  have tk : L2N.Takes (cxOf (L2N.CX P w) P w K mg base ["rows", "greatest"] "check_not_too_great" (defScope s_check_greatA) f cdv A outer s H E) (fun cls d _ H' => E cls d H') := L2N.takes_of (E₁ := fun e s' => L2N.CX P w outer H s E e s') rfl rfl rfl rfl
  have hgreatest_number := hgreatest_numberA
  refine ⟨_, (pss_cons (ps_set (i := 1) nd rfl (by first | exact Or.inl rfl | exact Or.inr rfl) (pe_c hgreatest_number hr (by decide) (by rfl) (pa_cons (pv 0) pa_nil)))
    (pss_one (ps_if (pt_cmpR op_gt (pv 1) (pe_gc (by rfl) T.g_MOST_COUNT) (nomark _)) (pss_one (L2N.ps_raise rfl tk (Z.pmkX x_TooGreat (hr.mono (by decide)) (pa_cons (pv 1) pa_nil)))) pss_nil))), ?_⟩
  obtain ⟨t, g, n, rfl, hG, hsq, hn0, hn, hk⟩ := h
  refine ⟨.ref t, rfl, t, g, n, rfl, hG, hsq, hn0, hn, fun k H1 hmax k1 => ?_⟩
  obtain ⟨h1, h2⟩ := hk k hmax
  refine ⟨vI k, rfl, k, 1000000000000000000000000000000, rfl, rfl, _, rfl, ?_⟩
  refine ite2 (fun h => ?_) (fun h => ?_)
  · exact ⟨vI k, rfl, vI k, rfl, h1 (of_decide_eq_true h) H1 k1⟩
  · exact h2 (Int.not_lt.mp fun z => h (decide_eq_true z)) H1 k1
abbrev s_add : Stmt := inClass (top 59) 14
theorem sc_add : FnScope ["self", "other", "pairs", "rows", "own", "added", "mine", "more"] ["self", "other"] (defScope s_add) := ⟨rfl, rfl, rfl, by decide +kernel, rfl, by decide +kernel, by decide +kernel⟩
def spAdd (K : PySem.W.Frag) (C cO cG : Addr) : Sp := fun vs H Q E => ∃ (y1 y2 : Addr) (zs1 zs2 : List (List Nat)) (g1 g2 : Gr), vs = [.ref y1, .ref y2] ∧ YardS K C H y1 zs1 g1 ∧ YardS K C H y2 zs2 g2 ∧ (zs1 ≠ zs2 → ErrG cO E (.ref y2) H) ∧
  (zs1 = zs2 → ∀ k, IsMaxA (addG g1 g2) k → (1000000000000000000000000000000 < k → ∀ H', Same H H' → ErrG cG E (vI k) H') ∧ (k ≤ 1000000000000000000000000000000 → ∀ y' H', YardS K C H' y' zs1 (addG g1 g2) → Same H H' → Q (.ref y') H'))
theorem ok_add {f fe c8 c9 cB : Addr} (D : MfT K "__add__" "Yard.__add__" s_add ["self", "other"] f) (T : Tx K mg) (Y : YT K mg C) (Yi : YIs K C fe) (x_OtherKinds : Z.XN P w K mg base "OtherKinds" cO "given") (InN : InitN P w K mg base C c8 c9 cB) (hcheck_not_too_greatA : Z.CalN P w K mg base 3 "check_not_too_great" (spCGA K cG)) : MfA P w K mg base 7 f ["self", "other"] (spAdd K C cO cG) := by
  have nd := sc_add.nd
  have hcheck_not_too_greatN := hcheck_not_too_greatA
  obtain ⟨fi, fdi, Mk1, Fi, bi, _⟩ := InN.ex
  obtain ⟨fd, F, b⟩ := D.ex
  refine ⟨fd, Z.okN (k := 6) F sc_add (fun vs H Q E h => by obtain ⟨y1, y2, zs1, zs2, g1, g2, rfl, _⟩ := h; rfl) fun cdv A outer s H vs Q E hr h => ?_, b⟩
  let sc : Scope := defScope s_add
  have tk : L2N.Takes (cxOf (L2N.CX P w) P w K mg base ["self", "other", "pairs", "rows", "own", "added", "mine", "more"] "Yard.__add__" (defScope s_add) f cdv A outer s H E) (fun cls d _ H' => E cls d H') := L2N.takes_of (E₁ := fun e s' => L2N.CX P w outer H s E e s') rfl rfl rfl rfl
  refine ⟨_, (pss_cons (ps_if (pt_not (pt_val (pe_callB (r := rIsi K) call_isi (by rfl) T.n_isinstance (by decide +kernel) (pa_cons (pv 1) (pa_cons (pe_glob (by rfl) Y.mgC (v := .ref _) rfl) pa_nil))))) (pss_one ps_never) pss_nil)
    (pss_cons (ps_if (pt_cmpR (op_neD hr.units) (pe_fld (pv 0) rfl) (pe_fld (pv 1) rfl) (nomark _)) (pss_one (L2N.ps_raise rfl tk (Z.pmkX x_OtherKinds (hr.mono (by decide)) (pa_cons (pv 1) pa_nil)))) pss_nil)
    (pss_cons (ps_set (i := 2) nd rfl (by first | exact Or.inl rfl | exact Or.inr rfl) (Z.pe_listZip (by rfl) (by rfl) T.n_list (by rfl) T.n_zip (pa_cons (pe_fld (pv 0) rfl) (pa_cons (pe_fld (pv 1) rfl) pa_nil))))
    (pss_cons (ps_set (i := 3) nd rfl (by first | exact Or.inl rfl | exact Or.inr rfl) (pe_callTy (r := rTupOf K) call_tuple_of (by rfl) T.n_tuple (by decide +kernel) (pa_cons (pe_lc (own := [("own", 4), ("added", 5)]) (g := gTup K 2 (gCons (gName 4) (gCons (gName 5) gNil))) (by rfl) nd (pi_list (pv 2)) (blkOk_by (own := [("own", 4), ("added", 5)]) (N := ["self", "other", "pairs", "rows", "own", "added", "mine", "more"]) (sc := sc) (by decide +kernel)) (fun _ _ _ _ _ => (pg_tup (by rfl) (pgs_cons (pg_name (i := 4) nd rfl (by first | exact Or.inl rfl | exact Or.inr rfl)) (pgs_cons (pg_name (i := 5) nd rfl (by first | exact Or.inl rfl | exact Or.inr rfl)) pgs_nil)))) (fun _ _ _ _ _ => pts_nil) (fun _ _ _ _ _ => (pe_callTy (r := rTupOf K) call_tuple_of (by rfl) T.n_tuple (by decide +kernel) (pa_cons (pe_lc (wi := RZ.iZipA K (tCons (tVar 4) (tCons (tVar 5) tNil))) (own := [("mine", 6), ("more", 7)]) (g := gTup K 2 (gCons (gName 6) (gCons (gName 7) gNil))) (by rfl) nd (RZ.pi_zipA (by rfl) T.n_zip (pa_cons (pv 4) (pa_cons (pv 5) pa_nil))) (blkOk_by (own := [("mine", 6), ("more", 7)]) (N := ["self", "other", "pairs", "rows", "own", "added", "mine", "more"]) (by kernel_rfl)) (fun _ _ _ _ _ => (pg_tup (by rfl) (pgs_cons (pg_name (i := 6) nd rfl (by first | exact Or.inl rfl | exact Or.inr rfl)) (pgs_cons (pg_name (i := 7) nd rfl (by first | exact Or.inl rfl | exact Or.inr rfl)) pgs_nil)))) (fun _ _ _ _ _ => pts_nil) (fun _ _ _ _ _ => (pe_op op_add (pv 6) (pv 7)))) pa_nil)))) pa_nil)))
    (pss_cons (ps_expr (Z.pe_cN hcheck_not_too_greatN tk hr (by decide) (by rfl) (pa_cons (pv 3) pa_nil)))
    (pss_one (ps_ret (pe_make Mk1 Fi (hr.mono (by decide)) (by rfl) Y.mgC bi .nil (L2N.passes_call tk fun _ _ _ _ h => h) (pa_cons (pe_fld (pv 0) rfl) (pa_cons (pv 3) pa_nil)))))))))), ?_⟩
  obtain ⟨y1, y2, zs1, zs2, g1, g2, rfl, hy1, hy2, er1, er2⟩ := h
  have hg1 := hy1.good
  have hg2 := hy2.good
  obtain ⟨dx1, tz1, tg1, a1, b1, c1⟩ := hy1.ex
  obtain ⟨dx2, tz2, tg2, a2, b2, c2⟩ := hy2.ex
  refine ⟨.ref y2, rfl, .ref y2, .ref C, .ref C, .ref C, true, rfl, .own C, isY Y Yi a2, kit_self, true, rfl, ?_⟩
  refine iteF ?_
  refine ⟨.ref y1, rfl, y1, C, dx1, _, _, rfl, a1, Y.cl, Y.nK, fl_kinds _ _, .ref y2, rfl, y2, C, dx2, _, _, rfl, a2, Y.cl, Y.nK, fl_kinds _ _, ?_⟩
  refine ⟨dK zs1, dK zs2, dpK b1, dpK b2, shaped_K hg1.nm, shaped_K hg2.nm, _, rfl, ?_⟩
  rw [eqv_K]
  by_cases hzz : zs1 = zs2
  case neg =>
    rw [decide_eq_false hzz]
    refine iteT ?_
    exact ⟨.ref y2, rfl, .ref y2, rfl, er1 hzz⟩
  rw [decide_eq_true hzz]
  refine iteF ?_
  subst hzz
  have er2 := er2 rfl
  have n2 := hg1.n2
  have n4 := hg1.n4
  have s1 := hg1.tb.sq
  have s2 := hg2.tb.sq
  obtain ⟨as1, hta1, hal1, har1⟩ := c1.ex
  obtain ⟨as2, hta2, hal2, har2⟩ := c2.ex
  have L1 : as1.length = zs1.length := hal1.trans s1.1
  have L2 : as2.length = zs1.length := hal2.trans s2.1
  refine ⟨.ref y1, rfl, y1, C, dx1, _, _, rfl, a1, Y.cl, Y.nR, fl_rows _ _, .ref y2, rfl, y2, C, dx2, _, _, rfl, a2, Y.cl, Y.nR, fl_rows _ _, tg1, tg2, _, _, rfl, hta1, hta2, by rw [List.length_map, List.length_map, L1, L2], by rw [List.length_map, L1]; omega, fun l ts H1 nl k1 el tl hP => ?_⟩
  rw [List.length_map, L1] at tl
  have k1 : Same H H1 := k1
  refine ⟨.ref l, rfl, l, rfl, ⟨_, SqL.of el⟩, fun D hD => ?_⟩
  refine lc_list (K := K) (a := l) (xs := ts.map V.ref) (fun i H' => ∃ as : List Addr, H' D = some (.lst (as.map V.ref)) ∧ as.length = i ∧ (∀ (j : Nat) (a : Addr), as[j]? = some a → SqT K H' a ((addR (g1.getD j []) (g2.getD j [])).map vI)) ∧ Same H1 H') ⟨[], upd_same, rfl, fun j a h => by simp at h, Same.new hD⟩ (fun i H' _ ⟨_, _, _, _, k⟩ => Same.seq k (SqL.of el)) ?_ ?_
  · rintro i x H2 hx ⟨as, eD, hal, har, k2⟩
    obtain ⟨t, hti, rfl⟩ : ∃ t, ts[i]? = some t ∧ V.ref t = x := by
      rw [List.getElem?_map] at hx
      exact Option.map_eq_some_iff.mp hx
    have hi : i < zs1.length := by rw [← tl]; exact (List.getElem?_eq_some_iff.mp hti).1
    obtain ⟨r1, hr1⟩ : ∃ a, as1[i]? = some a := at_some (by omega)
    obtain ⟨r2, hr2⟩ : ∃ a, as2[i]? = some a := at_some (by omega)
    have hpair := hP i t (.ref r1) (.ref r2) hti (by rw [List.getElem?_map, hr1]; rfl) (by rw [List.getElem?_map, hr2]; rfl)
    have kk := k1.trans k2
    have q1 := Same.tup kk (har1 i r1 _ hr1 (getD_at (show i < g1.length by rw [s1.1]; exact hi)))
    have q2 := Same.tup kk (har2 i r2 _ hr2 (getD_at (show i < g2.length by rw [s2.1]; exact hi)))
    have m1 := s1.row hi
    have m2 := s2.row hi
    generalize hrow1 : g1.getD i [] = row1 at q1 m1
    generalize hrow2 : g2.getD i [] = row2 at q2 m2
    refine ⟨t, [.ref r1, .ref r2], rfl, SqT.of (k2 _ _ hpair), rfl, _, _, rfl, _, _, rfl, rfl, rfl, ?_⟩
    refine ⟨.ref r1, rfl, .ref r2, rfl, r1, r2, _, _, rfl, .inr ⟨q1, q2, fun D2 hD2 => ?_⟩⟩
    refine lc_zipT (K := K) (a := r1) (b := r2) (xs := row1.map vI) (ys := row2.map vI) (by rw [List.length_map, List.length_map, m1, m2]) (fun j H' => H' D2 = some (.lst (((addR row1 row2).take j).map vI)) ∧ Same H2 H') ⟨upd_same, Same.new hD2⟩ (fun j H' q => ⟨Same.tup q.2 q1, Same.tup q.2 q2⟩) ?_ ?_
    · rintro j x y Tt H' hx hy ⟨hD', k⟩ hT
      obtain ⟨u, hu, rfl⟩ : ∃ z, row1[j]? = some z ∧ vI z = x := by
        rw [List.getElem?_map] at hx
        exact Option.map_eq_some_iff.mp hx
      obtain ⟨v, hv, rfl⟩ : ∃ z, row2[j]? = some z ∧ vI z = y := by
        rw [List.getElem?_map] at hy
        exact Option.map_eq_some_iff.mp hy
      have hj : j < zs1.length := by rw [← m1]; exact (List.getElem?_eq_some_iff.mp hu).1
      refine ⟨Tt, _, rfl, SqT.of upd_same, rfl, _, _, rfl, _, _, rfl, rfl, rfl, ?_⟩
      refine ⟨vI u, rfl, vI v, rfl, u, v, rfl, rfl, ?_⟩
      have kT := Same.new (o := .tup [vI u, vI v]) hT
      refine ⟨_, kT _ _ hD', ?_, ?_, fun c o e => ?_⟩
      · rw [List.length_map]
        exact Nat.lt_of_le_of_lt (List.length_take_le _ _) (Nat.lt_of_lt_of_le (show j < 5 by omega) (by decide))
      · have : (addR row1 row2)[j]? = some (u + v) := by
          unfold addR
          rw [List.getElem?_zipWith, hu, hv]
        rw [upd_same, List.take_succ, this, List.map_append]
        rfl
      · rw [upd_ne (ne_of_none e hD2)]
        exact kT _ _ (k c o e)
    · rintro H3 ⟨hD', k3⟩
      have el3 : (row1.map vI).length = (addR row1 row2).length := by rw [List.length_map, addR_len (by rw [m1, m2])]
      rw [el3, List.take_length] at hD'
      refine ⟨D2, _, rfl, .inl ⟨SqL.of hD', fun tt ftt => ?_⟩⟩
      have k4 := Same.new (o := .tup ((addR row1 row2).map vI)) ftt
      have k34 := k3.trans k4
      refine ⟨_, k34 _ _ eD, ?_, as ++ [tt], by rw [upd_same, List.map_append]; rfl, by rw [List.length_append, hal]; rfl, fun j a hj => ?_, fun c o e => ?_⟩
      · rw [List.length_map, hal]
        exact Nat.lt_of_lt_of_le (show i < 5 by omega) (by decide)
      · by_cases hjl : j < as.length
        · rw [List.getElem?_append_left hjl] at hj
          exact tup_updL (k34 _ _ eD) (Same.tup k34 (har j a hj))
        · have hj2 : j = as.length := by
            have := (List.getElem?_eq_some_iff.mp hj).1
            rw [List.length_append, List.length_singleton] at this
            omega
          rw [hj2, List.getElem?_append_right (Nat.le_refl _), Nat.sub_self] at hj
          cases hj
          rw [hj2, hal, hrow1, hrow2]
          exact tup_updL (k34 _ _ eD) (SqT.of upd_same)
      · rw [upd_ne (ne_of_none e hD)]
        exact k34 _ _ (k2 c o e)
  · rintro H2 ⟨as, eD, hal, har, k2⟩
    rw [List.length_map, tl] at hal
    refine ⟨D, _, rfl, .inl ⟨SqL.of eD, fun t ft => ?_⟩⟩
    have k3 := Same.new (o := .tup (as.map V.ref)) ft
    have hsq := addG_sq s1 s2
    have hGG : GridAt K (upd H2 t (.tup (as.map V.ref))) t (addG g1 g2) := ⟨as, SqT.of upd_same, by rw [hal, addG_len s1 s2], fun i a r ha hr => by
      have hi : i < zs1.length := by rw [← hal]; exact (List.getElem?_eq_some_iff.mp ha).1
      rw [addG_at s1 s2 hi] at hr
      cases hr
      exact Same.tup k3 (har i a ha)⟩
    have k03 := (k1.trans k2).trans k3
    generalize upd H2 t (.tup (as.map V.ref)) = H3 at hGG k03 ⊢
    refine ⟨.ref t, rfl, t, addG g1 g2, zs1.length, rfl, hGG, hsq, by omega, by omega, fun k hmax => ?_⟩
    obtain ⟨e6, e7⟩ := er2 k hmax
    refine ⟨fun hk H4 k4 => e6 hk H4 (k03.trans k4), fun hk H4 k4 => ?_⟩
    have k04 := k03.trans k4
    have hT := addG_table hg1.tb hg2.tb fun r hr x hx => Int.le_trans (hmax.2 r hr x hx) hk
    have hgood' : Good zs1 (addG g1 g2) := ⟨hg1.n2, hg1.n4, hg1.nd, hg1.nm, hT⟩
    have hz4 := Same.tup k04 b1
    have hG4 := hGG.same k4
    refine ⟨.ref y1, rfl, y1, C, dx1, _, _, rfl, k04 _ _ a1, Y.cl, Y.nK, fl_kinds _ _, .ref t, rfl, fun x dx' hx hdx hne => ?_⟩
    refine init_grid hgood'.u.nms hz4 hG4 hT.u hx hdx hne (fun _ dx2 H5 e k5 => ⟨rfl, ?_⟩) (fun i z hu _ => ?_)
    · exact e7 hk x H5 ⟨⟨dx2, tz1, t, e, Same.tup k5 hz4, hG4.same k5⟩, hgood'⟩ (k04.trans k5)
    · exact absurd (hT.bal i (unb_lt hu).1) (unb_lt hu).2.2
end
end Y

set_option Elab.async false
set_option linter.all false
set_option maxRecDepth 100000
set_option maxHeartbeats 4000000
namespace Y
open PySem L2
open SX (S)
open C8 (Cal pe_c pe_gc)
theorem lc_enumT {K : PySem.W.Frag} {a : Addr} {xs : List V} {g : TG} {tt : TT} {te : TE} {vs : List Nat} {σ : L2.St} {H1 : Hp} {D : Addr} {Qd : Hp → Prop} (Pv : Nat → Hp → Prop) (h0 : Pv 0 (upd H1 D (.lst []))) (hq : ∀ i H, Pv i H → SqT K H a xs)
    (hs : ∀ i x T H, xs[i]? = some x → Pv i H → H T = none → g (.ref T) (wipe σ vs) (upd H T (.tup [.int (i : Nat), x])) fun σ2 H2 => wipe σ2 vs = wipe σ vs ∧ tt σ2 H2 fun b H3 =>
      if b = true then te σ2 H3 fun y H4 => ∃ acc, H4 D = some (.lst acc) ∧ acc.length < sizeLine ∧ Pv (i + 1) (upd H4 D (.lst (acc ++ [y]))) else Pv (i + 1) H3) (hd : ∀ H, Pv xs.length H → Qd H) :
    ∃ W : Nat → Nat → Hp → Prop, (∃ m, W 0 m (upd H1 D (.lst []))) ∧ ∀ i m H, W i m H →
      ((IteT K a).stop i H ∧ Qd H) ∨ ((IteT K a).go i H ∧ ∃ Nx : Hp → Prop, (∀ H', Nx H' → ∃ m', m' < m ∧ W (i + 1) m' H') ∧ ∀ v H', (IteT K a).yld i H v H' → g v (wipe σ vs) H' fun σ2 H2 => wipe σ2 vs = wipe σ vs ∧ tt σ2 H2 fun b H3 =>
        if b = true then te σ2 H3 fun y H4 => ∃ acc, H4 D = some (.lst acc) ∧ acc.length < sizeLine ∧ Nx (upd H4 D (.lst (acc ++ [y]))) else Nx H3) := by
  refine ⟨fun i m H => m = xs.length - i ∧ i ≤ xs.length ∧ Pv i H, ⟨xs.length, by simp, Nat.zero_le _, h0⟩, ?_⟩
  rintro i m H ⟨rfl, hi, p⟩
  have q1 := hq i H p
  by_cases hlt : i < xs.length
  · refine .inr ⟨⟨xs, xs[i], q1, List.getElem?_eq_getElem hlt⟩, Pv (i + 1), fun H' p' => ⟨xs.length - (i + 1), by omega, rfl, hlt, p'⟩, fun v H' y => ?_⟩
    obtain ⟨T, x0, rfl, hT, rfl, hx⟩ := y
    exact hs i x0 T H (hx xs q1) p hT
  · have : i = xs.length := by omega
    subst this
    exact .inl ⟨⟨xs, q1, Nat.le_refl _⟩, hd H p⟩
/-- all things -/
def sizeG (g : Gr) : Int := (g.map List.sum).sum
/-- the things in place, of so many rows -/
def inG (g : Gr) (k : Nat) : Int := ((List.range k).map fun i => (g.getD i []).getD i 0).sum
def outG (g : Gr) : Int := sizeG g - inG g g.length
section
variable {P : Program} {w : World} {K : PySem.W.Frag} {mg : Str → Option Value} {base : Heap} {C : Addr}
abbrev s_size : Stmt := inClass (top 59) 6
theorem sc_size : FnScope ["self", "row"] ["self"] (defScope s_size) := ⟨rfl, rfl, rfl, by decide +kernel, rfl, by decide +kernel, by decide +kernel⟩
def spSizeS (K : PySem.W.Frag) (C : Addr) : Sp := fun vs H Q _ => ∃ (y : Addr) (zs : List (List Nat)) (g : Gr), vs = [.ref y] ∧ YardS K C H y zs g ∧ ∀ H', Same H H' → Q (.int (sizeG g)) H'
theorem ok_sizeS {f : Addr} (D : MfT K "size" "Yard.size" s_size ["self"] f) (T : Tx K mg) (Y : YT K mg C) : MfC P w K mg base 1 f ["self"] (spSizeS K C) := by
  have nd := sc_size.nd
  refine mfS (k := 0) D sc_size (fun vs H Q E h => by obtain ⟨y, zs, g, rfl, _⟩ := h; rfl) fun cdv A outer s H vs Q E hr h => ?_
  let sc : Scope := defScope s_size
  refine ⟨_, (pss_one (ps_ret (pe_callB (r := rSum K) (cr_sum rfl) (by rfl) T.n_sum (by decide +kernel) (pa_cons (pe_lc (own := [("row", 1)]) (g := gName 1) (by rfl) nd (pi_tup (pe_fld (pv 0) rfl)) (blkOk_by (own := [("row", 1)]) (N := ["self", "row"]) (sc := sc) (by decide +kernel)) (fun _ _ _ _ _ => pg_name (i := 1) nd rfl (Or.inl rfl)) (fun _ _ _ _ _ => pts_nil) (fun _ _ _ _ _ => (pe_callB (r := rSumT K) (cr_sumT rfl) (by rfl) T.n_sum (by decide +kernel) (pa_cons (pv 1) pa_nil)))) pa_nil)))), ?_⟩
  obtain ⟨y, zs, g, rfl, hy, hk⟩ := h
  have hgood := hy.good
  obtain ⟨dx, tz, tg, h1, h2, h3⟩ := hy.ex
  obtain ⟨as, ht, hal, har⟩ := h3.ex
  have hn4 := hgood.n4
  refine ⟨.ref y, rfl, y, C, dx, _, _, rfl, h1, Y.cl, Y.nR, fl_rows _ _, tg, rfl, ⟨_, ht⟩, fun D hD => ?_⟩
  refine lc_tup (K := K) (a := tg) (xs := as.map V.ref) (fun j H' => H' D = some (.lst (((g.take j).map List.sum).map vI)) ∧ Same H H') ⟨upd_same, Same.new hD⟩ (fun j H' _ q => Same.tup q.2 ht) ?_ ?_
  · rintro j x H' hx ⟨hD', k⟩
    obtain ⟨a, ha, rfl⟩ : ∃ a, as[j]? = some a ∧ V.ref a = x := by
      rw [List.getElem?_map] at hx
      exact Option.map_eq_some_iff.mp hx
    have hj : j < g.length := by
      rw [← hal]
      exact (List.getElem?_eq_some_iff.mp ha).1
    refine ⟨rfl, .ref a, rfl, a, g.getD j [], rfl, Same.tup k (har j a _ ha (getD_at hj)), ?_⟩
    refine ⟨_, hD', ?_, ?_, fun c o e => ?_⟩
    · rw [List.length_map, List.length_map]
      exact Nat.lt_of_le_of_lt (List.length_take_le _ _) (Nat.lt_of_lt_of_le (show j < 5 by have := hgood.glen; omega) (by decide))
    · rw [upd_same, List.take_succ, getD_at hj]
      simp
    · rw [upd_ne (ne_of_none e hD)]
      exact k c o e
  · rintro H' ⟨hD', k⟩
    rw [List.length_map, hal, List.take_length] at hD'
    exact ⟨D, _, rfl, SqL.of hD', hk H' k⟩
/-- the things out of place, row by row -/
def outR (g : Gr) (k : Nat) : List Int := (List.range k).map fun i => (g.getD i []).sum - (g.getD i []).getD i 0
theorem outR_sum (g : Gr) (k : Nat) : (outR g k).sum = ((List.range k).map fun i => (g.getD i []).sum).sum - inG g k := by
  induction k with
  | zero => rfl
  | succ k ih =>
    unfold outR inG at *
    simp only [List.range_succ, List.map_append, List.sum_append, List.map_cons, List.map_nil, List.sum_cons, List.sum_nil]
    omega
theorem sum_take (g : Gr) (k : Nat) : k ≤ g.length → ((List.range k).map fun i => (g.getD i []).sum).sum = ((g.take k).map List.sum).sum := by
  induction k with
  | zero => intro _; rfl
  | succ k ih =>
    intro h
    rw [List.take_succ, getD_at (show k < g.length by omega)]
    simp only [List.range_succ, List.map_append, List.sum_append, List.map_cons, List.map_nil, List.sum_cons, List.sum_nil, Option.toList]
    rw [ih (by omega)]
theorem outR_all (g : Gr) : (outR g g.length).sum = outG g := by
  rw [outR_sum, sum_take g _ (Nat.le_refl _), List.take_length]
  rfl
abbrev s_things_out : Stmt := top 41
theorem sc_things_out : FnScope ["rows", "at", "row"] ["rows"] (defScope s_things_out) := ⟨rfl, rfl, rfl, by decide +kernel, rfl, by decide +kernel, by decide +kernel⟩
def spTO (K : PySem.W.Frag) : Sp := fun vs H Q _ => ∃ (t : Addr) (g : Gr), vs = [.ref t] ∧ GridAt K H t g ∧ g.length ≤ 4 ∧ (∀ (i : Nat) (r : List Int), g[i]? = some r → r.length = g.length) ∧ ∀ H', Same H H' → Q (.int (outG g)) H'
theorem ok_things_out (D : DfT K mg "things_out" s_things_out ["rows"]) (T : Tx K mg) : Cal P w K mg base 1 "things_out" (spTO K) [] := by
  have nd := sc_things_out.nd
  refine calS (k := 0) D sc_things_out (fun vs H Q E h => by obtain ⟨t, g, rfl, _⟩ := h; rfl) fun f cdv A outer s H0 vs Q E hr h => ?_
  let sc : Scope := defScope s_things_out
  refine ⟨_, (pss_one (ps_ret (pe_callB (r := rSum K) (cr_sum rfl) (by rfl) T.n_sum (by decide +kernel) (pa_cons (pe_lc (own := [("at", 1), ("row", 2)]) (g := gTup K 2 (gCons (gName 1) (gCons (gName 2) gNil))) (by rfl) nd (pi_enumT (by rfl) T.n_enumerate (pa_cons (pv 0) pa_nil)) (blkOk_by (own := [("at", 1), ("row", 2)]) (N := ["rows", "at", "row"]) (sc := sc) (by decide +kernel)) (fun _ _ _ _ _ => (pg_tup (by rfl) (pgs_cons (pg_name (i := 1) nd rfl (by first | exact Or.inl rfl | exact Or.inr rfl)) (pgs_cons (pg_name (i := 2) nd rfl (by first | exact Or.inl rfl | exact Or.inr rfl)) pgs_nil)))) (fun _ _ _ _ _ => pts_nil) (fun _ _ _ _ _ => (pe_op op_sub (pe_callB (r := rSumT K) (cr_sumT rfl) (by rfl) T.n_sum (by decide +kernel) (pa_cons (pv 2) pa_nil)) (pe_ix (r := rIxT K) ix_tup (pv 2) (pv 1) (fun _ _ => rfl))))) pa_nil)))), ?_⟩
  obtain ⟨t, g, rfl, h3, hn4, hrl, hk⟩ := h
  obtain ⟨as, ht, hal, har⟩ := h3.ex
  refine ⟨.ref t, rfl, t, _, rfl, ht, fun D hD => ?_⟩
  refine lc_enumT (K := K) (a := t) (xs := as.map V.ref) (fun j H' => H' D = some (.lst ((outR g j).map vI)) ∧ Same H0 H') ⟨upd_same, Same.new hD⟩ (fun j H' q => Same.tup q.2 ht) ?_ ?_
  · rintro j x Tt H' hx ⟨hD', k⟩ hT
    obtain ⟨a, ha, rfl⟩ : ∃ a, as[j]? = some a ∧ V.ref a = x := by
      rw [List.getElem?_map] at hx
      exact Option.map_eq_some_iff.mp hx
    have hj : j < g.length := by
      rw [← hal]
      exact (List.getElem?_eq_some_iff.mp ha).1
    have k2 := k.trans (Same.new (o := .tup [.int (j : Nat), .ref a]) hT)
    have hD2 := Same.new (o := .tup [.int (j : Nat), .ref a]) hT _ _ hD'
    refine ⟨Tt, _, rfl, SqT.of upd_same, rfl, _, _, rfl, _, _, rfl, rfl, ?_⟩
    generalize upd H' Tt (.tup [.int (j : Nat), .ref a]) = H2 at k2 hD2 ⊢
    have q2 := hrl j _ (getD_at hj)
    have hra := Same.tup k2 (har j a _ ha (getD_at hj))
    refine ⟨rfl, .ref a, rfl, a, _, rfl, hra, .ref a, rfl, vN j, rfl, a, _, _, _, rfl, rfl, hra, atI_int (by rw [q2]; exact hj), _, _, rfl, rfl, ?_⟩
    refine ⟨_, hD2, ?_, ?_, fun c o e => ?_⟩
    · rw [List.length_map]
      unfold outR
      rw [List.length_map, List.length_range]
      exact Nat.lt_of_lt_of_le (show j < 5 by omega) (by decide)
    · rw [upd_same]
      unfold outR
      rw [List.range_succ, List.map_append, List.map_append]
      rfl
    · rw [upd_ne (ne_of_none e hD)]
      exact k2 c o e
  · rintro H' ⟨hD', k⟩
    rw [List.length_map, hal] at hD'
    refine ⟨D, _, rfl, SqL.of hD', ?_⟩
    rw [outR_all]
    exact hk H' k
abbrev s_out : Stmt := inClass (top 59) 5
theorem sc_out : FnScope ["self"] ["self"] (defScope s_out) := ⟨rfl, rfl, rfl, by decide +kernel, rfl, by decide +kernel, by decide +kernel⟩
def spOutS (K : PySem.W.Frag) (C : Addr) : Sp := fun vs H Q _ => ∃ (y : Addr) (zs : List (List Nat)) (g : Gr), vs = [.ref y] ∧ YardS K C H y zs g ∧ ∀ H', Same H H' → Q (.int (outG g)) H'
theorem ok_outS {f : Addr} (D : MfT K "out" "Yard.out" s_out ["self"] f) (T : Tx K mg) (Y : YT K mg C) (hthings_out : Cal P w K mg base 1 "things_out" (spTO K) []) : MfC P w K mg base 2 f ["self"] (spOutS K C) := by
  have nd := sc_out.nd
  refine mfS (k := 1) D sc_out (fun vs H Q E h => by obtain ⟨y, zs, g, rfl, _⟩ := h; rfl) fun cdv A outer s H vs Q E hr h => ?_
  let sc : Scope := defScope s_out
  refine ⟨_, (pss_one (ps_ret (pe_c hthings_out hr (by decide) (by rfl) (pa_cons (pe_fld (pv 0) rfl) pa_nil)))), ?_⟩
  obtain ⟨y, zs, g, rfl, hy, hk⟩ := h
  have hgood := hy.good
  obtain ⟨dx, tz, tg, h1, h2, h3⟩ := hy.ex
  have hgl := hgood.glen
  exact ⟨.ref y, rfl, y, C, dx, _, _, rfl, h1, Y.cl, Y.nR, fl_rows _ _, tg, g, rfl, h3, by have := hgood.n4; omega, fun i r h => by rw [(hgood.tb.rows h).2, hgl], hk⟩
end
theorem size_addG {n : Nat} {g h : Gr} (hg : Sq n g) (hh : Sq n h) : sizeG (addG g h) = sizeG g + sizeG h := by
  unfold sizeG
  have e : (addG g h).map List.sum = addR (g.map List.sum) (h.map List.sum) := by
    refine List.ext_getElem? fun i => ?_
    by_cases hi : i < n
    · unfold addR
      rw [List.getElem?_map, addG_at hg hh hi, List.getElem?_zipWith, List.getElem?_map, List.getElem?_map, getD_at (show i < g.length by rw [hg.1]; exact hi), getD_at (show i < h.length by rw [hh.1]; exact hi)]
      show some ((addR (g.getD i []) (h.getD i [])).sum) = some _
      rw [addR_sum (by rw [hg.row hi, hh.row hi])]
    · have h1 := addG_len hg hh
      have h2 := hg.1
      have h3 := hh.1
      rw [List.getElem?_eq_none (by rw [List.length_map]; omega), List.getElem?_eq_none (by rw [addR_len (by rw [List.length_map, List.length_map]; omega), List.length_map]; omega)]
  rw [e]
  exact addR_sum (by rw [List.length_map, List.length_map, hg.1, hh.1])
theorem out_addG {n : Nat} {g h : Gr} (hg : Sq n g) (hh : Sq n h) : outG (addG g h) = outG g + outG h := by
  unfold outG
  rw [size_addG hg hh, addG_len hg hh, hg.1, hh.1]
  have e : ∀ k, k ≤ n → inG (addG g h) k = inG g k + inG h k := fun k => by
    induction k with
    | zero => intro _; rfl
    | succ k ih =>
      intro hk
      have ih := ih (by omega)
      have hd := ent_addG hg hh (show k < n by omega) k
      unfold ent at hd
      unfold inG at ih ⊢
      simp only [List.range_succ, List.map_append, List.sum_append, List.map_cons, List.map_nil, List.sum_cons, List.sum_nil]
      rw [ih, hd]
      omega
  rw [e n (Nat.le_refl _)]
  omega
end Y

set_option Elab.async false
set_option linter.all false
set_option maxRecDepth 100000
set_option maxHeartbeats 4000000
namespace Y
open PySem L2
open SX (S)
open C8 (Cal pe_c pe_gc)
/-- what the text must say of the class's reading -/
structure YCm (K : PySem.W.Frag) (C : Addr) (mc : Value) (p g : Addr) : Prop where
  cr : ClX.CRead K C mc
  cm : ClX.CMet K C mc "read" p g
section
variable {P : Program} {w : World} {K : PySem.W.Frag} {mg : Str → Option Value} {base : Heap} {C : Addr}
abbrev s_built : Stmt := top 73
theorem sc_built : FnScope ["_law_pail", "_law_parts", "_law_way"] ["_law_pail", "_law_parts"] (defScope s_built) := ⟨rfl, rfl, rfl, by decide +kernel, rfl, by decide +kernel, by decide +kernel⟩
def spBuilt (K : PySem.W.Frag) (C : Addr) : Sp := fun vs H Q _ => ∃ (p l : Addr) (zs : List (List Nat)) (g : Gr), vs = [.ref p, .ref l] ∧ PailAt H p ∧ DrAt K H l zs g ∧ ∀ y H', YardAt K C H' y zs g → PailAt H' p → KpX p H H' → Q (.ref y) H'
theorem ok_built {mc : Value} {pr fr : Addr} (D : DfT K mg "_law_built" s_built ["_law_pail", "_law_parts"]) (T : Tx K mg) (Y : YT K mg C) (Y3 : YCm K C mc pr fr) (In : InitY P w K mg base C) (h_read : MfC P w K mg base 8 fr ["cls", "text"] (spRead K C))
    (h_cast : Cal P w K mg base 1 "_law_cast" spCast []) (h_sheet : Cal P w K mg base 1 "_law_sheet" (spSheet K) []) : Cal P w K mg base 9 "_law_built" (spBuilt K C) [] := by
  have nd := sc_built.nd
  obtain ⟨fi, fdi, Mk1, Fi, bi, kb⟩ := In.ex
  refine calS (k := 8) D sc_built (fun vs H Q E h => by obtain ⟨p, l, zs, g, rfl, _⟩ := h; rfl) fun f cdv A outer s H vs Q E hr h => ?_
  let sc : Scope := defScope s_built
  refine ⟨_, (pss_cons (ps_set (i := 2) nd rfl (by first | exact Or.inl rfl | exact Or.inr rfl) (pe_c h_cast hr (by decide) (by rfl) (pa_cons (pv 0) (pa_cons pe_int pa_nil))))
    (pss_cons (ps_if (pt_cmpR op_eq (pv 2) pe_int (nomark _)) (pss_one (ps_ret (pe_make Mk1 Fi (hr.mono (by decide)) (by rfl) Y.mgC bi .nil pass0 (pa_cons (pe_ix (r := rIxL K) ix_list (pv 1) pe_int (fun _ _ => rfl)) (pa_cons (pe_ix (r := rIxL K) ix_list (pv 1) pe_int (fun _ _ => rfl)) pa_nil))))) pss_nil)
    (pss_one (ps_ret (pe_ifExp (pt_cmpR op_eq (pv 2) pe_int (nomark _)) (pe_makeK0 Mk1 Fi (hr.mono (by decide)) (by rfl) Y.mgC kb pass0 (pk_cons (pe_ix (r := rIxL K) ix_list (pv 1) pe_int (fun _ _ => rfl)) (pk_cons (pe_ix (r := rIxL K) ix_list (pv 1) pe_int (fun _ _ => rfl)) pk_nil))) (ClX.pe_cmeth (pe_glob (by rfl) Y.mgC (v := .ref C) rfl) Y3.cr Y3.cm h_read.raw (hr.mono (by decide)) pass0 (pa_cons (pe_c h_sheet hr (by decide) (by rfl) (pa_cons (pv 1) pa_nil)) pa_nil))))))), ?_⟩
  obtain ⟨p, l, zs, g, rfl, hP, hd, hk⟩ := h
  refine ⟨.ref p, rfl, p, 3, rfl, hP, ⟨by decide, by decide⟩, fun r H1 r0 r1 hP1 k1 => ?_⟩
  have hd1 := hd.kpx hP k1
  obtain ⟨tz, tg, hl, hz, hg⟩ := hd1.ex0
  have at0 : L2.atI [V.ref tz, V.ref tg] 0 = some (V.ref tz) := by exact atI_nat (j := 0) rfl
  have at1 : L2.atI [V.ref tz, V.ref tg] 1 = some (V.ref tg) := by exact atI_nat (j := 1) rfl
  refine ⟨.int r, rfl, rfl, _, rfl, ?_⟩
  refine ite2 (fun h => ?_) (fun h => ?_)
  · refine ⟨.ref l, rfl, l, _, 0, .ref tz, rfl, rfl, SqL.of hl, at0, .ref l, rfl, l, _, 1, .ref tg, rfl, rfl, SqL.of hl, at1, ?_⟩
    refine make_ok2 hz hg hd.good fun y H3 hy k3 => ?_
    exact hk y H3 hy (hP1.same k3) (k1.trans (.of k3))
  · refine ⟨.int r, rfl, rfl, _, rfl, ?_⟩
    refine ite2 (fun h => ?_) (fun h => ?_)
    · refine ⟨.ref l, rfl, l, _, 1, .ref tg, rfl, rfl, SqL.of hl, at1, .ref l, rfl, l, _, 0, .ref tz, rfl, rfl, SqL.of hl, at0, rfl, rfl, ?_⟩
      refine make_ok2 hz hg hd.good fun y H3 hy k3 => ?_
      exact hk y H3 hy (hP1.same k3) (k1.trans (.of k3))
    · refine ⟨rfl, .ref l, rfl, l, zs, g, rfl, hd1.u, fun H2 k2 => ?_⟩
      refine ⟨zs, g, rfl, hd.good, fun y H3 hy k3 => ?_⟩
      exact hk y H3 hy (hP1.same (k2.trans k3)) (k1.trans (.of (k2.trans k3)))
end
end Y

set_option Elab.async false
set_option linter.all false
set_option maxRecDepth 100000
set_option maxHeartbeats 4000000
namespace Y
open PySem L2
open PyProof.Rows (envOfC)
open SX (S)
open C8 (Cal pe_c pe_gc)
/-- whether a value is one of these names -/
def kindB (zs : List (List Nat)) : V → Bool
  | .str x => inV (.str x) (zs.map vS)
  | _ => false
/-- a value of one of Python's own types -/
def KV (K : PySem.W.Frag) (H : Hp) (v : V) : Prop := ∃ s, s ∈ tyNames ∧ TyX K H v (.type s)
theorem kind_no {v : V} {zs : List (List Nat)} (h : ∀ x, v ≠ .str x) : kindB zs v = false := by
  cases v with
  | str x => exact absurd rfl (h x)
  | _ => rfl
theorem ty_noStr {K : PySem.W.Frag} {H : Hp} {v : V} {t : Value} (h : TyX K H v t) (hno : ∀ x, v ≠ .str x) : t ≠ .type "str" := by
  cases h with
  | base b =>
    cases b with
    | str x => exact absurd rfl (hno x)
    | _ => intro e; first | cases e | (injection e with e; exact absurd e (by decide))
  | _ => intro e; injection e with e; exact absurd e (by decide)
theorem kit_no : ∀ s ∈ tyNames, s ≠ "str" → kitB s "str" = some false := by decide +kernel
section
variable {P : Program} {w : World} {K : PySem.W.Frag} {mg : Str → Option Value} {base : Heap} {C : Addr} {cK : Addr}
abbrev s_is_kind : Stmt := top 34
theorem sc_is_kind : FnScope ["kinds", "value"] ["kinds", "value"] (defScope s_is_kind) := ⟨rfl, rfl, rfl, by decide +kernel, rfl, by decide +kernel, by decide +kernel⟩
def spIsKind (K : PySem.W.Frag) : Sp := fun vs H Q _ => ∃ (tz : Addr) (zs : List (List Nat)) (v : V), vs = [.ref tz, v] ∧ SqT K H tz (zs.map vS) ∧ KV K H v ∧ Q (.bl (kindB zs v)) H
theorem ok_is_kind (D : DfT K mg "is_kind" s_is_kind ["kinds", "value"]) (T : Tx K mg) : Cal P w K mg base 1 "is_kind" (spIsKind K) [] := by
  have nd := sc_is_kind.nd
  refine calS (k := 0) D sc_is_kind (fun vs H Q E h => by obtain ⟨tz, zs, v, rfl, _⟩ := h; rfl) fun f cdv A outer s H vs Q E hr h => ?_
  let sc : Scope := defScope s_is_kind
  refine ⟨_, (pss_one (ps_ret (pe_and (pe_callB (r := rIsi K) call_isi (by rfl) T.n_isinstance (by decide +kernel) (pa_cons (pv 1) (pa_cons (pe_bltn (v := .ty "str") (by rfl) T.n_str (by decide +kernel) rfl) pa_nil))) (pe_one (pe_cmpR (r := rIn K false) op_in_seq (pv 1) (pv 0) (by rfl)))))), ?_⟩
  obtain ⟨tz, zs, v, rfl, hz, hv, hk⟩ := h
  obtain ⟨s, hs, ht⟩ := hv
  rcases (show (∃ x, v = .str x) ∨ ∀ x, v ≠ .str x from by cases v <;> first | exact .inl ⟨_, rfl⟩ | exact .inr fun _ e => nomatch e) with ⟨x, rfl⟩ | hno
  · refine ⟨.str x, rfl, .str x, .ty "str", .type "str", .type "str", true, rfl, .ty _, .base (.str _), kit_ty (by decide +kernel), true, rfl, ?_⟩
    refine iteT ?_
    exact ⟨.str x, rfl, .ref tz, rfl, tz, _, rfl, .inr hz, rfl, flat_S _, hk⟩
  · have hne : s ≠ "str" := fun e => ty_noStr ht hno (by rw [e])
    refine ⟨v, rfl, v, .ty "str", .type s, .type "str", false, rfl, .ty _, ht, kit_ty (kit_no s hs hne), false, rfl, ?_⟩
    refine iteF ?_
    rw [kind_no hno] at hk
    exact hk
theorem kindB_at {zs : List (List Nat)} {v : V} (h : kindB zs v = true) : ∃ (i : Nat) (x : List Nat), v = vS x ∧ zs[i]? = some x := by
  cases v with
  | str x =>
    obtain ⟨y, hy, e⟩ := List.any_eq_true.mp (show inV (.str x) (zs.map vS) = true from h)
    obtain ⟨z, hz, rfl⟩ := List.mem_map.mp hy
    obtain ⟨i, hi⟩ := List.getElem?_of_mem hz
    refine ⟨i, z, ?_, hi⟩
    have : eqV (vS z) (.str x) = true := e
    exact (congrArg V.str (beq_iff_eq.mp (show (S z == x) = true from this))).symm
  | _ => cases h
theorem ix_first {zs : List (List Nat)} (nd : zs.Nodup) {i : Nat} {x : List Nat} (h : zs[i]? = some x) : (zs.map S)[i]? = some (S x) ∧ ∀ m, m < i → (zs.map S)[m]? ≠ some (S x) := by
  refine ⟨by rw [List.getElem?_map, h]; rfl, fun m hm e => ?_⟩
  rw [List.getElem?_map] at e
  obtain ⟨y, hy, e2⟩ := Option.map_eq_some_iff.mp e
  have : y = x := SX.S_inj e2
  subst this
  obtain ⟨h1, h2⟩ := List.getElem?_eq_some_iff.mp h
  obtain ⟨h3, h4⟩ := List.getElem?_eq_some_iff.mp hy
  have := (List.getElem_inj nd).mp (h4.trans h2.symm)
  omega
structure MfN (P : Program) (w : World) (K : PySem.W.Frag) (mg : Str → Option Value) (base : Heap) (k : Nat) (f : Addr) (ps : List Str) (n : Nat) (ks : List Str) (sp : Sp) : Prop where
  ex : ∃ (fd : FuncData), FnOk P w K mg base (L2N.CX P w) k f fd ps sp ∧ Binds K fd ps [] ∧ KBn K fd ps n ks (fun us ws => us ++ ws.reverse) (fun vs zs => vs ++ zs.reverse)
end
end Y

set_option Elab.async false
set_option linter.all false
set_option maxRecDepth 100000
set_option maxHeartbeats 4000000
namespace Y
open PySem L2
open PyProof.Rows (envOfC)
open SX (S)
open C8 (Cal pe_c pe_gc)
/-- what stands at the places of a slice with a step -/
def pickW {α : Type} (ws : List α) (lo hi : Option Int) (c : Int) : List α := (Z.stI ws.length lo hi c).filterMap fun i => ws[i]?
theorem cutSt_map {α : Type} (f : α → V) (ws : List α) (lo hi : Option Int) (c : Int) : Z.cutSt (ws.map f) lo hi c = (pickW ws lo hi c).map f := by
  unfold Z.cutSt pickW
  rw [List.length_map]
  generalize Z.stI ws.length lo hi c = is
  induction is with
  | nil => rfl
  | cons i is ih =>
    rw [List.filterMap_cons, List.filterMap_cons, List.getElem?_map]
    cases ws[i]? with
    | none => exact ih
    | some w => exact congrArg (f w :: ·) ih
def strL : V → List Nat
  | .str x => x.cps.toList
  | _ => []
/-- whether names are those of a move: the places and the things by turns -/
def moveW (ws : List (List Nat)) : Bool := decide ((Z.dd ((pickW ws none none 2).map S)).length = (pickW ws none none 2).length) && decide (1 < (Z.dd ((pickW ws (some 1) none 2).map S)).length)
def moveB (zs : List (List Nat)) (xs : List V) : Bool := (decide (xs.length = 4) || decide (xs.length = 6)) && (xs.all (kindB zs) && moveW (xs.map strL))
theorem KV.same {K : PySem.W.Frag} {H H' : Hp} {v : V} (k : Same H H') (h : KV K H v) : KV K H' v := by
  obtain ⟨s, h1, h2⟩ := h
  exact ⟨s, h1, TyX.same k h2⟩
theorem strL_S (z : List Nat) : strL (vS z) = z := by
  show (S z).cps.toList = z
  rfl
theorem kinds_all {zs : List (List Nat)} {xs : List V} (h : xs.all (kindB zs) = true) : xs = (xs.map strL).map vS ∧ ∀ w ∈ xs.map strL, w ∈ zs := by
  have hx : ∀ x ∈ xs, ∃ w, x = vS w ∧ w ∈ zs := fun x hx => by
    obtain ⟨i, w, e, hw⟩ := kindB_at (List.all_eq_true.mp h x hx)
    exact ⟨w, e, List.mem_of_getElem? hw⟩
  refine ⟨?_, fun w hw => ?_⟩
  · rw [List.map_map]
    have : ∀ x ∈ xs, (vS ∘ strL) x = x := fun x hx2 => by
      obtain ⟨w, rfl, _⟩ := hx x hx2
      show vS (strL (vS w)) = vS w
      rw [strL_S]
    conv => lhs; rw [← List.map_id xs]
    exact List.map_congr_left fun x hx2 => (this x hx2).symm
  · obtain ⟨x, hx2, rfl⟩ := List.mem_map.mp hw
    obtain ⟨w, rfl, hw2⟩ := hx x hx2
    rw [strL_S]
    exact hw2
theorem in46 (n : Nat) : inV (.int n) [.int 4, .int 6] = (decide (n = 4) || decide (n = 6)) := by
  show (List.any [V.int 4, V.int 6] fun x => _) = _
  simp only [List.any_cons, List.any_nil, Bool.or_false, eqV]
  congr 1
  · by_cases h : n = 4
    · subst h; rfl
    · rw [decide_eq_false h]
      exact beq_eq_false_iff_ne.mpr (by omega)
  · by_cases h : n = 6
    · subst h; rfl
    · rw [decide_eq_false h]
      exact beq_eq_false_iff_ne.mpr (by omega)
theorem stI46 : Z.stI 4 none none 2 = [0, 2] ∧ Z.stI 6 none none 2 = [0, 2, 4] ∧ Z.stI 4 (some 1) none 2 = [1, 3] ∧ Z.stI 6 (some 1) none 2 = [1, 3, 5] := by decide +kernel
theorem pick_len {α : Type} {ws : List α} (h : ws.length = 4 ∨ ws.length = 6) : (pickW ws none none 2).length ≤ 3 ∧ (pickW ws (some 1) none 2).length ≤ 3 := by
  obtain ⟨h1, h2, h3, h4⟩ := stI46
  unfold pickW
  rcases h with h | h <;> rw [h]
  · rw [h1, h3]
    exact ⟨Nat.le_trans (List.length_filterMap_le _ _) (by decide), Nat.le_trans (List.length_filterMap_le _ _) (by decide)⟩
  · rw [h2, h4]
    exact ⟨Nat.le_trans (List.length_filterMap_le _ _) (by decide), Nat.le_trans (List.length_filterMap_le _ _) (by decide)⟩
section
variable {P : Program} {w : World} {K : PySem.W.Frag} {mg : Str → Option Value} {base : Heap} {C : Addr} {cK : Addr}
abbrev s_is_move : Stmt := top 38
theorem sc_is_move : FnScope ["kinds", "value", "places", "kind"] ["kinds", "value"] (defScope s_is_move) := ⟨rfl, rfl, rfl, by decide +kernel, rfl, by decide +kernel, by decide +kernel⟩
/-- a value judged as a move -/
def MoveV (K : PySem.W.Frag) (H : Hp) (zs : List (List Nat)) (v : V) (b : Bool) : Prop := (NoTup K H v ∧ b = false) ∨ ∃ (t : Addr) (xs : List V), v = .ref t ∧ SqT K H t xs ∧ xs.length ≤ 100 ∧ (∀ x ∈ xs, KV K H x) ∧ b = moveB zs xs
theorem MoveV.same {H H' : Hp} {zs : List (List Nat)} {v : V} {b : Bool} (k : Same H H') (h : MoveV K H zs v b) : MoveV K H' zs v b := by
  rcases h with ⟨⟨s, h1, h2⟩, e⟩ | ⟨t, xs, e, h1, h2, h3, h4⟩
  · exact .inl ⟨⟨s, h1, TyX.same k h2⟩, e⟩
  · exact .inr ⟨t, xs, e, Same.tup k h1, h2, fun x hx => (h3 x hx).same k, h4⟩
def spIsMove (K : PySem.W.Frag) : Sp := fun vs H Q _ => ∃ (tz : Addr) (zs : List (List Nat)) (v : V) (b : Bool), vs = [.ref tz, v] ∧ SqT K H tz (zs.map vS) ∧ MoveV K H zs v b ∧ ∀ H', Same H H' → Q (.bl b) H'
theorem ok_is_move (D : DfT K mg "is_move" s_is_move ["kinds", "value"]) (T : Tx K mg) (TS : mg "set" = none) (his_kind : Cal P w K mg base 1 "is_kind" (spIsKind K) []) : Cal P w K mg base 2 "is_move" (spIsMove K) [] := by
  have nd := sc_is_move.nd
  refine calS (k := 1) D sc_is_move (fun vs H Q E h => by obtain ⟨tz, zs, v, b, rfl, _⟩ := h; rfl) fun f cdv A outer s H vs Q E hr h => ?_
  let sc : Scope := defScope s_is_move
  refine ⟨_, (pss_cons (ps_if (PW.pt (pw_or (pt_not (pt_val (pe_callB (r := rIsi K) call_isi (by rfl) T.n_isinstance (by decide +kernel) (pa_cons (pv 1) (pa_cons (pe_bltn (v := .ty "tuple") (by rfl) T.n_tuple (by decide +kernel) rfl) pa_nil))))) (pw_or1 (pt_cmpR (r := rIn K true) op_notIn_seq (pe_callB (r := rLenQ K) call_len_seq (by rfl) T.n_len (by decide +kernel) (pa_cons (pv 1) pa_nil)) (pe_tup (pa_cons pe_int (pa_cons pe_int pa_nil))) (by rfl))))) (pss_one (ps_ret pe_bl)) pss_nil)
    (pss_cons (ps_if (pt_not (pt_val (pe_callB (r := rAll K) (cr_all rfl) (by rfl) T.n_all (by decide +kernel) (pa_cons (pe_lc (own := [("kind", 3)]) (g := gName 3) (by rfl) nd (pi_tup (pv 1)) (blkOk_by (own := [("kind", 3)]) (N := ["kinds", "value", "places", "kind"]) (sc := sc) (by decide +kernel)) (fun _ _ _ _ _ => pg_name (i := 3) nd rfl (Or.inl rfl)) (fun _ _ _ _ _ => pts_nil) (fun _ _ _ _ _ => (pe_c his_kind hr (by decide) (by rfl) (pa_cons (pv 0) (pa_cons (pv 3) pa_nil))))) pa_nil)))) (pss_one (ps_ret pe_bl)) pss_nil)
    (pss_cons (ps_set (i := 2) nd rfl (by first | exact Or.inl rfl | exact Or.inr rfl) (Z.pe_sliceSt (pv 1) po_none po_none pe_int))
    (pss_one (ps_ret (pe_and (pe_cmpR op_eq (Z.pe_lenSetD rfl (by rfl) T.n_len (by rfl) TS (pv 2)) (pe_callB (r := rLenQ K) call_len_seq (by rfl) T.n_len (by decide +kernel) (pa_cons (pv 2) pa_nil)) (nomark _)) (pe_one (pe_cmpR op_gt (Z.pe_lenSetD rfl (by rfl) T.n_len (by rfl) TS (Z.pe_sliceSt (pv 1) (po_some pe_int) po_none pe_int)) pe_int (nomark _))))))))), ?_⟩
  obtain ⟨tz, zs, v, b, rfl, hz, ⟨⟨s, hs, ht⟩, rfl⟩ | ⟨t, xs, rfl, hx, hl, hel, rfl⟩, hk⟩ := h
  · refine ⟨v, rfl, v, .ty "tuple", .type s, .type "tuple", false, rfl, .ty _, ht, kit_ty hs, false, rfl, ?_⟩
    refine iteT ?_
    refine iteT ?_
    exact hk H (Same.refl H)
  refine ⟨.ref t, rfl, .ref t, .ty "tuple", .type "tuple", .type "tuple", true, rfl, .ty _, ty_tup hx, kit_ty (by decide +kernel), true, rfl, ?_⟩
  refine iteF ?_
  refine ⟨.ref t, rfl, t, _, rfl, .inr hx, (by show 2 ≤ sizeLine; decide), fun c hc => ?_⟩
  have k1 := Same.new (o := .tup [.int 4, .int 6]) hc
  refine ⟨c, [.int 4, .int 6], rfl, .inr (SqT.of upd_same), rfl, rfl, _, rfl, ?_⟩
  generalize upd H c (.tup [.int 4, .int 6]) = H1 at k1 ⊢
  have hk1 : ∀ H', Same H1 H' → _ := fun H' k => hk H' (k1.trans k)
  rw [show (if true = true then !inV (V.int (xs.length : Nat)) [.int 4, .int 6] else inV (V.int (xs.length : Nat)) [.int 4, .int 6]) = !(decide (xs.length = 4) || decide (xs.length = 6)) by rw [if_pos rfl, in46]]
  unfold moveB at hk1
  by_cases h46 : (decide (xs.length = 4) || decide (xs.length = 6)) = true
  case neg =>
    rw [Bool.eq_false_iff.mpr h46] at hk1 ⊢
    refine iteT ?_
    exact hk1 H1 (Same.refl _)
  rw [h46] at hk1 ⊢
  refine iteF ?_
  have hx1 := Same.tup k1 hx
  have hz1 := Same.tup k1 hz
  refine ⟨.ref t, rfl, t, rfl, ⟨_, hx1⟩, fun D hD => ?_⟩
  refine lc_tup (K := K) (a := t) (xs := xs) (fun i H' => H' D = some (.lst (((xs.take i).map (kindB zs)).map V.bl)) ∧ Same H1 H') ⟨upd_same, Same.new hD⟩ (fun i H' _ q => Same.tup q.2 hx1) ?_ ?_
  · rintro i x H' hxi ⟨hD', k⟩
    have hi : i < xs.length := (List.getElem?_eq_some_iff.mp hxi).1
    refine ⟨rfl, .ref tz, rfl, x, rfl, tz, zs, x, rfl, Same.tup k hz1, ((hel x (List.mem_of_getElem? hxi)).same k1).same k, ?_⟩
    refine ⟨_, hD', ?_, ?_, fun c o e => ?_⟩
    · rw [List.length_map, List.length_map]
      exact Nat.lt_of_le_of_lt (List.length_take_le _ _) (Nat.lt_of_lt_of_le (show i < 101 by omega) (by decide))
    · rw [upd_same, List.take_succ, hxi]
      simp
    · rw [upd_ne (ne_of_none e hD)]
      exact k c o e
  rintro H2 ⟨hD', k2⟩
  rw [List.take_length] at hD'
  refine ⟨D, xs.map (kindB zs), rfl, SqL.of hD', _, rfl, ?_⟩
  have e : (xs.map (kindB zs)).all id = xs.all (kindB zs) := by
    rw [List.all_map]
    rfl
  rw [e]
  by_cases hall : xs.all (kindB zs) = true
  case neg =>
    rw [Bool.eq_false_iff.mpr hall] at hk1 ⊢
    refine iteT ?_
    exact hk1 H2 k2
  rw [hall] at hk1 ⊢
  refine iteF ?_
  obtain ⟨exs, hws⟩ := kinds_all hall
  generalize hwe : xs.map strL = ws at exs hws hk1
  have hwl : ws.length = 4 ∨ ws.length = 6 := by
    rw [← hwe, List.length_map]
    simpa using h46
  obtain ⟨pl1, pl2⟩ := pick_len hwl
  subst exs
  have eS : ∀ l : List (List Nat), l.map vS = (l.map S).map V.str := fun l => by rw [List.map_map]; rfl
  have hx2 := Same.tup k2 hx1
  have sz3 : ∀ {n : Nat}, n ≤ 3 → n ≤ sizeLine := fun h => Nat.le_trans h (by decide)
  refine ⟨.ref t, rfl, 2, rfl, t, _, 2, rfl, rfl, hx2, by decide, by decide, by rw [cutSt_map, List.length_map]; exact sz3 pl1, fun p hp => ?_⟩
  rw [cutSt_map]
  have k3 := Same.new (o := .tup ((pickW ws none none 2).map vS)) hp
  have hp3 : SqT K (upd H2 p (.tup ((pickW ws none none 2).map vS))) p ((pickW ws none none 2).map vS) := SqT.of upd_same
  generalize upd H2 p (.tup ((pickW ws none none 2).map vS)) = H3 at k3 hp3 ⊢
  have hx3 := Same.tup k3 hx2
  refine ⟨.ref p, rfl, p, (pickW ws none none 2).map S, rfl, by rw [← eS]; exact hp3, by rw [List.length_map]; omega, .ref p, rfl, p, _, rfl, .inr hp3, rfl, _, rfl, ?_⟩
  unfold moveW at hk1
  rw [List.length_map]
  by_cases hd : (Z.dd ((pickW ws none none 2).map S)).length = (pickW ws none none 2).length
  case neg =>
    rw [decide_eq_false hd] at hk1
    refine ite2 (fun h => absurd ?_ hd) (fun _ => hk1 H3 (k2.trans k3))
    have := of_decide_eq_true h
    injection this with this
    omega
  rw [decide_eq_true hd] at hk1
  refine ite2 (fun _ => ?_) (fun h => absurd (by rw [hd]; exact decide_eq_true rfl) h)
  refine ⟨.ref t, rfl, 1, rfl, 2, rfl, t, _, 2, rfl, rfl, hx3, by decide, by decide, by rw [cutSt_map, List.length_map]; exact sz3 pl2, fun q hq => ?_⟩
  rw [cutSt_map]
  have k4 := Same.new (o := .tup ((pickW ws (some 1) none 2).map vS)) hq
  refine ⟨q, (pickW ws (some 1) none 2).map S, rfl, by rw [← eS]; exact SqT.of upd_same, by rw [List.length_map]; omega, _, _, rfl, rfl, ?_⟩
  have := hk1 _ (k2.trans (k3.trans k4))
  simp only [Bool.true_and] at this
  show Q (.bl (decide ((1 : Int) < ((Z.dd ((pickW ws (some 1) none 2).map S)).length : Int)))) _
  rw [show decide ((1 : Int) < ((Z.dd ((pickW ws (some 1) none 2).map S)).length : Int)) = decide (1 < (Z.dd ((pickW ws (some 1) none 2).map S)).length) from decide_eq_decide.mpr (by omega)]
  exact this
end
end Y

set_option Elab.async false
set_option linter.all false
set_option maxRecDepth 100000
set_option maxHeartbeats 4000000
namespace Y
open PySem L2
open SX (S)
open C8 (Cal pe_c pe_gc)
/-! ### data of plain signs -/
mutual
def ascD : PyData → Bool
  | .none => true
  | .bool _ => true
  | .int i => decide (0 ≤ i)
  | .str x => x.cps.toList.all fun c => decide (c < 128)
  | .list ds => ascDs ds
  | .tuple ds => ascDs ds
  | .dict _ => false
def ascDs : List PyData → Bool
  | [] => true
  | d :: ds => ascD d && ascDs ds
end
theorem joinA_ok : ∀ {ts : List Str}, (∀ t ∈ ts, okS t) → okS (Str.join ", " ts)
  | [], _ => fun c hc => nomatch hc
  | [x], h => h x (List.mem_cons_self ..)
  | x :: y :: r, h => by
    have ih := joinA_ok (ts := y :: r) fun t ht => h t (List.mem_cons_of_mem _ ht)
    show okS (x ++ ", " ++ Str.join ", " (y :: r))
    exact ((h x (List.mem_cons_self ..)).app (okS.lit _ (by decide +kernel))).app ih
theorem textF_ok : ∀ (ts : List Str) (k : Nat) (acc : Str), okS acc → (∀ t ∈ ts, okS t) → okS (textFrom k acc ts)
  | [], _, _, h, _ => h
  | t :: ts, k, acc, h, ht => by
    show okS (textFrom (k + 1) (acc ++ (if k > 0 then ", " else "" : String) ++ t) ts)
    refine textF_ok ts (k + 1) _ ((h.app ?_).app (ht t (List.mem_cons_self ..))) fun x hx => ht x (List.mem_cons_of_mem _ hx)
    split <;> exact okS.lit _ (by decide +kernel)
theorem intA_ok {k : Int} (h0 : 0 ≤ k) : okS (PyData.int k).shown := by
  obtain ⟨n, rfl⟩ := Int.eq_ofNat_of_zero_le h0
  show okS (Str.ofString (toString (n : Int)))
  rw [show Str.ofString (toString (n : Int)) = S (TL.numL n) from SX.num_S n]
  intro c hc
  have : ¬ (c < 48 ∨ 57 < c) := fun z => TL.numL_free z hc
  omega
mutual
theorem asc_ok : ∀ d : PyData, ascD d = true → okS d.shown
  | .none, _ => okS.of (by decide +kernel)
  | .bool b, _ => by cases b <;> exact okS.of (by decide +kernel)
  | .int i, h => intA_ok (of_decide_eq_true h)
  | .str x, h => by
    have h2 : ∀ c ∈ x.cps.toList, c < 128 := fun c hc => of_decide_eq_true (List.all_eq_true.mp h c hc)
    have := strD_ok h2
    rwa [SX.S_tl] at this
  | .list ds, h => by
    rw [PyData.shown]
    unfold listText
    exact (textF_ok _ _ _ (okS.lit _ (by decide +kernel)) (ascs_ok ds h)).app (okS.lit _ (by decide +kernel))
  | .tuple ds, h => by
    rw [PyData.shown]
    unfold tupleText
    refine ((okS.lit _ (by decide +kernel)).app (joinA_ok (ascs_ok ds h))).app ?_
    split <;> exact okS.lit _ (by decide +kernel)
  | .dict _, h => by cases h
theorem ascs_ok : ∀ ds : List PyData, ascDs ds = true → ∀ t ∈ PyData.shownAll ds, okS t
  | [], _, t, ht => by
    rw [PyData.shownAll] at ht
    cases ht
  | d :: ds, h, t, ht => by
    rw [ascDs, Bool.and_eq_true] at h
    rw [PyData.shownAll] at ht
    rcases List.mem_cons.mp ht with e | e
    · rw [e]
      exact asc_ok d h.1
    · exact ascs_ok ds h.2 t e
end
theorem ascs_of : ∀ {ds : List PyData}, (∀ d ∈ ds, ascD d = true) → ascDs ds = true
  | [], _ => rfl
  | d :: ds, h => by
    rw [ascDs, h d (List.mem_cons_self ..), ascs_of fun x hx => h x (List.mem_cons_of_mem _ hx)]
    rfl
theorem no3s_of : ∀ {ds : List PyData}, (∀ d ∈ ds, no3 d = true) → no3s ds = true
  | [], _ => rfl
  | d :: ds, h => by
    rw [no3s, h d (List.mem_cons_self ..), no3s_of fun x hx => h x (List.mem_cons_of_mem _ hx)]
    rfl
/-! ### what may stand in the place of a move -/
def vD : PyData → V
  | .str x => .str x
  | _ => .non
theorem vD_kind {K : PySem.W.Frag} {H : Hp} {zs : List (List Nat)} {v : V} {d : PyData} (h : Dp K H v d) : kindB zs v = kindB zs (vD d) ∧ strL v = strL (vD d) := by
  cases h <;> exact ⟨rfl, rfl⟩
theorem vD_all {K : PySem.W.Frag} {H : Hp} {zs : List (List Nat)} : ∀ {xs : List V} {ds : List PyData}, DpAll K H xs ds → xs.all (kindB zs) = (ds.map vD).all (kindB zs) ∧ xs.map strL = (ds.map vD).map strL ∧ xs.length = (ds.map vD).length
  | _, _, .nil => ⟨rfl, rfl, rfl⟩
  | _, _, .cons h hs => by
    obtain ⟨a1, a2⟩ := vD_kind (zs := zs) h
    obtain ⟨b1, b2, b3⟩ := vD_all (zs := zs) hs
    refine ⟨?_, ?_, ?_⟩
    · rw [List.map_cons, List.all_cons, List.all_cons, a1, b1]
    · rw [List.map_cons, List.map_cons, List.map_cons, a2, b2]
    · rw [List.map_cons, List.length_cons, List.length_cons, b3]
theorem vD_move {K : PySem.W.Frag} {H : Hp} {zs : List (List Nat)} {xs : List V} {ds : List PyData} (h : DpAll K H xs ds) : moveB zs xs = moveB zs (ds.map vD) := by
  obtain ⟨h1, h2, h3⟩ := vD_all (zs := zs) h
  unfold moveB
  rw [h1, h2, h3]
def moveD (zs : List (List Nat)) : PyData → Bool
  | .tuple ds => moveB zs (ds.map vD)
  | _ => false
def lenD : PyData → Bool
  | .tuple ds => decide (ds.length ≤ 100)
  | _ => true
/-- a value, how it is shown, and whether it is a move -/
def NearV (K : PySem.W.Frag) (H : Hp) (zs : List (List Nat)) (v : V) (z : Str) (b : Bool) : Prop := okS z ∧
  ((∃ d, Dp K H v d ∧ no3 d = true ∧ d.showable = true ∧ d.shown.length ≤ sizeLine ∧ d.depth ≤ 10 ∧ lenD d = true ∧ z = d.shown ∧ b = moveD zs d) ∨
    ∃ a kvs ds, v = .ref a ∧ H a = some (.dK kvs) ∧ kvsD flatD kvs = some ds ∧ (PyData.dict ds).showable = true ∧ (PyData.dict ds).shown.length ≤ sizeLine ∧ (PyData.dict ds).depth ≤ 10 ∧ z = (PyData.dict ds).shown ∧ b = false)
theorem NearV.odd {K : PySem.W.Frag} {H : Hp} {zs : List (List Nat)} {v : V} {z : Str} {b : Bool} (h : NearV K H zs v z b) : OddV K H v z := by
  refine ⟨h.1, ?_⟩
  rcases h.2 with ⟨d, h1, h2, h3, h4, h5, _, h6, _⟩ | ⟨a, kvs, ds, h1, h2, h3, h4, h5, h6, h7, _⟩
  · exact .inl ⟨d, h1, h2, h3, h4, h5, h6⟩
  · exact .inr ⟨a, kvs, ds, h1, h2, h3, h4, h5, h6, h7⟩
theorem NearV.kpt {K : PySem.W.Frag} {H H' : Hp} {p : Addr} {zs : List (List Nat)} {v : V} {z : Str} {b : Bool} (h : NearV K H zs v z b) (hP : PailAt H p) (k : KpT p H H') : NearV K H' zs v z b := by
  refine ⟨h.1, ?_⟩
  rcases h.2 with ⟨d, h1, h2, h3⟩ | ⟨a, kvs, ds, e, h1, h2⟩
  · exact .inl ⟨d, dp_kpt hP k d v h2 h1, h2, h3⟩
  · obtain ⟨x, b, c, _, e2⟩ := hP.ex
    exact .inr ⟨a, kvs, ds, e, k _ _ h1 (fun z => by subst z; rw [e2] at h1; cases h1) (fun _ => nofun), h2⟩
theorem NearV.same {K : PySem.W.Frag} {H H' : Hp} {zs : List (List Nat)} {v : V} {z : Str} {b : Bool} (h : NearV K H zs v z b) (k : Same H H') : NearV K H' zs v z b := by
  refine ⟨h.1, ?_⟩
  rcases h.2 with ⟨d, h1, h2⟩ | ⟨a, kvs, ds, e, h1, h2⟩
  · exact .inl ⟨d, dp_same k d v h1, h2⟩
  · exact .inr ⟨a, kvs, ds, e, k _ _ h1, h2⟩
theorem dpAll_mem {K : PySem.W.Frag} {H : Hp} : ∀ {xs : List V} {ds : List PyData}, DpAll K H xs ds → ∀ x ∈ xs, ∃ d, d ∈ ds ∧ Dp K H x d
  | _, _, .nil, x, hx => nomatch hx
  | _, _, .cons h hs, x, hx => by
    rcases List.mem_cons.mp hx with e | e
    · subst e
      exact ⟨_, List.mem_cons_self .., h⟩
    · obtain ⟨d, h1, h2⟩ := dpAll_mem hs x e
      exact ⟨d, List.mem_cons_of_mem _ h1, h2⟩
theorem kit_tys : ∀ s ∈ tyNames, s ≠ "tuple" → kitB s "tuple" = some false := by decide +kernel
theorem NearV.move {K : PySem.W.Frag} {H : Hp} {zs : List (List Nat)} {v : V} {z : Str} {b : Bool} (h : NearV K H zs v z b) : MoveV K H zs v b := by
  rcases h.2 with ⟨d, h1, h2, h3, h4, h5, h6, _, h7⟩ | ⟨a, kvs, ds, e, h1, _, _, _, _, _, h2⟩
  · cases h1 with
    | tup q1 q2 =>
      refine .inr ⟨_, _, rfl, q1, ?_, fun x hx => ?_, ?_⟩
      · rw [DpAll.len q2]
        exact of_decide_eq_true h6
      · obtain ⟨e, _, he⟩ := dpAll_mem q2 x hx
        exact ty_dp he
      · rw [h7, vD_move q2]
        rfl
    | non => exact .inl ⟨⟨"NoneType", by decide +kernel, .base .non⟩, h7⟩
    | bl b => exact .inl ⟨⟨"bool", by decide +kernel, .base (.bl b)⟩, h7⟩
    | int i => exact .inl ⟨⟨"int", by decide +kernel, .base (.int i)⟩, h7⟩
    | str x => exact .inl ⟨⟨"str", by decide +kernel, .base (.str x)⟩, h7⟩
    | lst q1 q2 => exact .inl ⟨⟨"list", by decide +kernel, ty_lst q1⟩, h7⟩
  · rw [e]
    exact .inl ⟨⟨"dict", by decide +kernel, .base (.dK h1)⟩, h2⟩
theorem NearV.of {K : PySem.W.Frag} {H : Hp} {zs : List (List Nat)} {v : V} {d : PyData} {w : Nat} (h : Dp K H v d) (n : no3 d = true) (F : Fit d w) (hw : w ≤ 100000) (hl : lenD d = true) (ok : ascD d = true) : ∃ z b, NearV K H zs v z b :=
  let f := fit_out F hw
  ⟨d.shown, moveD zs d, asc_ok d ok, .inl ⟨d, h, n, f.1, f.2.1, f.2.2, hl, rfl, rfl⟩⟩
theorem menu_len : ∀ d ∈ menuD, lenD d = true := by decide +kernel
theorem AnyV.near {K : PySem.W.Frag} {H : Hp} {v : V} (zs : List (List Nat)) (h : AnyV K H v) : ∃ z b, NearV K H zs v z b := by
  rcases h with ⟨d, hd, h⟩ | ⟨a, kvs, rfl, h, e | e⟩
  · obtain ⟨f1, f2, f3⟩ := menu_fit d hd
    exact ⟨_, _, okS.of (menu_no3 d hd).2, .inl ⟨d, h, (menu_no3 d hd).1, f1, Nat.le_trans f2 (by decide), f3, menu_len d hd, rfl, rfl⟩⟩
  · subst e
    exact ⟨_, _, okS.of (by decide +kernel), .inr ⟨a, _, [], rfl, h, rfl, by decide +kernel, by decide +kernel, by decide +kernel, rfl, rfl⟩⟩
  · subst e
    exact ⟨_, _, okS.of (by decide +kernel), .inr ⟨a, _, [(.str "a", .int 1)], rfl, h, rfl, by decide +kernel, by decide +kernel, by decide +kernel, rfl, rfl⟩⟩
/-! ### tuples of short texts and such -/
def shS (x : Str) : Bool := decide (x.cps.toList.length ≤ 9) && x.cps.toList.all (fun c => decide (c < 128))
def elD : PyData → Bool
  | .none => true
  | .int i => decide (i = 0)
  | .str x => shS x
  | .tuple [.str x] => shS x
  | _ => false
theorem shS_of {z : List Nat} (h1 : z.length ≤ 9) (h2 : ∀ c ∈ z, c < 128) : shS (S z) = true := by
  unfold shS
  rw [Bool.and_eq_true]
  exact ⟨decide_eq_true h1, List.all_eq_true.mpr fun c hc => decide_eq_true (h2 c hc)⟩
theorem fit_shS {x : Str} (h : shS x = true) : Fit (.str x) 9 ∧ ascD (.str x) = true := by
  unfold shS at h
  rw [Bool.and_eq_true] at h
  have f := fit_str (z := x.cps.toList) (w := 9) (fun c hc => of_decide_eq_true (List.all_eq_true.mp h.2 c hc)) (of_decide_eq_true h.1)
  rw [SX.S_tl] at f
  exact ⟨f, h.2⟩
theorem el_fit {d : PyData} (h : elD d = true) : Fit d 20 ∧ d.depth ≤ 1 ∧ no3 d = true ∧ ascD d = true := by
  match d, h with
  | .none, _ => exact ⟨⟨rfl, rfl, by decide, by decide⟩, by decide, rfl, rfl⟩
  | .int i, h =>
    have e : i = 0 := of_decide_eq_true h
    subst e
    exact ⟨⟨by decide +kernel, by decide +kernel, by decide, by decide +kernel⟩, by decide, rfl, rfl⟩
  | .str x, h =>
    obtain ⟨f, a⟩ := fit_shS h
    exact ⟨⟨f.le, f.sh, f.dp, Nat.le_trans f.wt (by decide)⟩, by show (0 : Nat) ≤ 1; decide, rfl, a⟩
  | .tuple [.str x], h =>
    obtain ⟨f, a⟩ := fit_shS h
    have F := fit_tup (FitAll.cons f FitAll.nil) (by rw [PyData.depthAll]; exact Nat.max_le.mpr ⟨by show (0 : Nat) ≤ 1; decide, by decide⟩)
    refine ⟨⟨F.le, F.sh, F.dp, Nat.le_trans F.wt (by decide)⟩, ?_, rfl, ?_⟩
    · rw [PyData.depth, PyData.depthAll]
      exact (by decide : (1 : Nat) ≤ 1)
    · rw [ascD, ascDs, a]
      rfl
theorem dpAll_of {K : PySem.W.Frag} {H : Hp} : ∀ {xs : List V}, (∀ x ∈ xs, ∃ d, Dp K H x d ∧ elD d = true) → ∃ ds, DpAll K H xs ds ∧ ∀ d ∈ ds, elD d = true
  | [], _ => ⟨[], .nil, fun _ h => nomatch h⟩
  | x :: xs, h => by
    obtain ⟨d, h1, h2⟩ := h x (List.mem_cons_self ..)
    obtain ⟨ds, h3, h4⟩ := dpAll_of fun y hy => h y (List.mem_cons_of_mem _ hy)
    refine ⟨d :: ds, .cons h1 h3, fun e he => ?_⟩
    rcases List.mem_cons.mp he with q | q
    · rw [q]
      exact h2
    · exact h4 e q
theorem near_tup {K : PySem.W.Frag} {H : Hp} (zs : List (List Nat)) {t : Addr} {xs : List V} (h : SqT K H t xs) (hl : xs.length ≤ 14) (he : ∀ x ∈ xs, ∃ d, Dp K H x d ∧ elD d = true) : ∃ z b, NearV K H zs (.ref t) z b := by
  obtain ⟨ds, h1, h2⟩ := dpAll_of he
  have hdl : ds.length ≤ 14 := by rw [← DpAll.len h1]; exact hl
  refine NearV.of (.tup h h1) (no3s_of fun d hd => (el_fit (h2 d hd)).2.2.1) (fit_tup (FitAll.of (a := 20) (n := 14) (fun d hd => (el_fit (h2 d hd)).1) hdl) (depthAll_le fun d hd => (el_fit (h2 d hd)).2.1)) (by decide) (decide_eq_true (by omega)) (ascs_of fun d hd => (el_fit (h2 d hd)).2.2.2)
theorem near_lst {K : PySem.W.Frag} {H : Hp} (zs : List (List Nat)) {t : Addr} {xs : List V} (h : SqL K H t xs) (hl : xs.length ≤ 14) (h3 : xs.length ≠ 3) (he : ∀ x ∈ xs, ∃ d, Dp K H x d ∧ elD d = true) : ∃ z b, NearV K H zs (.ref t) z b := by
  obtain ⟨ds, h1, h2⟩ := dpAll_of he
  have hdl : ds.length ≤ 14 := by rw [← DpAll.len h1]; exact hl
  refine NearV.of (.lst h h1) ?_ (fit_lst (FitAll.of (a := 20) (n := 14) (fun d hd => (el_fit (h2 d hd)).1) hdl) (depthAll_le fun d hd => (el_fit (h2 d hd)).2.1)) (by decide) rfl (ascs_of fun d hd => (el_fit (h2 d hd)).2.2.2)
  rw [no3, no3s_of fun d hd => (el_fit (h2 d hd)).2.2.1, Bool.and_true]
  rw [DpAll.len h1] at h3
  simpa using h3
theorem near_str {K : PySem.W.Frag} {H : Hp} (zs : List (List Nat)) {z : List Nat} (hl : z.length ≤ 1000) (h : ∀ c ∈ z, c < 128) : ∃ y b, NearV K H zs (vS z) y b :=
  NearV.of (.str _) rfl (fit_str h hl) (by decide) rfl (List.all_eq_true.mpr fun c hc => decide_eq_true (h c hc))
/-! ### parts of tuples -/
theorem catN {K : PySem.W.Frag} {H : Hp} {a b : Addr} {xs ys : List V} {Q : VK} (h1 : SqT K H a xs) (h2 : SqT K H b ys) (hl : xs.length + ys.length ≤ 1000) (k : ∀ c H', SqT K H' c (xs ++ ys) → Same H H' → Q (.ref c) H') : rCatA K (.ref a) (.ref b) H Q := by
  refine ⟨a, b, xs, ys, rfl, rfl, h1, h2, Nat.le_trans hl (by decide), fun e => ?_, fun e1 e2 => ?_, fun e1 e2 p hp => ?_⟩
  · refine k b H ?_ (Same.refl H)
    rw [e]
    exact h2
  · refine k a H ?_ (Same.refl H)
    rw [e2, List.append_nil]
    exact h1
  · exact k p _ (SqT.of upd_same) (Same.new hp)
theorem slA_ok {K : PySem.W.Frag} {H : Hp} {a : Addr} {xs : List V} {lo hi : Option Int} {Q : VK} (h1 : SqT K H a xs) (k : ∀ c ys H', SqT K H' c ys → ys.length ≤ xs.length → (∀ y ∈ ys, y ∈ xs) → Same H H' → Q (.ref c) H') : rSlA K (.ref a) lo hi H Q := by
  refine ⟨a, xs, rfl, h1, fun _ => k a xs H h1 (Nat.le_refl _) (fun _ h => h) (Same.refl H), fun _ p hp => k p _ _ (SqT.of upd_same) (cutV_length xs lo hi) (fun y hy => ?_) (Same.new hp)⟩
  unfold cutV at hy
  exact List.mem_of_mem_drop (List.mem_of_mem_take hy)
theorem cutSt_mem {xs : List V} {lo hi : Option Int} {c : Int} : ∀ y ∈ Z.cutSt xs lo hi c, y ∈ xs := fun y hy => by
  unfold Z.cutSt at hy
  obtain ⟨i, _, hi⟩ := List.mem_filterMap.mp hy
  exact List.mem_of_getElem? hi
end Y

set_option Elab.async false
set_option linter.all false
set_option maxRecDepth 100000
set_option maxHeartbeats 4000000
namespace Z
open PySem PySem.Spec PyProof.Rows L2 SeqAt AutoSeq1 MeetsSeq
section
variable {M : Model} {prog : Program} {w : World} {A : Around} {E : Value → Shared → Prop} {s : Shared} {K : PySem.W.Frag} {x C dx : Addr} {ox : Obj} {od : Option Obj}
/-! ### what a built-in class's own == and != say of an instance -/
theorem instOf {r : Bool} {b : Value} {R : Bool → Shared → Prop} (X : K.In s.heap) (I : PySem.W.InstAt s.heap x ox C od) (e : PySem.W.subIn K (.ref C) b = some r) (h : R r s) : wpAny M A (isInstance (.ref x) b) R E s := by
  unfold isInstance
  exact wpAny_bind (I.type.here ((PySem.W.looks_subIn X e).here h))
theorem b_str_eq {z : Str} {t : Tok} {Q : Fin → Shared → Prop} (hx : s.heap.get? x = some (PySem.W.instObj C dx)) (hq : Q (.done (.ret .notImplemented)) s) : wpAny M A (Builtin.«str.__eq__» ⟨[.str z t, .ref x], []⟩) Q E s := by
  wp_walk using wpAny_loadPart' hx, wpAny_load hx
  exact hq
theorem b_str_ne {z : Str} {t : Tok} {Q : Fin → Shared → Prop} (hx : s.heap.get? x = some (PySem.W.instObj C dx)) (hq : Q (.done (.ret .notImplemented)) s) : wpAny M A (Builtin.«str.__ne__» ⟨[.str z t, .ref x], []⟩) Q E s := by
  wp_walk using wpAny_loadPart' hx, wpAny_load hx
  exact hq
theorem b_int_eq {z : Int} {t : Tok} {Q : Fin → Shared → Prop} (hx : s.heap.get? x = some (PySem.W.instObj C dx)) (hq : Q (.done (.ret .notImplemented)) s) : wpAny M A (Builtin.«int.__eq__» ⟨[.int z t, .ref x], []⟩) Q E s := by
  wp_walk using wpAny_loadPart' hx, wpAny_load hx
  exact hq
theorem b_int_ne {z : Int} {t : Tok} {Q : Fin → Shared → Prop} (hx : s.heap.get? x = some (PySem.W.instObj C dx)) (hq : Q (.done (.ret .notImplemented)) s) : wpAny M A (Builtin.«int.__ne__» ⟨[.int z t, .ref x], []⟩) Q E s := by
  wp_walk using wpAny_loadPart' hx, wpAny_load hx
  exact hq
theorem b_bool_eq {z : Bool} {Q : Fin → Shared → Prop} (hx : s.heap.get? x = some (PySem.W.instObj C dx)) (hq : Q (.done (.ret .notImplemented)) s) : wpAny M A (Builtin.«int.__eq__» ⟨[.bool z, .ref x], []⟩) Q E s := by
  wp_walk using wpAny_loadPart' hx, wpAny_load hx
  exact hq
theorem b_bool_ne {z : Bool} {Q : Fin → Shared → Prop} (hx : s.heap.get? x = some (PySem.W.instObj C dx)) (hq : Q (.done (.ret .notImplemented)) s) : wpAny M A (Builtin.«int.__ne__» ⟨[.bool z, .ref x], []⟩) Q E s := by
  wp_walk using wpAny_loadPart' hx, wpAny_load hx
  exact hq
theorem b_none_eq  {Q : Fin → Shared → Prop} (hx : s.heap.get? x = some (PySem.W.instObj C dx)) (hq : Q (.done (.ret .notImplemented)) s) : wpAny M A (Builtin.«NoneType.__eq__» ⟨[.none, .ref x], []⟩) Q E s := by
  wp_walk using wpAny_loadPart' hx, wpAny_load hx
  exact hq
theorem b_none_ne  {Q : Fin → Shared → Prop} (hx : s.heap.get? x = some (PySem.W.instObj C dx)) (hq : Q (.done (.ret .notImplemented)) s) : wpAny M A (Builtin.«NoneType.__ne__» ⟨[.none, .ref x], []⟩) Q E s := by
  wp_walk using wpAny_loadPart' hx, wpAny_load hx
  exact hq
theorem b_list_eq {l : Addr} {Q : Fin → Shared → Prop} (X : K.In s.heap) (I : PySem.W.InstAt s.heap x ox C od) (e : PySem.W.subIn K (.ref C) (.type "list") = some false) (hq : Q (.done (.ret .notImplemented)) s) : wpAny M A (Builtin.«list.__eq__» ⟨[.ref l, .ref x], []⟩) Q E s := by
  wp_walk using instOf X I e
  exact hq
theorem b_list_ne {l : Addr} {Q : Fin → Shared → Prop} (X : K.In s.heap) (I : PySem.W.InstAt s.heap x ox C od) (e : PySem.W.subIn K (.ref C) (.type "list") = some false) (hq : Q (.done (.ret .notImplemented)) s) : wpAny M A (Builtin.«list.__ne__» ⟨[.ref l, .ref x], []⟩) Q E s := by
  wp_walk using instOf X I e
  exact hq
theorem b_tuple_eq {l : Addr} {Q : Fin → Shared → Prop} (X : K.In s.heap) (I : PySem.W.InstAt s.heap x ox C od) (e : PySem.W.subIn K (.ref C) (.type "tuple") = some false) (hq : Q (.done (.ret .notImplemented)) s) : wpAny M A (Builtin.«tuple.__eq__» ⟨[.ref l, .ref x], []⟩) Q E s := by
  wp_walk using instOf X I e
  exact hq
theorem b_tuple_ne {l : Addr} {Q : Fin → Shared → Prop} (X : K.In s.heap) (I : PySem.W.InstAt s.heap x ox C od) (e : PySem.W.subIn K (.ref C) (.type "tuple") = some false) (hq : Q (.done (.ret .notImplemented)) s) : wpAny M A (Builtin.«tuple.__ne__» ⟨[.ref l, .ref x], []⟩) Q E s := by
  wp_walk using instOf X I e
  exact hq
theorem b_dict_eq {l : Addr} {Q : Fin → Shared → Prop} (X : K.In s.heap) (I : PySem.W.InstAt s.heap x ox C od) (e : PySem.W.subIn K (.ref C) (.type "dict") = some false) (hq : Q (.done (.ret .notImplemented)) s) : wpAny M A (Builtin.«dict.__eq__» ⟨[.ref l, .ref x], []⟩) Q E s := by
  wp_walk using instOf X I e
  exact hq
theorem b_dict_ne {l : Addr} {Q : Fin → Shared → Prop} (X : K.In s.heap) (I : PySem.W.InstAt s.heap x ox C od) (e : PySem.W.subIn K (.ref C) (.type "dict") = some false) (hq : Q (.done (.ret .notImplemented)) s) : wpAny M A (Builtin.«dict.__ne__» ⟨[.ref l, .ref x], []⟩) Q E s := by
  wp_walk using instOf X I e
  exact hq
/-- a value of a built-in class whose own == and != decline an instance -/
inductive DecV (s : Shared) : Value → String → String → String → Prop where
  | str (z : Str) (t : Tok) : DecV s (.str z t) "str" "str.__eq__" "str.__ne__"
  | int (z : Int) (t : Tok) : DecV s (.int z t) "int" "int.__eq__" "int.__ne__"
  | bool (z : Bool) : DecV s (.bool z) "bool" "int.__eq__" "int.__ne__"
  | none : DecV s .none "NoneType" "NoneType.__eq__" "NoneType.__ne__"
  | list {l : Addr} (h : s.TypeIs (.ref l) "list") : DecV s (.ref l) "list" "list.__eq__" "list.__ne__"
  | tuple {l : Addr} (h : s.TypeIs (.ref l) "tuple") : DecV s (.ref l) "tuple" "tuple.__eq__" "tuple.__ne__"
  | dict {l : Addr} (h : s.TypeIs (.ref l) "dict") : DecV s (.ref l) "dict" "dict.__eq__" "dict.__ne__"
def NoSub (K : PySem.W.Frag) (C : Addr) : Prop := ∀ T ∈ ["str", "int", "bool", "NoneType", "list", "tuple", "dict"], PySem.W.subIn K (.ref C) (.type T) = some false
theorem DecV.ty {u : Value} {T ie ne : String} (d : DecV s u T ie ne) : s.TypeIs u T ∧ T ∈ ["str", "int", "bool", "NoneType", "list", "tuple", "dict"] := by
  cases d with
  | str z t => exact ⟨rfl, by decide⟩
  | int z t => exact ⟨rfl, by decide⟩
  | bool z => exact ⟨rfl, by decide⟩
  | none => exact ⟨rfl, by decide⟩
  | list h => exact ⟨h, by decide⟩
  | tuple h => exact ⟨h, by decide⟩
  | dict h => exact ⟨h, by decide⟩
theorem dec_ok {T ie ne : String} {u : Value} (d : DecV s u T ie ne) (hx : s.heap.get? x = some (PySem.W.instObj C dx)) (X : K.In s.heap) (I : PySem.W.InstAt s.heap x ox C od) (n : NoSub K C) :
    Slot T "__eq__" ie ∧ Slot T "__ne__" ne ∧ (∀ Q' : Value → Shared → Prop, Q' .notImplemented s → wpAny (model prog w) A (call (.builtin ie) [u, .ref x]) Q' E s) ∧ (∀ Q' : Value → Shared → Prop, Q' .notImplemented s → wpAny (model prog w) A (call (.builtin ne) [u, .ref x]) Q' E s) := by
  have hu := d.ty.1
  cases d with
  | str z t =>
    exact ⟨F.slot_str_eq, F.slot_str_ne, fun Q' hq => wpAny_call_entry F.slot_str_eq hu F.entry_str_eq (b_str_eq hx ⟨_, rfl, hq⟩) (F.args_str_eq_2 _ _), fun Q' hq => wpAny_call_entry F.slot_str_ne hu F.entry_str_ne (b_str_ne hx ⟨_, rfl, hq⟩) (F.args_str_ne_2 _ _)⟩
  | int z t =>
    exact ⟨F.slot_int_eq, F.slot_int_ne, fun Q' hq => wpAny_call_entry F.slot_int_eq hu F.entry_int_eq (b_int_eq hx ⟨_, rfl, hq⟩) (F.args_int_eq_2 _ _), fun Q' hq => wpAny_call_entry F.slot_int_ne hu F.entry_int_ne (b_int_ne hx ⟨_, rfl, hq⟩) (F.args_int_ne_2 _ _)⟩
  | bool z =>
    exact ⟨F.slot_bool_eq, F.slot_bool_ne, fun Q' hq => wpAny_call_entry F.slot_bool_eq hu F.entry_int_eq (b_bool_eq hx ⟨_, rfl, hq⟩) (F.args_int_eq_2 _ _), fun Q' hq => wpAny_call_entry F.slot_bool_ne hu F.entry_int_ne (b_bool_ne hx ⟨_, rfl, hq⟩) (F.args_int_ne_2 _ _)⟩
  | none  =>
    exact ⟨F.slot_NoneType_eq, F.slot_NoneType_ne, fun Q' hq => wpAny_call_entry F.slot_NoneType_eq hu F.entry_NoneType_eq (b_none_eq hx ⟨_, rfl, hq⟩) (F.args_NoneType_eq_2 _ _), fun Q' hq => wpAny_call_entry F.slot_NoneType_ne hu F.entry_NoneType_ne (b_none_ne hx ⟨_, rfl, hq⟩) (F.args_NoneType_ne_2 _ _)⟩
  | list h =>
    exact ⟨F.slot_list_eq, F.slot_list_ne, fun Q' hq => wpAny_call_entry F.slot_list_eq hu F.entry_list_eq (b_list_eq X I (n _ (by decide)) ⟨_, rfl, hq⟩) (F.args_list_eq_2 _ _), fun Q' hq => wpAny_call_entry F.slot_list_ne hu F.entry_list_ne (b_list_ne X I (n _ (by decide)) ⟨_, rfl, hq⟩) (F.args_list_ne_2 _ _)⟩
  | tuple h =>
    exact ⟨F.slot_tuple_eq, F.slot_tuple_ne, fun Q' hq => wpAny_call_entry F.slot_tuple_eq hu F.entry_tuple_eq (b_tuple_eq X I (n _ (by decide)) ⟨_, rfl, hq⟩) (F.args_tuple_eq_2 _ _), fun Q' hq => wpAny_call_entry F.slot_tuple_ne hu F.entry_tuple_ne (b_tuple_ne X I (n _ (by decide)) ⟨_, rfl, hq⟩) (F.args_tuple_ne_2 _ _)⟩
  | dict h =>
    exact ⟨F.slot_dict_eq, F.slot_dict_ne, fun Q' hq => wpAny_call_entry F.slot_dict_eq hu F.entry_dict_eq (b_dict_eq X I (n _ (by decide)) ⟨_, rfl, hq⟩) (F.args_dict_eq_2 _ _), fun Q' hq => wpAny_call_entry F.slot_dict_ne hu F.entry_dict_ne (b_dict_ne X I (n _ (by decide)) ⟨_, rfl, hq⟩) (F.args_dict_ne_2 _ _)⟩
/-- v == x and v != x: the value's own def declines, the instance's is asked -/
theorem rc_right {op : CmpOp} {T ie ne : String} {u : Value} {Q : Value → Shared → Prop} (d : DecV s u T ie ne) (ho : op = .Eq ∨ op = .NotEq) (hu : A.units < cLine) (hx : s.heap.get? x = some (PySem.W.instObj C dx)) (X : K.In s.heap) (I : PySem.W.InstAt s.heap x ox C od) (n : NoSub K C)
    (h : wpAny (model prog w) A (tryCompare (.ref x) (cmpInfo op).2.1 u) (fun r s' => ∃ v, r = some v ∧ Q v s') E s) : wpAny (model prog w) A (richCompare op u (.ref x)) Q E s := by
  obtain ⟨hT, hm⟩ := d.ty
  obtain ⟨s1, s2, c1, c2⟩ := dec_ok (prog := prog) (w := w) (A := A) (E := E) d hx X I n
  have two : wpAny (model prog w) A (tryCompare u (cmpInfo op).2.1 (.ref x)) (fun r s' => r = none ∧ s' = s) E s := by
    rcases ho with rfl | rfl
    · exact wpAny_tryCompare_declines hT s1 (c1 _ ⟨rfl, rfl, rfl⟩)
    · exact wpAny_tryCompare_declines hT s2 (c2 _ ⟨rfl, rfl, rfl⟩)
  have er : (cmpInfo op).2.2 = (cmpInfo op).2.1 := by rcases ho with rfl | rfl <;> rfl
  unfold richCompare
  simp only [hT.oneThing_none]
  refine wpAny_holding (wpAny_bind (wpAny_cRoomFor hu ?_))
  refine wpAny_bind (wpAny_typeOf hT (wpAny_bind (I.type.here ?_)))
  rw [show (Value.type T != Value.ref C) = true from by simp]
  simp only [if_true]
  refine wpAny_bind ((PySem.W.looks_subIn X (n T hm)).here ?_)
  simp only [Bool.false_eq_true, if_false, Bool.not_false, if_true]
  refine wpAny_bind (wpAny_mono two (fun r s' z => ?_) fun _ _ e => e)
  obtain ⟨z1, z2⟩ := z
  subst z1
  subst z2
  rw [er]
  refine wpAny_bind (wpAny_mono h (fun r s' z => ?_) fun _ _ e => e)
  obtain ⟨v, rfl, hq⟩ := z
  exact wpAny_pure hq
/-- x == v, x != v: the instance's own def is asked -/
theorem rc_left {op : CmpOp} {tb : Value} {u : Value} {Q : Value → Shared → Prop} (hu : A.units < cLine) (X : K.In s.heap) (I : PySem.W.InstAt s.heap x ox C od) (hb : ∀ R : Value → Shared → Prop, R tb s → wpAny (model prog w) A (typeOf u) R E s) (hn : PySem.W.notFirst K C tb = true)
    (h : wpAny (model prog w) A (tryCompare (.ref x) (cmpInfo op).2.1 u) (fun r s' => ∃ v, r = some v ∧ Q v s') E s) : wpAny (model prog w) A (richCompare op (.ref x) u) Q E s := by
  unfold richCompare
  simp only [oneThing_ref]
  refine wpAny_holding (wpAny_bind (wpAny_cRoomFor hu ?_))
  refine wpAny_bind (I.type.here (wpAny_bind (hb _ ?_)))
  split
  · rename_i q
    have e : PySem.W.subIn K tb (.ref C) = some false := by
      rcases Bool.or_eq_true_iff.mp hn with e | e
      · rw [beq_iff_eq.mp e] at q; simp at q
      · exact beq_iff_eq.mp e
    refine wpAny_bind ((PySem.W.looks_subIn X e).here ?_)
    simp only [Bool.false_eq_true, if_false]
    refine wpAny_bind (wpAny_mono h (fun r s' z => ?_) fun _ _ e => e)
    obtain ⟨v, rfl, hq⟩ := z
    exact wpAny_pure hq
  · refine wpAny_bind (wpAny_pure ?_)
    simp only [Bool.false_eq_true, if_false]
    refine wpAny_bind (wpAny_mono h (fun r s' z => ?_) fun _ _ e => e)
    obtain ⟨v, rfl, hq⟩ := z
    exact wpAny_pure hq
/-- the instance's own __eq__ -/
theorem tc_eq {f : Addr} {u : Value} {R : Option Value → Shared → Prop} (X : K.In s.heap) (I : PySem.W.InstAt s.heap x ox C od) (hs : PySem.W.findIn K (.ref C) "__eq__" = some (some (.ref f))) (hf : PySem.W.isFn K (.ref f) = true)
    (h : wpAny (model prog w) A (call (.ref f) [.ref x, u]) (fun v s' => ∃ b, v = .bool b ∧ R (some (.bool b)) s') E s) : wpAny (model prog w) A (tryCompare (.ref x) "__eq__" u) R E s := by
  unfold tryCompare
  refine wpAny_bind (PySem.W.ifBound_K X I hs hf (wpAny_mono h (fun v s' hv => ?_) fun _ _ e => e))
  obtain ⟨b, rfl, hq⟩ := hv
  exact wpAny_pure hq
/-- object's own __ne__: by the instance's own __eq__ -/
theorem ifBound_objNe {args : List Value} {Q : Option Value → Shared → Prop} (X : K.In s.heap) (I : PySem.W.InstAt s.heap x ox C od) (hs : PySem.W.findIn K (.ref C) "__ne__" = some (some (.builtin "object.__ne__")))
    (h : wpAny M A (call (.builtin "object.__ne__") (.ref x :: args)) (fun v => Q (some v)) E s) : wpAny M A (callSpecialIfBound? (.ref x) "__ne__" args) Q E s := by
  simp only [callSpecialIfBound?, bindSpecialIfBound?]
  refine wpAny_holding (wpAny_bind (wpAny_bind (wpAny_bind (I.type.here ((PySem.W.looks_findIn X hs).here ?_)))))
  refine wpAny_bind (wpAny_askSetting (wpAny_ite ?_))
  have fin : wpAny M A (call (.builtin "object.__ne__") ([.ref x] ++ args) >>= fun v => pure (some v)) Q E s := wpAny_bind (wpAny_mono h (fun v s' h' => wpAny_pure h') fun _ _ h' => h')
  split
  · exact wpAny_bind (wpAny_of_eq (F.cmp_object.ne.bind _) (wpAny_pure (by exact fin)))
  · exact wpAny_tryCatch (wpAny_bind (wpAny_of_eq (F.cmp_object.ne.bind _) (wpAny_pure (by exact fin))))
theorem b_objNe {f : Addr} {u : Value} {Q : Fin → Shared → Prop} (hu : A.units < cLine) (X : K.In s.heap) (I : PySem.W.InstAt s.heap x ox C od) (hs : PySem.W.findIn K (.ref C) "__eq__" = some (some (.ref f))) (hf : PySem.W.isFn K (.ref f) = true)
    (h : wpAny (model prog w) A (call (.ref f) [.ref x, u]) (fun v s' => ∃ b, v = .bool b ∧ Q (.done (.ret (.bool (!b)))) s') E s) : wpAny (model prog w) A (Builtin.«object.__ne__» ⟨[.ref x, u], []⟩) Q E s := by
  unfold Builtin.«object.__ne__»
  repeat (first
    | with_reducible refine wpAny_cRoomFor hu ?_
    | (refine wpAny_bind (m := callSpecialIfBound? (.ref x) (Str.ofString "__eq__") [u])
        (PySem.W.ifBound_K X I hs hf (wpAny_mono h (fun r s' hr => by
          obtain ⟨b, rfl, hq⟩ := hr
          repeat (first | exact hq | exact wpAny_pure hq | exact wpAny_truthy_bool hq | (refine wpAny_bind (m := truthy (.bool _)) (wpAny_truthy_bool ?_)) | wp_step)) fun _ _ e => e)))
    | wp_step)
theorem tc_ne {f : Addr} {u : Value} {R : Option Value → Shared → Prop} (hu : A.units + 1 < cLine) (X : K.In s.heap) (I : PySem.W.InstAt s.heap x ox C od) (hm : PySem.W.mroIn K C (.type "object") = some true) (hn : PySem.W.findIn K (.ref C) "__ne__" = some (some (.builtin "object.__ne__")))
    (hs : PySem.W.findIn K (.ref C) "__eq__" = some (some (.ref f))) (hf : PySem.W.isFn K (.ref f) = true)
    (h : wpAny (model prog w) A.in1 (call (.ref f) [.ref x, u]) (fun v s' => ∃ b, v = .bool b ∧ R (some (.bool (!b))) s') E s) : wpAny (model prog w) A (tryCompare (.ref x) "__ne__" u) R E s := by
  unfold tryCompare
  refine wpAny_bind (ifBound_objNe X I hn (wpAny_call (codeAny_call_builtin F.cmp_object.ne.plain F.cmpEntry_ne (PySem.W.check_slot F.cmpKind_ne F.cmpSplit_ne (I.type.andThen (PySem.W.looks_mroIn X hm)) (F.cmpArgs_ne _ _)
    (b_objNe (A := A.in1) hu X I hs hf (wpAny_mono h (fun v s' hv => ?_) fun _ _ e => e))))))
  obtain ⟨b, rfl, hq⟩ := hv
  first | exact ⟨b, rfl, wpAny_pure hq⟩ | exact ⟨b, rfl, wpAny_pure (wpAny_pure hq)⟩ | exact ⟨b, rfl, hq⟩
end
def decTs : List String := ["str", "int", "bool", "NoneType", "list", "tuple", "dict"]
/-- what the comparing of a class's instances asks of the written part -/
structure YCmp (K : PySem.W.Frag) (C f : Addr) : Prop where
  eq : PySem.W.findIn K (.ref C) "__eq__" = some (some (.ref f))
  fn : PySem.W.isFn K (.ref f) = true
  ne : PySem.W.findIn K (.ref C) "__ne__" = some (some (.builtin "object.__ne__"))
  mro : PySem.W.mroIn K C (.type "object") = some true
  nf : ∀ T ∈ decTs, PySem.W.notFirst K C (.type T) = true
  ns : NoSub K C
  ko : ∀ T ∈ decTs, PySem.W.kitOne K (.type T) (.ref C) = some false
def chkCmp (K : PySem.W.Frag) (C : Addr) : Bool := decTs.all fun T => (PySem.W.notFirst K C (.type T) && (PySem.W.subIn K (.ref C) (.type T) == some false)) && (PySem.W.kitOne K (.type T) (.ref C) == some false)
theorem YCmp.of {K : PySem.W.Frag} {C f : Addr} (h1 : PySem.W.findIn K (.ref C) "__eq__" = some (some (.ref f))) (h2 : PySem.W.isFn K (.ref f) = true) (h3 : PySem.W.findIn K (.ref C) "__ne__" = some (some (.builtin "object.__ne__"))) (h4 : PySem.W.mroIn K C (.type "object") = some true) (h5 : chkCmp K C = true) : YCmp K C f := by
  unfold chkCmp at h5
  rw [List.all_eq_true] at h5
  refine ⟨h1, h2, h3, h4, fun T hT => ?_, fun T hT => ?_, fun T hT => ?_⟩
  · have := h5 T hT
    rw [Bool.and_eq_true, Bool.and_eq_true] at this
    exact this.1.1
  · have := h5 T hT
    rw [Bool.and_eq_true, Bool.and_eq_true] at this
    exact beq_iff_eq.mp this.1.2
  · have := h5 T hT
    rw [Bool.and_eq_true, Bool.and_eq_true] at this
    exact beq_iff_eq.mp this.2
section
variable {X : Cx} {pins : List (Addr × Obj)} {σ : L2.St} {H : Hp} {s : Shared} {k : Nat} {C f a : Addr} {sp : Sp}
theorem dec_of {x : V} {u : Value} {T : String} (I : Inv X pins σ H s) (rx : RelV x u) (ty : TyX X.K H x (.type T)) (hT : T ∈ decTs) : ∃ ie ne, DecV s u T ie ne := by
  cases ty with
  | base b =>
    cases b with
    | non => cases (show u = Value.none from rx); exact ⟨_, _, .none⟩
    | bl y => cases (show u = Value.bool y from rx); exact ⟨_, _, .bool _⟩
    | int i => obtain ⟨t, q⟩ := (show ∃ t, u = Value.int i t from rx); cases q; exact ⟨_, _, .int _ _⟩
    | str y => obtain ⟨t, q⟩ := (show ∃ t, u = Value.str y t from rx); cases q; exact ⟨_, _, .str _ _⟩
    | flt y => exact absurd hT (by decide)
    | @lst a xs ea =>
      cases (show u = Value.ref a from rx)
      obtain ⟨_, _, n, _, h1⟩ := (show ObjOk X.prog X.w H s.heap a (.lst xs) from I.hok a _ ea)
      exact ⟨_, _, .list ⟨_, h1, rfl⟩⟩
    | @frz a ob xs ea =>
      cases (show u = Value.ref a from rx)
      obtain ⟨_, _, _, n, _, h1⟩ := (show ObjOk X.prog X.w H s.heap a (.frz ob (.lst xs)) from I.hok a _ ea)
      exact ⟨_, _, .list ⟨_, h1, rfl⟩⟩
    | @tup a xs ea =>
      cases (show u = Value.ref a from rx)
      obtain ⟨_, _, _, o, h1, h2, _⟩ := (show ObjOk X.prog X.w H s.heap a (.tup xs) from I.hok a _ ea)
      exact ⟨_, _, .tuple ⟨o, h1, h2⟩⟩
    | @dK a kvs ea =>
      cases (show u = Value.ref a from rx)
      obtain ⟨_, _, vs, _, o, es, ep, h1, h2, _⟩ := (show ObjOk X.prog X.w H s.heap a (.dK kvs) from I.hok a _ ea)
      exact ⟨_, _, .dict ⟨o, h1, h2.1⟩⟩
    | @dT a kvs ea =>
      cases (show u = Value.ref a from rx)
      obtain ⟨_, _, xs, _, o, es, ep, h1, h2, _⟩ := (show ObjOk X.prog X.w H s.heap a (.dT kvs) from I.hok a _ ea)
      exact ⟨_, _, .dict ⟨o, h1, h2.1⟩⟩
  | byt y => exact absurd hT (by decide)
  | @set a S n ea => exact absurd hT (by decide)
  | @kList a o e c =>
    cases (show u = Value.ref a from rx)
    exact ⟨_, _, .list ⟨o, I.kIn a o e, c⟩⟩
  | @kTuple a o e c =>
    cases (show u = Value.ref a from rx)
    exact ⟨_, _, .tuple ⟨o, I.kIn a o e, c⟩⟩
  | @kDict a o e c =>
    cases (show u = Value.ref a from rx)
    exact ⟨_, _, .dict ⟨o, I.kIn a o e, c⟩⟩
  | @fTuple a ob xs ea =>
    cases (show u = Value.ref a from rx)
    obtain ⟨_, _, _, _, o, h1, h2, _⟩ := (show ObjOk X.prog X.w H s.heap a (.frz ob (.tup xs)) from I.hok a _ ea)
    exact ⟨_, _, .tuple ⟨o, h1, h2⟩⟩
  | @fDict a ob kvs ea =>
    cases (show u = Value.ref a from rx)
    obtain ⟨_, _, _, vs, _, o, es, ep, h1, h2, _⟩ := (show ObjOk X.prog X.w H s.heap a (.frz ob (.dK kvs)) from I.hok a _ ea)
    exact ⟨_, _, .dict ⟨o, h1, h2.1⟩⟩
theorem own_run2 {A' : Around} {Ew : Value → Shared → Prop} {PW : Value → Shared → Prop} {Q : VK} {y : V} {u : Value} (F : FnR X.prog X.w X.K X.mg X.base C8.CX0 k f sp) (hr : Room k A') (e0 : Env0 X.prog X.w X.K X.mg X.base A' X.stack s H) (I : Inv X pins σ H s)
    (ry : RelV y u) (h : sp [.ref a, y] H Q E0) (hP : ∀ u s', EP X pins σ Q u s' → PW u s') :
    wpAny (model X.prog X.w) A' (call (.ref f) [.ref a, u]) PW Ew s := by
  refine wpAny_call (codeAny_mono (F A' X.stack s H [.ref a, u] [.ref a, y] Q E0 hr e0 (.cons rfl (.cons ry .nil)) h) fun r s' hq => ?_)
  cases r with
  | error er => exact False.elim hq
  | ok fl =>
    cases fl with
    | ret u => exact hP u s' (I.after hq)
    | next => exact False.elim hq
    | brk => exact False.elim hq
    | cont => exact False.elim hq
def cN (neg b : Bool) : Bool := if neg then !b else b
def YOther (K : PySem.W.Frag) (C : Addr) (H : Hp) (y : V) : Prop := (∃ T ∈ decTs, TyX K H y (.type T)) ∨ ∃ c dy gs, y = .ref c ∧ H c = some (.ins C dy gs)
def rCmpL (K : PySem.W.Frag) (C : Addr) (sp : Sp) (neg : Bool) : R2 := fun x y H Q => ∃ (a dx : Addr) (fs : List (Str × V)), x = .ref a ∧ H a = some (.ins C dx fs) ∧ YOther K C H y ∧ sp [.ref a, y] H (fun v H' => ∃ b, v = .bl b ∧ Q (.bl (cN neg b)) H') E0
def rCmpR (K : PySem.W.Frag) (C : Addr) (sp : Sp) (neg : Bool) : R2 := fun x y H Q => ∃ (T : String) (a dx : Addr) (fs : List (Str × V)), T ∈ decTs ∧ TyX K H x (.type T) ∧ y = .ref a ∧ H a = some (.ins C dx fs) ∧ sp [.ref a, x] H (fun v H' => ∃ b, v = .bl b ∧ Q (.bl (cN neg b)) H') E0
def rCmpM (K : PySem.W.Frag) (C : Addr) (sp : Sp) (neg : Bool) : R2 := fun x y H Q => rCmpL K C sp neg x y H Q ∨ rCmpR K C sp neg x y H Q
/-- the instance's own def asked, by == and by != -/
theorem ask_own {neg : Bool} {y : V} {u : Value} {Q : VK} {E : Value → Shared → Prop} {dx : Addr} {fs : List (Str × V)} (hr : Room (k + 1) X.A) (Y : YCmp X.K C f) (F : FnR X.prog X.w X.K X.mg X.base C8.CX0 k f sp) (I : Inv X pins σ H s) (ea : H a = some (.ins C dx fs)) (ry : RelV y u)
    (h : sp [.ref a, y] H (fun v H' => ∃ b, v = .bl b ∧ Q (.bl (cN neg b)) H') E0) :
    wpAny (model X.prog X.w) X.A (tryCompare (.ref a) (cmpInfo (if neg then CmpOp.NotEq else CmpOp.Eq)).2.1 u) (fun r s' => ∃ v, r = some v ∧ EP X pins σ Q v s') E s := by
  obtain ⟨mA, O, _⟩ := ins_get I.hok ea
  obtain ⟨od, J, _⟩ := O.look
  cases neg with
  | false =>
    refine tc_eq I.kIn J Y.eq Y.fn (own_run2 F (hr.mono (Nat.le_succ _)) I.env0 I ry h fun v s' z => ?_)
    obtain ⟨z, H', I', rz, b, ez, q⟩ := z
    subst ez
    cases rz
    exact ⟨b, rfl, _, rfl, .bl b, H', I', rfl, q⟩
  | true =>
    refine tc_ne hr.in1.units0 I.kIn J Y.mro Y.ne Y.eq Y.fn (own_run2 F hr.in1 I.env0.in1 I ry h fun v s' z => ?_)
    obtain ⟨z, H', I', rz, b, ez, q⟩ := z
    subst ez
    cases rz
    exact ⟨b, rfl, _, rfl, .bl (!b), H', I', rfl, q⟩
theorem op_cmpL {neg : Bool} (hr : Room (k + 1) X.A) (Y : YCmp X.K C f) (F : FnR X.prog X.w X.K X.mg X.base C8.CX0 k f sp) : OpR X (compareOp (if neg then .NotEq else .Eq)) (rCmpL X.K C sp neg) := by
  intro pins s σ H x y v u Q I rx ry hq
  obtain ⟨a, dx, fs, rfl, ea, hy, hsp⟩ := hq
  cases rx
  obtain ⟨mA, O, _⟩ := ins_get I.hok ea
  obtain ⟨od, J, _⟩ := O.look
  have own := ask_own (E := X.xe) hr Y F I ea ry hsp
  have fin : wpAny (model X.prog X.w) X.A (richCompare (if neg then CmpOp.NotEq else CmpOp.Eq) (.ref a) u) (EP X pins σ Q) X.xe s := by
    rcases hy with ⟨T, hT, ty⟩ | ⟨c, dy, gs, rfl, ec⟩
    · obtain ⟨ie, ne, d⟩ := dec_of I ry ty hT
      exact rc_left (tb := .type T) hr.units0 I.kIn J (fun R h => wpAny_typeOf d.ty.1 h) (Y.nf T hT) own
    · cases ry
      obtain ⟨mB, O', _⟩ := ins_get I.hok ec
      obtain ⟨od', J', _⟩ := O'.look
      exact rc_left (tb := .ref C) hr.units0 I.kIn J (fun R h => J'.type.here h) (by simp [PySem.W.notFirst]) own
  cases neg <;> exact fin
theorem op_cmpR {neg : Bool} (hr : Room (k + 1) X.A) (Y : YCmp X.K C f) (F : FnR X.prog X.w X.K X.mg X.base C8.CX0 k f sp) : OpR X (compareOp (if neg then .NotEq else .Eq)) (rCmpR X.K C sp neg) := by
  intro pins s σ H x y v u Q I rx ry hq
  obtain ⟨T, a, dx, fs, hT, ty, rfl, ea, hsp⟩ := hq
  cases ry
  obtain ⟨mA, O, _⟩ := ins_get I.hok ea
  have hob := O.obj
  obtain ⟨od, J, _⟩ := O.look
  obtain ⟨ie, ne, d⟩ := dec_of I rx ty hT
  have own := ask_own (E := X.xe) hr Y F I ea rx hsp
  have fin : wpAny (model X.prog X.w) X.A (richCompare (if neg then CmpOp.NotEq else CmpOp.Eq) v (.ref a)) (EP X pins σ Q) X.xe s :=
    rc_right d (by cases neg <;> simp) hr.units0 hob I.kIn J Y.ns own
  cases neg <;> exact fin
theorem op_cmpM {neg : Bool} (hr : Room (k + 1) X.A) (Y : YCmp X.K C f) (F : FnR X.prog X.w X.K X.mg X.base C8.CX0 k f sp) : OpR X (compareOp (if neg then .NotEq else .Eq)) (rCmpM X.K C sp neg) := by
  intro pins s σ H x y v u Q I rx ry hq
  rcases hq with h | h
  · exact op_cmpL hr Y F pins s σ H x y v u Q I rx ry h
  · exact op_cmpR hr Y F pins s σ H x y v u Q I rx ry h
theorem op_eqM (hr : Room (k + 1) X.A) (Y : YCmp X.K C f) (F : FnR X.prog X.w X.K X.mg X.base C8.CX0 k f sp) : OpR X (compareOp .Eq) (rCmpM X.K C sp false) := op_cmpM (neg := false) hr Y F
theorem op_neM (hr : Room (k + 1) X.A) (Y : YCmp X.K C f) (F : FnR X.prog X.w X.K X.mg X.base C8.CX0 k f sp) : OpR X (compareOp .NotEq) (rCmpM X.K C sp true) := op_cmpM (neg := true) hr Y F
end
end Z

-- only k17
set_option Elab.async false
set_option linter.all false
set_option maxRecDepth 100000
set_option maxHeartbeats 4000000
namespace Y
open PySem L2
open PyProof.Rows (envOfC)
open SX (S)
open C8 (Cal pe_c pe_gc)
theorem fit_bigA {i : Int} (h0 : 0 ≤ i) (h1 : i < 1000000000000000000000000000000000000000) : Fit (.int i) 2000 := by
  obtain ⟨n, rfl⟩ := Int.eq_ofNat_of_zero_le h0
  have hn : n < 10 ^ 39 := Int.ofNat_lt.mp (Int.lt_of_lt_of_le h1 (by decide))
  have lg : (n : Int).natAbs.log2 < 1920 := by
    rw [Int.natAbs_natCast]
    by_cases h : n = 0
    · rw [h]
      decide
    · exact (Nat.log2_lt h).mpr (Nat.lt_of_lt_of_le (Nat.lt_trans hn (show 10 ^ 39 < 2 ^ 140 by decide)) (Nat.pow_le_pow_right (by decide) (by decide)))
  refine ⟨?_, decide_eq_true lg, Nat.zero_le _, ?_⟩
  · refine decide_eq_true ?_
    show (Str.ofString (toString (n : Int))).length ≤ 40
    rw [show Str.ofString (toString (n : Int)) = S (TL.numL n) from SX.num_S n, SX.S_len]
    exact Nat.le_trans (TL.numL_len (by decide) hn) (by decide)
  · show (if ((n : Int) == 0) = true then 0 else (n : Int).natAbs.log2 + 1) ≤ 2000
    split <;> omega
theorem rev_pickA {α : Type} {xs : List α} (h2 : 2 ≤ xs.length) (h4 : xs.length ≤ 4) : pickW xs none none (-1) = xs.reverse := by
  have e : Z.stI 2 none none (-1) = [1, 0] ∧ Z.stI 3 none none (-1) = [2, 1, 0] ∧ Z.stI 4 none none (-1) = [3, 2, 1, 0] := by decide +kernel
  obtain ⟨e2, e3, e4⟩ := e
  unfold pickW
  match xs, h2, h4 with
  | [a, b], _, _ => show (Z.stI 2 none none (-1)).filterMap _ = _; rw [e2]; rfl
  | [a, b, c], _, _ => show (Z.stI 3 none none (-1)).filterMap _ = _; rw [e3]; rfl
  | [a, b, c, d], _, _ => show (Z.stI 4 none none (-1)).filterMap _ = _; rw [e4]; rfl
  | _ :: _ :: _ :: _ :: _ :: _, _, h => simp at h
theorem pe_sliceStKA {X : Cx} {K : PySem.W.Frag} {e : Expr} {te : TE} {lo hi : Option Expr} {st : Expr} {tl th : TO} {tc : TE} {p2 pos : Pos} (hK : X.K = K) (he : PE X e te) (hl : PO X lo tl) (hu : PO X hi th) (hc : PE X st tc) : PE X (.Subscript e (.Slice lo hi (some st) p2) pos) (Z.tSlSt K te tl th (tPart tc)) := by
  subst hK
  exact Z.pe_sliceSt he hl hu hc
/-- kinds, and a list of rows -/
structure DrL (K : PySem.W.Frag) (H : Hp) (l : Addr) (zs : List (List Nat)) (g : Gr) : Prop where
  ex : ∃ (tz tg : Addr) (as : List Addr), H l = some (.lst [.ref tz, .ref tg]) ∧ SqT K H tz (zs.map vS) ∧ SqL K H tg (as.map V.ref) ∧ as.length = g.length ∧ ∀ (i : Nat) (a : Addr) (r : List Int), as[i]? = some a → g[i]? = some r → SqT K H a (r.map vI)
  good : GoodU zs g
/-- the parts of a yard -/
structure DrG (K : PySem.W.Frag) (H : Hp) (l : Addr) (zs : List (List Nat)) (g : Gr) : Prop where
  ex : ∃ tz tg, H l = some (.lst [.ref tz, .ref tg]) ∧ SqT K H tz (zs.map vS) ∧ GridAt K H tg g
  good : Good zs g
theorem DrG.u {K : PySem.W.Frag} {H : Hp} {l : Addr} {zs : List (List Nat)} {g : Gr} (h : DrG K H l zs g) : DrU K H l zs g := ⟨h.ex, h.good.u⟩
theorem DrG.same {K : PySem.W.Frag} {H H' : Hp} {l : Addr} {zs : List (List Nat)} {g : Gr} (h : DrG K H l zs g) (k : Same H H') : DrG K H' l zs g := by
  obtain ⟨tz, tg, h1, h2, h3⟩ := h.ex
  exact ⟨⟨tz, tg, k _ _ h1, Same.tup k h2, h3.same k⟩, h.good⟩
theorem DrG.ne {K : PySem.W.Frag} {p : Addr} {H : Hp} {l : Addr} {zs : List (List Nat)} {g : Gr} (h : DrG K H l zs g) (hP : PailAt H p) : l ≠ p := fun z => by
  obtain ⟨tz, tg, h1, _, _⟩ := h.ex
  obtain ⟨a, b, c, _, e⟩ := hP.ex
  rw [z, e] at h1
  cases h1
theorem DrG.kpt {K : PySem.W.Frag} {p : Addr} {H H' : Hp} {l : Addr} {zs : List (List Nat)} {g : Gr} (h : DrG K H l zs g) (hP : PailAt H p) (k : KpT p H H') : DrG K H' l zs g := by
  have ne := h.ne hP
  obtain ⟨tz, tg, h1, h2, h3⟩ := h.ex
  exact ⟨⟨tz, tg, k _ _ h1 ne fun _ => nofun, k.tup hP h2, h3.kpt hP k⟩, h.good⟩
theorem DrG.kpx {K : PySem.W.Frag} {p : Addr} {H H' : Hp} {l : Addr} {zs : List (List Nat)} {g : Gr} (h : DrG K H l zs g) (hP : PailAt H p) (k : KpX p H H') : DrG K H' l zs g := h.kpt hP (.ofX k)
theorem DrAt.g {K : PySem.W.Frag} {H : Hp} {l : Addr} {zs : List (List Nat)} {g : Gr} (h : DrAt K H l zs g) : DrG K H l zs g := ⟨h.ex, h.good⟩
theorem YardS.kpt {K : PySem.W.Frag} {C p : Addr} {H H' : Hp} {y : Addr} {zs : List (List Nat)} {g : Gr} (h : YardS K C H y zs g) (hP : PailAt H p) (k : KpT p H H') : YardS K C H' y zs g := by
  obtain ⟨dx, tz, tg, h1, h2, h3⟩ := h.ex
  refine ⟨⟨dx, tz, tg, k _ _ h1 (fun z => ?_) (fun _ => nofun), k.tup hP h2, h3.kpt hP k⟩, h.good⟩
  subst z
  obtain ⟨a, b, c, _, e⟩ := hP.ex
  rw [e] at h1
  cases h1
theorem Good.rev {zs : List (List Nat)} {g : Gr} (h : Good zs g) : Good zs.reverse g := ⟨by rw [List.length_reverse]; exact h.n2, by rw [List.length_reverse]; exact h.n4, by unfold List.Nodup; rw [List.pairwise_reverse]; exact h.nd.imp fun a e => a e.symm, fun z hz => h.nm z (List.mem_reverse.mp hz), by rw [List.length_reverse]; exact h.tb⟩
section
variable {P : Program} {w : World} {K : PySem.W.Frag} {mg : Str → Option Value} {base : Heap} {C : Addr}
def spSheetL (K : PySem.W.Frag) : Sp := fun vs H Q _ => ∃ (l : Addr) (zs : List (List Nat)) (g : Gr), vs = [.ref l] ∧ DrL K H l zs g ∧ ∀ H', Same H H' → Q (vS (sheetL zs g)) H'
theorem ok_sheetL (D : DfT K mg "_law_sheet" s_sheet ["_law_parts"]) (T : Tx K mg) : Cal P w K mg base 1 "_law_sheet" (spSheetL K) [] := by
  have nd := sc_sheet.nd
  refine calS (k := 0) D sc_sheet (fun vs H Q E h => by obtain ⟨l, zs, g, rfl, _⟩ := h; rfl) fun f cdv A outer s H vs Q E hr h => ?_
  let sc : Scope := defScope s_sheet
  refine ⟨_, (pss_cons (ps_set (i := 1) nd rfl (by first | exact Or.inl rfl | exact Or.inr rfl) (pe_lst (pa_cons (pe_join pe_str (pe_op op_cat (pe_lst (pa_cons pe_str pa_nil)) (pe_callTy (r := rListOf K) call_list_of (by rfl) T.n_list (by decide +kernel) (pa_cons (pe_ix (r := rIxL K) ix_list (pv 0) pe_int (fun _ _ => rfl)) pa_nil)))) pa_nil)))
    (pss_cons (ps_for PassesOwn.never rfl (pi_range1 (by rfl) T.n_range (pa_cons (pe_callB (r := rLenQ K) call_len_seq (by rfl) T.n_len (by decide +kernel) (pa_cons (pe_ix (r := rIxL K) ix_list (pv 0) pe_int (fun _ _ => rfl)) pa_nil)) pa_nil)) (pg_name (i := 2) nd rfl (by first | exact Or.inl rfl | exact Or.inr rfl)) (pss_one (ps_expr (pe_bm PySem.F.plainAttrs_list PySem.F.slot_list_append PySem.F.type_list_append mt_append (pv 1) (pa_cons (pe_join pe_str (pe_op op_cat (pe_lst (pa_cons (pe_ix (r := rIxT K) ix_tup (pe_ix (r := rIxL K) ix_list (pv 0) pe_int (fun _ _ => rfl)) (pv 2) (fun _ _ => rfl)) pa_nil)) (pe_lc (own := [("_law_each", 3)]) (g := gName 3) (by rfl) nd (pi_tup (pe_ix (r := rIxL K) ix_list (pe_ix (r := rIxL K) ix_list (pv 0) pe_int (fun _ _ => rfl)) (pv 2) (fun _ _ => rfl))) (blkOk_by (own := [("_law_each", 3)]) (N := ["_law_parts", "_law_lines", "_law_k", "_law_each"]) (sc := sc) (by decide +kernel)) (fun _ _ _ _ _ => pg_name (i := 3) nd rfl (Or.inl rfl)) (fun _ _ _ _ _ => pts_nil) (fun _ _ _ _ _ => (pe_callTy call_str_int (by rfl) T.n_str (by decide +kernel) (pa_cons (pv 3) pa_nil)))))) pa_nil)))))
    (pss_one (ps_ret (pe_join pe_str (pv 1)))))), ?_⟩
  obtain ⟨l, zs, g, rfl, hd, hk⟩ := h
  obtain ⟨tz, tg, as, hl, hz, hta, hal, har⟩ := hd.ex
  have hgood := hd.good
  have hn4 := hgood.n4
  have hsz : ∀ {n : Nat}, n ≤ 5 → n ≤ sizeLine := fun h => Nat.le_trans h (by decide)
  refine ⟨⟨_, rfl⟩, (by show 1 ≤ sizeLine; decide), fun l1 h1 => ?_⟩
  have k1 := Same.new (H := H) (o := .lst [.str "kinds"]) h1
  refine ⟨.ref l, rfl, l, _, 0, .ref tz, rfl, rfl, SqL.of (k1 _ _ hl), (by exact atI_nat (j := 0) rfl), tz, _, rfl, .inr (Same.tup k1 hz), fun l2 h2 => ?_⟩
  have k2 := Same.new (o := .lst (zs.map vS)) h2
  refine ⟨l1, l2, _, _, rfl, rfl, k2 _ _ upd_same, upd_same, hsz (by show 1 + (zs.map vS).length ≤ 5; rw [List.length_map]; omega), fun l3 h3 => ?_⟩
  have k3 := Same.new (o := .lst ([.str "kinds"] ++ zs.map vS)) h3
  have k03 := (k1.trans k2).trans k3
  refine ⟨_, l3, (kindsL :: zs).map S, rfl, rfl, .inl ?_, ?_, ?_⟩
  · rw [map_vS]
    refine SqL.of ?_
    rw [upd_same, kinds_S]
    rfl
  · rw [show (" " : Str).length = 1 from by decide +kernel]
    refine lens_ok (b := 8) (n := 5) (fun y hy => ?_) (by simp; omega) (by decide)
    rcases List.mem_cons.mp hy with e | e
    · rw [e]
      decide
    · exact (hgood.nm y e).len.2
  rw [sp_S, SX.join_S]
  refine ⟨(by show 1 ≤ sizeLine; decide), fun D hD => ?_⟩
  have kD := k03.trans (Same.new (o := .lst [vS (TL.joinL [32] (kindsL :: zs))]) hD)
  have hHD : H D = none := same_none k03 hD
  refine ⟨.ref l, rfl, l, _, 0, .ref tz, rfl, rfl, SqL.of (kD _ _ hl), (by exact atI_nat (j := 0) rfl), tz, _, rfl, .inr (Same.tup kD hz), _, rfl, ?_⟩
  rw [List.length_map]
  refine ⟨by omega, by omega, for_range (n := zs.length) (fun i σ H' => ∃ (e2 e3 : Option V), σ = [some (.ref l), some (.ref D), e2, e3] ∧ H' D = some (.lst (((linesL zs g).take (i + 1)).map vS)) ∧ Same H H') ⟨none, none, rfl, upd_same, kD⟩ ?_ ?_⟩
  · rintro i σ H1 hi ⟨e2, e3, rfl, hD1, kk⟩
    have hi2 : i < zs.length := by omega
    obtain ⟨z, hzi⟩ : ∃ z, zs[i]? = some z := ⟨_, List.getElem?_eq_getElem hi2⟩
    have hig : i < g.length := by rw [hgood.glen]; exact hi2
    obtain ⟨a, hai⟩ : ∃ a, as[i]? = some a := ⟨_, List.getElem?_eq_getElem (by rw [hal]; exact hig)⟩
    have hrg := getD_at hig
    obtain ⟨q1, q2⟩ := hgood.tb.rows hrg
    have kz := Same.tup kk hz
    have atz : L2.atI (zs.map vS) (0 + (i : Int)) = some (vS z) := by
      rw [Int.zero_add]
      exact atI_nat (by rw [List.getElem?_map, hzi]; rfl)
    have ata : L2.atI (as.map V.ref) (0 + (i : Int)) = some (V.ref a) := by
      rw [Int.zero_add]
      exact atI_nat (by rw [List.getElem?_map, hai]; rfl)
    refine ⟨.ref D, rfl, .inl ⟨rfl, _, SqL.of hD1⟩, ⟨_, rfl⟩, .ref l, rfl, l, _, 0, .ref tz, rfl, rfl, SqL.of (kk _ _ hl), (by exact atI_nat (j := 0) rfl), .int (0 + (i : Int)), rfl, tz, _, _, vS z, rfl, rfl, kz, atz, ?_⟩
    refine ⟨(by show 1 ≤ sizeLine; decide), fun l1 h1 => ?_⟩
    have k1 := kk.trans (Same.new (o := .lst [vS z]) h1)
    have ha1 := Same.tup k1 (har i a _ hai hrg)
    refine ⟨.ref l, rfl, l, _, 1, .ref tg, rfl, rfl, SqL.of (k1 _ _ hl), (by exact atI_nat (j := 1) rfl), .int (0 + (i : Int)), rfl, tg, _, _, .ref a, rfl, rfl, Same.seq k1 hta, ata, a, rfl, ⟨_, ha1⟩, fun D2 hD2 => ?_⟩
    generalize hr0 : g.getD i [] = r at *
    generalize hH2 : upd H1 l1 (.lst [vS z]) = H2 at *
    refine lc_tup (K := K) (a := a) (xs := r.map vI) (fun j H' => H' D2 = some (.lst (((r.take j).map dL).map vS)) ∧ Same H2 H') ⟨upd_same, Same.new hD2⟩ (fun j H' _ q => Same.tup q.2 ha1) ?_ ?_
    · rintro j x H' hx ⟨hD', k⟩
      obtain ⟨y, hy, rfl⟩ : ∃ z, r[j]? = some z ∧ vI z = x := by
        rw [List.getElem?_map] at hx
        exact Option.map_eq_some_iff.mp hx
      have hyB : rowB y = true := List.all_eq_true.mp q1 y (List.mem_of_getElem? hy)
      have hj : j < r.length := (List.getElem?_eq_some_iff.mp hy).1
      refine ⟨rfl, vI y, rfl, y, rfl, log_ok hyB, ?_⟩
      refine ⟨_, hD', ?_, ?_, fun c o e => ?_⟩
      · rw [List.length_map, List.length_map]
        exact Nat.lt_of_le_of_lt (List.length_take_le _ _) (Nat.lt_of_lt_of_le (show j < 5 by omega) (by decide))
      · rw [upd_same, List.take_succ, hy, str_num hyB]
        simp
      · rw [upd_ne (ne_of_none e hD2)]
        exact k c o e
    · rintro H' ⟨hD', k⟩
      rw [List.length_map, List.take_length] at hD'
      have hl1' : H' l1 = some (.lst [vS z]) := k _ _ (by rw [← hH2]; exact upd_same)
      refine ⟨l1, D2, _, _, rfl, rfl, hl1', hD', hsz (by show 1 + ((r.map dL).map vS).length ≤ 5; rw [List.length_map, List.length_map]; omega), fun l3 h3 => ?_⟩
      have k3 := Same.new (o := .lst ([vS z] ++ (r.map dL).map vS)) h3
      have kall := (k1.trans k).trans k3
      refine ⟨_, l3, (z :: r.map dL).map S, rfl, rfl, .inl ?_, ?_, ?_⟩
      · rw [map_vS]
        refine SqL.of ?_
        rw [upd_same]
        rfl
      · rw [show (S [32]).length = 1 from rfl]
        refine lens_ok (b := 31) (n := 5) (fun y hy => ?_) (by simp; omega) (by decide)
        rcases List.mem_cons.mp hy with e | e
        · rw [e]
          have := (hgood.nm z (List.mem_of_getElem? hzi)).len.2
          omega
        · obtain ⟨x, hx, rfl⟩ := List.mem_map.mp e
          exact dL_len (List.all_eq_true.mp q1 x hx)
      rw [SX.join_S]
      have k13 : Same H1 (upd H' l3 (.lst ([vS z] ++ (r.map dL).map vS))) := fun b o e => k3 _ _ (k _ _ (by rw [← hH2, upd_ne (ne_of_none e h1)]; exact e))
      refine ⟨D, _, vS (lineL z r), rfl, rfl, k13 _ _ hD1, ?_, _, _, rfl, ?_, fun b o e => ?_⟩
      · rw [List.length_map]
        exact Nat.lt_of_le_of_lt (List.length_take_le _ _) (Nat.lt_of_lt_of_le (show i + 1 < 5 by omega) (by decide))
      · rw [upd_same, lines_take hzi hrg, List.map_append]
        rfl
      · rw [upd_ne (ne_of_none e hHD)]
        exact kall b o e
  · rintro σ' H1 ⟨e2, e3, rfl, hD1, kk⟩
    refine ⟨⟨_, rfl⟩, .ref D, rfl, _, D, (linesL zs g).map S, rfl, rfl, .inl ?_, ?_, ?_⟩
    · rw [map_vS]
      refine SqL.of ?_
      rw [hD1, List.take_of_length_le (by rw [hgood.lines_len]; omega)]
    · rw [show ("\n" : Str).length = 1 from by decide +kernel]
      exact lens_ok (b := 200) (n := 5) (fun z hz => hgood.line_len hz) (by rw [hgood.lines_len]; omega) (by decide)
    · rw [nl_S, SX.join_S]
      exact hk H1 kk
theorem make_okS {H1 : Hp} {tz tg : Addr} {zs : List (List Nat)} {g : Gr} {Q : Addr → Hp → Prop} {E : XK} (hz : SqT K H1 tz (zs.map vS)) (hG : GridAt K H1 tg g) (hg : Good zs g) (k : ∀ y H', YardS K C H' y zs g → Same H1 H' → Q y H') :
    ∀ x dx, H1 x = none → H1 dx = none → dx ≠ x → spInit K C [.ref x, .ref tz, .ref tg] (upd (upd H1 dx (.own x)) x (.ins C dx [])) (fun v H2 => v = .non ∧ Q x H2) E := by
  intro x dx hx hdx hne
  have hx2 : (upd H1 dx (.own x)) x = none := by rw [upd_ne hne.symm]; exact hx
  have k1 : Same H1 (upd (upd H1 dx (.own x)) x (.ins C dx [])) := (Same.new hdx).trans (Same.new hx2)
  refine ⟨x, tz, tg, dx, zs, g, rfl, upd_same, Same.tup k1 hz, hG.same k1, hg, fun H' ⟨dx', h1⟩ h2 => ⟨rfl, ?_⟩⟩
  have k2 : Same H1 H' := fun b o e => h2 b o (k1 b o e) (ne_of_none e hx)
  exact k x H' ⟨⟨dx', tz, tg, h1, Same.tup k2 hz, hG.same k2⟩, hg⟩ k2
def spBuiltS (K : PySem.W.Frag) (C : Addr) : Sp := fun vs H Q _ => ∃ (p l : Addr) (zs : List (List Nat)) (g : Gr), vs = [.ref p, .ref l] ∧ PailAt H p ∧ DrG K H l zs g ∧ ∀ y H', YardS K C H' y zs g → PailAt H' p → KpX p H H' → Q (.ref y) H'
theorem ok_builtS {mc : Value} {pr fr : Addr} (D : DfT K mg "_law_built" s_built ["_law_pail", "_law_parts"]) (T : Tx K mg) (Y : YT K mg C) (Y3 : YCm K C mc pr fr) (In : InitY P w K mg base C) (h_read : MfC P w K mg base 8 fr ["cls", "text"] (spRead K C))
    (h_cast : Cal P w K mg base 1 "_law_cast" spCast []) (h_sheet : Cal P w K mg base 1 "_law_sheet" (spSheet K) []) : Cal P w K mg base 9 "_law_built" (spBuiltS K C) [] := by
  have nd := sc_built.nd
  obtain ⟨fi, fdi, Mk1, Fi, bi, kb⟩ := In.ex
  refine calS (k := 8) D sc_built (fun vs H Q E h => by obtain ⟨p, l, zs, g, rfl, _⟩ := h; rfl) fun f cdv A outer s H vs Q E hr h => ?_
  let sc : Scope := defScope s_built
  refine ⟨_, (pss_cons (ps_set (i := 2) nd rfl (by first | exact Or.inl rfl | exact Or.inr rfl) (pe_c h_cast hr (by decide) (by rfl) (pa_cons (pv 0) (pa_cons pe_int pa_nil))))
    (pss_cons (ps_if (pt_cmpR op_eq (pv 2) pe_int (nomark _)) (pss_one (ps_ret (pe_make Mk1 Fi (hr.mono (by decide)) (by rfl) Y.mgC bi .nil pass0 (pa_cons (pe_ix (r := rIxL K) ix_list (pv 1) pe_int (fun _ _ => rfl)) (pa_cons (pe_ix (r := rIxL K) ix_list (pv 1) pe_int (fun _ _ => rfl)) pa_nil))))) pss_nil)
    (pss_one (ps_ret (pe_ifExp (pt_cmpR op_eq (pv 2) pe_int (nomark _)) (pe_makeK0 Mk1 Fi (hr.mono (by decide)) (by rfl) Y.mgC kb pass0 (pk_cons (pe_ix (r := rIxL K) ix_list (pv 1) pe_int (fun _ _ => rfl)) (pk_cons (pe_ix (r := rIxL K) ix_list (pv 1) pe_int (fun _ _ => rfl)) pk_nil))) (ClX.pe_cmeth (pe_glob (by rfl) Y.mgC (v := .ref C) rfl) Y3.cr Y3.cm h_read.raw (hr.mono (by decide)) pass0 (pa_cons (pe_c h_sheet hr (by decide) (by rfl) (pa_cons (pv 1) pa_nil)) pa_nil))))))), ?_⟩
  obtain ⟨p, l, zs, g, rfl, hP, hd, hk⟩ := h
  refine ⟨.ref p, rfl, p, 3, rfl, hP, ⟨by decide, by decide⟩, fun r H1 r0 r1 hP1 k1 => ?_⟩
  have hd1 := hd.kpx hP k1
  have hgd : Good zs g := hd.good
  obtain ⟨tz, tg, hl, hz, hg⟩ := hd1.ex
  have at0 : L2.atI [V.ref tz, V.ref tg] 0 = some (V.ref tz) := by exact atI_nat (j := 0) rfl
  have at1 : L2.atI [V.ref tz, V.ref tg] 1 = some (V.ref tg) := by exact atI_nat (j := 1) rfl
  refine ⟨.int r, rfl, rfl, _, rfl, ?_⟩
  refine ite2 (fun h => ?_) (fun h => ?_)
  · refine ⟨.ref l, rfl, l, _, 0, .ref tz, rfl, rfl, SqL.of hl, at0, .ref l, rfl, l, _, 1, .ref tg, rfl, rfl, SqL.of hl, at1, ?_⟩
    refine make_okS hz hg hgd fun y H3 hy k3 => ?_
    exact hk y H3 hy (hP1.same k3) (k1.trans (.of k3))
  · refine ⟨.int r, rfl, rfl, _, rfl, ?_⟩
    refine ite2 (fun h => ?_) (fun h => ?_)
    · refine ⟨.ref l, rfl, l, _, 1, .ref tg, rfl, rfl, SqL.of hl, at1, .ref l, rfl, l, _, 0, .ref tz, rfl, rfl, SqL.of hl, at0, rfl, rfl, ?_⟩
      refine make_okS hz hg hgd fun y H3 hy k3 => ?_
      exact hk y H3 hy (hP1.same k3) (k1.trans (.of k3))
    · refine ⟨rfl, .ref l, rfl, l, zs, g, rfl, ⟨hd1.ex, hgd.u⟩, fun H2 k2 => ?_⟩
      refine ⟨zs, g, rfl, hgd, fun y H3 hy k3 => ?_⟩
      exact hk y H3 hy.s (hP1.same (k2.trans k3)) (k1.trans (.of (k2.trans k3)))
abbrev s_other : Stmt := top 79
theorem sc_other : FnScope ["_law_pail", "_law_parts", "_law_way", "_law_size"] ["_law_pail", "_law_parts"] (defScope s_other) := ⟨rfl, rfl, rfl, by decide +kernel, rfl, by decide +kernel, by decide +kernel⟩
def spOther (K : PySem.W.Frag) : Sp := fun vs H Q _ => ∃ (p l : Addr) (zs : List (List Nat)) (g : Gr), vs = [.ref p, .ref l] ∧ PailAt H p ∧ DrG K H l zs g ∧ ∀ l' zs' g' H', DrG K H' l' zs' g' → PailAt H' p → KpX p H H' → Q (.ref l') H'
theorem ok_other (D : DfT K mg "_law_other" s_other ["_law_pail", "_law_parts"]) (T : Tx K mg) (h_cast : Cal P w K mg base 1 "_law_cast" spCast []) (h_drawn : Cal P w K mg base 5 "_law_drawn" (spDrawn K) []) (h_drawn_grid : Cal P w K mg base 4 "_law_drawn_grid" (spGrid K) []) : Cal P w K mg base 6 "_law_other" (spOther K) [] := by
  have nd := sc_other.nd
  refine calS (k := 5) D sc_other (fun vs H Q E h => by obtain ⟨p, l, zs, g, rfl, _⟩ := h; rfl) fun f cdv A outer s H vs Q E hr h => ?_
  let sc : Scope := defScope s_other
  refine ⟨_, (pss_cons (ps_par (by rfl) nd (i := 2) (j := 3) rfl rfl (by decide) rfl rfl (pa_cons (pe_c h_cast hr (by decide) (by rfl) (pa_cons (pv 0) (pa_cons pe_int pa_nil))) (pa_cons (pe_callB (r := rLenQ K) call_len_seq (by rfl) T.n_len (by decide +kernel) (pa_cons (pe_ix (r := rIxL K) ix_list (pv 1) pe_int (fun _ _ => rfl)) pa_nil)) pa_nil)) (by rfl))
    (pss_cons (ps_if (pt_cmpR op_eq (pv 2) pe_int (nomark _)) (pss_one (ps_ret (pe_lst (pa_cons (pe_sliceStKA (K := K) rfl (pe_ix (r := rIxL K) ix_list (pv 1) pe_int (fun _ _ => rfl)) po_none po_none (pe_un un_neg pe_int)) (pa_cons (pe_ix (r := rIxL K) ix_list (pv 1) pe_int (fun _ _ => rfl)) pa_nil))))) pss_nil)
    (pss_cons (ps_if (pt_cmpR op_eq (pv 2) pe_int (nomark _)) (pss_one (ps_ret (pe_c h_drawn hr (by decide) (by rfl) (pa_cons (pv 0) pa_nil)))) pss_nil)
    (pss_one (ps_ret (pe_ifExp (pt_cmpR op_eq (pv 2) pe_int (nomark _)) (pv 1) (pe_lst (pa_cons (pe_ix (r := rIxL K) ix_list (pv 1) pe_int (fun _ _ => rfl)) (pa_cons (pe_c h_drawn_grid hr (by decide) (by rfl) (pa_cons (pv 0) (pa_cons (pv 3) pa_nil))) pa_nil))))))))), ?_⟩
  obtain ⟨p, l, zs, g, rfl, hP, hd, hk⟩ := h
  have n2 := hd.good.n2
  have n4 := hd.good.n4
  refine ⟨.ref p, rfl, p, 6, rfl, hP, ⟨by decide, by decide⟩, fun way H1 w0 w1 hP1 k1 => ?_⟩
  have hd1 := hd.kpx hP k1
  obtain ⟨tz, tg, hl, hz, hg⟩ := hd1.ex
  have at0 : L2.atI [V.ref tz, V.ref tg] 0 = some (V.ref tz) := by exact atI_nat (j := 0) rfl
  have at1 : L2.atI [V.ref tz, V.ref tg] 1 = some (V.ref tg) := by exact atI_nat (j := 1) rfl
  refine ⟨.ref l, rfl, l, _, 0, .ref tz, rfl, rfl, SqL.of hl, at0, tz, _, rfl, .inr hz, _, _, rfl, ?_⟩
  rw [List.length_map]
  refine ⟨.int way, rfl, rfl, _, rfl, ?_⟩
  refine ite2 (fun _ => ?_) (fun _ => ?_)
  · have er : Z.cutSt (zs.map vS) none none (-1) = zs.reverse.map vS := by rw [cutSt_map, rev_pickA n2 n4]
    refine ⟨.ref l, rfl, l, _, 0, .ref tz, rfl, rfl, SqL.of hl, at0, 1, rfl, -1, rfl, tz, _, -1, rfl, rfl, hz, by decide, by decide, by rw [er]; simp; exact Nat.le_trans n4 (by decide), fun c1 f1 => ?_⟩
    have k2 := Same.new (o := .tup (Z.cutSt (zs.map vS) none none (-1))) f1
    have h1 : SqT K (upd H1 c1 (.tup (Z.cutSt (zs.map vS) none none (-1)))) c1 (zs.reverse.map vS) := by
      rw [← er]
      exact SqT.of upd_same
    generalize upd H1 c1 (.tup (Z.cutSt (zs.map vS) none none (-1))) = H2 at k2 h1 ⊢
    refine ⟨.ref l, rfl, l, _, 1, .ref tg, rfl, rfl, SqL.of (k2 _ _ hl), at1, (by show 2 ≤ sizeLine; decide), fun lo fo => ?_⟩
    have ko := Same.new (o := .lst [.ref c1, .ref tg]) fo
    exact hk lo zs.reverse g _ ⟨⟨c1, tg, upd_same, Same.tup ko h1, hg.same (k2.trans ko)⟩, hd.good.rev⟩ (hP1.same (k2.trans ko)) (k1.trans (.of (k2.trans ko)))
  refine ⟨.int way, rfl, rfl, _, rfl, ?_⟩
  refine ite2 (fun _ => ?_) (fun _ => ?_)
  · refine ⟨.ref p, rfl, p, rfl, hP1, fun zs' g' l' H2 hd' hP2 k2 => ?_⟩
    exact hk l' zs' g' H2 hd'.g hP2 (k1.trans k2)
  refine ⟨.int way, rfl, rfl, _, rfl, ?_⟩
  refine ite2 (fun _ => ?_) (fun _ => ?_)
  · exact ⟨.ref l, rfl, hk l zs g H1 hd1 hP1 k1⟩
  · refine ⟨.ref l, rfl, l, _, 0, .ref tz, rfl, rfl, SqL.of hl, at0, .ref p, rfl, vN zs.length, rfl, p, zs.length, rfl, hP1, ⟨n2, n4⟩, fun g' t' H2 htab hG' hP2 k2 => ?_⟩
    refine ⟨(by show 2 ≤ sizeLine; decide), fun lo fo => ?_⟩
    have ko := Same.new (o := .lst [.ref tz, .ref t']) fo
    exact hk lo zs g' _ ⟨⟨tz, t', upd_same, Same.tup ko (k2.tup hP1 hz), hG'.same ko⟩, ⟨n2, n4, hd.good.nd, hd.good.nm, htab⟩⟩ (hP2.same ko) (k1.trans (k2.trans (.of ko)))
end
end Y

-- only k17: _law_astray, _law_greatest, _law_wanted
set_option Elab.async false
set_option linter.all false
set_option maxRecDepth 100000
set_option maxHeartbeats 4000000
namespace Y
open PySem L2
open PyProof.Rows (envOfC)
open SX (S)
open C8 (Cal pe_c pe_gc)
/-- what adding two yards is due to end with -/
def DueA (zs1 : List (List Nat)) (g1 : Gr) (zs2 : List (List Nat)) (g2 : Gr) (d : PyData) : Prop := (zs1 ≠ zs2 ∧ d = .list [.str "other", d2 "yard" (S (sheetL zs2 g2))]) ∨
  (zs1 = zs2 ∧ ∃ k, IsMaxA (addG g1 g2) k ∧ 0 ≤ k ∧ k ≤ 2000000000000000000000000000000 ∧ ((1000000000000000000000000000000 < k ∧ d = d2 "great" (PyData.int k).shown) ∨ (k ≤ 1000000000000000000000000000000 ∧ d = .list [.str "back", d2 "yard" (S (sheetL zs1 (addG g1 g2)))])))
theorem max_bound {n : Nat} {g h : Gr} {k : Int} (hg : Table n g) (hh : Table n h) (hm : IsMaxA (addG g h) k) : 0 ≤ k ∧ k ≤ 2000000000000000000000000000000 := by
  obtain ⟨⟨r, hr, hk⟩, _⟩ := hm
  obtain ⟨i, hi⟩ := List.getElem?_of_mem hr
  have hin : i < n := by
    rw [← addG_len hg.sq hh.sq]
    exact (List.getElem?_eq_some_iff.mp hi).1
  have hs := (addG_sq hg.sq hh.sq).2 i r hi
  obtain ⟨j, hj⟩ := List.getElem?_of_mem hk
  have hjn : j < n := by
    rw [← hs]
    exact (List.getElem?_eq_some_iff.mp hj).1
  have e : ent (addG g h) i j = k := by
    unfold ent
    rw [List.getD_eq_getElem?_getD (l := addG g h), hi]
    show r.getD j 0 = k
    rw [List.getD_eq_getElem?_getD, hj]
    rfl
  rw [ent_addG hg.sq hh.sq hin] at e
  have h1 := hg.lie i j hin hjn
  have h2 := hh.lie i j hin hjn
  omega
section
variable {P : Program} {w : World} {K : PySem.W.Frag} {mg : Str → Option Value} {base : Heap} {C : Addr}
abbrev s_astray : Stmt := top 74
theorem sc_astray : FnScope ["_law_grid", "_law_k"] ["_law_grid"] (defScope s_astray) := ⟨rfl, rfl, rfl, by decide +kernel, rfl, by decide +kernel, by decide +kernel⟩
def spAstray (K : PySem.W.Frag) : Sp := fun vs H Q _ => ∃ (t : Addr) (g : Gr), vs = [.ref t] ∧ GridAt K H t g ∧ g.length ≤ 4 ∧ (∀ (i : Nat) (r : List Int), g[i]? = some r → r.length = g.length) ∧ ∀ H', Same H H' → Q (.int (outG g)) H'
theorem ok_astray (D : DfT K mg "_law_astray" s_astray ["_law_grid"]) (T : Tx K mg) : Cal P w K mg base 1 "_law_astray" (spAstray K) [] := by
  have nd := sc_astray.nd
  refine calS (k := 0) D sc_astray (fun vs H Q E h => by obtain ⟨t, g, rfl, _⟩ := h; rfl) fun f cdv A outer s H0 vs Q E hr h => ?_
  let sc : Scope := defScope s_astray
  refine ⟨_, (pss_one (ps_ret (pe_callB (r := rSum K) (cr_sum rfl) (by rfl) T.n_sum (by decide +kernel) (pa_cons (pe_lc (own := [("_law_k", 1)]) (g := gName 1) (by rfl) nd (pi_range1 (by rfl) T.n_range (pa_cons (pe_callB (r := rLenQ K) call_len_seq (by rfl) T.n_len (by decide +kernel) (pa_cons (pv 0) pa_nil)) pa_nil)) (blkOk_by (own := [("_law_k", 1)]) (N := ["_law_grid", "_law_k"]) (sc := sc) (by decide +kernel)) (fun _ _ _ _ _ => pg_name (i := 1) nd rfl (Or.inl rfl)) (fun _ _ _ _ _ => pts_nil) (fun _ _ _ _ _ => (pe_op op_sub (pe_callB (r := rSumT K) (cr_sumT rfl) (by rfl) T.n_sum (by decide +kernel) (pa_cons (pe_ix (r := rIxT K) ix_tup (pv 0) (pv 1) (fun _ _ => rfl)) pa_nil)) (pe_ix (r := rIxT K) ix_tup (pe_ix (r := rIxT K) ix_tup (pv 0) (pv 1) (fun _ _ => rfl)) (pv 1) (fun _ _ => rfl))))) pa_nil)))), ?_⟩
  obtain ⟨t, g, rfl, h3, hn4, hrl, hk⟩ := h
  obtain ⟨as, ht, hal, har⟩ := h3.ex
  have el : (((as.map V.ref).length : Nat) : Int) = (g.length : Nat) := by rw [List.length_map, hal]
  refine ⟨.ref t, rfl, t, _, rfl, .inr ht, _, rfl, ?_⟩
  rw [el]
  refine ⟨by omega, by omega, fun D hD => ?_⟩
  refine lc_range (lo := 0) (n := g.length) (fun j H' => H' D = some (.lst ((outR g j).map vI)) ∧ Same H0 H') ⟨upd_same, Same.new hD⟩ ?_ ?_
  · rintro j H' hj ⟨hD', k⟩
    obtain ⟨a, ha⟩ : ∃ a, as[j]? = some a := at_some (by omega)
    have q2 := hrl j _ (getD_at hj)
    have hra := Same.tup k (har j a _ ha (getD_at hj))
    have ht2 := Same.tup k ht
    have ata : L2.atI (as.map V.ref) (0 + (j : Int)) = some (V.ref a) := by
      rw [Int.zero_add]
      exact atI_nat (by rw [List.getElem?_map, ha]; rfl)
    have ate : L2.atI ((g.getD j []).map vI) (0 + (j : Int)) = some (vI ((g.getD j []).getD j 0)) := by
      rw [Int.zero_add]
      exact atI_int (by rw [q2]; exact hj)
    refine ⟨rfl, .ref t, rfl, .int (0 + (j : Int)), rfl, t, _, _, .ref a, rfl, rfl, ht2, ata, a, _, rfl, hra, .ref t, rfl, .int (0 + (j : Int)), rfl, t, _, _, .ref a, rfl, rfl, ht2, ata, .int (0 + (j : Int)), rfl, a, _, _, _, rfl, rfl, hra, ate, _, _, rfl, rfl, ?_⟩
    refine ⟨_, hD', ?_, ?_, fun c o e => ?_⟩
    · rw [List.length_map]
      unfold outR
      rw [List.length_map, List.length_range]
      exact Nat.lt_of_lt_of_le (show j < 5 by omega) (by decide)
    · rw [upd_same]
      unfold outR
      rw [List.range_succ, List.map_append, List.map_append]
      rfl
    · rw [upd_ne (ne_of_none e hD)]
      exact k c o e
  · rintro H' ⟨hD', k⟩
    refine ⟨D, _, rfl, SqL.of hD', ?_⟩
    rw [outR_all]
    exact hk H' k
abbrev s_greatL : Stmt := top 75
theorem sc_greatL : FnScope ["_law_grid", "_law_row"] ["_law_grid"] (defScope s_greatL) := ⟨rfl, rfl, rfl, by decide +kernel, rfl, by decide +kernel, by decide +kernel⟩
def spGreatL (K : PySem.W.Frag) : Sp := fun vs H Q _ => ∃ (t : Addr) (as : List Addr) (g : Gr) (n : Nat), vs = [.ref t] ∧ SqL K H t (as.map V.ref) ∧ as.length = g.length ∧ (∀ (i : Nat) (a : Addr) (r : List Int), as[i]? = some a → g[i]? = some r → SqT K H a (r.map vI)) ∧ Sq n g ∧ 0 < n ∧ n ≤ 100 ∧ ∀ m H', IsMaxA g m → Same H H' → Q (vI m) H'
theorem ok_greatest (D : DfT K mg "_law_greatest" s_greatL ["_law_grid"]) (T : Tx K mg) : Cal P w K mg base 1 "_law_greatest" (spGreatL K) [] := by
  have nd := sc_greatL.nd
  refine calS (k := 0) D sc_greatL (fun vs H Q E h => by obtain ⟨t, as, g, n, rfl, _⟩ := h; rfl) fun f cdv A outer s H vs Q E hr h => ?_
  let sc : Scope := defScope s_greatL
  refine ⟨_, (pss_one (ps_ret (pe_callB (r := rMax K) (cr_max rfl) (by rfl) T.n_max (by decide +kernel) (pa_cons (pe_lc (own := [("_law_row", 1)]) (g := gName 1) (by rfl) nd (pi_list (pv 0)) (blkOk_by (own := [("_law_row", 1)]) (N := ["_law_grid", "_law_row"]) (sc := sc) (by decide +kernel)) (fun _ _ _ _ _ => pg_name (i := 1) nd rfl (Or.inl rfl)) (fun _ _ _ _ _ => pts_nil) (fun _ _ _ _ _ => (pe_callB (r := Z.rMaxT K) (Z.cr_maxT rfl hr.units) (by rfl) T.n_max (by decide +kernel) (pa_cons (pv 1) pa_nil)))) pa_nil)))), ?_⟩
  obtain ⟨t, as, g, n, rfl, hta, hal, har, hsq, hn0, hn, hk⟩ := h
  have hgl := hsq.1
  refine ⟨.ref t, rfl, t, rfl, ⟨_, hta⟩, fun D hD => ?_⟩
  refine lc_list (K := K) (a := t) (xs := as.map V.ref) (fun i H' => ∃ ys : List Int, H' D = some (.lst (ys.map vI)) ∧ ys.length = i ∧ (∀ (j : Nat) (y : Int) (r : List Int), ys[j]? = some y → g[j]? = some r → y ∈ r ∧ ∀ x ∈ r, x ≤ y) ∧ Same H H') ⟨[], upd_same, rfl, fun j y r h => by simp at h, Same.new hD⟩ (fun i H' _ ⟨_, _, _, _, k⟩ => Same.seq k hta) ?_ ?_
  · rintro i x H' hx ⟨ys, hD', hyl, hys, k⟩
    obtain ⟨a, ha, rfl⟩ : ∃ a, as[i]? = some a ∧ V.ref a = x := by
      rw [List.getElem?_map] at hx
      exact Option.map_eq_some_iff.mp hx
    have hi : i < g.length := by
      rw [← hal]
      exact (List.getElem?_eq_some_iff.mp ha).1
    have hrl := hsq.row (i := i) (by omega)
    refine ⟨rfl, .ref a, rfl, a, g.getD i [], rfl, Same.tup k (har i a _ ha (getD_at hi)), by omega, fun m hm hle => ?_⟩
    refine ⟨_, hD', ?_, ys ++ [m], ?_, by simp [hyl], fun j y r hy hr => ?_, fun b o e => ?_⟩
    · rw [List.length_map]
      exact Nat.lt_of_lt_of_le (show ys.length < 101 by omega) (by decide)
    · rw [upd_same, List.map_append]
      rfl
    · by_cases hj : j < ys.length
      · rw [List.getElem?_append_left hj] at hy
        exact hys j y r hy hr
      · have hj2 : j = ys.length := by
          have := (List.getElem?_eq_some_iff.mp hy).1
          simp at this
          omega
        subst hj2
        rw [List.getElem?_append_right (Nat.le_refl _), Nat.sub_self] at hy
        cases hy
        rw [hyl, getD_at hi] at hr
        cases hr
        exact ⟨hm, hle⟩
    · rw [upd_ne (ne_of_none e hD)]
      exact k b o e
  · rintro H1 ⟨ys, hD', hyl, hys, k⟩
    rw [List.length_map, hal] at hyl
    refine ⟨D, ys, rfl, SqL.of hD', by omega, fun m hm hle => hk m H1 ⟨?_, fun r hr x hx => ?_⟩ k⟩
    · obtain ⟨j, hj⟩ := List.getElem?_of_mem hm
      have hjg : j < g.length := by rw [← hyl]; exact (List.getElem?_eq_some_iff.mp hj).1
      exact ⟨_, List.mem_of_getElem? (getD_at hjg), (hys j m _ hj (getD_at hjg)).1⟩
    · obtain ⟨j, hj⟩ := List.getElem?_of_mem hr
      obtain ⟨y, hy⟩ : ∃ y, ys[j]? = some y := at_some (by rw [hyl]; exact (List.getElem?_eq_some_iff.mp hj).1)
      exact Int.le_trans ((hys j y r hy hj).2 x hx) (hle y (List.mem_of_getElem? hy))
abbrev s_wanted : Stmt := top 80
theorem sc_wanted : FnScope ["_law_parts", "_law_others", "_law_rows_here", "_law_k", "_law_j"] ["_law_parts", "_law_others"] (defScope s_wanted) := ⟨rfl, rfl, rfl, by decide +kernel, rfl, by decide +kernel, by decide +kernel⟩
def spWantedA (K : PySem.W.Frag) : Sp := fun vs H Q _ => ∃ (l1 l2 : Addr) (zs1 zs2 : List (List Nat)) (g1 g2 : Gr), vs = [.ref l1, .ref l2] ∧ DrG K H l1 zs1 g1 ∧ DrG K H l2 zs2 g2 ∧ ∀ v d H', DueA zs1 g1 zs2 g2 d → Dp K H' v d → Same H H' → Q v H'
theorem ok_wanted (D : DfT K mg "_law_wanted" s_wanted ["_law_parts", "_law_others"]) (T : Tx K mg) (h_sheet : Cal P w K mg base 1 "_law_sheet" (spSheet K) []) (h_sheetL : Cal P w K mg base 1 "_law_sheet" (spSheetL K) []) (h_greatest : Cal P w K mg base 1 "_law_greatest" (spGreatL K) []) : CalG P w K mg base 2 "_law_wanted" (spWantedA K) := by
  have nd := sc_wanted.nd
  refine calG (k := 1) D sc_wanted (fun vs H Q E h => by obtain ⟨l1, l2, zs1, zs2, g1, g2, rfl, _⟩ := h; rfl) fun f cdv A outer s H vs Q E hr hG h => ?_
  let sc : Scope := defScope s_wanted
  refine ⟨_, (pss_cons (ps_if (pt_cmpR (op_neD hr.units) (pe_ix (r := rIxL K) ix_list (pv 0) pe_int (fun _ _ => rfl)) (pe_ix (r := rIxL K) ix_list (pv 1) pe_int (fun _ _ => rfl)) (nomark _)) (pss_one (ps_ret (pe_lst (pa_cons pe_str (pa_cons (pe_lst (pa_cons pe_str (pa_cons (pe_c h_sheet hr (by decide) (by rfl) (pa_cons (pv 1) pa_nil)) pa_nil))) pa_nil))))) pss_nil)
    (pss_cons (ps_set (i := 2) nd rfl (by first | exact Or.inl rfl | exact Or.inr rfl) (pe_lst pa_nil))
    (pss_cons (ps_for PassesOwn.never rfl (pi_range1 (by rfl) T.n_range (pa_cons (pe_callB (r := rLenQ K) call_len_seq (by rfl) T.n_len (by decide +kernel) (pa_cons (pe_ix (r := rIxL K) ix_list (pv 0) pe_int (fun _ _ => rfl)) pa_nil)) pa_nil)) (pg_name (i := 3) nd rfl (by first | exact Or.inl rfl | exact Or.inr rfl)) (pss_one (ps_expr (pe_bm PySem.F.plainAttrs_list PySem.F.slot_list_append PySem.F.type_list_append mt_append (pv 2) (pa_cons (pe_callTy (r := rTupOf K) call_tuple_of (by rfl) T.n_tuple (by decide +kernel) (pa_cons (pe_lc (own := [("_law_j", 4)]) (g := gName 4) (by rfl) nd (pi_range1 (by rfl) T.n_range (pa_cons (pe_callB (r := rLenQ K) call_len_seq (by rfl) T.n_len (by decide +kernel) (pa_cons (pe_ix (r := rIxL K) ix_list (pv 0) pe_int (fun _ _ => rfl)) pa_nil)) pa_nil)) (blkOk_by (own := [("_law_j", 4)]) (N := ["_law_parts", "_law_others", "_law_rows_here", "_law_k", "_law_j"]) (sc := sc) (by decide +kernel)) (fun _ _ _ _ _ => pg_name (i := 4) nd rfl (Or.inl rfl)) (fun _ _ _ _ _ => pts_nil) (fun _ _ _ _ _ => (pe_op op_add (pe_ix (r := rIxT K) ix_tup (pe_ix (r := rIxT K) ix_tup (pe_ix (r := rIxL K) ix_list (pv 0) pe_int (fun _ _ => rfl)) (pv 3) (fun _ _ => rfl)) (pv 4) (fun _ _ => rfl)) (pe_ix (r := rIxT K) ix_tup (pe_ix (r := rIxT K) ix_tup (pe_ix (r := rIxL K) ix_list (pv 1) pe_int (fun _ _ => rfl)) (pv 3) (fun _ _ => rfl)) (pv 4) (fun _ _ => rfl))))) pa_nil)) pa_nil)))))
    (pss_cons (ps_if (pt_cmpR op_gt (pe_c h_greatest hr (by decide) (by rfl) (pa_cons (pv 2) pa_nil)) (pe_op op_pow pe_int pe_int) (nomark _)) (pss_one (ps_ret (pe_lst (pa_cons pe_str (pa_cons (pe_callB (r := rShow K) (call_show hr.units hG) (by rfl) T.n_repr (by decide +kernel) (pa_cons (pe_c h_greatest hr (by decide) (by rfl) (pa_cons (pv 2) pa_nil)) pa_nil)) pa_nil))))) pss_nil)
    (pss_one (ps_ret (pe_lst (pa_cons pe_str (pa_cons (pe_lst (pa_cons pe_str (pa_cons (pe_c h_sheetL hr (by decide) (by rfl) (pa_cons (pe_lst (pa_cons (pe_ix (r := rIxL K) ix_list (pv 0) pe_int (fun _ _ => rfl)) (pa_cons (pv 2) pa_nil))) pa_nil)) pa_nil))) pa_nil))))))))), ?_⟩
  obtain ⟨l1, l2, zs1, zs2, g1, g2, rfl, hd1, hd2, hk⟩ := h
  have G1 := hd1.good
  have G2 := hd2.good
  obtain ⟨tz1, tg1, e1, z1, c1⟩ := hd1.ex
  obtain ⟨tz2, tg2, e2, z2, c2⟩ := hd2.ex
  have at0 : ∀ {x y : V}, L2.atI [x, y] 0 = some x := fun {x y} => by exact atI_nat (j := 0) rfl
  have at1 : ∀ {x y : V}, L2.atI [x, y] 1 = some y := fun {x y} => by exact atI_nat (j := 1) rfl
  refine ⟨.ref l1, rfl, l1, _, 0, .ref tz1, rfl, rfl, SqL.of e1, at0, .ref l2, rfl, l2, _, 0, .ref tz2, rfl, rfl, SqL.of e2, at0, dK zs1, dK zs2, dpK z1, dpK z2, shaped_K G1.nm, shaped_K G2.nm, _, rfl, ?_⟩
  rw [eqv_K]
  by_cases hzz : zs1 = zs2
  case neg =>
    rw [decide_eq_false hzz]
    refine iteT ?_
    refine ⟨.ref l2, rfl, l2, zs2, g2, rfl, hd2.u, fun H1 k1 => ?_⟩
    refine ⟨(by show 2 ≤ sizeLine; decide), fun a fa => ?_⟩
    have ka := Same.new (o := .lst [.str "yard", vS (sheetL zs2 g2)]) fa
    refine ⟨(by show 2 ≤ sizeLine; decide), fun b fb => ?_⟩
    have kb := Same.new (o := .lst [.str "other", .ref a]) fb
    exact hk _ _ _ (.inl ⟨hzz, rfl⟩) (.lst (SqL.of upd_same) (.cons (.str _) (.cons (.lst (SqL.of (kb _ _ upd_same)) (.cons (.str _) (.cons (.str _) .nil))) .nil))) (k1.trans (ka.trans kb))
  rw [decide_eq_true hzz]
  refine iteF ?_
  subst hzz
  have n2 := G1.n2
  have n4 := G1.n4
  have s1 := G1.tb.sq
  have s2 := G2.tb.sq
  obtain ⟨as1, hta1, hal1, har1⟩ := c1.ex
  obtain ⟨as2, hta2, hal2, har2⟩ := c2.ex
  refine ⟨(by show 0 ≤ sizeLine; decide), fun lr flr => ?_⟩
  have k0 := Same.new (o := .lst []) flr
  refine ⟨.ref l1, rfl, l1, _, 0, .ref tz1, rfl, rfl, SqL.of (k0 _ _ e1), at0, tz1, _, rfl, .inr (Same.tup k0 z1), _, rfl, ?_⟩
  rw [List.length_map]
  refine ⟨by omega, by omega, for_range (n := zs1.length) (fun i σ H' => ∃ (as : List Addr) (e3 e4 : Option V), σ = [some (.ref l1), some (.ref l2), some (.ref lr), e3, e4] ∧ H' lr = some (.lst (as.map V.ref)) ∧ as.length = i ∧ (∀ (j : Nat) (a : Addr), as[j]? = some a → SqT K H' a ((addR (g1.getD j []) (g2.getD j [])).map vI)) ∧ Same H H') ⟨[], none, none, rfl, upd_same, rfl, fun j a h => by simp at h, k0⟩ ?_ ?_⟩
  · rintro i σ H1 hi ⟨as, e3, e4, rfl, eL, hal, har, k1⟩
    obtain ⟨r1, hr1⟩ : ∃ a, as1[i]? = some a := at_some (by rw [hal1, s1.1]; exact hi)
    obtain ⟨r2, hr2⟩ : ∃ a, as2[i]? = some a := at_some (by rw [hal2, s2.1]; exact hi)
    have q1 := har1 i r1 _ hr1 (getD_at (show i < g1.length by rw [s1.1]; exact hi))
    have q2 := har2 i r2 _ hr2 (getD_at (show i < g2.length by rw [s2.1]; exact hi))
    have m1 := s1.row hi
    have m2 := s2.row hi
    generalize hrow1 : g1.getD i [] = row1 at q1 m1
    generalize hrow2 : g2.getD i [] = row2 at q2 m2
    have ata1 : L2.atI (as1.map V.ref) (0 + (i : Int)) = some (V.ref r1) := by
      rw [Int.zero_add]
      exact atI_nat (by rw [List.getElem?_map, hr1]; rfl)
    have ata2 : L2.atI (as2.map V.ref) (0 + (i : Int)) = some (V.ref r2) := by
      rw [Int.zero_add]
      exact atI_nat (by rw [List.getElem?_map, hr2]; rfl)
    refine ⟨.ref lr, rfl, .inl ⟨rfl, _, SqL.of eL⟩, .ref l1, rfl, l1, _, 0, .ref tz1, rfl, rfl, SqL.of (k1 _ _ e1), at0, tz1, _, rfl, .inr (Same.tup k1 z1), _, rfl, ?_⟩
    rw [List.length_map]
    refine ⟨by omega, by omega, fun D hD => ?_⟩
    refine lc_range (lo := 0) (n := zs1.length) (fun j H' => H' D = some (.lst (((addR row1 row2).take j).map vI)) ∧ Same H1 H') ⟨upd_same, Same.new hD⟩ ?_ ?_
    · rintro j H2 hj ⟨hD', k2⟩
      have k := k1.trans k2
      obtain ⟨u, hu⟩ : ∃ z, row1[j]? = some z := at_some (by rw [m1]; exact hj)
      obtain ⟨v, hv⟩ : ∃ z, row2[j]? = some z := at_some (by rw [m2]; exact hj)
      have atu : L2.atI (row1.map vI) (0 + (j : Int)) = some (vI u) := by
        rw [Int.zero_add]
        exact atI_nat (by rw [List.getElem?_map, hu]; rfl)
      have atv : L2.atI (row2.map vI) (0 + (j : Int)) = some (vI v) := by
        rw [Int.zero_add]
        exact atI_nat (by rw [List.getElem?_map, hv]; rfl)
      refine ⟨rfl, .ref l1, rfl, l1, _, 1, .ref tg1, rfl, rfl, SqL.of (k _ _ e1), at1, .int (0 + (i : Int)), rfl, tg1, _, _, .ref r1, rfl, rfl, Same.tup k hta1, ata1, .int (0 + (j : Int)), rfl, r1, _, _, vI u, rfl, rfl, Same.tup k q1, atu,
        .ref l2, rfl, l2, _, 1, .ref tg2, rfl, rfl, SqL.of (k _ _ e2), at1, .int (0 + (i : Int)), rfl, tg2, _, _, .ref r2, rfl, rfl, Same.tup k hta2, ata2, .int (0 + (j : Int)), rfl, r2, _, _, vI v, rfl, rfl, Same.tup k q2, atv, u, v, rfl, rfl, ?_⟩
      refine ⟨_, hD', ?_, ?_, fun c o e => ?_⟩
      · rw [List.length_map]
        exact Nat.lt_of_le_of_lt (List.length_take_le _ _) (Nat.lt_of_lt_of_le (show j < 5 by omega) (by decide))
      · have : (addR row1 row2)[j]? = some (u + v) := by
          unfold addR
          rw [List.getElem?_zipWith, hu, hv]
        rw [upd_same, List.take_succ, this, List.map_append]
        rfl
      · rw [upd_ne (ne_of_none e hD)]
        exact k2 c o e
    · rintro H2 ⟨hD', k2⟩
      have el3 : zs1.length = (addR row1 row2).length := by rw [addR_len (by rw [m1, m2]), m1]
      rw [el3, List.take_length] at hD'
      refine ⟨D, _, rfl, .inl ⟨SqL.of hD', fun tt ftt => ?_⟩⟩
      have k3 := Same.new (o := .tup ((addR row1 row2).map vI)) ftt
      have k23 := k2.trans k3
      refine ⟨lr, _, .ref tt, rfl, rfl, k23 _ _ eL, ?_, as ++ [tt], _, _, rfl, by rw [upd_same, List.map_append]; rfl, by rw [List.length_append, hal]; rfl, fun j a hj => ?_, fun c o e => ?_⟩
      · rw [List.length_map, hal]
        exact Nat.lt_of_lt_of_le (show i < 5 by omega) (by decide)
      · by_cases hjl : j < as.length
        · rw [List.getElem?_append_left hjl] at hj
          exact tup_updL (k23 _ _ eL) (Same.tup k23 (har j a hj))
        · have hj2 : j = as.length := by
            have := (List.getElem?_eq_some_iff.mp hj).1
            rw [List.length_append, List.length_singleton] at this
            omega
          rw [hj2, List.getElem?_append_right (Nat.le_refl _), Nat.sub_self] at hj
          cases hj
          rw [hj2, hal, hrow1, hrow2]
          exact tup_updL (k23 _ _ eL) (SqT.of upd_same)
      · rw [upd_ne (ne_of_none e flr)]
        exact k23 _ _ (k1 c o e)
  · rintro σ H1 ⟨as, e3, e4, rfl, eL, hal, har, k1⟩
    have hsq := addG_sq s1 s2
    have rows : ∀ (i : Nat) (a : Addr) (r : List Int), as[i]? = some a → (addG g1 g2)[i]? = some r → SqT K H1 a (r.map vI) := fun i a r ha hr => by
      have hi : i < zs1.length := by rw [← hal]; exact (List.getElem?_eq_some_iff.mp ha).1
      rw [addG_at s1 s2 hi] at hr
      cases hr
      exact har i a ha
    refine ⟨.ref lr, rfl, lr, as, addG g1 g2, zs1.length, rfl, SqL.of eL, by rw [hal, addG_len s1 s2], rows, hsq, by omega, by omega, fun k H2 hmax k2 => ?_⟩
    have hb := max_bound G1.tb G2.tb hmax
    refine ⟨10, 30, rfl, rfl, ⟨by decide, by decide, by decide⟩, k, _, rfl, rfl, _, rfl, ?_⟩
    have ep : (10 : Int) ^ (Int.toNat 30) = 1000000000000000000000000000000 := by decide +kernel
    rw [ep]
    refine ite2 (fun h => ?_) (fun h => ?_)
    · have hgt : 1000000000000000000000000000000 < k := of_decide_eq_true h
      refine ⟨.ref lr, rfl, lr, as, addG g1 g2, zs1.length, rfl, SqL.of (k2 _ _ eL), by rw [hal, addG_len s1 s2], fun i a r ha hr => Same.tup k2 (rows i a r ha hr), hsq, by omega, by omega, fun k' H3 hmax' k3 => ?_⟩
      have hb' := max_bound G1.tb G2.tb hmax'
      have ek : k' = k := by
        obtain ⟨⟨r, hr, hx⟩, h1⟩ := hmax
        obtain ⟨⟨r', hr', hx'⟩, h2⟩ := hmax'
        have := h1 r' hr' k' hx'
        have := h2 r hr k hx
        omega
      subst ek
      refine ⟨vI k', (PyData.int k').shown, rfl, ShowS.of (.int _) (fit_out (fit_bigA hb.1 (by omega)) (by decide)), (by show 2 ≤ sizeLine; decide), fun a fa => ?_⟩
      have ka := Same.new (o := .lst [.str "great", .str (PyData.int k').shown]) fa
      exact hk _ _ _ (.inr ⟨rfl, k', hmax, hb.1, hb.2, .inl ⟨hgt, rfl⟩⟩) (.lst (SqL.of upd_same) (.cons (.str _) (.cons (.str _) .nil))) (k1.trans (k2.trans (k3.trans ka)))
    · have hle : k ≤ 1000000000000000000000000000000 := Int.not_lt.mp fun z => h (decide_eq_true z)
      have k12 := k1.trans k2
      refine ⟨.ref l1, rfl, l1, _, 0, .ref tz1, rfl, rfl, SqL.of (k12 _ _ e1), at0, .ref lr, rfl, (by show 2 ≤ sizeLine; decide), fun lq flq => ?_⟩
      have kq := Same.new (o := .lst [.ref tz1, .ref lr]) flq
      have k2q := k2.trans kq
      have hT := addG_table G1.tb G2.tb fun r hr x hx => Int.le_trans (hmax.2 r hr x hx) hle
      have hgood' : Good zs1 (addG g1 g2) := ⟨n2, n4, G1.nd, G1.nm, hT⟩
      refine ⟨lq, zs1, addG g1 g2, rfl, ⟨⟨tz1, lr, as, upd_same, Same.tup (k1.trans k2q) z1, SqL.of (k2q _ _ eL), by rw [hal, addG_len s1 s2], fun i a r ha hr => Same.tup k2q (rows i a r ha hr)⟩, hgood'.u⟩, fun H3 k3 => ?_⟩
      refine ⟨(by show 2 ≤ sizeLine; decide), fun a fa => ?_⟩
      have ka := Same.new (o := .lst [.str "yard", vS (sheetL zs1 (addG g1 g2))]) fa
      refine ⟨(by show 2 ≤ sizeLine; decide), fun b fb => ?_⟩
      have kb := Same.new (o := .lst [.str "back", .ref a]) fb
      exact hk _ _ _ (.inr ⟨rfl, k, hmax, hb.1, hb.2, .inr ⟨hle, rfl⟩⟩) (.lst (SqL.of upd_same) (.cons (.str _) (.cons (.lst (SqL.of (kb _ _ upd_same)) (.cons (.str _) (.cons (.str _) .nil))) .nil))) (k1.trans (k2q.trans (k3.trans (ka.trans kb))))
end
end Y

-- the text of a yard while an exception is handled
set_option Elab.async false
set_option linter.all false
set_option maxRecDepth 100000
set_option maxHeartbeats 4000000
namespace Y
open PySem L2
open PyProof.Rows (envOfC)
open SX (S)
open C8 (Cal pe_c pe_gc)
theorem lc_zip1 {K : PySem.W.Frag} {a b : Addr} {xs ys : List V} {g : TG} {tt : TT} {te : TE} {vs : List Nat} {σ : L2.St} {H1 : Hp} {D : Addr} {Qd : Hp → Prop} (hl : xs.length = ys.length) (Pv : Nat → Hp → Prop) (h0 : Pv 0 (upd H1 D (.lst []))) (hq : ∀ i H, Pv i H → SqT K H a xs ∧ SqT K H b ys)
    (hs : ∀ i x y T H, xs[i]? = some x → ys[i]? = some y → Pv i H → H T = none → g (.ref T) (wipe σ vs) (upd H T (.tup [x, y])) fun σ2 H2 => wipe σ2 vs = wipe σ vs ∧ tt σ2 H2 fun b H3 =>
      if b = true then te σ2 H3 fun y H4 => ∃ acc, H4 D = some (.lst acc) ∧ acc.length < sizeLine ∧ Pv (i + 1) (upd H4 D (.lst (acc ++ [y]))) else Pv (i + 1) H3) (hd : ∀ H, Pv xs.length H → Qd H) :
    ∃ W : Nat → Nat → Hp → Prop, (∃ m, W 0 m (upd H1 D (.lst []))) ∧ ∀ i m H, W i m H →
      ((Z.Itz1 K a b).stop i H ∧ Qd H) ∨ ((Z.Itz1 K a b).go i H ∧ ∃ Nx : Hp → Prop, (∀ H', Nx H' → ∃ m', m' < m ∧ W (i + 1) m' H') ∧ ∀ v H', (Z.Itz1 K a b).yld i H v H' → g v (wipe σ vs) H' fun σ2 H2 => wipe σ2 vs = wipe σ vs ∧ tt σ2 H2 fun b H3 =>
        if b = true then te σ2 H3 fun y H4 => ∃ acc, H4 D = some (.lst acc) ∧ acc.length < sizeLine ∧ Nx (upd H4 D (.lst (acc ++ [y]))) else Nx H3) := by
  refine ⟨fun i m H => m = xs.length - i ∧ i ≤ xs.length ∧ Pv i H, ⟨xs.length, by simp, Nat.zero_le _, h0⟩, ?_⟩
  rintro i m H ⟨rfl, hi, p⟩
  obtain ⟨q1, q2⟩ := hq i H p
  by_cases hlt : i < xs.length
  · refine .inr ⟨⟨xs, ys, xs[i], ys[i]'(by omega), q1, q2, List.getElem?_eq_getElem hlt, List.getElem?_eq_getElem (by omega)⟩, Pv (i + 1), fun H' p' => ⟨xs.length - (i + 1), by omega, rfl, hlt, p'⟩, fun v H' y => ?_⟩
    obtain ⟨T, x0, y0, rfl, hT, rfl, hx, hy⟩ := y
    exact hs i x0 y0 T H (hx xs q1) (hy ys q2) p hT
  · have : i = xs.length := by omega
    subst this
    exact .inl ⟨⟨xs, q1, Nat.le_refl _⟩, hd H p⟩
section
variable {P : Program} {w : World} {K : PySem.W.Frag} {mg : Str → Option Value} {base : Heap} {C : Addr}
theorem ok_row_lineH (D : DfT K mg "row_line" s_row_line ["kind", "row"]) (T : Tx K mg) : Z.CalE P w K mg base 1 "row_line" (fun _ => spLine K) := by
  have nd := sc_row_line.nd
  refine Z.calE (k := 0) D sc_row_line (fun p vs H Q E h => by obtain ⟨z, a, r, rfl, _⟩ := h; rfl) fun f cdv A outer s H vs Q E p hot hr hG h => ?_
  let sc : Scope := defScope s_row_line
  refine ⟨_, (pss_cons (Z.ps_setLcH (i := 2) (own := [("number", 3)]) (g := gName 3) ⟨p, hot, List.mem_cons_self⟩ nd rfl rfl (sw_true rfl rfl rfl (by decide +kernel)) (Z.pi_tupH (pv 1)) (blkOk_by (own := [("number", 3)]) (N := ["kind", "row", "words", "number"]) (sc := sc) (by decide +kernel)) (fun _ _ _ _ _ _ _ => pg_name (i := 3) nd rfl (Or.inl rfl)) (fun _ _ _ _ _ _ _ => (pe_callTy call_str_int (by rfl) T.n_str (by decide +kernel) (pa_cons (pv 3) pa_nil))))
    (pss_one (ps_ret (pe_join pe_str (pe_lst (pa_cons (pv 0) (StX.pa_star (pv 2) pa_nil))))))), ?_⟩
  obtain ⟨z, a, r, rfl, ha, hr2, hl, hz, hk⟩ := h
  refine ⟨.ref a, rfl, a, rfl, ⟨_, ha⟩, fun D hD => ?_⟩
  refine lc_tup (K := K) (a := a) (xs := r.map vI) (fun i H' => H' D = some (.lst (((r.take i).map dL).map vS)) ∧ Same H H') ⟨upd_same, Same.new hD⟩ (fun i H' _ q => Same.tup q.2 ha) ?_ ?_
  · rintro i x H' hx ⟨hD', k⟩
    obtain ⟨y, hy, rfl⟩ : ∃ z, r[i]? = some z ∧ vI z = x := by
      rw [List.getElem?_map] at hx
      exact Option.map_eq_some_iff.mp hx
    have hyB : rowB y = true := List.all_eq_true.mp hr2 y (List.mem_of_getElem? hy)
    have hi : i < r.length := (List.getElem?_eq_some_iff.mp hy).1
    refine ⟨rfl, vI y, rfl, y, rfl, log_ok hyB, ?_⟩
    refine ⟨_, hD', ?_, ?_, fun c o e => ?_⟩
    · rw [List.length_map, List.length_map]
      exact Nat.lt_of_le_of_lt (List.length_take_le _ _) (Nat.lt_of_lt_of_le (show i < 5 by omega) (by decide))
    · rw [upd_same, List.take_succ, hy, str_num hyB]
      simp
    · rw [upd_ne (ne_of_none e hD)]
      exact k c o e
  · rintro H' ⟨hD', k⟩
    rw [List.length_map, List.take_length] at hD'
    refine ⟨⟨_, rfl⟩, vS z, rfl, .ref D, rfl, D, _, rfl, .inr (SqL.of hD'), ?_, fun p hp => ?_⟩
    · rw [List.append_nil]
      show ((r.map dL).map vS).length + 1 ≤ sizeLine
      rw [List.length_map, List.length_map]
      exact Nat.le_trans (show r.length + 1 ≤ 5 by omega) (by decide)
    · refine ⟨_, p, (z :: r.map dL).map S, rfl, rfl, .inl ?_, ?_, ?_⟩
      · rw [map_vS]
        refine SqL.of ?_
        rw [upd_same, List.append_nil]
        rfl
      · rw [show (" " : Str).length = 1 from by decide +kernel]
        refine lens_ok (b := 31) (n := 5) (fun y hy => ?_) (by simp; omega) (by decide)
        rcases List.mem_cons.mp hy with e | e
        · rw [e]
          omega
        · obtain ⟨x, hx, rfl⟩ := List.mem_map.mp e
          exact dL_len (List.all_eq_true.mp hr2 x hx)
      · rw [sp_S, SX.join_S]
        exact hk _ (k.trans (Same.new hp))
theorem ok_text_linesH (D : DfT K mg "text_lines" s_text_lines ["kinds", "rows"]) (T : Tx K mg) (hrow_lineH : Z.CalE P w K mg base 1 "row_line" (fun _ => spLine K)) : Z.CalE P w K mg base 2 "text_lines" (fun _ => spLines K) := by
  have nd := sc_text_lines.nd
  refine Z.calE (k := 1) D sc_text_lines (fun p vs H Q E h => by obtain ⟨tz, tg, zs, g, rfl, _⟩ := h; rfl) fun f cdv A outer s H vs Q E p hot hr hG h => ?_
  let sc : Scope := defScope s_text_lines
  refine ⟨_, (pss_cons (Z.ps_setLcH (te := tCB (fun vs H Q => spLine K vs H Q C8.E0) (tCons (tVar 3) (tCons (tVar 4) tNil))) (i := 2) (own := [("kind", 3), ("row", 4)]) (g := gTup K 2 (gCons (gName 3) (gCons (gName 4) gNil))) ⟨p, hot, List.mem_cons_self⟩ nd rfl rfl (sw_true rfl rfl rfl (by decide +kernel)) (Z.pi_zipH (by rfl) T.n_zip (pa_cons (pv 0) (pa_cons (pv 1) pa_nil))) (blkOk_by (own := [("kind", 3), ("row", 4)]) (N := ["kinds", "rows", "lines", "kind", "row"]) (sc := sc) (by decide +kernel)) (fun _ _ _ _ _ p2 hot2 => (Z.pg_tupH ⟨p2, hot2, List.mem_cons_self⟩ (pgs_cons (pg_name (i := 3) nd rfl (by first | exact Or.inl rfl | exact Or.inr rfl)) (pgs_cons (pg_name (i := 4) nd rfl (by first | exact Or.inl rfl | exact Or.inr rfl)) pgs_nil)))) (fun _ _ _ _ _ p2 hot2 => (Z.pe_cER (R := fun vs H Q => spLine K vs H Q C8.E0) (p := p2) (fun _ _ _ h => h) hrow_lineH hot2 List.mem_cons_self hr (by decide) hG (by rfl) (pa_cons (pv 3) (pa_cons (pv 4) pa_nil)))))
    (pss_one (ps_ret (pe_lst (pa_cons (pe_join pe_str (pe_lst (pa_cons pe_str (StX.pa_star (pv 0) pa_nil)))) (StX.pa_star (pv 2) pa_nil)))))), ?_⟩
  obtain ⟨tz, tg, zs, g, rfl, hz, hg, hgood, hk⟩ := h
  obtain ⟨as, hta, hal, har⟩ := hg.ex
  have hn4 := hgood.n4
  refine ⟨.ref tz, rfl, .ref tg, rfl, tz, tg, _, _, rfl, hz, hta, fun D hD => ?_⟩
  refine lc_zip1 (K := K) (a := tz) (b := tg) (xs := zs.map vS) (ys := as.map V.ref) (by rw [List.length_map, List.length_map, hal, hgood.glen]) (fun i H' => H' D = some (.lst (((List.zipWith lineL zs g).take i).map vS)) ∧ Same H H') ⟨upd_same, Same.new hD⟩ (fun i H' q => ⟨Same.tup q.2 hz, Same.tup q.2 hta⟩) ?_ ?_
  · rintro i x y Tt H' hx hy ⟨hD', k⟩ hT
    obtain ⟨z, hzi, rfl⟩ : ∃ z, zs[i]? = some z ∧ vS z = x := by
      rw [List.getElem?_map] at hx
      exact Option.map_eq_some_iff.mp hx
    obtain ⟨a, hai, rfl⟩ : ∃ a, as[i]? = some a ∧ V.ref a = y := by
      rw [List.getElem?_map] at hy
      exact Option.map_eq_some_iff.mp hy
    have hig : i < g.length := by
      rw [← hal]
      exact (List.getElem?_eq_some_iff.mp hai).1
    have hrg := getD_at hig
    obtain ⟨q1, q2⟩ := hgood.tb.rows hrg
    refine ⟨Tt, _, rfl, SqT.of upd_same, rfl, _, _, rfl, _, _, rfl, rfl, rfl, ?_⟩
    refine ⟨vS z, rfl, .ref a, rfl, z, a, g.getD i [], rfl, Same.tup (k.trans (Same.new hT)) (har i a _ hai hrg), q1, by omega, (hgood.nm z (List.mem_of_getElem? hzi)).len.2, fun H2 k2 => ?_⟩
    have kk : Same H' H2 := (Same.new hT).trans k2
    refine ⟨_, kk _ _ hD', ?_, ?_, fun c o e => ?_⟩
    · rw [List.length_map]
      exact Nat.lt_of_le_of_lt (List.length_take_le _ _) (Nat.lt_of_lt_of_le (show i < 5 by have := hgood.glen; omega) (by decide))
    · rw [upd_same, zip_take hzi hrg, List.map_append]
      rfl
    · rw [upd_ne (ne_of_none e hD)]
      exact kk _ _ (k c o e)
  · rintro H' ⟨hD', k⟩
    have hl : (zs.map vS).length = (List.zipWith lineL zs g).length := by rw [List.length_map, List.length_zipWith, hgood.glen, Nat.min_self]
    rw [hl, List.take_length] at hD'
    refine ⟨⟨_, rfl⟩, .ref tz, rfl, tz, _, rfl, .inl (Same.tup k hz), ?_, fun p hp => ?_⟩
    · rw [List.append_nil]
      show (zs.map vS).length + 1 ≤ sizeLine
      rw [List.length_map]
      exact Nat.le_trans (show zs.length + 1 ≤ 5 by omega) (by decide)
    · refine ⟨_, p, (kindsL :: zs).map S, rfl, rfl, .inl ?_, ?_, ?_⟩
      · rw [map_vS]
        refine SqL.of ?_
        rw [upd_same, List.append_nil, kinds_S]
        rfl
      · rw [show (" " : Str).length = 1 from by decide +kernel]
        refine lens_ok (b := 8) (n := 5) (fun y hy => ?_) (by simp; omega) (by decide)
        rcases List.mem_cons.mp hy with e | e
        · rw [e]
          decide
        · exact (hgood.nm y e).len.2
      · rw [sp_S, SX.join_S]
        have hD2 := Same.new (o := .lst (V.str "kinds" :: (zs.map vS ++ []))) hp _ _ hD'
        refine ⟨.ref D, rfl, D, _, rfl, .inr (SqL.of hD2), ?_, fun l hl2 => ?_⟩
        · rw [List.append_nil]
          show ((List.zipWith lineL zs g).map vS).length + 1 ≤ sizeLine
          rw [List.length_map, List.length_zipWith, hgood.glen, Nat.min_self]
          exact Nat.le_trans (show zs.length + 1 ≤ 5 by omega) (by decide)
        · refine hk l _ ?_ (k.trans ((Same.new hp).trans (Same.new hl2)))
          rw [upd_same, List.append_nil]
          rfl
theorem ok_strH {f : Addr} (D : MfT K "__str__" "Yard.__str__" s_str ["self"] f) (T : Tx K mg) (Y : YT K mg C) (htext_linesH : Z.CalE P w K mg base 2 "text_lines" (fun _ => spLines K)) : Z.MfE P w K mg base 3 f ["self"] (fun _ => spStr K C) := by
  obtain ⟨fd, F, b⟩ := D.ex
  refine ⟨fd, Z.okE (k := 2) F sc_str (fun p vs H Q E h => by obtain ⟨y, zs, g, rfl, _⟩ := h; rfl) fun cdv A outer s H vs Q E p hot hr hG h => ?_, b⟩
  refine ⟨_, (pss_one (ps_ret (pe_join pe_str (Z.pe_cER (R := fun vs H Q => spLines K vs H Q C8.E0) (p := p) (fun _ _ _ h => h) htext_linesH hot List.mem_cons_self hr (by decide) hG (by rfl) (pa_cons (pe_fld (pv 0) rfl) (pa_cons (pe_fld (pv 0) rfl) pa_nil)))))), ?_⟩
  obtain ⟨y, zs, g, rfl, hy, hk⟩ := h
  obtain ⟨dx, tz, tg, h1, h2, h3⟩ := hy.ex
  refine ⟨⟨_, rfl⟩, .ref y, rfl, y, C, dx, _, _, rfl, h1, Y.cl, Y.nK, fl_kinds _ _, .ref y, rfl, y, C, dx, _, _, rfl, h1, Y.cl, Y.nR, fl_rows _ _, tz, tg, zs, g, rfl, h2, h3, hy.good, fun l H1 hl k1 => ?_⟩
  refine ⟨_, l, (linesL zs g).map S, rfl, rfl, .inl ?_, ?_, ?_⟩
  · rw [map_vS]
    exact SqL.of hl
  · rw [show ("\n" : Str).length = 1 from by decide +kernel]
    exact lens_ok (b := 200) (n := 5) (fun z hz => hy.good.line_len hz) (by rw [hy.good.lines_len]; have := hy.good.n4; omega) (by decide)
  · rw [nl_S, SX.join_S]
    exact hk H1 k1
end
end Y

-- what a call ends with where an error holds a yard
set_option Elab.async false
set_option linter.all false
set_option maxRecDepth 100000
set_option maxHeartbeats 4000000
namespace Y
open PySem L2
open PyProof.Rows (envOfC)
open SX (S)
open C8 (Cal pe_c pe_gc)
open L2H (RoomH)
section
variable {P : Program} {w : World} {K : PySem.W.Frag} {mg : Str → Option Value} {base : Heap} {C : Addr} {cl : Nat → Addr}
def spShownHY (K : PySem.W.Frag) (C : Addr) : Addr × Obj → Sp := fun _ vs H Q _ => (∃ (y : Addr) (zs : List (List Nat)) (g : Gr), vs = [.ref y] ∧ YardS K C H y zs g ∧ ∀ l H', H' l = some (.lst [.str "yard", vS (sheetL zs g)]) → H l = none → Same H H' → Q (.ref l) H') ∨
  ∃ (v : V) (z : Str), vs = [v] ∧ ShowS K H v z ∧ Q (.str z) H
theorem ok_shownHY {fs fl fr fe : Addr} (D : DfT K mg "_law_shown" s_shown ["_law_thing"]) (T : Tx K mg) (Y : YT K mg C) (Y2 : YOwn K C fs fl fr) (Yi : YIs K C fe) (Yn : YNo K C) (h_strH : Z.MfE P w K mg base 3 fs ["self"] (fun _ => spStr K C)) : Z.CalE P w K mg base 5 "_law_shown" (spShownHY K C) := by
  have nd := sc_shown.nd
  refine Z.calE (k := 4) D sc_shown (fun p vs H Q E h => by rcases h with ⟨y, zs, g, rfl, _⟩ | ⟨v, d, rfl, _⟩ <;> rfl) fun f cdv A outer s H vs Q E p hot hr hG h => ?_
  let sc : Scope := defScope s_shown
  refine ⟨_, (pss_one (ps_ret (pe_ifExp (pt_val (pe_callB (r := rIsi K) call_isi (by rfl) T.n_isinstance (by decide +kernel) (pa_cons (pv 0) (pa_cons (pe_glob (by rfl) Y.mgC (v := .ref _) rfl) pa_nil))))
    (pe_lst (pa_cons pe_str (pa_cons (pe_callTy (Z.call_strOH (k := 3) hr hot List.mem_cons_self hG Y2.sStr Y2.fStr h_strH) (by rfl) (by exact T.n_str) (by decide +kernel) (pa_cons (pv 0) pa_nil)) pa_nil))) (pe_callB (r := rShow K) (call_show (hu64 hr) hG) (by rfl) T.n_repr (by decide +kernel) (pa_cons (pv 0) pa_nil))))), ?_⟩
  rcases h with ⟨y, zs, g, rfl, hy, hk⟩ | ⟨v, d, rfl, hd, hk⟩
  · obtain ⟨dx, tz, tg, h1, h2, h3⟩ := hy.ex
    refine ⟨.ref y, rfl, .ref y, .ref C, .ref C, .ref C, true, rfl, .own C, isY Y Yi h1, kit_self, true, rfl, ?_⟩
    refine iteT ?_
    refine ⟨.ref y, rfl, y, dx, _, rfl, h1, y, zs, g, rfl, hy, fun H1 k1 => ⟨_, rfl, ?_⟩⟩
    refine ⟨(by show 2 ≤ sizeLine; decide), fun l hl => ?_⟩
    exact hk l _ upd_same (same_none k1 hl) (k1.trans (Same.new hl))
  · obtain ⟨s, hs, ht⟩ := hd.ty
    refine ⟨v, rfl, v, .ref C, .type s, .ref C, false, rfl, .own C, ht, no_of Yn.no hs, false, rfl, ?_⟩
    refine iteF ?_
    exact ⟨v, rfl, v, d, rfl, hd, hk⟩
/-- what is told of a call: an error may hold a yard -/
def TTendY (K : PySem.W.Frag) (C : Addr) (cl : Nat → Addr) : (XK → Hp → VK → Prop) → Hp → VK → Prop := fun tl H Q =>
  tl (fun cls d H' => (∃ (n : Nat) (dd : Addr) (v : V) (z : Str), cls = .ref (cl n) ∧ d = some dd ∧ n < 20 ∧ n ≠ 18 ∧ EK K cl n ∧ H' dd = some (.xd [(fieldOf n, v)]) ∧ ShowS K H' v z ∧
      ∀ l H'', H' l = none → Same H' H'' → H'' l = some (.lst [.str (word n), .str z]) → Q (.ref l) H'') ∨
      ∃ (n : Nat) (dd : Addr) (y : Addr) (zs : List (List Nat)) (g : Gr), cls = .ref (cl n) ∧ d = some dd ∧ n < 20 ∧ n ≠ 18 ∧ isIx n = false ∧ EK K cl n ∧ H' dd = some (.xd [(fieldOf n, .ref y)]) ∧ YardS K C H' y zs g ∧
      ∀ l l2 H'', H' l = none → H' l2 = none → l2 ≠ l → Same H' H'' → H'' l2 = some (.lst [.str "yard", vS (sheetL zs g)]) → H'' l = some (.lst [.str (word n), .ref l2]) → Q (.ref l) H'') H
    fun v H' => (∃ (y : Addr) (zs : List (List Nat)) (g : Gr), v = .ref y ∧ YardS K C H' y zs g ∧ ∀ l l2 H'', H' l = none → H' l2 = none → l2 ≠ l → Same H' H'' → H'' l2 = some (.lst [.str "yard", vS (sheetL zs g)]) → H'' l = some (.lst [.str "back", .ref l2]) → Q (.ref l) H'') ∨
      ∃ (z : Str), ShowS K H' v z ∧ ∀ l H'', H' l = none → Same H' H'' → H'' l = some (.lst [.str "back", .str z]) → Q (.ref l) H''
theorem end_givesY {X : Cx} {k : Nat} {g : Addr} {cdg : Value} {q : Str} (hmg : X.mg = mg) (hK : X.K = K) (T : Tx K mg) (G : Eg mg cl) (hG : X.A.guards = some []) (hk5 : 6 ≤ k)
    (h_class : Z.CalE X.prog X.w X.K X.mg X.base 1 "_law_class" (spClass K cl)) (h_shown : CalG X.prog X.w X.K X.mg X.base 6 "_law_shown" (spShown K C)) (h_shownH : Z.CalE X.prog X.w X.K X.mg X.base 5 "_law_shown" (spShownHY K C)) :
    Z.GivesN X k ["_law_act", "_law_back", "_law_word", "_law_e"] "_law_end" (defScope s_end) g cdg (defBody s_end) "_law_act" q (TTendY K C cl) := by
  intro f c' s H Q tl hr act hc h
  subst hmg hK
  have nd := sc_end.nd
  let sc : Scope := defScope s_end
  have hrm : ∀ a : Addr, L2H.RoomH k ((X.A.deeper (envOfC "_law_end" (defScope s_end) s.heap.objs.size g cdg)).mark (some (.ref a))) := fun a => ⟨hr.dp, hr.un⟩
  refine ⟨_, pss_cons (Z.try_as3 (X := (cxOf C8.CX0 X.prog X.w X.K X.mg X.base ["_law_act", "_law_back", "_law_word", "_law_e"] "_law_end" (defScope s_end) g cdg X.A X.stack s H C8.E0).nox) (c1 := .ref (cl 20)) (c2 := .ref (cl 21)) (c3 := .ref (cl 22)) (i := 3)
      (tb := fun W D σ H => ∃ Q0 : VK, (∀ v H', Q0 v H' → D.nx (σ.set 1 (some v)) H') ∧ ∃ Ech : XK, (∀ cls d H', Ech cls d H' → W cls d σ H') ∧ σ[0]? = some (some (.ref f)) ∧ H c' = some (LamX.CodeO c' q) ∧ tl Ech H Q0)
      rfl rfl nd rfl rfl ⟨rfl, by decide, .inl G.g_WrongValue⟩ ⟨rfl, by decide, .inl G.g_WrongName⟩ ⟨rfl, by decide, .inl G.g_NotPossible⟩
      (fun W pn xe tk _ => pss_one (ps_set (i := 1) nd rfl (Or.inl rfl) (pe_weak (act W pn xe _ _ tk))))
      (fun a oe cls d pn hz hf => pss_cons (ps_set (i := 2) nd rfl (Or.inl rfl) (pe_cEs (X := (cxOf C8.CX0 X.prog X.w X.K X.mg X.base ["_law_act", "_law_back", "_law_word", "_law_e"] "_law_end" (defScope s_end) g cdg X.A X.stack s H C8.E0).nox) hz hf h_class (hrm a) (Nat.le_trans (by decide) hk5) hG (by rfl) (pa_cons (pv 3) pa_nil)))
        (pss_cons (ps_if (pt_cmpR (r := rIn X.K false) op_in_seq (pv 2) (pe_lst (pa_cons pe_str (pa_cons pe_str (pa_cons pe_str (pa_cons pe_str (pa_cons pe_str (pa_cons pe_str pa_nil))))))) (by rfl))
            (pss_one (ps_ret (pe_lst (pa_cons (pv 2) (pa_cons (pe_callB (r := rShow X.K) (call_show (X := (cxOf C8.CX0 X.prog X.w X.K X.mg X.base ["_law_act", "_law_back", "_law_word", "_law_e"] "_law_end" (defScope s_end) g cdg X.A X.stack s H C8.E0).nox.suite a ((a, oe) :: pn)) (hu64 (hrm a)) hG) (by rfl) T.n_repr (by decide +kernel) (pa_cons (pe_xfA hz.zc hf (pv 3)) pa_nil)) pa_nil))))) pss_nil)
          (pss_one (ps_ret (pe_lst (pa_cons (pv 2) (pa_cons (pe_ifExp (pt_cmpR (r := rIn X.K false) op_in_seq (pv 2) (pe_lst (pa_cons pe_str (pa_cons pe_str (pa_cons pe_str pa_nil)))) (by rfl)) pe_str
            (pe_cEs (X := (cxOf C8.CX0 X.prog X.w X.K X.mg X.base ["_law_act", "_law_back", "_law_word", "_law_e"] "_law_end" (defScope s_end) g cdg X.A X.stack s H C8.E0).nox) hz hf h_shownH (hrm a) (Nat.le_trans (by decide) hk5) hG (by rfl) (pa_cons (pe_xfA hz.zc hf (pv 3)) pa_nil))) pa_nil))))))))
    (pss_one (ps_ret (pe_lst (pa_cons pe_str (pa_cons (pe_cG h_shown hr hk5 hG (by rfl) (pa_cons (pv 1) pa_nil)) pa_nil))))), ?_⟩
  refine ⟨_, ?_, _, ?_, rfl, hc, h⟩
  · rintro v H' (⟨y, zs, g, rfl, hy, q⟩ | ⟨d, hd, q⟩)
    · refine ⟨.ref y, rfl, .inl ⟨y, zs, g, rfl, hy, fun l2 H1 e1 n1 k1 => ?_⟩⟩
      refine ⟨(by show 2 ≤ sizeLine; decide), fun l hl => ?_⟩
      have hne : l2 ≠ l := ne_of_none e1 hl
      exact q l l2 _ (same_none k1 hl) n1 hne (k1.trans (Same.new hl)) (Same.new hl _ _ e1) upd_same
    · refine ⟨v, rfl, .inr ⟨v, d, rfl, hd, ?_⟩⟩
      exact ⟨(by show 2 ≤ sizeLine; decide), fun l hl => q l _ hl (Same.new hl) upd_same⟩
  · rintro cls d H' (⟨n, dd, v, dv, rfl, rfl, hn, hn18, EE, hdd, hv, q⟩ | ⟨n, dd, y, zs, g, rfl, rfl, hn, hn18, hi, EE, hdd, hy, q⟩)
    · refine ⟨EE.any, fun a ha => ?_⟩
      refine ⟨.ref a, rfl, fun oe hz hf => ⟨n, dd, _, rfl, hn, EE, hz, hf, hdd, fun H1 k1 => ?_⟩⟩
      refine ⟨.str (word n), rfl, (by show 6 ≤ sizeLine; decide), fun l1 h1 => ?_⟩
      have k2 := k1.trans (Same.new (o := .lst ixWords) h1)
      refine ⟨l1, ixWords, rfl, .inl (SqL.of upd_same), rfl, rfl, _, rfl, ?_⟩
      rw [(in_ix n hn).1]
      by_cases hi : isIx n = true
      · rw [hi]
        refine iteT ?_
        have hfl : fieldOf n = "index" := if_pos hi
        rw [hfl] at hdd
        refine ⟨.str (word n), rfl, cl n, EE.xf, (EE.fi "index" (by decide)).1, .ref a, rfl, rfl, rfl, dd, _, v, rfl, k2 _ _ hdd, rfl, ?_⟩
        have hv2 := hv.same k2
        refine ⟨v, dv, rfl, hv2, (by show 2 ≤ sizeLine; decide), fun l hl => ?_⟩
        exact q l _ (same_none k2 hl) (k2.trans (Same.new hl)) upd_same
      · rw [Bool.eq_false_iff.mpr hi]
        refine iteF ?_
        have hfl : fieldOf n = "given" := if_neg hi
        rw [hfl] at hdd
        refine ⟨.str (word n), rfl, .str (word n), rfl, (by show 3 ≤ sizeLine; decide), fun l2 h2 => ?_⟩
        have k3 := k2.trans (Same.new (o := .lst noWords) h2)
        refine ⟨l2, noWords, rfl, .inl (SqL.of upd_same), rfl, rfl, _, rfl, ?_⟩
        rw [(in_ix n hn).2 hn18]
        refine iteF ?_
        refine ⟨cl n, EE.xf, (EE.fi "given" (by decide)).1, .ref a, rfl, rfl, rfl, dd, _, v, rfl, k3 _ _ hdd, rfl, fun oe hz hf => .inr ⟨v, dv, rfl, hv.same k3, ?_⟩⟩
        refine ⟨(by show 2 ≤ sizeLine; decide), fun l hl => ?_⟩
        exact q l _ (same_none k3 hl) (k3.trans (Same.new hl)) upd_same
    · refine ⟨EE.any, fun a ha => ?_⟩
      refine ⟨.ref a, rfl, fun oe hz hf => ⟨n, dd, _, rfl, hn, EE, hz, hf, hdd, fun H1 k1 => ?_⟩⟩
      refine ⟨.str (word n), rfl, (by show 6 ≤ sizeLine; decide), fun l1 h1 => ?_⟩
      have k2 := k1.trans (Same.new (o := .lst ixWords) h1)
      refine ⟨l1, ixWords, rfl, .inl (SqL.of upd_same), rfl, rfl, _, rfl, ?_⟩
      rw [(in_ix n hn).1, hi]
      refine iteF ?_
      have hfl : fieldOf n = "given" := if_neg (by rw [hi]; decide)
      rw [hfl] at hdd
      refine ⟨.str (word n), rfl, .str (word n), rfl, (by show 3 ≤ sizeLine; decide), fun l2 h2 => ?_⟩
      have k3 := k2.trans (Same.new (o := .lst noWords) h2)
      refine ⟨l2, noWords, rfl, .inl (SqL.of upd_same), rfl, rfl, _, rfl, ?_⟩
      rw [(in_ix n hn).2 hn18]
      refine iteF ?_
      refine ⟨cl n, EE.xf, (EE.fi "given" (by decide)).1, .ref a, rfl, rfl, rfl, dd, _, .ref y, rfl, k3 _ _ hdd, rfl, fun oe hz hf => .inl ⟨y, zs, g, rfl, hy.same k3, fun l2 H2 e2 n2 k4 => ?_⟩⟩
      refine ⟨(by show 2 ≤ sizeLine; decide), fun l hl => ?_⟩
      have k34 := k3.trans k4
      exact q l l2 _ (same_none k34 hl) (same_none k3 n2) (ne_of_none e2 hl) (k34.trans (Same.new hl)) (Same.new hl _ _ e2) upd_same
end
end Y

set_option Elab.async false
set_option linter.all false
set_option maxRecDepth 100000
set_option maxHeartbeats 4000000
namespace Y
open PySem L2
open PyProof.Rows (envOfC)
open SX (S)
open C8 (Cal pe_c pe_gc)
open LamX (Tabs TabS ExtN CodeO TabB)
theorem Good.nms {zs : List (List Nat)} {g : Gr} (h : Good zs g) : Nms zs := ⟨h.n2, h.n4, h.nd, h.nm⟩
theorem okW : okS "rows" ∧ okS "back" ∧ okS "yard" ∧ okS "None" ∧ okS "unbalanced" ∧ okS "" := by
  refine ⟨okS.of ?_, okS.of ?_, okS.of ?_, okS.of ?_, okS.of ?_, okS.of ?_⟩ <;> decide +kernel
theorem lay_d2 {a b : Str} (ha : okS a) (hb : okS b) : PyData.canLay0 (d2 a b) = true := by
  unfold d2
  rw [PyData.canLay0, PyData.canLayAll0, PyData.canLayAll0, PyData.canLayAll0, PyData.canLay0, PyData.canLay0, ha.ok, hb.ok]
  rfl
theorem okI : ∀ i, i < 11 → okS (PyData.int (i : Nat)).shown := by
  have h : ∀ i : Fin 11, PyData.strOk (PyData.int ((i : Nat) : Int)).shown = true := by decide +kernel
  exact fun i hi => okS.of (h ⟨i, hi⟩)
theorem OutS.okD {K : PySem.W.Frag} {p : Addr} {H : Hp} {v : V} {n : Nat} {due : Str} (hn : n ≤ 4) (h : OutS K p H v n due) : okS due := by
  obtain ⟨_, _, _, o4, _, o6⟩ := okW
  rcases h with ⟨h, e⟩ | ⟨t, xs, e, h1, h2, ⟨h3, h4⟩ | ⟨h3, bs, h4, h5, h6⟩⟩
  · rw [e]
    exact o4
  · rw [h4]
    exact o4
  · rw [h6]
    unfold dueR
    cases hw : wrongs bs with
    | nil => exact o6
    | cons i r =>
      have hi : i ∈ wrongs bs := by rw [hw]; exact List.mem_cons_self ..
      unfold wrongs at hi
      have := List.mem_range.mp (List.mem_filter.mp hi).1
      exact okI i (by omega)
/-- what is told, laid and alike -/
structure DOk (d : PyData) : Prop where
  lay : PyData.canLay0 d = true
  dep : d.depth ≤ 2
  no : no3 d = true
theorem DOk.two {a b : Str} (ha : okS a) (hb : okS b) : DOk (d2 a b) := ⟨lay_d2 ha hb, by show (d2 a b).depth ≤ 2; unfold d2; exact (by decide : (1 : Nat) ≤ 2), rfl⟩
theorem back_ok {zs : List (List Nat)} {g : Gr} (h : Good zs g) : DOk (.list [.str "back", d2 "yard" (S (sheetL zs g))]) := by
  obtain ⟨_, o2, o3, _, _, _⟩ := okW
  have os : okS (S (sheetL zs g)) := fun c hc => Nat.lt_trans (h.sheet_ch hc) (by decide)
  refine ⟨?_, (by decide : (2 : Nat) ≤ 2), rfl⟩
  rw [PyData.canLay0, PyData.canLayAll0, PyData.canLayAll0, PyData.canLayAll0, PyData.canLay0, lay_d2 o3 os, o2.ok]
  rfl
theorem resY_ok {zs : List (List Nat)} {g : Gr} (hN : Nms zs) (hU : TabU zs.length g) : DOk (resY zs g) ∧ ∃ a ds, resY zs g = .list (.str a :: ds) ∧ (a = "back" ∨ a = "unbalanced") := by
  unfold resY
  cases hu : unb zs.length g with
  | some i =>
    unfold unb at hu
    rw [List.find?_range_eq_some] at hu
    have hi := List.mem_range.mp hu.2.1
    have hz : zs[i]? = some zs[i] := List.getElem?_eq_getElem hi
    have hzn := hN.nm _ (List.getElem_mem hi)
    refine ⟨DOk.two okW.2.2.2.2.1 ?_, _, _, rfl, .inr rfl⟩
    show okS (PyData.str (S (zs.getD i []))).shown
    rw [List.getD_eq_getElem?_getD, hz]
    exact strD_ok fun c hc => name_ch hzn hc
  | none =>
    unfold unb at hu
    rw [List.find?_range_eq_none] at hu
    have hT := hU.table fun i hi => by simpa using hu i hi
    exact ⟨back_ok ⟨hN.n2, hN.n4, hN.nd, hN.nm, hT⟩, _, _, rfl, .inl rfl⟩
/-- twice the same -/
def dPair (d : PyData) : PyData := .list [d, d]
theorem DOk.sh {d : PyData} (h : DOk d) : SeqAt.shaped d = true := by
  unfold SeqAt.shaped
  rw [h.lay, Bool.true_and]
  exact decide_eq_true (Nat.le_trans h.dep (by decide))
theorem DOk.pair {d : PyData} (h : DOk d) : SeqAt.shaped (dPair d) = true ∧ PyData.eqv (dPair d) (dPair d) = true := by
  have hl : PyData.canLay0 (dPair d) = true := by
    unfold dPair
    rw [PyData.canLay0, PyData.canLayAll0, PyData.canLayAll0, PyData.canLayAll0, h.lay]
    rfl
  refine ⟨?_, SeqAt.eqv_refl _ hl⟩
  unfold SeqAt.shaped
  rw [hl, Bool.true_and]
  refine decide_eq_true ?_
  have := h.dep
  show (PyData.list [d, d]).depth ≤ 64
  rw [PyData.depth, PyData.depthAll, PyData.depthAll, PyData.depthAll]
  omega
end Y

set_option Elab.async false
set_option linter.all false
set_option maxRecDepth 100000
set_option maxHeartbeats 4000000
namespace Y
open PySem L2
open SX (S)
theorem PailAt.put {H : Hp} {p D : Addr} {o : HO} (h : PailAt H p) (n : D ≠ p) : PailAt (upd H D o) p := by
  obtain ⟨x, y, z, hq, ep⟩ := h.ex
  exact ⟨x, y, z, hq, by rw [upd_ne n.symm]; exact ep⟩
theorem KpX.put {H H' : Hp} {p D : Addr} {o : HO} (k : KpX p H H') (hD : H D = none) : KpX p H (upd H' D o) := fun b q e hb => by
  rw [upd_ne (ne_of_none e hD)]
  exact k b q e hb
end Y

-- only k17: _law_right
set_option Elab.async false
set_option linter.all false
set_option maxRecDepth 100000
set_option maxHeartbeats 4000000
namespace Y
open PySem L2
open PyProof.Rows (envOfC)
open SX (S)
open C8 (Cal pe_c pe_gc)
open LamX (Tabs TabS ExtN CodeO TabB)
/-- what + asks of a class -/
structure YAdd (K : PySem.W.Frag) (C f : Addr) : Prop where
  sf : PySem.W.selfFirst K C = true
  at_ : PySem.W.findIn K (.ref C) "__add__" = some (some (.ref f))
  fn : PySem.W.isFn K (.ref f) = true
theorem wA17 : word 16 = ("other" : Str) ∧ fieldOf 16 = ("given" : Str) ∧ isIx 16 = false ∧ word 17 = ("great" : Str) ∧ fieldOf 17 = ("given" : Str) := by decide +kernel
theorem okDig {k : Int} (h0 : 0 ≤ k) : okS (PyData.int k).shown := by
  obtain ⟨n, rfl⟩ := Int.eq_ofNat_of_zero_le h0
  have e : (PyData.int (n : Int)).shown = S (TL.numL n) := SX.num_S n
  rw [e]
  intro c hc
  have := TL.numL_digits n c hc
  omega
theorem sheet_sg {zs : List (List Nat)} {g : Gr} (h : Good zs g) : okS (S (sheetL zs g)) := fun c hc => Nat.lt_trans (h.sheet_ch hc) (by decide)
theorem DueA.ok {zs1 zs2 : List (List Nat)} {g1 g2 : Gr} {d : PyData} (h : DueA zs1 g1 zs2 g2 d) (h1 : Good zs1 g1) (h2 : Good zs2 g2) : DOk d ∧ ∃ a ds, d = .list (.str a :: ds) ∧ (a = "back" → zs1 = zs2 ∧ ∃ k, IsMaxA (addG g1 g2) k ∧ k ≤ 1000000000000000000000000000000) := by
  have n1 : ("other" : Str) ≠ "back" := by decide +kernel
  have n2 : ("great" : Str) ≠ "back" := by decide +kernel
  rcases h with ⟨_, rfl⟩ | ⟨rfl, k, hm, h0, _, ⟨_, rfl⟩ | ⟨hle, rfl⟩⟩
  · refine ⟨⟨?_, (by decide : (2 : Nat) ≤ 2), rfl⟩, _, _, rfl, fun e => absurd e n1⟩
    obtain ⟨_, _, o3, _, _, _⟩ := okW
    have oo : okS "other" := okS.of (by decide +kernel)
    rw [PyData.canLay0, PyData.canLayAll0, PyData.canLayAll0, PyData.canLayAll0, PyData.canLay0, lay_d2 o3 (sheet_sg h2), oo.ok]
    rfl
  · exact ⟨DOk.two (okS.of (by decide +kernel)) (okDig h0), _, _, rfl, fun e => absurd e n2⟩
  · have hT := addG_table h1.tb h2.tb fun r hr x hx => Int.le_trans (hm.2 r hr x hx) hle
    exact ⟨back_ok ⟨h1.n2, h1.n4, h1.nd, h1.nm, hT⟩, _, _, rfl, fun _ => ⟨rfl, k, hm, hle⟩⟩
theorem lmax : ∀ l : List Int, l ≠ [] → ∃ m, m ∈ l ∧ ∀ x ∈ l, x ≤ m
  | [], h => absurd rfl h
  | [x], _ => ⟨x, List.mem_cons_self, fun y hy => by rw [List.mem_singleton.mp hy]; exact Int.le_refl _⟩
  | x :: y :: l, _ => by
    obtain ⟨m, hm, hle⟩ := lmax (y :: l) (List.cons_ne_nil _ _)
    by_cases h : m ≤ x
    · refine ⟨x, List.mem_cons_self, fun z hz => ?_⟩
      rcases List.mem_cons.mp hz with e | e
      · rw [e]
        exact Int.le_refl _
      · exact Int.le_trans (hle z e) h
    · refine ⟨m, List.mem_cons_of_mem _ hm, fun z hz => ?_⟩
      rcases List.mem_cons.mp hz with e | e
      · rw [e]
        omega
      · exact hle z e
theorem max_ex {n : Nat} {g : Gr} (h : Sq n g) (hn : 0 < n) : ∃ k, IsMaxA g k := by
  have h0 : g[0]? = some (g[0]'(by rw [h.1]; exact hn)) := List.getElem?_eq_getElem _
  have hl := h.2 0 _ h0
  have hne : g.flatten ≠ [] := fun e => by
    have : (g[0]'(by rw [h.1]; exact hn)) = [] := by
      have hz : ∀ x ∈ (g[0]'(by rw [h.1]; exact hn)), x ∈ g.flatten := fun x hx => List.mem_flatten.mpr ⟨_, List.mem_of_getElem? h0, hx⟩
      rw [e] at hz
      exact List.eq_nil_iff_forall_not_mem.mpr fun x hx => nomatch hz x hx
    rw [this] at hl
    simp at hl
    omega
  obtain ⟨m, hm, hle⟩ := lmax _ hne
  obtain ⟨r, hr, hx⟩ := List.mem_flatten.mp hm
  exact ⟨m, ⟨r, hr, hx⟩, fun r' hr' x hx' => hle x (List.mem_flatten.mpr ⟨r', hr', hx'⟩)⟩
theorem DueA.ex {zs1 zs2 : List (List Nat)} {g1 g2 : Gr} (h1 : Good zs1 g1) (h2 : Good zs2 g2) : ∃ d, DueA zs1 g1 zs2 g2 d := by
  by_cases e : zs1 = zs2
  · subst e
    obtain ⟨k, hk⟩ := max_ex (addG_sq h1.tb.sq h2.tb.sq) (by have := h1.n2; omega)
    obtain ⟨b1, b2⟩ := max_bound h1.tb h2.tb hk
    by_cases hle : k ≤ 1000000000000000000000000000000
    · exact ⟨_, .inr ⟨rfl, k, hk, b1, b2, .inr ⟨hle, rfl⟩⟩⟩
    · exact ⟨_, .inr ⟨rfl, k, hk, b1, b2, .inl ⟨by omega, rfl⟩⟩⟩
  · exact ⟨_, .inl ⟨e, rfl⟩⟩
theorem IsMaxA.eq {g : Gr} {a b : Int} (h : IsMaxA g a) (k : IsMaxA g b) : a = b := by
  obtain ⟨r, hr, ha⟩ := h.1
  obtain ⟨s, hs, hb⟩ := k.1
  have h1 := k.2 r hr a ha
  have h2 := h.2 s hs b hb
  omega
theorem DueA.eq {zs1 zs2 : List (List Nat)} {g1 g2 : Gr} {d d' : PyData} (h : DueA zs1 g1 zs2 g2 d) (h' : DueA zs1 g1 zs2 g2 d') : d' = d := by
  rcases h with ⟨n, rfl⟩ | ⟨e, k, hm, _, _, h⟩
  · rcases h' with ⟨_, rfl⟩ | ⟨e, _⟩
    · rfl
    · exact absurd e n
  · rcases h' with ⟨n, _⟩ | ⟨_, k', hm', _, _, h'⟩
    · exact absurd e n
    have ek := hm.eq hm'
    subst ek
    rcases h with ⟨h1, rfl⟩ | ⟨h1, rfl⟩
    · rcases h' with ⟨_, rfl⟩ | ⟨h2, _⟩
      · rfl
      · omega
    · rcases h' with ⟨h2, _⟩ | ⟨_, rfl⟩
      · omega
      · rfl
section
variable {P : Program} {w : World} {K : PySem.W.Frag} {mg : Str → Option Value} {base : Heap} {C : Addr} {cl : Nat → Addr}
theorem spAdd_ref {cO cG : Addr} {vs : List V} {H : Hp} {Q : VK} {E : XK} (h : spAdd K C cO cG vs H Q E) : spAdd K C cO cG vs H (fun v H' => ∃ b, v = .ref b ∧ Q (.ref b) H') E := by
  obtain ⟨y1, y2, zs1, zs2, g1, g2, e, h1, h2, h3, h4⟩ := h
  exact ⟨y1, y2, zs1, zs2, g1, g2, e, h1, h2, h3, fun he k hm => ⟨(h4 he k hm).1, fun hle y' H' hy' k' => ⟨y', rfl, (h4 he k hm).2 hle y' H' hy' k'⟩⟩⟩
theorem end_add {tl : XK → Hp → VK → Prop} {H0 : Hp} {Q : VK} {y1 y2 : Addr} {zs1 zs2 : List (List Nat)} {g1 g2 : Gr} {d : PyData} (E16 : EK K cl 16) (E17 : EK K cl 17) (hy1 : YardS K C H0 y1 zs1 g1) (hy2 : YardS K C H0 y2 zs2 g2) (hd : DueA zs1 g1 zs2 g2 d)
    (htl : ∀ (E : XK) (Q' : VK), spAdd K C (cl 16) (cl 17) [.ref y1, .ref y2] H0 Q' E → tl E H0 Q') (hk : ∀ l H'', Dp K H'' (.ref l) d → Same H0 H'' → Q (.ref l) H'') : TTendY K C cl tl H0 Q := by
  obtain ⟨w16, f16, x16, w17, f17⟩ := wA17
  refine htl _ _ ⟨y1, y2, zs1, zs2, g1, g2, rfl, hy1, hy2, fun hne dd hdd => ?_, fun he k hmax => ⟨fun hgt H' k1 dd hdd => ?_, fun hle y' H' hy' k1 => ?_⟩⟩
  · have k2 := Same.new (o := .xd [("given", .ref y2)]) hdd
    refine .inr ⟨16, dd, y2, zs2, g2, rfl, rfl, by decide, by decide, x16, E16, by rw [f16]; exact upd_same, hy2.same k2, fun l l2 H'' hl hl2 hne2 k3 e2 e3 => hk l H'' ?_ (k2.trans k3)⟩
    rcases hd with ⟨_, rfl⟩ | ⟨e, _⟩
    · rw [w16] at e3
      exact .lst (SqL.of e3) (.cons (.str _) (.cons (.lst (SqL.of e2) (.cons (.str _) (.cons (.str _) .nil))) .nil))
    · exact absurd e hne
  · have k2 := Same.new (o := .xd [("given", vI k)]) hdd
    subst he
    rcases hd with ⟨e, _⟩ | ⟨_, k', hm', h0, hb, h⟩
    · exact absurd rfl e
    have ek := hm'.eq hmax
    subst ek
    refine .inl ⟨17, dd, vI k', (PyData.int k').shown, rfl, rfl, by decide, by decide, E17, by rw [f17]; exact upd_same, ShowS.of (.int _) (fit_out (fit_bigA h0 (by omega)) (by decide)), fun l H'' hl k3 e => hk l H'' ?_ ((k1.trans k2).trans k3)⟩
    rcases h with ⟨_, rfl⟩ | ⟨hle, _⟩
    · rw [w17] at e
      exact .lst (SqL.of e) (.cons (.str _) (.cons (.str _) .nil))
    · omega
  · subst he
    refine .inl ⟨y', zs1, addG g1 g2, rfl, hy', fun l l2 H'' hl hl2 hne k2 e2 e3 => hk l H'' ?_ (k1.trans k2)⟩
    rcases hd with ⟨e, _⟩ | ⟨_, k', hm', h0, hb, h⟩
    · exact absurd rfl e
    have ek := hm'.eq hmax
    subst ek
    rcases h with ⟨hgt, _⟩ | ⟨_, rfl⟩
    · omega
    · exact .lst (SqL.of e3) (.cons (.str _) (.cons (.lst (SqL.of e2) (.cons (.str _) (.cons (.str _) .nil))) .nil))
abbrev s_right : Stmt := top 81
theorem sc_right : FnScope ["_law_pail", "_law_parts", "_law_mine", "_law_turn", "_law_others", "_law_mate", "_law_told", "_law_both"] ["_law_pail"] (defScope s_right) := ⟨rfl, rfl, rfl, by decide +kernel, rfl, by decide +kernel, by decide +kernel⟩
def qRight : Str := (envOfC "_law_right" (defScope s_right) 0 0 .none).qual ++ "<lambda>"
def spAddC (K : PySem.W.Frag) (C cO cG : Addr) : Sp := fun vs H Q _ => spAdd K C cO cG vs H Q fun _ _ _ => False
theorem ok_right {c Pt fs fl fr fa fo fz : Addr} (D : DfL K mg "_law_right" s_right ["_law_pail"] c) (T : Tx K mg) (Y : YT K mg C) (Y2 : YOwn K C fs fl fr) (YA : YAdd K C fa) (G : Eg mg cl) (E16 : EK K cl 16) (E17 : EK K cl 17) (TB : TabB base mg c Pt)
    (h_str : MfC P w K mg base 3 fs ["self"] (spStr K C)) (h_add : MfA P w K mg base 7 fa ["self", "other"] (spAdd K C (cl 16) (cl 17))) (m_out : Meth K C "out" fo) (h_outS : MfC P w K mg base 2 fo ["self"] (spOutS K C)) (m_size : Meth K C "size" fz) (h_sizeS : MfC P w K mg base 1 fz ["self"] (spSizeS K C))
    (h_drawn : Cal P w K mg base 5 "_law_drawn" (spDrawn K) []) (h_builtS : Cal P w K mg base 9 "_law_built" (spBuiltS K C) []) (h_other : Cal P w K mg base 6 "_law_other" (spOther K) []) (h_wanted : CalG P w K mg base 2 "_law_wanted" (spWantedA K)) (h_astray : Cal P w K mg base 1 "_law_astray" (spAstray K) []) (h_sheet : Cal P w K mg base 1 "_law_sheet" (spSheet K) [])
    (D_end : DfT K mg "_law_end" s_end ["_law_act"]) (h_class : Z.CalE P w K mg base 1 "_law_class" (spClass K cl)) (h_shown : CalG P w K mg base 6 "_law_shown" (spShown K C)) (h_shownHY : Z.CalE P w K mg base 5 "_law_shown" (spShownHY K C)) {Tb : List (Addr × Str)} (hmT : (Pt, qRight) ∈ Tb) (hu : ∀ p ∈ Tb, p.1 = Pt → p.2 = qRight) :
    CalG P w K mg base 20 "_law_right" (spRightT Tb) := by
  have nd := sc_right.nd
  have h_built := h_builtS
  obtain ⟨fda, FA, ba⟩ := h_add.ex
  have F_add : FnR P w K mg base (L2N.CX P w) 7 fa (spAdd K C (cl 16) (cl 17)) := (FA.raw ba .nil).imp fun vs H Q E h => by rw [List.append_nil]; exact h
  have FAC := Z.FnOk.calm (sp' := spAddC K C (cl 16) (cl 17)) FA fun _ _ _ _ h => h
  have F_addC : FnR P w K mg base C8.CX0 7 fa (spAddC K C (cl 16) (cl 17)) := (FAC.raw ba .nil).imp fun vs H Q E h => by rw [List.append_nil]; exact h
  obtain ⟨fdo, F_out, b_out⟩ := h_outS.ex
  obtain ⟨fdz, F_size, b_size⟩ := h_sizeS.ex
  obtain ⟨gE, fdE, FE, bE, mE⟩ := D_end.ex
  obtain ⟨ocE, odE, kVE, docE, pmE, anE, cdE, ctE, oslE, rfl, lkE, hcE⟩ := FE.ex
  refine calGL (k := 19) D sc_right (fun vs H Q E h => by obtain ⟨p, rfl, _⟩ := h; rfl) fun f A outer s H vs Q E hr hG h => ?_
  let sc : Scope := defScope s_right
  have Gv := fun (qn : Str) => end_givesY (C := C) (cl := cl) (X := (cxOf C8.CX0 P w K mg base ["_law_pail", "_law_parts", "_law_mine", "_law_turn", "_law_others", "_law_mate", "_law_told", "_law_both"] "_law_right" (defScope s_right) f (.ref c) A outer s H E).nox) (k := 9) (g := gE) (cdg := cdE) (q := qn) rfl rfl T G hG (by decide) h_class h_shown h_shownHY
  refine ⟨_, (pss_cons (ps_set (i := 1) nd rfl (by first | exact Or.inl rfl | exact Or.inr rfl) (pe_c h_drawn hr (by decide) (by rfl) (pa_cons (pv 0) pa_nil)))
    (pss_cons (ps_set (i := 2) nd rfl (by first | exact Or.inl rfl | exact Or.inr rfl) (pe_c h_built hr (by decide) (by rfl) (pa_cons (pv 0) (pa_cons (pv 1) pa_nil))))
    (pss_cons (ps_for PassesOwn.never rfl (pi_range1 (by rfl) T.n_range (pa_cons pe_int pa_nil)) (pg_name (i := 3) nd rfl (by first | exact Or.inl rfl | exact Or.inr rfl)) (pss_cons (ps_set (i := 4) nd rfl (by first | exact Or.inl rfl | exact Or.inr rfl) (pe_c h_other hr (by decide) (by rfl) (pa_cons (pv 0) (pa_cons (pv 1) pa_nil))))
    (pss_cons (ps_set (i := 5) nd rfl (by first | exact Or.inl rfl | exact Or.inr rfl) (pe_c h_built hr (by decide) (by rfl) (pa_cons (pv 0) (pa_cons (pv 4) pa_nil))))
    (pss_cons (ps_if (pt_cmpR (op_neD hr.units) (Z.pe_lamN (T := Tb) (P := Pt) (k := 8) (a := "_law_act") (Ng := ["_law_act", "_law_back", "_law_word", "_law_e"]) (t := fun E => tOp (Z.rAddO K C (spAdd K C (cl 16) (cl 17)) E) (tVar 2) (tVar 5)) (by rfl) mE FE.kp lkE hcE bE sc_end rfl (by first | exact Or.inl rfl | exact Or.inr rfl) (Gv _) TB rfl hmT hu (hr.mono (by decide)) (LamX.lamS_by (sc := defScope s_right) (by decide +kernel)) rfl (fun _ _ _ _ _ => rfl) (fun A outer s H E f c hr8 => pe_op (Z.op_addO (hr8.mono (by decide)) YA.sf YA.at_ YA.fn (L2N.passes_call Z.lam_tk fun _ _ _ _ h => h) F_add) (pv 2) (pv 5))) (pe_cG h_wanted hr (by decide) hG (by rfl) (pa_cons (pv 1) (pa_cons (pv 4) pa_nil))) (nomark _)) (pss_one (ps_ret pe_bl)) pss_nil)
    (pss_cons (ps_set (i := 6) nd rfl (by first | exact Or.inl rfl | exact Or.inr rfl) (Z.pe_lamN (T := Tb) (P := Pt) (k := 8) (a := "_law_act") (Ng := ["_law_act", "_law_back", "_law_word", "_law_e"]) (t := fun E => tOp (Z.rAddO K C (spAdd K C (cl 16) (cl 17)) E) (tVar 5) (tVar 2)) (by rfl) mE FE.kp lkE hcE bE sc_end rfl (by first | exact Or.inl rfl | exact Or.inr rfl) (Gv _) TB rfl hmT hu (hr.mono (by decide)) (LamX.lamS_by (sc := defScope s_right) (by decide +kernel)) rfl (fun _ _ _ _ _ => rfl) (fun A outer s H E f c hr8 => pe_op (Z.op_addO (hr8.mono (by decide)) YA.sf YA.at_ YA.fn (L2N.passes_call Z.lam_tk fun _ _ _ _ h => h) F_add) (pv 5) (pv 2))))
    (pss_cons (ps_if (pt_cmpR (op_neD hr.units) (pv 6) (pe_cG h_wanted hr (by decide) hG (by rfl) (pa_cons (pv 4) (pa_cons (pv 1) pa_nil))) (nomark _)) (pss_one (ps_ret pe_bl)) pss_nil)
    (C8.pss_cut (ps_if (pt_cmpR op_eq (pe_ix (r := rIxL K) ix_list (pv 6) pe_int (fun _ _ => rfl)) pe_str (nomark _)) (pss_cons (ps_set (i := 7) nd rfl (by first | exact Or.inl rfl | exact Or.inr rfl) (pe_op (Z.op_addO (hr.mono (by decide)) YA.sf YA.at_ YA.fn pass0 F_addC) (pv 2) (pv 5)))
    (pss_one (ps_if (PW.pt (pw_or (pt_cmpR op_ne (pe_meth0 (pv 7) Y.cl m_out F_out (hr.mono (by decide)) b_out .nil pass0) (pe_op op_add (pe_c h_astray hr (by decide) (by rfl) (pa_cons (pe_ix (r := rIxL K) ix_list (pv 1) pe_int (fun _ _ => rfl)) pa_nil)) (pe_c h_astray hr (by decide) (by rfl) (pa_cons (pe_ix (r := rIxL K) ix_list (pv 4) pe_int (fun _ _ => rfl)) pa_nil))) (nomark _)) (pw_or1 (pt_cmpR op_ne (pe_meth0 (pv 7) Y.cl m_size F_size (hr.mono (by decide)) b_size .nil pass0) (pe_op op_add (pe_meth0 (pv 2) Y.cl m_size F_size (hr.mono (by decide)) b_size .nil pass0) (pe_meth0 (pv 5) Y.cl m_size F_size (hr.mono (by decide)) b_size .nil pass0)) (nomark _))))) (pss_one (ps_ret pe_bl)) pss_nil))) pss_nil)
    (pss_one (ps_if (pt_cmpR (op_neD hr.units) (pe_lst (pa_cons (pe_callTy (call_strO (k := 3) (hr.mono (by decide)) Y2.sStr Y2.fStr h_str.raw) (by rfl) T.n_str (by decide +kernel) (pa_cons (pv 2) pa_nil)) (pa_cons (pe_callTy (call_strO (k := 3) (hr.mono (by decide)) Y2.sStr Y2.fStr h_str.raw) (by rfl) T.n_str (by decide +kernel) (pa_cons (pv 5) pa_nil)) pa_nil))) (pe_lst (pa_cons (pe_c h_sheet hr (by decide) (by rfl) (pa_cons (pv 1) pa_nil)) (pa_cons (pe_c h_sheet hr (by decide) (by rfl) (pa_cons (pv 4) pa_nil)) pa_nil))) (nomark _)) (pss_one (ps_ret pe_bl)) pss_nil)))))))))
    (pss_one (ps_ret pe_bl))))), ?_⟩
  obtain ⟨p, rfl, hP, hT, hk⟩ := h
  refine ⟨.ref p, rfl, p, rfl, hP, fun zs g ld HA hdr0 hPA kA => ?_⟩
  have hdrA := hdr0.g
  refine ⟨.ref p, rfl, .ref ld, rfl, p, ld, zs, g, rfl, hPA, hdrA, fun y HB hy hPB kB => ?_⟩
  have hdr := hdrA.kpx hPA kB
  have hTB := tabs_kpx hT hP (kA.trans kB)
  have hgood := hdr.good
  have n2 := hgood.n2
  have n4 := hgood.n4
  have kAB : KpT p H HB := KpT.ofX (kA.trans kB)
  have I0 : RightI p Tb HB HB := ⟨hPB, KpT.refl _ _, hTB⟩
  have hdX : ∀ {H' : Hp}, RightI p Tb HB H' → DrG K H' ld zs g := fun {H'} I => hdr.kpt hPB I.kp
  have hyX : ∀ {H' : Hp}, RightI p Tb HB H' → YardS K C H' y zs g := fun {H'} I => hy.kpt hPB I.kp
  have stepX : ∀ {H1 H2 : Hp}, RightI p Tb HB H1 → PailAt H2 p → KpX p H1 H2 → RightI p Tb HB H2 := fun I hp k => ⟨hp, I.kp.trans (KpT.ofX k), tabs_kpx I.tb I.pl k⟩
  have at0 : ∀ {x y : V}, L2.atI [x, y] 0 = some x := fun {x y} => by exact atI_nat (j := 0) rfl
  have at1 : ∀ {x y : V}, L2.atI [x, y] 1 = some y := fun {x y} => by exact atI_nat (j := 1) rfl
  refine ⟨4, rfl, by decide, by decide, for_range (n := 4) (fun _ σ H' => ∃ (e3 e4 e5 e6 e7 : Option V), σ = [some (.ref p), some (.ref ld), some (.ref y), e3, e4, e5, e6, e7] ∧ RightI p Tb HB H') ⟨none, none, none, none, none, rfl, I0⟩ ?_ ?_⟩
  · rintro i σ H1 hi ⟨e3, e4, e5, e6, e7, rfl, I1⟩
    refine ⟨.ref p, rfl, .ref ld, rfl, p, ld, zs, g, rfl, I1.pl, hdX I1, fun lo zs2 g2 H2 hdo hP2 k2 => ?_⟩
    have I2 := stepX I1 hP2 k2
    refine ⟨.ref p, rfl, .ref lo, rfl, p, lo, zs2, g2, rfl, hP2, hdo, fun y2 H3 hy2 hP3 k3 => ?_⟩
    have I3 := stepX I2 hP3 k3
    have hdo3 := hdo.kpx hP2 k3
    have hgood2 := hdo3.good
    have odX : ∀ {H' : Hp}, KpT p H3 H' → DrG K H' lo zs2 g2 := fun {H'} k => hdo3.kpt hP3 k
    have oyX : ∀ {H' : Hp}, KpT p H3 H' → YardS K C H' y2 zs2 g2 := fun {H'} k => hy2.kpt hP3 k
    clear hdo hP2 k2 k3 I1 I2
    -- the first sum
    obtain ⟨d1, hd1⟩ := DueA.ex hgood hgood2
    obtain ⟨dq, hd2⟩ := DueA.ex hgood2 hgood
    obtain ⟨D1, _⟩ := hd1.ok hgood hgood2
    obtain ⟨D2, a2, ds2, hda2, hback⟩ := hd2.ok hgood2 hgood
    refine ⟨I3.tb, fun H4 x4 t4 => ?_⟩
    have K4 : KpT p H3 H4 := KpT.ofN x4
    have I4 : RightI p Tb HB H4 := ⟨I3.pl.ext x4, I3.kp.trans K4, t4⟩
    have ym := hyX I4
    have yo := oyX K4
    obtain ⟨dxm, _, _, hm1, _, _⟩ := ym.ex
    obtain ⟨dxo, _, _, ho1, _, _⟩ := yo.ex
    refine end_add E16 E17 ym yo hd1 (fun E Q' h => ⟨.ref y, rfl, .ref y2, rfl, y, dxm, _, y2, dxo, _, rfl, rfl, hm1, ho1, spAdd_ref h⟩) fun la H5 dla k5 => ?_
    have I5 := I4.same k5
    have K5 : KpT p H3 H5 := K4.trans (.of k5)
    refine ⟨.ref ld, rfl, .ref lo, rfl, ld, lo, zs, zs2, g, g2, rfl, hdX I5, odX K5, fun v d' H6 hd' dv k6 => ?_⟩
    rw [hd1.eq hd'] at dv
    refine ⟨d1, d1, dp_same k6 _ _ dla, dv, D1.sh, D1.sh, _, rfl, ?_⟩
    rw [SeqAt.eqv_refl _ D1.lay]
    refine iteF ?_
    have I6 := I5.same k6
    have K6 : KpT p H3 H6 := K5.trans (.of k6)
    clear dv dla k6 k5 I5 I4 ym yo hm1 ho1 x4 t4 K5 K4
    -- the other way round
    refine ⟨I6.tb, fun H7 x7 t7 => ?_⟩
    have K7 : KpT p H3 H7 := K6.trans (KpT.ofN x7)
    have I7 : RightI p Tb HB H7 := ⟨I6.pl.ext x7, I6.kp.trans (KpT.ofN x7), t7⟩
    have ym := hyX I7
    have yo := oyX K7
    obtain ⟨dxm, _, _, hm1, _, _⟩ := ym.ex
    obtain ⟨dxo, _, _, ho1, _, _⟩ := yo.ex
    refine end_add E16 E17 yo ym hd2 (fun E Q' h => ⟨.ref y2, rfl, .ref y, rfl, y2, dxo, _, y, dxm, _, rfl, rfl, ho1, hm1, spAdd_ref h⟩) fun lb H8 dlb k8 => ?_
    have I8 := I7.same k8
    have K8 : KpT p H3 H8 := K7.trans (.of k8)
    refine ⟨.ref lb, rfl, .ref lo, rfl, .ref ld, rfl, lo, ld, zs2, zs, g2, g, rfl, odX K8, hdX I8, fun v d' H9 hd' dv k9 => ?_⟩
    rw [hd2.eq hd'] at dv
    have dlb9 := dp_same k9 _ _ dlb
    refine ⟨dq, dq, dlb9, dv, D2.sh, D2.sh, _, rfl, ?_⟩
    rw [SeqAt.eqv_refl _ D2.lay]
    refine iteF ?_
    have I9 := I8.same k9
    have K9 : KpT p H3 H9 := K8.trans (.of k9)
    refine ⟨fun σ' H' => ∃ e7 : Option V, σ' = [some (.ref p), some (.ref ld), some (.ref y), some (.int (0 + (i : Int))), some (.ref lo), some (.ref y2), some (.ref lb), e7] ∧ Same H9 H', ?_, ?_⟩
    · obtain ⟨tzm, tgm, hlm, hzm, hgm⟩ := (hdX I9).ex
      rw [hda2] at dlb9
      cases dlb9 with
      | lst q1 q2 =>
        cases q2 with
        | cons q3 q4 =>
          cases q3
          refine ⟨.ref lb, rfl, lb, _, 0, .str a2, rfl, rfl, q1, by exact atI_nat (j := 0) rfl, rfl, _, rfl, ?_⟩
          refine ite2 (fun h => ?_) (fun _ => ⟨_, rfl, Same.refl _⟩)
          have ea : a2 = "back" := V.str.inj (of_decide_eq_true h)
          obtain ⟨ezz, km, hmax2, hle2⟩ := hback ea
          subst ezz
          have ym := hyX I9
          have yo := oyX K9
          obtain ⟨dxm, _, _, hm1, _, _⟩ := ym.ex
          obtain ⟨dxo, _, _, ho1, _, _⟩ := yo.ex
          have sg := hgood.tb.sq
          have sg2 := hgood2.tb.sq
          refine ⟨.ref y, rfl, .ref y2, rfl, y, dxm, _, y2, dxo, _, rfl, rfl, hm1, ho1, ?_⟩
          refine ⟨y, y2, zs2, zs2, g, g2, rfl, ym, yo, fun hne => absurd rfl hne, fun _ k hmax => ?_⟩
          rw [addG_comm sg sg2] at hmax2
          have ek := hmax2.eq hmax
          subst ek
          refine ⟨fun hgt => absurd hgt (by omega), fun _ yb HA hyb kA => ⟨yb, rfl, ?_⟩⟩
          obtain ⟨dxb, _, _, hb1, _, _⟩ := hyb.ex
          refine ⟨.ref yb, rfl, yb, dxb, _, rfl, hb1, fl_no _ _ (by decide) (by decide), yb, zs2, addG g g2, rfl, hyb, fun HC kC => ?_⟩
          have kAC := kA.trans kC
          obtain ⟨tzo, tgo, hlo, hzo, hgo⟩ := (odX K9).ex
          refine ⟨.ref ld, rfl, ld, _, 1, .ref tgm, rfl, rfl, SqL.of (kAC _ _ hlm), at1, tgm, g, rfl, hgm.same kAC, by rw [sg.1]; exact n4, fun i r hr => by rw [sg.2 i r hr, sg.1], fun HD kD => ?_⟩
          have kAD := kAC.trans kD
          refine ⟨.ref lo, rfl, lo, _, 1, .ref tgo, rfl, rfl, SqL.of (kAD _ _ hlo), at1, tgo, g2, rfl, hgo.same kAD, by rw [sg2.1]; exact n4, fun i r hr => by rw [sg2.2 i r hr, sg2.1], fun HE kE => ?_⟩
          have kAE := kAD.trans kE
          refine ⟨_, _, rfl, rfl, rfl, _, rfl, ?_⟩
          rw [out_addG sg sg2, decide_eq_true rfl]
          refine iteF ?_
          have kCE := kC.trans (kD.trans kE)
          refine ⟨.ref yb, rfl, yb, dxb, _, rfl, kCE _ _ hb1, fl_no _ _ (by decide) (by decide), yb, zs2, addG g g2, rfl, hyb.same kCE, fun HF kF => ?_⟩
          have kAF := kAE.trans kF
          refine ⟨.ref y, rfl, y, dxm, _, rfl, kAF _ _ hm1, fl_no _ _ (by decide) (by decide), y, zs2, g, rfl, ym.same kAF, fun HG kG => ?_⟩
          have kAG := kAF.trans kG
          refine ⟨.ref y2, rfl, y2, dxo, _, rfl, kAG _ _ ho1, fl_no _ _ (by decide) (by decide), y2, zs2, g2, rfl, yo.same kAG, fun HH kH => ?_⟩
          refine ⟨_, _, rfl, rfl, rfl, _, rfl, ?_⟩
          rw [size_addG sg sg2, decide_eq_true rfl]
          refine iteF ?_
          exact ⟨_, rfl, kAG.trans kH⟩
    rintro σ' HK ⟨e7', rfl, kK⟩
    have IK := I9.same kK
    have KK : KpT p H3 HK := K9.trans (.of kK)
    have ym := hyX IK
    have yo := oyX KK
    obtain ⟨dxm, _, _, hm1, _, _⟩ := ym.ex
    obtain ⟨dxo, _, _, ho1, _, _⟩ := yo.ex
    refine ⟨.ref y, rfl, y, dxm, _, rfl, hm1, y, zs, g, rfl, ym, fun HL kL => ⟨_, rfl, ?_⟩⟩
    refine ⟨.ref y2, rfl, y2, dxo, _, rfl, kL _ _ ho1, y2, zs2, g2, rfl, yo.same kL, fun HM kM => ⟨_, rfl, ?_⟩⟩
    refine ⟨(by show 2 ≤ sizeLine; decide), fun s1 fs1 => ?_⟩
    have ks1 := Same.new (o := .lst [vS (sheetL zs g), vS (sheetL zs2 g2)]) fs1
    have kKM := (kL.trans kM).trans ks1
    refine ⟨.ref ld, rfl, ld, zs, g, rfl, (hdX (IK.same kKM)).u, fun HN kN => ?_⟩
    refine ⟨.ref lo, rfl, lo, zs2, g2, rfl, ((odX KK).same (kKM.trans kN)).u, fun HO kO => ?_⟩
    refine ⟨(by show 2 ≤ sizeLine; decide), fun s2 fs2 => ?_⟩
    have ks2 := Same.new (o := .lst [vS (sheetL zs g), vS (sheetL zs2 g2)]) fs2
    have kall := kKM.trans ((kN.trans kO).trans ks2)
    have DD : DOk (d2 (S (sheetL zs g)) (S (sheetL zs2 g2))) := DOk.two (sheet_sg hgood) (sheet_sg hgood2)
    refine ⟨d2 (S (sheetL zs g)) (S (sheetL zs2 g2)), d2 (S (sheetL zs g)) (S (sheetL zs2 g2)), .lst (SqL.of (((kN.trans kO).trans ks2) _ _ upd_same)) (.cons (.str _) (.cons (.str _) .nil)), .lst (SqL.of upd_same) (.cons (.str _) (.cons (.str _) .nil)), DD.sh, DD.sh, _, rfl, ?_⟩
    rw [SeqAt.eqv_refl _ DD.lay]
    refine iteF ?_
    exact ⟨_, _, _, _, _, rfl, IK.same kall⟩
  · rintro σ H1 ⟨e3, e4, e5, e6, e7, rfl, I1⟩
    exact hk H1 (kAB.trans I1.kp) I1.tb
end
end Y

set_option Elab.async false
set_option linter.all false
set_option maxRecDepth 100000
set_option maxHeartbeats 4000000
namespace Y
open PySem L2
open SX (S)
open C8 (Cal pe_c pe_gc)
open LamX (Tabs ExtN)
theorem seq_ext {K : PySem.W.Frag} {H H' : Hp} {a : Addr} {xs : List V} (k : ExtN H H') (h : SqL K H a xs) : SqL K H' a xs := by
  rcases h with (h | ⟨o, h⟩) | h
  · exact .inl (.inl (k _ _ h fun _ => nofun))
  · exact .inl (.inr ⟨o, k _ _ h fun _ => nofun⟩)
  · exact .inr h
section
variable {P : Program} {w : World} {K : PySem.W.Frag} {mg : Str → Option Value} {base : Heap} {C : Addr}
abbrev s_law : Stmt := top 82
theorem sc_law : FnScope ["_law_script", "_law_turn"] ["_law_script"] (defScope s_law) := ⟨rfl, rfl, rfl, by decide +kernel, rfl, by decide +kernel, by decide +kernel⟩
def spLaw (K : PySem.W.Frag) (Tb : List (Addr × Str)) : Sp := fun vs H Q _ => ∃ (a : Addr) (ns : List Int), vs = [.ref a] ∧ Tabs Tb H ∧ SqL K H a (ns.map V.int) ∧ (∀ z ∈ ns, Builtin.Int.intBits z ≤ 1048576) ∧ ns.length ≤ 100000 ∧ ∀ H', Q (.bl true) H'
theorem calGx {x : Str} {st : Stmt} {N ps : List Str} {k : Nat} {sp : Sp} (D : DfT K mg x st ps) (S : FnScope N ps (defScope st)) (len : ∀ vs H Q E, sp vs H Q E → vs.length = ps.length)
    (hbody : ∀ (f : Addr) (cdv : Value) (A : Around) (outer : List Env) (s : Shared) (H : Hp) (vs : List V) (Q : VK) (E : XK), Room k (A.deeper (PyProof.Rows.envOfC x (defScope st) s.heap.objs.size f cdv)) → A.guards = some [] → sp vs H Q E →
      ∃ t, PSs (cxOf CX0 P w K mg base N x (defScope st) f cdv A outer s H E).nox (defBody st) t ∧ t { nx := fun _ H' => Q .non H', rt := Q } (L2.start N vs) H) : ∃ (f : Addr) (fd : FuncData), FnG P w K mg base (k + 1) f fd ps sp ∧ mg x = some (.ref f) ∧ Fun K x x st f fd := by
  obtain ⟨f, fd, F, b, g⟩ := D.ex
  have F1 : FnG P w K mg base (k + 1) f fd ps sp := okG F S len fun cdv A outer s H vs Q E hr hG h => hbody f cdv A outer s H vs Q E hr hG h
  exact ⟨f, fd, F1, g, F⟩
theorem ok_law {Tb : List (Addr × Str)} (D : DfT K mg "law" s_law ["_law_script"]) (T : Tx K mg) (h_begun : Cal P w K mg base 1 "_law_begun" (spB K) []) (h_right : CalG P w K mg base 20 "_law_right" (spRightT Tb)) : ∃ (f : Addr) (fd : FuncData), FnG P w K mg base 21 f fd ["_law_script"] (spLaw K Tb) ∧ mg "law" = some (.ref f) ∧ Fun K "law" "law" s_law f fd := by
  have nd := sc_law.nd
  refine calGx (k := 20) D sc_law (fun vs H Q E h => by obtain ⟨a, ns, rfl, _⟩ := h; rfl) fun f cdv A outer s H vs Q E hr hG h => ?_
  let sc : Scope := defScope s_law
  refine ⟨_, (pss_one (ps_ret (pe_callB (r := rAll K) (cr_all rfl) (by rfl) T.n_all (by decide +kernel) (pa_cons (pe_lc (own := [("_law_turn", 1)]) (g := gName 1) (by rfl) nd (pi_range1 (by rfl) T.n_range (pa_cons (pe_callB (call_max2 rfl) (by rfl) T.n_max (by decide +kernel) (pa_cons pe_int (pa_cons (pe_callB (call_min2 rfl) (by rfl) T.n_min (by decide +kernel) (pa_cons (pe_callB (r := rLenQ K) call_len_seq (by rfl) T.n_len (by decide +kernel) (pa_cons (pv 0) pa_nil)) (pa_cons pe_int pa_nil))) pa_nil))) pa_nil)) (blkOk_by (own := [("_law_turn", 1)]) (N := ["_law_script", "_law_turn"]) (sc := sc) (by decide +kernel)) (fun _ _ _ _ _ => pg_name (i := 1) nd rfl (Or.inl rfl)) (fun _ _ _ _ _ => pts_nil) (fun _ _ _ _ _ => (pe_cG h_right hr (by decide) hG (by rfl) (pa_cons (pe_c h_begun hr (by decide) (by rfl) (pa_cons (pv 0) (pa_cons (pv 1) pa_nil))) pa_nil)))) pa_nil)))), ?_⟩
  obtain ⟨a, ns, rfl, hT, hs, hbits, hlen, hk⟩ := h
  refine ⟨.ref a, rfl, a, _, rfl, .inl hs, _, 5, rfl, 2, _, rfl, _, rfl, ?_⟩
  generalize hm : (if (5 : Int) < ((ns.map V.int).length : Int) then (5 : Int) else ((ns.map V.int).length : Int)) = m0
  generalize hj : (if m0 > 2 then m0 else 2) = j
  have hj2 : 2 ≤ j ∧ j ≤ 5 := by
    have : m0 ≤ 5 := by
      rw [← hm]
      split <;> omega
    rw [← hj]
    split <;> omega
  refine ⟨by omega, by omega, fun Dl hD => ?_⟩
  refine ⟨fun i m H2 => ∃ bs : List Bool, i ≤ j.toNat ∧ m = j.toNat - i ∧ bs.length = i ∧ bs.all id = true ∧ H2 Dl = some (.lst (bs.map V.bl)) ∧ ExtN H H2 ∧ Tabs Tb H2, ⟨j.toNat, [], Nat.zero_le _, rfl, rfl, rfl, upd_same, ExtN.of (Same.new hD), hT.ext (Same.new hD)⟩, ?_⟩
  rintro i m H2 ⟨bs, hi, rfl, hl, hall, hDl, hkp, hT2⟩
  by_cases hi2 : i = j.toNat
  · refine .inl ⟨by show j.toNat ≤ i; omega, Dl, bs, rfl, SqL.of hDl, ?_⟩
    rw [hall]
    exact hk H2
  · refine .inr ⟨by show i < j.toNat; omega, fun H2 => ∃ bs : List Bool, bs.length = i + 1 ∧ bs.all id = true ∧ H2 Dl = some (.lst (bs.map V.bl)) ∧ ExtN H H2 ∧ Tabs Tb H2, fun H' hN => ?_, fun x H' hx => ?_⟩
    · obtain ⟨bs', h1, h2, h3, h4⟩ := hN
      exact ⟨j.toNat - (i + 1), by omega, bs', by omega, rfl, h1, h2, h3, h4⟩
    · obtain ⟨rfl, rfl⟩ := hx
      refine ⟨rfl, ?_⟩
      refine ⟨.ref a, rfl, .int (0 + i), rfl, a, 0 + i, ns, rfl, ⟨by omega, by omega⟩, seq_ext hkp hs, hbits, fun q H3 hq hk3 hP => ?_⟩
      refine ⟨q, rfl, hP, hT2.ext hk3, fun H4 hk4 t4 => ?_⟩
      have hDq : Dl ≠ q := ne_of_none hDl hq
      have hD4 : H4 Dl = some (.lst (bs.map V.bl)) := hk4 _ _ (hk3 _ _ hDl) hDq fun _ => nofun
      refine ⟨bs.map V.bl, hD4, ?_, bs ++ [true], by simp [hl], by simp [hall], ?_, fun b o e nt => ?_, tabs_updL t4 hD4⟩
      · rw [List.length_map, hl]
        exact Nat.lt_of_lt_of_le (show i < 5 by omega) (by decide)
      · rw [upd_same, List.map_append]
        rfl
      · have e2 := hkp b o e nt
        rw [upd_ne (fun z => by subst z; rw [hD] at e; cases e)]
        exact hk4 _ _ (hk3 _ _ e2) (ne_of_none e2 hq) nt
end
end Y

-- inits
set_option Elab.async false
set_option linter.all false
set_option maxRecDepth 100000
namespace Y
open PySem L2
abbrev s_ini_InvalidKinds : Stmt := inClass (top 11) 0
theorem ini_InvalidKinds : IniT s_ini_InvalidKinds "index" := ⟨⟨_, _, rfl⟩, ⟨_, _, _, _, rfl⟩, rfl⟩
abbrev s_ini_InvalidRows : Stmt := inClass (top 12) 0
theorem ini_InvalidRows : IniT s_ini_InvalidRows "index" := ⟨⟨_, _, rfl⟩, ⟨_, _, _, _, rfl⟩, rfl⟩
abbrev s_ini_Unbalanced : Stmt := inClass (top 19) 0
theorem ini_Unbalanced : IniT s_ini_Unbalanced "given" := ⟨⟨_, _, rfl⟩, ⟨_, _, _, _, rfl⟩, rfl⟩
abbrev s_ini_TooGreat : Stmt := inClass (top 22) 0
theorem ini_TooGreat : IniT s_ini_TooGreat "given" := ⟨⟨_, _, rfl⟩, ⟨_, _, _, _, rfl⟩, rfl⟩
abbrev s_ini_OtherKinds : Stmt := inClass (top 21) 0
theorem ini_OtherKinds : IniT s_ini_OtherKinds "given" := ⟨⟨_, _, rfl⟩, ⟨_, _, _, _, rfl⟩, rfl⟩
abbrev s_ini_InvalidText : Stmt := inClass (top 3) 0
theorem ini_InvalidText : IniT s_ini_InvalidText "given" := ⟨⟨_, _, rfl⟩, ⟨_, _, _, _, rfl⟩, rfl⟩
end Y

set_option Elab.async false
set_option linter.all false
set_option maxRecDepth 100000
set_option maxHeartbeats 16000000
namespace Y
open PySem L2
open SX (S)
def zNames : List Str := ["len", "int", "abs", "str", "list", "tuple", "divmod", "isinstance", "range", "enumerate", "zip", "repr", "bool", "sum", "all", "max", "min", "set"]
def chkZ (K : PySem.W.Frag) : Bool := zNames.all fun x => PySem.W.nsIn K mainGlobals x == some none
theorem z_of {K : PySem.W.Frag} {h : Heap} {mg : Str → Option Value} (X : K.In h) (G : h.Ns mainGlobals mg) (z : chkZ K = true) {x : Str} (hx : x ∈ zNames) : mg x = none :=
  PySem.W.mg_none_of X G (beq_iff_eq.mp (List.all_eq_true.mp z x hx))
theorem all_mk {l : PySem.W.OpenLaw} {w : World} {K : PySem.W.Frag} {h : Heap} {mg : Str → Option Value} {fa : Addr} (X : K.In h) (G : h.Ns mainGlobals mg) (hfa : mg "law" = some (.ref fa)) {C : Addr} (aC : PySem.W.nsIn K mainGlobals "Yard" = some (some (.ref C)))
    (pg : PySem.W.plainGet K C Str.empty = true)
    (hd : PySem.W.hasDictIn K C = true)
    (po : PySem.W.plainOver K C = true)
    (sa : PySem.W.findIn K (.ref C) "__setattr__" = some (some (.builtin "object.__setattr__")))
    (nK : PySem.W.findIn K (.ref C) "_kinds" = some none)
    (nR : PySem.W.findIn K (.ref C) "_rows" = some none)
    (mki : PySem.W.makesIn K C = true)
    (kpC : PySem.W.keepIn K (.ref C) = true)
    (sBool : PySem.W.findIn K (.ref C) "__bool__" = some none)
    (rd : PySem.W.readsIn K C (.type "type") = true)
    (ga : PySem.W.specialIn K (.ref C) "__getattribute__" = some (some (.builtin "type.__getattribute__")))
    (yha : PySem.W.findIn K (.ref C) "__class__" = some (some (.builtin "object.__class__")))
    (yhn : PySem.W.specialIn K (.builtin "object.__class__") "__get__" = some (some (.builtin "getset_descriptor.__get__")))
    (yht : PySem.W.takesIn K (.builtin "object.__class__") = some true)
    (yhm : PySem.W.mroIn K C (.type "object") = some true)
    {f_m_eq : Addr}
    (i_eq : PySem.W.findIn K (.ref C) "__eq__" = some (some (.ref f_m_eq)))
    (n_eq : PySem.W.isFn K (.ref f_m_eq) = true)
    (sfC : PySem.W.selfFirst K C = true)
    {f_m_init : Addr} {od_m_init an_m_init : Option Addr} {sl_m_init : Array (Option Value)} {oc_m_init kV_m_init dc_m_init pm_m_init cd_m_init ct_m_init : Value}
    (i_init : PySem.W.findIn K (.ref C) "__init__" = some (some (.ref f_m_init)))
    (n_init : PySem.W.isFn K (.ref f_m_init) = true)
    (l_m_init : K.lookup f_m_init = some ⟨oc_m_init, od_m_init, .func (PySem.W.fnOf "__init__" "Yard.__init__" (defArgs s_init) (defBody s_init) (defScope s_init) .none kV_m_init dc_m_init pm_m_init an_m_init cd_m_init ct_m_init), sl_m_init⟩) (c_m_init : PySem.W.codeIn K cd_m_init "Yard.__init__" = true) (k_m_init : PySem.W.keepIn K (.ref f_m_init) = true)
    {f_m_kinds : Addr} {od_m_kinds an_m_kinds : Option Addr} {sl_m_kinds : Array (Option Value)} {oc_m_kinds kV_m_kinds dc_m_kinds pm_m_kinds cd_m_kinds ct_m_kinds : Value} {p_kinds : Addr} {rs_kinds : List Value}
    (i_kinds : PySem.W.findIn K (.ref C) "kinds" = some (some (.ref p_kinds)))
    (g_kinds : PySem.W.specialIn K (.ref p_kinds) "__get__" = some (some (.builtin "property.__get__")))
    (t_kinds : PySem.W.takesIn K (.ref p_kinds) = some true)
    (r_kinds : PySem.W.recIn K p_kinds "property" = some (.ref f_m_kinds :: rs_kinds))
    (l_m_kinds : K.lookup f_m_kinds = some ⟨oc_m_kinds, od_m_kinds, .func (PySem.W.fnOf "kinds" "Yard.kinds" (defArgs s_kinds) (defBody s_kinds) (defScope s_kinds) .none kV_m_kinds dc_m_kinds pm_m_kinds an_m_kinds cd_m_kinds ct_m_kinds), sl_m_kinds⟩) (c_m_kinds : PySem.W.codeIn K cd_m_kinds "Yard.kinds" = true) (k_m_kinds : PySem.W.keepIn K (.ref f_m_kinds) = true)
    {f_m_rows : Addr} {od_m_rows an_m_rows : Option Addr} {sl_m_rows : Array (Option Value)} {oc_m_rows kV_m_rows dc_m_rows pm_m_rows cd_m_rows ct_m_rows : Value} {p_rows : Addr} {rs_rows : List Value}
    (i_rows : PySem.W.findIn K (.ref C) "rows" = some (some (.ref p_rows)))
    (g_rows : PySem.W.specialIn K (.ref p_rows) "__get__" = some (some (.builtin "property.__get__")))
    (t_rows : PySem.W.takesIn K (.ref p_rows) = some true)
    (r_rows : PySem.W.recIn K p_rows "property" = some (.ref f_m_rows :: rs_rows))
    (l_m_rows : K.lookup f_m_rows = some ⟨oc_m_rows, od_m_rows, .func (PySem.W.fnOf "rows" "Yard.rows" (defArgs s_rows) (defBody s_rows) (defScope s_rows) .none kV_m_rows dc_m_rows pm_m_rows an_m_rows cd_m_rows ct_m_rows), sl_m_rows⟩) (c_m_rows : PySem.W.codeIn K cd_m_rows "Yard.rows" = true) (k_m_rows : PySem.W.keepIn K (.ref f_m_rows) = true)
    {f_m_len : Addr} {od_m_len an_m_len : Option Addr} {sl_m_len : Array (Option Value)} {oc_m_len kV_m_len dc_m_len pm_m_len cd_m_len ct_m_len : Value}
    (i_len : PySem.W.findIn K (.ref C) "__len__" = some (some (.ref f_m_len)))
    (n_len : PySem.W.isFn K (.ref f_m_len) = true)
    (l_m_len : K.lookup f_m_len = some ⟨oc_m_len, od_m_len, .func (PySem.W.fnOf "__len__" "Yard.__len__" (defArgs s_len) (defBody s_len) (defScope s_len) .none kV_m_len dc_m_len pm_m_len an_m_len cd_m_len ct_m_len), sl_m_len⟩) (c_m_len : PySem.W.codeIn K cd_m_len "Yard.__len__" = true) (k_m_len : PySem.W.keepIn K (.ref f_m_len) = true)
    {f_m_str : Addr} {od_m_str an_m_str : Option Addr} {sl_m_str : Array (Option Value)} {oc_m_str kV_m_str dc_m_str pm_m_str cd_m_str ct_m_str : Value}
    (i_str : PySem.W.findIn K (.ref C) "__str__" = some (some (.ref f_m_str)))
    (n_str : PySem.W.isFn K (.ref f_m_str) = true)
    (l_m_str : K.lookup f_m_str = some ⟨oc_m_str, od_m_str, .func (PySem.W.fnOf "__str__" "Yard.__str__" (defArgs s_str) (defBody s_str) (defScope s_str) .none kV_m_str dc_m_str pm_m_str an_m_str cd_m_str ct_m_str), sl_m_str⟩) (c_m_str : PySem.W.codeIn K cd_m_str "Yard.__str__" = true) (k_m_str : PySem.W.keepIn K (.ref f_m_str) = true)
    {f_m_repr : Addr} {od_m_repr an_m_repr : Option Addr} {sl_m_repr : Array (Option Value)} {oc_m_repr kV_m_repr dc_m_repr pm_m_repr cd_m_repr ct_m_repr : Value}
    (i_repr : PySem.W.findIn K (.ref C) "__repr__" = some (some (.ref f_m_repr)))
    (n_repr : PySem.W.isFn K (.ref f_m_repr) = true)
    (l_m_repr : K.lookup f_m_repr = some ⟨oc_m_repr, od_m_repr, .func (PySem.W.fnOf "__repr__" "Yard.__repr__" (defArgs s_repr) (defBody s_repr) (defScope s_repr) .none kV_m_repr dc_m_repr pm_m_repr an_m_repr cd_m_repr ct_m_repr), sl_m_repr⟩) (c_m_repr : PySem.W.codeIn K cd_m_repr "Yard.__repr__" = true) (k_m_repr : PySem.W.keepIn K (.ref f_m_repr) = true)
    {f_m_read : Addr} {od_m_read an_m_read : Option Addr} {sl_m_read : Array (Option Value)} {oc_m_read kV_m_read dc_m_read pm_m_read cd_m_read ct_m_read : Value} {p_read : Addr} {rs_read : List Value}
    (i_read : PySem.W.findCls K (.ref C) (.type "type") "read" = some (.get (.builtin "classmethod.__get__") (.ref p_read) .none (.ref C)))
    (r_read : PySem.W.recIn K p_read "classmethod" = some (.ref f_m_read :: rs_read))
    (n_read : PySem.W.fnIn K f_m_read = true)
    (l_m_read : K.lookup f_m_read = some ⟨oc_m_read, od_m_read, .func (PySem.W.fnOf "read" "Yard.read" (defArgs s_read) (defBody s_read) (defScope s_read) .none kV_m_read dc_m_read pm_m_read an_m_read cd_m_read ct_m_read), sl_m_read⟩) (c_m_read : PySem.W.codeIn K cd_m_read "Yard.read" = true) (k_m_read : PySem.W.keepIn K (.ref f_m_read) = true)
    {f_m_add : Addr} {od_m_add an_m_add : Option Addr} {sl_m_add : Array (Option Value)} {oc_m_add kV_m_add dc_m_add pm_m_add cd_m_add ct_m_add : Value}
    (i_add : PySem.W.findIn K (.ref C) "__add__" = some (some (.ref f_m_add)))
    (n_add : PySem.W.isFn K (.ref f_m_add) = true)
    (l_m_add : K.lookup f_m_add = some ⟨oc_m_add, od_m_add, .func (PySem.W.fnOf "__add__" "Yard.__add__" (defArgs s_add) (defBody s_add) (defScope s_add) .none kV_m_add dc_m_add pm_m_add an_m_add cd_m_add ct_m_add), sl_m_add⟩) (c_m_add : PySem.W.codeIn K cd_m_add "Yard.__add__" = true) (k_m_add : PySem.W.keepIn K (.ref f_m_add) = true)
    {f_m_size : Addr} {od_m_size an_m_size : Option Addr} {sl_m_size : Array (Option Value)} {oc_m_size kV_m_size dc_m_size pm_m_size cd_m_size ct_m_size : Value}
    (i_size : PySem.W.findIn K (.ref C) "size" = some (some (.ref f_m_size)))
    (n_size : PySem.W.isFn K (.ref f_m_size) = true)
    (l_m_size : K.lookup f_m_size = some ⟨oc_m_size, od_m_size, .func (PySem.W.fnOf "size" "Yard.size" (defArgs s_size) (defBody s_size) (defScope s_size) .none kV_m_size dc_m_size pm_m_size an_m_size cd_m_size ct_m_size), sl_m_size⟩) (c_m_size : PySem.W.codeIn K cd_m_size "Yard.size" = true) (k_m_size : PySem.W.keepIn K (.ref f_m_size) = true)
    {f_m_out : Addr} {od_m_out an_m_out : Option Addr} {sl_m_out : Array (Option Value)} {oc_m_out kV_m_out dc_m_out pm_m_out cd_m_out ct_m_out : Value}
    (i_out : PySem.W.findIn K (.ref C) "out" = some (some (.ref f_m_out)))
    (n_out : PySem.W.isFn K (.ref f_m_out) = true)
    (l_m_out : K.lookup f_m_out = some ⟨oc_m_out, od_m_out, .func (PySem.W.fnOf "out" "Yard.out" (defArgs s_out) (defBody s_out) (defScope s_out) .none kV_m_out dc_m_out pm_m_out an_m_out cd_m_out ct_m_out), sl_m_out⟩) (c_m_out : PySem.W.codeIn K cd_m_out "Yard.out" = true) (k_m_out : PySem.W.keepIn K (.ref f_m_out) = true)
    {f_cast : Addr} {od_cast an_cast : Option Addr} {sl_cast : Array (Option Value)} {oc_cast kV_cast dc_cast pm_cast cd_cast ct_cast : Value}
    (a_cast : PySem.W.nsIn K mainGlobals "_law_cast" = some (some (.ref f_cast)))
    (l_cast : K.lookup f_cast = some ⟨oc_cast, od_cast, .func (PySem.W.fnOf "_law_cast" "_law_cast" (defArgs s_cast) (defBody s_cast) (defScope s_cast) .none kV_cast dc_cast pm_cast an_cast cd_cast ct_cast), sl_cast⟩) (c_cast : PySem.W.codeIn K cd_cast "_law_cast" = true) (k_cast : PySem.W.keepIn K (.ref f_cast) = true)
    {f_any_of : Addr} {od_any_of an_any_of : Option Addr} {sl_any_of : Array (Option Value)} {oc_any_of kV_any_of dc_any_of pm_any_of cd_any_of ct_any_of : Value}
    (a_any_of : PySem.W.nsIn K mainGlobals "_law_any_of" = some (some (.ref f_any_of)))
    (l_any_of : K.lookup f_any_of = some ⟨oc_any_of, od_any_of, .func (PySem.W.fnOf "_law_any_of" "_law_any_of" (defArgs s_any_of) (defBody s_any_of) (defScope s_any_of) .none kV_any_of dc_any_of pm_any_of an_any_of cd_any_of ct_any_of), sl_any_of⟩) (c_any_of : PySem.W.codeIn K cd_any_of "_law_any_of" = true) (k_any_of : PySem.W.keepIn K (.ref f_any_of) = true)
    {f_vast : Addr} {od_vast an_vast : Option Addr} {sl_vast : Array (Option Value)} {oc_vast kV_vast dc_vast pm_vast cd_vast ct_vast : Value}
    (a_vast : PySem.W.nsIn K mainGlobals "_law_vast" = some (some (.ref f_vast)))
    (l_vast : K.lookup f_vast = some ⟨oc_vast, od_vast, .func (PySem.W.fnOf "_law_vast" "_law_vast" (defArgs s_vast) (defBody s_vast) (defScope s_vast) .none kV_vast dc_vast pm_vast an_vast cd_vast ct_vast), sl_vast⟩) (c_vast : PySem.W.codeIn K cd_vast "_law_vast" = true) (k_vast : PySem.W.keepIn K (.ref f_vast) = true)
    {f_amount : Addr} {od_amount an_amount : Option Addr} {sl_amount : Array (Option Value)} {oc_amount kV_amount dc_amount pm_amount cd_amount ct_amount : Value}
    (a_amount : PySem.W.nsIn K mainGlobals "_law_amount" = some (some (.ref f_amount)))
    (l_amount : K.lookup f_amount = some ⟨oc_amount, od_amount, .func (PySem.W.fnOf "_law_amount" "_law_amount" (defArgs s_amount) (defBody s_amount) (defScope s_amount) .none kV_amount dc_amount pm_amount an_amount cd_amount ct_amount), sl_amount⟩) (c_amount : PySem.W.codeIn K cd_amount "_law_amount" = true) (k_amount : PySem.W.keepIn K (.ref f_amount) = true)
    {f_drawn_title : Addr} {od_drawn_title an_drawn_title : Option Addr} {sl_drawn_title : Array (Option Value)} {oc_drawn_title kV_drawn_title dc_drawn_title pm_drawn_title cd_drawn_title ct_drawn_title : Value}
    (a_drawn_title : PySem.W.nsIn K mainGlobals "_law_drawn_title" = some (some (.ref f_drawn_title)))
    (l_drawn_title : K.lookup f_drawn_title = some ⟨oc_drawn_title, od_drawn_title, .func (PySem.W.fnOf "_law_drawn_title" "_law_drawn_title" (defArgs s_drawn_title) (defBody s_drawn_title) (defScope s_drawn_title) .none kV_drawn_title dc_drawn_title pm_drawn_title an_drawn_title cd_drawn_title ct_drawn_title), sl_drawn_title⟩) (c_drawn_title : PySem.W.codeIn K cd_drawn_title "_law_drawn_title" = true) (k_drawn_title : PySem.W.keepIn K (.ref f_drawn_title) = true)
    {f_titles : Addr} {od_titles an_titles : Option Addr} {sl_titles : Array (Option Value)} {oc_titles kV_titles dc_titles pm_titles cd_titles ct_titles : Value}
    (a_titles : PySem.W.nsIn K mainGlobals "_law_titles" = some (some (.ref f_titles)))
    (l_titles : K.lookup f_titles = some ⟨oc_titles, od_titles, .func (PySem.W.fnOf "_law_titles" "_law_titles" (defArgs s_titles) (defBody s_titles) (defScope s_titles) .none kV_titles dc_titles pm_titles an_titles cd_titles ct_titles), sl_titles⟩) (c_titles : PySem.W.codeIn K cd_titles "_law_titles" = true) (k_titles : PySem.W.keepIn K (.ref f_titles) = true)
    {f_drawn_ring : Addr} {od_drawn_ring an_drawn_ring : Option Addr} {sl_drawn_ring : Array (Option Value)} {oc_drawn_ring kV_drawn_ring dc_drawn_ring pm_drawn_ring cd_drawn_ring ct_drawn_ring : Value}
    (a_drawn_ring : PySem.W.nsIn K mainGlobals "_law_drawn_ring" = some (some (.ref f_drawn_ring)))
    (l_drawn_ring : K.lookup f_drawn_ring = some ⟨oc_drawn_ring, od_drawn_ring, .func (PySem.W.fnOf "_law_drawn_ring" "_law_drawn_ring" (defArgs s_drawn_ring) (defBody s_drawn_ring) (defScope s_drawn_ring) .none kV_drawn_ring dc_drawn_ring pm_drawn_ring an_drawn_ring cd_drawn_ring ct_drawn_ring), sl_drawn_ring⟩) (c_drawn_ring : PySem.W.codeIn K cd_drawn_ring "_law_drawn_ring" = true) (k_drawn_ring : PySem.W.keepIn K (.ref f_drawn_ring) = true)
    {f_with_ring : Addr} {od_with_ring an_with_ring : Option Addr} {sl_with_ring : Array (Option Value)} {oc_with_ring kV_with_ring dc_with_ring pm_with_ring cd_with_ring ct_with_ring : Value}
    (a_with_ring : PySem.W.nsIn K mainGlobals "_law_with_ring" = some (some (.ref f_with_ring)))
    (l_with_ring : K.lookup f_with_ring = some ⟨oc_with_ring, od_with_ring, .func (PySem.W.fnOf "_law_with_ring" "_law_with_ring" (defArgs s_with_ring) (defBody s_with_ring) (defScope s_with_ring) .none kV_with_ring dc_with_ring pm_with_ring an_with_ring cd_with_ring ct_with_ring), sl_with_ring⟩) (c_with_ring : PySem.W.codeIn K cd_with_ring "_law_with_ring" = true) (k_with_ring : PySem.W.keepIn K (.ref f_with_ring) = true)
    {f_drawn_grid : Addr} {od_drawn_grid an_drawn_grid : Option Addr} {sl_drawn_grid : Array (Option Value)} {oc_drawn_grid kV_drawn_grid dc_drawn_grid pm_drawn_grid cd_drawn_grid ct_drawn_grid : Value}
    (a_drawn_grid : PySem.W.nsIn K mainGlobals "_law_drawn_grid" = some (some (.ref f_drawn_grid)))
    (l_drawn_grid : K.lookup f_drawn_grid = some ⟨oc_drawn_grid, od_drawn_grid, .func (PySem.W.fnOf "_law_drawn_grid" "_law_drawn_grid" (defArgs s_drawn_grid) (defBody s_drawn_grid) (defScope s_drawn_grid) .none kV_drawn_grid dc_drawn_grid pm_drawn_grid an_drawn_grid cd_drawn_grid ct_drawn_grid), sl_drawn_grid⟩) (c_drawn_grid : PySem.W.codeIn K cd_drawn_grid "_law_drawn_grid" = true) (k_drawn_grid : PySem.W.keepIn K (.ref f_drawn_grid) = true)
    {f_is_integer : Addr} {od_is_integer an_is_integer : Option Addr} {sl_is_integer : Array (Option Value)} {oc_is_integer kV_is_integer dc_is_integer pm_is_integer cd_is_integer ct_is_integer : Value}
    (a_is_integer : PySem.W.nsIn K mainGlobals "is_integer" = some (some (.ref f_is_integer)))
    (l_is_integer : K.lookup f_is_integer = some ⟨oc_is_integer, od_is_integer, .func (PySem.W.fnOf "is_integer" "is_integer" (defArgs s_is_integer) (defBody s_is_integer) (defScope s_is_integer) .none kV_is_integer dc_is_integer pm_is_integer an_is_integer cd_is_integer ct_is_integer), sl_is_integer⟩) (c_is_integer : PySem.W.codeIn K cd_is_integer "is_integer" = true) (k_is_integer : PySem.W.keepIn K (.ref f_is_integer) = true)
    {f_is_number : Addr} {od_is_number an_is_number : Option Addr} {sl_is_number : Array (Option Value)} {oc_is_number kV_is_number dc_is_number pm_is_number cd_is_number ct_is_number : Value}
    (a_is_number : PySem.W.nsIn K mainGlobals "is_number" = some (some (.ref f_is_number)))
    (l_is_number : K.lookup f_is_number = some ⟨oc_is_number, od_is_number, .func (PySem.W.fnOf "is_number" "is_number" (defArgs s_is_number) (defBody s_is_number) (defScope s_is_number) .none kV_is_number dc_is_number pm_is_number an_is_number cd_is_number ct_is_number), sl_is_number⟩) (c_is_number : PySem.W.codeIn K cd_is_number "is_number" = true) (k_is_number : PySem.W.keepIn K (.ref f_is_number) = true)
    {f_is_row : Addr} {od_is_row an_is_row : Option Addr} {sl_is_row : Array (Option Value)} {oc_is_row kV_is_row dc_is_row pm_is_row cd_is_row ct_is_row : Value}
    (a_is_row : PySem.W.nsIn K mainGlobals "is_row" = some (some (.ref f_is_row)))
    (l_is_row : K.lookup f_is_row = some ⟨oc_is_row, od_is_row, .func (PySem.W.fnOf "is_row" "is_row" (defArgs s_is_row) (defBody s_is_row) (defScope s_is_row) .none kV_is_row dc_is_row pm_is_row an_is_row cd_is_row ct_is_row), sl_is_row⟩) (c_is_row : PySem.W.codeIn K cd_is_row "is_row" = true) (k_is_row : PySem.W.keepIn K (.ref f_is_row) = true)
    {f_is_name : Addr} {od_is_name an_is_name : Option Addr} {sl_is_name : Array (Option Value)} {oc_is_name kV_is_name dc_is_name pm_is_name cd_is_name ct_is_name : Value}
    (a_is_name : PySem.W.nsIn K mainGlobals "is_name" = some (some (.ref f_is_name)))
    (l_is_name : K.lookup f_is_name = some ⟨oc_is_name, od_is_name, .func (PySem.W.fnOf "is_name" "is_name" (defArgs s_is_name) (defBody s_is_name) (defScope s_is_name) .none kV_is_name dc_is_name pm_is_name an_is_name cd_is_name ct_is_name), sl_is_name⟩) (c_is_name : PySem.W.codeIn K cd_is_name "is_name" = true) (k_is_name : PySem.W.keepIn K (.ref f_is_name) = true)
    {f_row_line : Addr} {od_row_line an_row_line : Option Addr} {sl_row_line : Array (Option Value)} {oc_row_line kV_row_line dc_row_line pm_row_line cd_row_line ct_row_line : Value}
    (a_row_line : PySem.W.nsIn K mainGlobals "row_line" = some (some (.ref f_row_line)))
    (l_row_line : K.lookup f_row_line = some ⟨oc_row_line, od_row_line, .func (PySem.W.fnOf "row_line" "row_line" (defArgs s_row_line) (defBody s_row_line) (defScope s_row_line) .none kV_row_line dc_row_line pm_row_line an_row_line cd_row_line ct_row_line), sl_row_line⟩) (c_row_line : PySem.W.codeIn K cd_row_line "row_line" = true) (k_row_line : PySem.W.keepIn K (.ref f_row_line) = true)
    {f_text_lines : Addr} {od_text_lines an_text_lines : Option Addr} {sl_text_lines : Array (Option Value)} {oc_text_lines kV_text_lines dc_text_lines pm_text_lines cd_text_lines ct_text_lines : Value}
    (a_text_lines : PySem.W.nsIn K mainGlobals "text_lines" = some (some (.ref f_text_lines)))
    (l_text_lines : K.lookup f_text_lines = some ⟨oc_text_lines, od_text_lines, .func (PySem.W.fnOf "text_lines" "text_lines" (defArgs s_text_lines) (defBody s_text_lines) (defScope s_text_lines) .none kV_text_lines dc_text_lines pm_text_lines an_text_lines cd_text_lines ct_text_lines), sl_text_lines⟩) (c_text_lines : PySem.W.codeIn K cd_text_lines "text_lines" = true) (k_text_lines : PySem.W.keepIn K (.ref f_text_lines) = true)
    {f_number_of : Addr} {od_number_of an_number_of : Option Addr} {sl_number_of : Array (Option Value)} {oc_number_of kV_number_of dc_number_of pm_number_of cd_number_of ct_number_of : Value}
    (a_number_of : PySem.W.nsIn K mainGlobals "number_of" = some (some (.ref f_number_of)))
    (l_number_of : K.lookup f_number_of = some ⟨oc_number_of, od_number_of, .func (PySem.W.fnOf "number_of" "number_of" (defArgs s_number_of) (defBody s_number_of) (defScope s_number_of) .none kV_number_of dc_number_of pm_number_of an_number_of cd_number_of ct_number_of), sl_number_of⟩) (c_number_of : PySem.W.codeIn K cd_number_of "number_of" = true) (k_number_of : PySem.W.keepIn K (.ref f_number_of) = true)
    {f_kinds_of_text : Addr} {od_kinds_of_text an_kinds_of_text : Option Addr} {sl_kinds_of_text : Array (Option Value)} {oc_kinds_of_text kV_kinds_of_text dc_kinds_of_text pm_kinds_of_text cd_kinds_of_text ct_kinds_of_text : Value}
    (a_kinds_of_text : PySem.W.nsIn K mainGlobals "kinds_of_text" = some (some (.ref f_kinds_of_text)))
    (l_kinds_of_text : K.lookup f_kinds_of_text = some ⟨oc_kinds_of_text, od_kinds_of_text, .func (PySem.W.fnOf "kinds_of_text" "kinds_of_text" (defArgs s_kinds_of_text) (defBody s_kinds_of_text) (defScope s_kinds_of_text) .none kV_kinds_of_text dc_kinds_of_text pm_kinds_of_text an_kinds_of_text cd_kinds_of_text ct_kinds_of_text), sl_kinds_of_text⟩) (c_kinds_of_text : PySem.W.codeIn K cd_kinds_of_text "kinds_of_text" = true) (k_kinds_of_text : PySem.W.keepIn K (.ref f_kinds_of_text) = true)
    {f_numbers_of_line : Addr} {od_numbers_of_line an_numbers_of_line : Option Addr} {sl_numbers_of_line : Array (Option Value)} {oc_numbers_of_line kV_numbers_of_line dc_numbers_of_line pm_numbers_of_line cd_numbers_of_line ct_numbers_of_line : Value}
    (a_numbers_of_line : PySem.W.nsIn K mainGlobals "numbers_of_line" = some (some (.ref f_numbers_of_line)))
    (l_numbers_of_line : K.lookup f_numbers_of_line = some ⟨oc_numbers_of_line, od_numbers_of_line, .func (PySem.W.fnOf "numbers_of_line" "numbers_of_line" (defArgs s_numbers_of_line) (defBody s_numbers_of_line) (defScope s_numbers_of_line) .none kV_numbers_of_line dc_numbers_of_line pm_numbers_of_line an_numbers_of_line cd_numbers_of_line ct_numbers_of_line), sl_numbers_of_line⟩) (c_numbers_of_line : PySem.W.codeIn K cd_numbers_of_line "numbers_of_line" = true) (k_numbers_of_line : PySem.W.keepIn K (.ref f_numbers_of_line) = true)
    {f_rows_of_text : Addr} {od_rows_of_text an_rows_of_text : Option Addr} {sl_rows_of_text : Array (Option Value)} {oc_rows_of_text kV_rows_of_text dc_rows_of_text pm_rows_of_text cd_rows_of_text ct_rows_of_text : Value}
    (a_rows_of_text : PySem.W.nsIn K mainGlobals "rows_of_text" = some (some (.ref f_rows_of_text)))
    (l_rows_of_text : K.lookup f_rows_of_text = some ⟨oc_rows_of_text, od_rows_of_text, .func (PySem.W.fnOf "rows_of_text" "rows_of_text" (defArgs s_rows_of_text) (defBody s_rows_of_text) (defScope s_rows_of_text) .none kV_rows_of_text dc_rows_of_text pm_rows_of_text an_rows_of_text cd_rows_of_text ct_rows_of_text), sl_rows_of_text⟩) (c_rows_of_text : PySem.W.codeIn K cd_rows_of_text "rows_of_text" = true) (k_rows_of_text : PySem.W.keepIn K (.ref f_rows_of_text) = true)
    {f_check_kinds : Addr} {od_check_kinds an_check_kinds : Option Addr} {sl_check_kinds : Array (Option Value)} {oc_check_kinds kV_check_kinds dc_check_kinds pm_check_kinds cd_check_kinds ct_check_kinds : Value}
    (a_check_kinds : PySem.W.nsIn K mainGlobals "check_kinds" = some (some (.ref f_check_kinds)))
    (l_check_kinds : K.lookup f_check_kinds = some ⟨oc_check_kinds, od_check_kinds, .func (PySem.W.fnOf "check_kinds" "check_kinds" (defArgs s_check_kinds) (defBody s_check_kinds) (defScope s_check_kinds) .none kV_check_kinds dc_check_kinds pm_check_kinds an_check_kinds cd_check_kinds ct_check_kinds), sl_check_kinds⟩) (c_check_kinds : PySem.W.codeIn K cd_check_kinds "check_kinds" = true) (k_check_kinds : PySem.W.keepIn K (.ref f_check_kinds) = true)
    {f_check_rows : Addr} {od_check_rows an_check_rows : Option Addr} {sl_check_rows : Array (Option Value)} {oc_check_rows kV_check_rows dc_check_rows pm_check_rows cd_check_rows ct_check_rows : Value}
    (a_check_rows : PySem.W.nsIn K mainGlobals "check_rows" = some (some (.ref f_check_rows)))
    (l_check_rows : K.lookup f_check_rows = some ⟨oc_check_rows, od_check_rows, .func (PySem.W.fnOf "check_rows" "check_rows" (defArgs s_check_rows) (defBody s_check_rows) (defScope s_check_rows) .none kV_check_rows dc_check_rows pm_check_rows an_check_rows cd_check_rows ct_check_rows), sl_check_rows⟩) (c_check_rows : PySem.W.codeIn K cd_check_rows "check_rows" = true) (k_check_rows : PySem.W.keepIn K (.ref f_check_rows) = true)
    {f_unbalanced_at : Addr} {od_unbalanced_at an_unbalanced_at : Option Addr} {sl_unbalanced_at : Array (Option Value)} {oc_unbalanced_at kV_unbalanced_at dc_unbalanced_at pm_unbalanced_at cd_unbalanced_at ct_unbalanced_at : Value}
    (a_unbalanced_at : PySem.W.nsIn K mainGlobals "unbalanced_at" = some (some (.ref f_unbalanced_at)))
    (l_unbalanced_at : K.lookup f_unbalanced_at = some ⟨oc_unbalanced_at, od_unbalanced_at, .func (PySem.W.fnOf "unbalanced_at" "unbalanced_at" (defArgs s_unbalanced_at) (defBody s_unbalanced_at) (defScope s_unbalanced_at) .none kV_unbalanced_at dc_unbalanced_at pm_unbalanced_at an_unbalanced_at cd_unbalanced_at ct_unbalanced_at), sl_unbalanced_at⟩) (c_unbalanced_at : PySem.W.codeIn K cd_unbalanced_at "unbalanced_at" = true) (k_unbalanced_at : PySem.W.keepIn K (.ref f_unbalanced_at) = true)
    {f_check_balance : Addr} {od_check_balance an_check_balance : Option Addr} {sl_check_balance : Array (Option Value)} {oc_check_balance kV_check_balance dc_check_balance pm_check_balance cd_check_balance ct_check_balance : Value}
    (a_check_balance : PySem.W.nsIn K mainGlobals "check_balance" = some (some (.ref f_check_balance)))
    (l_check_balance : K.lookup f_check_balance = some ⟨oc_check_balance, od_check_balance, .func (PySem.W.fnOf "check_balance" "check_balance" (defArgs s_check_balance) (defBody s_check_balance) (defScope s_check_balance) .none kV_check_balance dc_check_balance pm_check_balance an_check_balance cd_check_balance ct_check_balance), sl_check_balance⟩) (c_check_balance : PySem.W.codeIn K cd_check_balance "check_balance" = true) (k_check_balance : PySem.W.keepIn K (.ref f_check_balance) = true)
    {f_begun : Addr} {od_begun an_begun : Option Addr} {sl_begun : Array (Option Value)} {oc_begun kV_begun dc_begun pm_begun cd_begun ct_begun : Value}
    (a_begun : PySem.W.nsIn K mainGlobals "_law_begun" = some (some (.ref f_begun)))
    (l_begun : K.lookup f_begun = some ⟨oc_begun, od_begun, .func (PySem.W.fnOf "_law_begun" "_law_begun" (defArgs s_begun) (defBody s_begun) (defScope s_begun) .none kV_begun dc_begun pm_begun an_begun cd_begun ct_begun), sl_begun⟩) (c_begun : PySem.W.codeIn K cd_begun "_law_begun" = true) (k_begun : PySem.W.keepIn K (.ref f_begun) = true)
    {f_drawn : Addr} {od_drawn an_drawn : Option Addr} {sl_drawn : Array (Option Value)} {oc_drawn kV_drawn dc_drawn pm_drawn cd_drawn ct_drawn : Value}
    (a_drawn : PySem.W.nsIn K mainGlobals "_law_drawn" = some (some (.ref f_drawn)))
    (l_drawn : K.lookup f_drawn = some ⟨oc_drawn, od_drawn, .func (PySem.W.fnOf "_law_drawn" "_law_drawn" (defArgs s_drawn) (defBody s_drawn) (defScope s_drawn) .none kV_drawn dc_drawn pm_drawn an_drawn cd_drawn ct_drawn), sl_drawn⟩) (c_drawn : PySem.W.codeIn K cd_drawn "_law_drawn" = true) (k_drawn : PySem.W.keepIn K (.ref f_drawn) = true)
    {f_sheet : Addr} {od_sheet an_sheet : Option Addr} {sl_sheet : Array (Option Value)} {oc_sheet kV_sheet dc_sheet pm_sheet cd_sheet ct_sheet : Value}
    (a_sheet : PySem.W.nsIn K mainGlobals "_law_sheet" = some (some (.ref f_sheet)))
    (l_sheet : K.lookup f_sheet = some ⟨oc_sheet, od_sheet, .func (PySem.W.fnOf "_law_sheet" "_law_sheet" (defArgs s_sheet) (defBody s_sheet) (defScope s_sheet) .none kV_sheet dc_sheet pm_sheet an_sheet cd_sheet ct_sheet), sl_sheet⟩) (c_sheet : PySem.W.codeIn K cd_sheet "_law_sheet" = true) (k_sheet : PySem.W.keepIn K (.ref f_sheet) = true)
    {f_yard_of_text : Addr} {od_yard_of_text an_yard_of_text : Option Addr} {sl_yard_of_text : Array (Option Value)} {oc_yard_of_text kV_yard_of_text dc_yard_of_text pm_yard_of_text cd_yard_of_text ct_yard_of_text : Value}
    (a_yard_of_text : PySem.W.nsIn K mainGlobals "yard_of_text" = some (some (.ref f_yard_of_text)))
    (l_yard_of_text : K.lookup f_yard_of_text = some ⟨oc_yard_of_text, od_yard_of_text, .func (PySem.W.fnOf "yard_of_text" "yard_of_text" (defArgs s_yard_of_text) (defBody s_yard_of_text) (defScope s_yard_of_text) .none kV_yard_of_text dc_yard_of_text pm_yard_of_text an_yard_of_text cd_yard_of_text ct_yard_of_text), sl_yard_of_text⟩) (c_yard_of_text : PySem.W.codeIn K cd_yard_of_text "yard_of_text" = true) (k_yard_of_text : PySem.W.keepIn K (.ref f_yard_of_text) = true)
    {f_class : Addr} {od_class an_class : Option Addr} {sl_class : Array (Option Value)} {oc_class kV_class dc_class pm_class cd_class ct_class : Value}
    (a_class : PySem.W.nsIn K mainGlobals "_law_class" = some (some (.ref f_class)))
    (l_class : K.lookup f_class = some ⟨oc_class, od_class, .func (PySem.W.fnOf "_law_class" "_law_class" (defArgs s_class) (defBody s_class) (defScope s_class) .none kV_class dc_class pm_class an_class cd_class ct_class), sl_class⟩) (c_class : PySem.W.codeIn K cd_class "_law_class" = true) (k_class : PySem.W.keepIn K (.ref f_class) = true)
    {f_shown : Addr} {od_shown an_shown : Option Addr} {sl_shown : Array (Option Value)} {oc_shown kV_shown dc_shown pm_shown cd_shown ct_shown : Value}
    (a_shown : PySem.W.nsIn K mainGlobals "_law_shown" = some (some (.ref f_shown)))
    (l_shown : K.lookup f_shown = some ⟨oc_shown, od_shown, .func (PySem.W.fnOf "_law_shown" "_law_shown" (defArgs s_shown) (defBody s_shown) (defScope s_shown) .none kV_shown dc_shown pm_shown an_shown cd_shown ct_shown), sl_shown⟩) (c_shown : PySem.W.codeIn K cd_shown "_law_shown" = true) (k_shown : PySem.W.keepIn K (.ref f_shown) = true)
    {f_greatest_numberA : Addr} {od_greatest_numberA an_greatest_numberA : Option Addr} {sl_greatest_numberA : Array (Option Value)} {oc_greatest_numberA kV_greatest_numberA dc_greatest_numberA pm_greatest_numberA cd_greatest_numberA ct_greatest_numberA : Value}
    (a_greatest_numberA : PySem.W.nsIn K mainGlobals "greatest_number" = some (some (.ref f_greatest_numberA)))
    (l_greatest_numberA : K.lookup f_greatest_numberA = some ⟨oc_greatest_numberA, od_greatest_numberA, .func (PySem.W.fnOf "greatest_number" "greatest_number" (defArgs s_greatestA) (defBody s_greatestA) (defScope s_greatestA) .none kV_greatest_numberA dc_greatest_numberA pm_greatest_numberA an_greatest_numberA cd_greatest_numberA ct_greatest_numberA), sl_greatest_numberA⟩) (c_greatest_numberA : PySem.W.codeIn K cd_greatest_numberA "greatest_number" = true) (k_greatest_numberA : PySem.W.keepIn K (.ref f_greatest_numberA) = true)
    {f_check_not_too_greatA : Addr} {od_check_not_too_greatA an_check_not_too_greatA : Option Addr} {sl_check_not_too_greatA : Array (Option Value)} {oc_check_not_too_greatA kV_check_not_too_greatA dc_check_not_too_greatA pm_check_not_too_greatA cd_check_not_too_greatA ct_check_not_too_greatA : Value}
    (a_check_not_too_greatA : PySem.W.nsIn K mainGlobals "check_not_too_great" = some (some (.ref f_check_not_too_greatA)))
    (l_check_not_too_greatA : K.lookup f_check_not_too_greatA = some ⟨oc_check_not_too_greatA, od_check_not_too_greatA, .func (PySem.W.fnOf "check_not_too_great" "check_not_too_great" (defArgs s_check_greatA) (defBody s_check_greatA) (defScope s_check_greatA) .none kV_check_not_too_greatA dc_check_not_too_greatA pm_check_not_too_greatA an_check_not_too_greatA cd_check_not_too_greatA ct_check_not_too_greatA), sl_check_not_too_greatA⟩) (c_check_not_too_greatA : PySem.W.codeIn K cd_check_not_too_greatA "check_not_too_great" = true) (k_check_not_too_greatA : PySem.W.keepIn K (.ref f_check_not_too_greatA) = true)
    {f_things_out : Addr} {od_things_out an_things_out : Option Addr} {sl_things_out : Array (Option Value)} {oc_things_out kV_things_out dc_things_out pm_things_out cd_things_out ct_things_out : Value}
    (a_things_out : PySem.W.nsIn K mainGlobals "things_out" = some (some (.ref f_things_out)))
    (l_things_out : K.lookup f_things_out = some ⟨oc_things_out, od_things_out, .func (PySem.W.fnOf "things_out" "things_out" (defArgs s_things_out) (defBody s_things_out) (defScope s_things_out) .none kV_things_out dc_things_out pm_things_out an_things_out cd_things_out ct_things_out), sl_things_out⟩) (c_things_out : PySem.W.codeIn K cd_things_out "things_out" = true) (k_things_out : PySem.W.keepIn K (.ref f_things_out) = true)
    {f_built : Addr} {od_built an_built : Option Addr} {sl_built : Array (Option Value)} {oc_built kV_built dc_built pm_built cd_built ct_built : Value}
    (a_built : PySem.W.nsIn K mainGlobals "_law_built" = some (some (.ref f_built)))
    (l_built : K.lookup f_built = some ⟨oc_built, od_built, .func (PySem.W.fnOf "_law_built" "_law_built" (defArgs s_built) (defBody s_built) (defScope s_built) .none kV_built dc_built pm_built an_built cd_built ct_built), sl_built⟩) (c_built : PySem.W.codeIn K cd_built "_law_built" = true) (k_built : PySem.W.keepIn K (.ref f_built) = true)
    {f_is_kind : Addr} {od_is_kind an_is_kind : Option Addr} {sl_is_kind : Array (Option Value)} {oc_is_kind kV_is_kind dc_is_kind pm_is_kind cd_is_kind ct_is_kind : Value}
    (a_is_kind : PySem.W.nsIn K mainGlobals "is_kind" = some (some (.ref f_is_kind)))
    (l_is_kind : K.lookup f_is_kind = some ⟨oc_is_kind, od_is_kind, .func (PySem.W.fnOf "is_kind" "is_kind" (defArgs s_is_kind) (defBody s_is_kind) (defScope s_is_kind) .none kV_is_kind dc_is_kind pm_is_kind an_is_kind cd_is_kind ct_is_kind), sl_is_kind⟩) (c_is_kind : PySem.W.codeIn K cd_is_kind "is_kind" = true) (k_is_kind : PySem.W.keepIn K (.ref f_is_kind) = true)
    {f_is_move : Addr} {od_is_move an_is_move : Option Addr} {sl_is_move : Array (Option Value)} {oc_is_move kV_is_move dc_is_move pm_is_move cd_is_move ct_is_move : Value}
    (a_is_move : PySem.W.nsIn K mainGlobals "is_move" = some (some (.ref f_is_move)))
    (l_is_move : K.lookup f_is_move = some ⟨oc_is_move, od_is_move, .func (PySem.W.fnOf "is_move" "is_move" (defArgs s_is_move) (defBody s_is_move) (defScope s_is_move) .none kV_is_move dc_is_move pm_is_move an_is_move cd_is_move ct_is_move), sl_is_move⟩) (c_is_move : PySem.W.codeIn K cd_is_move "is_move" = true) (k_is_move : PySem.W.keepIn K (.ref f_is_move) = true)
    {f_other : Addr} {od_other an_other : Option Addr} {sl_other : Array (Option Value)} {oc_other kV_other dc_other pm_other cd_other ct_other : Value}
    (a_other : PySem.W.nsIn K mainGlobals "_law_other" = some (some (.ref f_other)))
    (l_other : K.lookup f_other = some ⟨oc_other, od_other, .func (PySem.W.fnOf "_law_other" "_law_other" (defArgs s_other) (defBody s_other) (defScope s_other) .none kV_other dc_other pm_other an_other cd_other ct_other), sl_other⟩) (c_other : PySem.W.codeIn K cd_other "_law_other" = true) (k_other : PySem.W.keepIn K (.ref f_other) = true)
    {f_astray : Addr} {od_astray an_astray : Option Addr} {sl_astray : Array (Option Value)} {oc_astray kV_astray dc_astray pm_astray cd_astray ct_astray : Value}
    (a_astray : PySem.W.nsIn K mainGlobals "_law_astray" = some (some (.ref f_astray)))
    (l_astray : K.lookup f_astray = some ⟨oc_astray, od_astray, .func (PySem.W.fnOf "_law_astray" "_law_astray" (defArgs s_astray) (defBody s_astray) (defScope s_astray) .none kV_astray dc_astray pm_astray an_astray cd_astray ct_astray), sl_astray⟩) (c_astray : PySem.W.codeIn K cd_astray "_law_astray" = true) (k_astray : PySem.W.keepIn K (.ref f_astray) = true)
    {f_greatest : Addr} {od_greatest an_greatest : Option Addr} {sl_greatest : Array (Option Value)} {oc_greatest kV_greatest dc_greatest pm_greatest cd_greatest ct_greatest : Value}
    (a_greatest : PySem.W.nsIn K mainGlobals "_law_greatest" = some (some (.ref f_greatest)))
    (l_greatest : K.lookup f_greatest = some ⟨oc_greatest, od_greatest, .func (PySem.W.fnOf "_law_greatest" "_law_greatest" (defArgs s_greatL) (defBody s_greatL) (defScope s_greatL) .none kV_greatest dc_greatest pm_greatest an_greatest cd_greatest ct_greatest), sl_greatest⟩) (c_greatest : PySem.W.codeIn K cd_greatest "_law_greatest" = true) (k_greatest : PySem.W.keepIn K (.ref f_greatest) = true)
    {f_wanted : Addr} {od_wanted an_wanted : Option Addr} {sl_wanted : Array (Option Value)} {oc_wanted kV_wanted dc_wanted pm_wanted cd_wanted ct_wanted : Value}
    (a_wanted : PySem.W.nsIn K mainGlobals "_law_wanted" = some (some (.ref f_wanted)))
    (l_wanted : K.lookup f_wanted = some ⟨oc_wanted, od_wanted, .func (PySem.W.fnOf "_law_wanted" "_law_wanted" (defArgs s_wanted) (defBody s_wanted) (defScope s_wanted) .none kV_wanted dc_wanted pm_wanted an_wanted cd_wanted ct_wanted), sl_wanted⟩) (c_wanted : PySem.W.codeIn K cd_wanted "_law_wanted" = true) (k_wanted : PySem.W.keepIn K (.ref f_wanted) = true)
    {f_end : Addr} {od_end an_end : Option Addr} {sl_end : Array (Option Value)} {oc_end kV_end dc_end pm_end cd_end ct_end : Value}
    (a_end : PySem.W.nsIn K mainGlobals "_law_end" = some (some (.ref f_end)))
    (l_end : K.lookup f_end = some ⟨oc_end, od_end, .func (PySem.W.fnOf "_law_end" "_law_end" (defArgs s_end) (defBody s_end) (defScope s_end) .none kV_end dc_end pm_end an_end cd_end ct_end), sl_end⟩) (c_end : PySem.W.codeIn K cd_end "_law_end" = true) (k_end : PySem.W.keepIn K (.ref f_end) = true)
    {f_law : Addr} {od_law an_law : Option Addr} {sl_law : Array (Option Value)} {oc_law kV_law dc_law pm_law cd_law ct_law : Value}
    (a_law : PySem.W.nsIn K mainGlobals "law" = some (some (.ref f_law)))
    (l_law : K.lookup f_law = some ⟨oc_law, od_law, .func (PySem.W.fnOf "law" "law" (defArgs s_law) (defBody s_law) (defScope s_law) .none kV_law dc_law pm_law an_law cd_law ct_law), sl_law⟩) (c_law : PySem.W.codeIn K cd_law "law" = true) (k_law : PySem.W.keepIn K (.ref f_law) = true)
    {f_right c_right Pt_right : Addr} {od_right an_right : Option Addr} {sl_right : Array (Option Value)} {oc_right kV_right dc_right pm_right ct_right : Value}
    (a_right : PySem.W.nsIn K mainGlobals "_law_right" = some (some (.ref f_right)))
    (l_right : K.lookup f_right = some ⟨oc_right, od_right, .func (PySem.W.fnOf "_law_right" "_law_right" (defArgs s_right) (defBody s_right) (defScope s_right) .none kV_right dc_right pm_right an_right (.ref c_right) ct_right), sl_right⟩) (cc_right : PySem.W.codeIn K (.ref c_right) "_law_right" = true) (k_right : PySem.W.keepIn K (.ref f_right) = true)
    (hPt_right : h.get? Pt_right = some (PySem.W.tabObj #[]))
    (chd_right : PySem.W.codeHdIn K c_right Pt_right = true)
    (nPt_right : K.lookup Pt_right = none)
    {e0 e1 e2 e3 e4 e5 e6 e7 e8 e9 e10 e11 e12 e13 e14 e15 e16 e17 e18 e19 e20 e21 e22 : Addr}
    (x0 : PySem.W.nsIn K mainGlobals "InvalidText" = some (some (.ref e0)))
    (x1 : PySem.W.nsIn K mainGlobals "InvalidName" = some (some (.ref e1)))
    (x2 : PySem.W.nsIn K mainGlobals "InvalidKind" = some (some (.ref e2)))
    (x3 : PySem.W.nsIn K mainGlobals "InvalidMove" = some (some (.ref e3)))
    (x4 : PySem.W.nsIn K mainGlobals "InvalidNumber" = some (some (.ref e4)))
    (x5 : PySem.W.nsIn K mainGlobals "InvalidWish" = some (some (.ref e5)))
    (x6 : PySem.W.nsIn K mainGlobals "InvalidIndex" = some (some (.ref e6)))
    (x7 : PySem.W.nsIn K mainGlobals "NotYard" = some (some (.ref e7)))
    (x8 : PySem.W.nsIn K mainGlobals "InvalidKinds" = some (some (.ref e8)))
    (x9 : PySem.W.nsIn K mainGlobals "InvalidRows" = some (some (.ref e9)))
    (x10 : PySem.W.nsIn K mainGlobals "InvalidPlan" = some (some (.ref e10)))
    (x11 : PySem.W.nsIn K mainGlobals "InvalidChanges" = some (some (.ref e11)))
    (x12 : PySem.W.nsIn K mainGlobals "UnknownName" = some (some (.ref e12)))
    (x13 : PySem.W.nsIn K mainGlobals "InUse" = some (some (.ref e13)))
    (x14 : PySem.W.nsIn K mainGlobals "Unbalanced" = some (some (.ref e14)))
    (x15 : PySem.W.nsIn K mainGlobals "NotThere" = some (some (.ref e15)))
    (x16 : PySem.W.nsIn K mainGlobals "OtherKinds" = some (some (.ref e16)))
    (x17 : PySem.W.nsIn K mainGlobals "TooGreat" = some (some (.ref e17)))
    (x18 : PySem.W.nsIn K mainGlobals "NothingToUndo" = some (some (.ref e18)))
    (x19 : PySem.W.nsIn K mainGlobals "Broken" = some (some (.ref e19)))
    (x20 : PySem.W.nsIn K mainGlobals "WrongValue" = some (some (.ref e20)))
    (x21 : PySem.W.nsIn K mainGlobals "WrongName" = some (some (.ref e21)))
    (x22 : PySem.W.nsIn K mainGlobals "NotPossible" = some (some (.ref e22)))
    (ek0 : chkE K (fun n => [e0, e1, e2, e3, e4, e5, e6, e7, e8, e9, e10, e11, e12, e13, e14, e15, e16, e17, e18, e19, e20, e21, e22].getD n 0) 0 = true)
    (ek8 : chkE K (fun n => [e0, e1, e2, e3, e4, e5, e6, e7, e8, e9, e10, e11, e12, e13, e14, e15, e16, e17, e18, e19, e20, e21, e22].getD n 0) 8 = true)
    (ek9 : chkE K (fun n => [e0, e1, e2, e3, e4, e5, e6, e7, e8, e9, e10, e11, e12, e13, e14, e15, e16, e17, e18, e19, e20, e21, e22].getD n 0) 9 = true)
    (ek14 : chkE K (fun n => [e0, e1, e2, e3, e4, e5, e6, e7, e8, e9, e10, e11, e12, e13, e14, e15, e16, e17, e18, e19, e20, e21, e22].getD n 0) 14 = true)
    (ek16 : chkE K (fun n => [e0, e1, e2, e3, e4, e5, e6, e7, e8, e9, e10, e11, e12, e13, e14, e15, e16, e17, e18, e19, e20, e21, e22].getD n 0) 16 = true)
    (ek17 : chkE K (fun n => [e0, e1, e2, e3, e4, e5, e6, e7, e8, e9, e10, e11, e12, e13, e14, e15, e16, e17, e18, e19, e20, e21, e22].getD n 0) 17 = true)
    (xany : PySem.W.exmAny K (.ref ((fun n => [e0, e1, e2, e3, e4, e5, e6, e7, e8, e9, e10, e11, e12, e13, e14, e15, e16, e17, e18, e19, e20, e21, e22].getD n 0) 14)) [.ref ((fun n => [e0, e1, e2, e3, e4, e5, e6, e7, e8, e9, e10, e11, e12, e13, e14, e15, e16, e17, e18, e19, e20, e21, e22].getD n 0) 8), .ref ((fun n => [e0, e1, e2, e3, e4, e5, e6, e7, e8, e9, e10, e11, e12, e13, e14, e15, e16, e17, e18, e19, e20, e21, e22].getD n 0) 9), .ref ((fun n => [e0, e1, e2, e3, e4, e5, e6, e7, e8, e9, e10, e11, e12, e13, e14, e15, e16, e17, e18, e19, e20, e21, e22].getD n 0) 14)] = some true)
    (yno : chkNo K C = true)
    {f_i_InvalidKinds : Addr} {od_i_InvalidKinds an_i_InvalidKinds : Option Addr} {sl_i_InvalidKinds : Array (Option Value)} {oc_i_InvalidKinds kV_i_InvalidKinds dc_i_InvalidKinds pm_i_InvalidKinds cd_i_InvalidKinds ct_i_InvalidKinds : Value}
    (ii_InvalidKinds : PySem.W.findIn K (.ref e8) "__init__" = some (some (.ref f_i_InvalidKinds)))
    (in_InvalidKinds : PySem.W.isFn K (.ref f_i_InvalidKinds) = true)
    (l_i_InvalidKinds : K.lookup f_i_InvalidKinds = some ⟨oc_i_InvalidKinds, od_i_InvalidKinds, .func (PySem.W.fnOf "__init__" "InvalidKinds.__init__" (defArgs s_ini_InvalidKinds) (defBody s_ini_InvalidKinds) (defScope s_ini_InvalidKinds) .none kV_i_InvalidKinds dc_i_InvalidKinds pm_i_InvalidKinds an_i_InvalidKinds cd_i_InvalidKinds ct_i_InvalidKinds), sl_i_InvalidKinds⟩) (c_i_InvalidKinds : PySem.W.codeIn K cd_i_InvalidKinds "InvalidKinds.__init__" = true) (k_i_InvalidKinds : PySem.W.keepIn K (.ref f_i_InvalidKinds) = true)
    {f_i_InvalidRows : Addr} {od_i_InvalidRows an_i_InvalidRows : Option Addr} {sl_i_InvalidRows : Array (Option Value)} {oc_i_InvalidRows kV_i_InvalidRows dc_i_InvalidRows pm_i_InvalidRows cd_i_InvalidRows ct_i_InvalidRows : Value}
    (ii_InvalidRows : PySem.W.findIn K (.ref e9) "__init__" = some (some (.ref f_i_InvalidRows)))
    (in_InvalidRows : PySem.W.isFn K (.ref f_i_InvalidRows) = true)
    (l_i_InvalidRows : K.lookup f_i_InvalidRows = some ⟨oc_i_InvalidRows, od_i_InvalidRows, .func (PySem.W.fnOf "__init__" "InvalidRows.__init__" (defArgs s_ini_InvalidRows) (defBody s_ini_InvalidRows) (defScope s_ini_InvalidRows) .none kV_i_InvalidRows dc_i_InvalidRows pm_i_InvalidRows an_i_InvalidRows cd_i_InvalidRows ct_i_InvalidRows), sl_i_InvalidRows⟩) (c_i_InvalidRows : PySem.W.codeIn K cd_i_InvalidRows "InvalidRows.__init__" = true) (k_i_InvalidRows : PySem.W.keepIn K (.ref f_i_InvalidRows) = true)
    {f_i_InvalidText : Addr} {od_i_InvalidText an_i_InvalidText : Option Addr} {sl_i_InvalidText : Array (Option Value)} {oc_i_InvalidText kV_i_InvalidText dc_i_InvalidText pm_i_InvalidText cd_i_InvalidText ct_i_InvalidText : Value}
    (ii_InvalidText : PySem.W.findIn K (.ref e0) "__init__" = some (some (.ref f_i_InvalidText)))
    (in_InvalidText : PySem.W.isFn K (.ref f_i_InvalidText) = true)
    (l_i_InvalidText : K.lookup f_i_InvalidText = some ⟨oc_i_InvalidText, od_i_InvalidText, .func (PySem.W.fnOf "__init__" "InvalidText.__init__" (defArgs s_ini_InvalidText) (defBody s_ini_InvalidText) (defScope s_ini_InvalidText) .none kV_i_InvalidText dc_i_InvalidText pm_i_InvalidText an_i_InvalidText cd_i_InvalidText ct_i_InvalidText), sl_i_InvalidText⟩) (c_i_InvalidText : PySem.W.codeIn K cd_i_InvalidText "InvalidText.__init__" = true) (k_i_InvalidText : PySem.W.keepIn K (.ref f_i_InvalidText) = true)
    {f_i_OtherKinds : Addr} {od_i_OtherKinds an_i_OtherKinds : Option Addr} {sl_i_OtherKinds : Array (Option Value)} {oc_i_OtherKinds kV_i_OtherKinds dc_i_OtherKinds pm_i_OtherKinds cd_i_OtherKinds ct_i_OtherKinds : Value}
    (ii_OtherKinds : PySem.W.findIn K (.ref e16) "__init__" = some (some (.ref f_i_OtherKinds)))
    (in_OtherKinds : PySem.W.isFn K (.ref f_i_OtherKinds) = true)
    (l_i_OtherKinds : K.lookup f_i_OtherKinds = some ⟨oc_i_OtherKinds, od_i_OtherKinds, .func (PySem.W.fnOf "__init__" "OtherKinds.__init__" (defArgs s_ini_OtherKinds) (defBody s_ini_OtherKinds) (defScope s_ini_OtherKinds) .none kV_i_OtherKinds dc_i_OtherKinds pm_i_OtherKinds an_i_OtherKinds cd_i_OtherKinds ct_i_OtherKinds), sl_i_OtherKinds⟩) (c_i_OtherKinds : PySem.W.codeIn K cd_i_OtherKinds "OtherKinds.__init__" = true) (k_i_OtherKinds : PySem.W.keepIn K (.ref f_i_OtherKinds) = true)
    {f_i_TooGreat : Addr} {od_i_TooGreat an_i_TooGreat : Option Addr} {sl_i_TooGreat : Array (Option Value)} {oc_i_TooGreat kV_i_TooGreat dc_i_TooGreat pm_i_TooGreat cd_i_TooGreat ct_i_TooGreat : Value}
    (ii_TooGreat : PySem.W.findIn K (.ref e17) "__init__" = some (some (.ref f_i_TooGreat)))
    (in_TooGreat : PySem.W.isFn K (.ref f_i_TooGreat) = true)
    (l_i_TooGreat : K.lookup f_i_TooGreat = some ⟨oc_i_TooGreat, od_i_TooGreat, .func (PySem.W.fnOf "__init__" "TooGreat.__init__" (defArgs s_ini_TooGreat) (defBody s_ini_TooGreat) (defScope s_ini_TooGreat) .none kV_i_TooGreat dc_i_TooGreat pm_i_TooGreat an_i_TooGreat cd_i_TooGreat ct_i_TooGreat), sl_i_TooGreat⟩) (c_i_TooGreat : PySem.W.codeIn K cd_i_TooGreat "TooGreat.__init__" = true) (k_i_TooGreat : PySem.W.keepIn K (.ref f_i_TooGreat) = true)
    {f_i_Unbalanced : Addr} {od_i_Unbalanced an_i_Unbalanced : Option Addr} {sl_i_Unbalanced : Array (Option Value)} {oc_i_Unbalanced kV_i_Unbalanced dc_i_Unbalanced pm_i_Unbalanced cd_i_Unbalanced ct_i_Unbalanced : Value}
    (ii_Unbalanced : PySem.W.findIn K (.ref e14) "__init__" = some (some (.ref f_i_Unbalanced)))
    (in_Unbalanced : PySem.W.isFn K (.ref f_i_Unbalanced) = true)
    (l_i_Unbalanced : K.lookup f_i_Unbalanced = some ⟨oc_i_Unbalanced, od_i_Unbalanced, .func (PySem.W.fnOf "__init__" "Unbalanced.__init__" (defArgs s_ini_Unbalanced) (defBody s_ini_Unbalanced) (defScope s_ini_Unbalanced) .none kV_i_Unbalanced dc_i_Unbalanced pm_i_Unbalanced an_i_Unbalanced cd_i_Unbalanced ct_i_Unbalanced), sl_i_Unbalanced⟩) (c_i_Unbalanced : PySem.W.codeIn K cd_i_Unbalanced "Unbalanced.__init__" = true) (k_i_Unbalanced : PySem.W.keepIn K (.ref f_i_Unbalanced) = true)
    (z : chkZ K = true)
    (v1 : ∃ u, mg "LETTERS" = some u ∧ RelV (.str "abcdefghijklmnopqrstuvwxyz") u) (v2 : ∃ u, mg "DIGITS" = some u ∧ RelV (.str "0123456789") u) (v3 : ∃ u, mg "LONGEST_NAME" = some u ∧ RelV (.int 8) u) (v4 : ∃ u, mg "MOST_COUNT" = some u ∧ RelV (.int 1000000000000000000000000000000) u) (v5 : ∃ u, mg "MOST_KINDS" = some u ∧ RelV (.int 4) u) :
    Z.LawAtG l w K 21 63 "_law_script" mg fa h := by
  have e := hfa.symm.trans (PySem.W.mg_of X G a_law)
  cases e
  have F_m_init := fun_mk (st := s_init) l_m_init c_m_init k_m_init
  have D_m_init : MfT K "__init__" "Yard.__init__" s_init ["self", "kinds", "rows"] f_m_init := ⟨_, F_m_init, F_m_init.binds (ps := ["self", "kinds", "rows"]) fun _ _ _ _ _ _ us hl => match us, hl with | [_, _, _], _ => rfl⟩
  have F_m_kinds := fun_mk (st := s_kinds) l_m_kinds c_m_kinds k_m_kinds
  have D_m_kinds : MfT K "kinds" "Yard.kinds" s_kinds ["self"] f_m_kinds := ⟨_, F_m_kinds, F_m_kinds.binds (ps := ["self"]) fun _ _ _ _ _ _ us hl => match us, hl with | [_], _ => rfl⟩
  have F_m_rows := fun_mk (st := s_rows) l_m_rows c_m_rows k_m_rows
  have D_m_rows : MfT K "rows" "Yard.rows" s_rows ["self"] f_m_rows := ⟨_, F_m_rows, F_m_rows.binds (ps := ["self"]) fun _ _ _ _ _ _ us hl => match us, hl with | [_], _ => rfl⟩
  have F_m_len := fun_mk (st := s_len) l_m_len c_m_len k_m_len
  have D_m_len : MfT K "__len__" "Yard.__len__" s_len ["self"] f_m_len := ⟨_, F_m_len, F_m_len.binds (ps := ["self"]) fun _ _ _ _ _ _ us hl => match us, hl with | [_], _ => rfl⟩
  have F_m_str := fun_mk (st := s_str) l_m_str c_m_str k_m_str
  have D_m_str : MfT K "__str__" "Yard.__str__" s_str ["self"] f_m_str := ⟨_, F_m_str, F_m_str.binds (ps := ["self"]) fun _ _ _ _ _ _ us hl => match us, hl with | [_], _ => rfl⟩
  have F_m_repr := fun_mk (st := s_repr) l_m_repr c_m_repr k_m_repr
  have D_m_repr : MfT K "__repr__" "Yard.__repr__" s_repr ["self"] f_m_repr := ⟨_, F_m_repr, F_m_repr.binds (ps := ["self"]) fun _ _ _ _ _ _ us hl => match us, hl with | [_], _ => rfl⟩
  have F_m_read := fun_mk (st := s_read) l_m_read c_m_read k_m_read
  have D_m_read : MfT K "read" "Yard.read" s_read ["cls", "text"] f_m_read := ⟨_, F_m_read, F_m_read.binds (ps := ["cls", "text"]) fun _ _ _ _ _ _ us hl => match us, hl with | [_, _], _ => rfl⟩
  have F_m_add := fun_mk (st := s_add) l_m_add c_m_add k_m_add
  have D_m_add : MfT K "__add__" "Yard.__add__" s_add ["self", "other"] f_m_add := ⟨_, F_m_add, F_m_add.binds (ps := ["self", "other"]) fun _ _ _ _ _ _ us hl => match us, hl with | [_, _], _ => rfl⟩
  have F_m_size := fun_mk (st := s_size) l_m_size c_m_size k_m_size
  have D_m_size : MfT K "size" "Yard.size" s_size ["self"] f_m_size := ⟨_, F_m_size, F_m_size.binds (ps := ["self"]) fun _ _ _ _ _ _ us hl => match us, hl with | [_], _ => rfl⟩
  have F_m_out := fun_mk (st := s_out) l_m_out c_m_out k_m_out
  have D_m_out : MfT K "out" "Yard.out" s_out ["self"] f_m_out := ⟨_, F_m_out, F_m_out.binds (ps := ["self"]) fun _ _ _ _ _ _ us hl => match us, hl with | [_], _ => rfl⟩
  have F_cast := fun_mk (st := s_cast) l_cast c_cast k_cast
  have D_cast : DfT K mg "_law_cast" s_cast ["_law_pail", "_law_many"] := ⟨f_cast, _, F_cast, F_cast.binds (ps := ["_law_pail", "_law_many"]) fun _ _ _ _ _ _ us hl => match us, hl with | [_, _], _ => rfl, PySem.W.mg_of X G a_cast⟩
  have F_any_of := fun_mk (st := s_any_of) l_any_of c_any_of k_any_of
  have D_any_of : DfT K mg "_law_any_of" s_any_of ["_law_pail", "_law_some"] := ⟨f_any_of, _, F_any_of, F_any_of.binds (ps := ["_law_pail", "_law_some"]) fun _ _ _ _ _ _ us hl => match us, hl with | [_, _], _ => rfl, PySem.W.mg_of X G a_any_of⟩
  have F_vast := fun_mk (st := s_vast) l_vast c_vast k_vast
  have D_vast : DfT K mg "_law_vast" s_vast ["_law_pail", "_law_many"] := ⟨f_vast, _, F_vast, F_vast.binds (ps := ["_law_pail", "_law_many"]) fun _ _ _ _ _ _ us hl => match us, hl with | [_, _], _ => rfl, PySem.W.mg_of X G a_vast⟩
  have F_amount := fun_mk (st := s_amount) l_amount c_amount k_amount
  have D_amount : DfT K mg "_law_amount" s_amount ["_law_pail"] := ⟨f_amount, _, F_amount, F_amount.binds (ps := ["_law_pail"]) fun _ _ _ _ _ _ us hl => match us, hl with | [_], _ => rfl, PySem.W.mg_of X G a_amount⟩
  have F_drawn_title := fun_mk (st := s_drawn_title) l_drawn_title c_drawn_title k_drawn_title
  have D_drawn_title : DfT K mg "_law_drawn_title" s_drawn_title ["_law_pail"] := ⟨f_drawn_title, _, F_drawn_title, F_drawn_title.binds (ps := ["_law_pail"]) fun _ _ _ _ _ _ us hl => match us, hl with | [_], _ => rfl, PySem.W.mg_of X G a_drawn_title⟩
  have F_titles := fun_mk (st := s_titles) l_titles c_titles k_titles
  have D_titles : DfT K mg "_law_titles" s_titles ["_law_pail", "_law_many"] := ⟨f_titles, _, F_titles, F_titles.binds (ps := ["_law_pail", "_law_many"]) fun _ _ _ _ _ _ us hl => match us, hl with | [_, _], _ => rfl, PySem.W.mg_of X G a_titles⟩
  have F_drawn_ring := fun_mk (st := s_drawn_ring) l_drawn_ring c_drawn_ring k_drawn_ring
  have D_drawn_ring : DfT K mg "_law_drawn_ring" s_drawn_ring ["_law_pail", "_law_size"] := ⟨f_drawn_ring, _, F_drawn_ring, F_drawn_ring.binds (ps := ["_law_pail", "_law_size"]) fun _ _ _ _ _ _ us hl => match us, hl with | [_, _], _ => rfl, PySem.W.mg_of X G a_drawn_ring⟩
  have F_with_ring := fun_mk (st := s_with_ring) l_with_ring c_with_ring k_with_ring
  have D_with_ring : DfT K mg "_law_with_ring" s_with_ring ["_law_grid", "_law_ring", "_law_many"] := ⟨f_with_ring, _, F_with_ring, F_with_ring.binds (ps := ["_law_grid", "_law_ring", "_law_many"]) fun _ _ _ _ _ _ us hl => match us, hl with | [_, _, _], _ => rfl, PySem.W.mg_of X G a_with_ring⟩
  have F_drawn_grid := fun_mk (st := s_drawn_grid) l_drawn_grid c_drawn_grid k_drawn_grid
  have D_drawn_grid : DfT K mg "_law_drawn_grid" s_drawn_grid ["_law_pail", "_law_size"] := ⟨f_drawn_grid, _, F_drawn_grid, F_drawn_grid.binds (ps := ["_law_pail", "_law_size"]) fun _ _ _ _ _ _ us hl => match us, hl with | [_, _], _ => rfl, PySem.W.mg_of X G a_drawn_grid⟩
  have F_is_integer := fun_mk (st := s_is_integer) l_is_integer c_is_integer k_is_integer
  have D_is_integer : DfT K mg "is_integer" s_is_integer ["value"] := ⟨f_is_integer, _, F_is_integer, F_is_integer.binds (ps := ["value"]) fun _ _ _ _ _ _ us hl => match us, hl with | [_], _ => rfl, PySem.W.mg_of X G a_is_integer⟩
  have F_is_number := fun_mk (st := s_is_number) l_is_number c_is_number k_is_number
  have D_is_number : DfT K mg "is_number" s_is_number ["value", "least"] := ⟨f_is_number, _, F_is_number, F_is_number.binds (ps := ["value", "least"]) fun _ _ _ _ _ _ us hl => match us, hl with | [_, _], _ => rfl, PySem.W.mg_of X G a_is_number⟩
  have F_is_row := fun_mk (st := s_is_row) l_is_row c_is_row k_is_row
  have D_is_row : DfT K mg "is_row" s_is_row ["value", "count"] := ⟨f_is_row, _, F_is_row, F_is_row.binds (ps := ["value", "count"]) fun _ _ _ _ _ _ us hl => match us, hl with | [_, _], _ => rfl, PySem.W.mg_of X G a_is_row⟩
  have F_is_name := fun_mk (st := s_is_name) l_is_name c_is_name k_is_name
  have D_is_name : DfT K mg "is_name" s_is_name ["value"] := ⟨f_is_name, _, F_is_name, F_is_name.binds (ps := ["value"]) fun _ _ _ _ _ _ us hl => match us, hl with | [_], _ => rfl, PySem.W.mg_of X G a_is_name⟩
  have F_row_line := fun_mk (st := s_row_line) l_row_line c_row_line k_row_line
  have D_row_line : DfT K mg "row_line" s_row_line ["kind", "row"] := ⟨f_row_line, _, F_row_line, F_row_line.binds (ps := ["kind", "row"]) fun _ _ _ _ _ _ us hl => match us, hl with | [_, _], _ => rfl, PySem.W.mg_of X G a_row_line⟩
  have F_text_lines := fun_mk (st := s_text_lines) l_text_lines c_text_lines k_text_lines
  have D_text_lines : DfT K mg "text_lines" s_text_lines ["kinds", "rows"] := ⟨f_text_lines, _, F_text_lines, F_text_lines.binds (ps := ["kinds", "rows"]) fun _ _ _ _ _ _ us hl => match us, hl with | [_, _], _ => rfl, PySem.W.mg_of X G a_text_lines⟩
  have F_number_of := fun_mk (st := s_number_of) l_number_of c_number_of k_number_of
  have D_number_of : DfT K mg "number_of" s_number_of ["word"] := ⟨f_number_of, _, F_number_of, F_number_of.binds (ps := ["word"]) fun _ _ _ _ _ _ us hl => match us, hl with | [_], _ => rfl, PySem.W.mg_of X G a_number_of⟩
  have F_kinds_of_text := fun_mk (st := s_kinds_of_text) l_kinds_of_text c_kinds_of_text k_kinds_of_text
  have D_kinds_of_text : DfT K mg "kinds_of_text" s_kinds_of_text ["text"] := ⟨f_kinds_of_text, _, F_kinds_of_text, F_kinds_of_text.binds (ps := ["text"]) fun _ _ _ _ _ _ us hl => match us, hl with | [_], _ => rfl, PySem.W.mg_of X G a_kinds_of_text⟩
  have F_numbers_of_line := fun_mk (st := s_numbers_of_line) l_numbers_of_line c_numbers_of_line k_numbers_of_line
  have D_numbers_of_line : DfT K mg "numbers_of_line" s_numbers_of_line ["line"] := ⟨f_numbers_of_line, _, F_numbers_of_line, F_numbers_of_line.binds (ps := ["line"]) fun _ _ _ _ _ _ us hl => match us, hl with | [_], _ => rfl, PySem.W.mg_of X G a_numbers_of_line⟩
  have F_rows_of_text := fun_mk (st := s_rows_of_text) l_rows_of_text c_rows_of_text k_rows_of_text
  have D_rows_of_text : DfT K mg "rows_of_text" s_rows_of_text ["text"] := ⟨f_rows_of_text, _, F_rows_of_text, F_rows_of_text.binds (ps := ["text"]) fun _ _ _ _ _ _ us hl => match us, hl with | [_], _ => rfl, PySem.W.mg_of X G a_rows_of_text⟩
  have F_check_kinds := fun_mk (st := s_check_kinds) l_check_kinds c_check_kinds k_check_kinds
  have D_check_kinds : DfT K mg "check_kinds" s_check_kinds ["kinds"] := ⟨f_check_kinds, _, F_check_kinds, F_check_kinds.binds (ps := ["kinds"]) fun _ _ _ _ _ _ us hl => match us, hl with | [_], _ => rfl, PySem.W.mg_of X G a_check_kinds⟩
  have F_check_rows := fun_mk (st := s_check_rows) l_check_rows c_check_rows k_check_rows
  have D_check_rows : DfT K mg "check_rows" s_check_rows ["rows", "count"] := ⟨f_check_rows, _, F_check_rows, F_check_rows.binds (ps := ["rows", "count"]) fun _ _ _ _ _ _ us hl => match us, hl with | [_, _], _ => rfl, PySem.W.mg_of X G a_check_rows⟩
  have F_unbalanced_at := fun_mk (st := s_unbalanced_at) l_unbalanced_at c_unbalanced_at k_unbalanced_at
  have D_unbalanced_at : DfT K mg "unbalanced_at" s_unbalanced_at ["rows"] := ⟨f_unbalanced_at, _, F_unbalanced_at, F_unbalanced_at.binds (ps := ["rows"]) fun _ _ _ _ _ _ us hl => match us, hl with | [_], _ => rfl, PySem.W.mg_of X G a_unbalanced_at⟩
  have F_check_balance := fun_mk (st := s_check_balance) l_check_balance c_check_balance k_check_balance
  have D_check_balance : DfT K mg "check_balance" s_check_balance ["kinds", "rows"] := ⟨f_check_balance, _, F_check_balance, F_check_balance.binds (ps := ["kinds", "rows"]) fun _ _ _ _ _ _ us hl => match us, hl with | [_, _], _ => rfl, PySem.W.mg_of X G a_check_balance⟩
  have F_begun := fun_mk (st := s_begun) l_begun c_begun k_begun
  have D_begun : DfT K mg "_law_begun" s_begun ["_law_script", "_law_turn"] := ⟨f_begun, _, F_begun, F_begun.binds (ps := ["_law_script", "_law_turn"]) fun _ _ _ _ _ _ us hl => match us, hl with | [_, _], _ => rfl, PySem.W.mg_of X G a_begun⟩
  have F_drawn := fun_mk (st := s_drawn) l_drawn c_drawn k_drawn
  have D_drawn : DfT K mg "_law_drawn" s_drawn ["_law_pail"] := ⟨f_drawn, _, F_drawn, F_drawn.binds (ps := ["_law_pail"]) fun _ _ _ _ _ _ us hl => match us, hl with | [_], _ => rfl, PySem.W.mg_of X G a_drawn⟩
  have F_sheet := fun_mk (st := s_sheet) l_sheet c_sheet k_sheet
  have D_sheet : DfT K mg "_law_sheet" s_sheet ["_law_parts"] := ⟨f_sheet, _, F_sheet, F_sheet.binds (ps := ["_law_parts"]) fun _ _ _ _ _ _ us hl => match us, hl with | [_], _ => rfl, PySem.W.mg_of X G a_sheet⟩
  have F_yard_of_text := fun_mk (st := s_yard_of_text) l_yard_of_text c_yard_of_text k_yard_of_text
  have D_yard_of_text : DfT K mg "yard_of_text" s_yard_of_text ["text"] := ⟨f_yard_of_text, _, F_yard_of_text, F_yard_of_text.binds (ps := ["text"]) fun _ _ _ _ _ _ us hl => match us, hl with | [_], _ => rfl, PySem.W.mg_of X G a_yard_of_text⟩
  have F_class := fun_mk (st := s_class) l_class c_class k_class
  have D_class : DfT K mg "_law_class" s_class ["_law_e"] := ⟨f_class, _, F_class, F_class.binds (ps := ["_law_e"]) fun _ _ _ _ _ _ us hl => match us, hl with | [_], _ => rfl, PySem.W.mg_of X G a_class⟩
  have F_shown := fun_mk (st := s_shown) l_shown c_shown k_shown
  have D_shown : DfT K mg "_law_shown" s_shown ["_law_thing"] := ⟨f_shown, _, F_shown, F_shown.binds (ps := ["_law_thing"]) fun _ _ _ _ _ _ us hl => match us, hl with | [_], _ => rfl, PySem.W.mg_of X G a_shown⟩
  have F_greatest_numberA := fun_mk (st := s_greatestA) l_greatest_numberA c_greatest_numberA k_greatest_numberA
  have D_greatest_numberA : DfT K mg "greatest_number" s_greatestA ["rows"] := ⟨f_greatest_numberA, _, F_greatest_numberA, F_greatest_numberA.binds (ps := ["rows"]) fun _ _ _ _ _ _ us hl => match us, hl with | [_], _ => rfl, PySem.W.mg_of X G a_greatest_numberA⟩
  have F_check_not_too_greatA := fun_mk (st := s_check_greatA) l_check_not_too_greatA c_check_not_too_greatA k_check_not_too_greatA
  have D_check_not_too_greatA : DfT K mg "check_not_too_great" s_check_greatA ["rows"] := ⟨f_check_not_too_greatA, _, F_check_not_too_greatA, F_check_not_too_greatA.binds (ps := ["rows"]) fun _ _ _ _ _ _ us hl => match us, hl with | [_], _ => rfl, PySem.W.mg_of X G a_check_not_too_greatA⟩
  have F_things_out := fun_mk (st := s_things_out) l_things_out c_things_out k_things_out
  have D_things_out : DfT K mg "things_out" s_things_out ["rows"] := ⟨f_things_out, _, F_things_out, F_things_out.binds (ps := ["rows"]) fun _ _ _ _ _ _ us hl => match us, hl with | [_], _ => rfl, PySem.W.mg_of X G a_things_out⟩
  have F_built := fun_mk (st := s_built) l_built c_built k_built
  have D_built : DfT K mg "_law_built" s_built ["_law_pail", "_law_parts"] := ⟨f_built, _, F_built, F_built.binds (ps := ["_law_pail", "_law_parts"]) fun _ _ _ _ _ _ us hl => match us, hl with | [_, _], _ => rfl, PySem.W.mg_of X G a_built⟩
  have F_is_kind := fun_mk (st := s_is_kind) l_is_kind c_is_kind k_is_kind
  have D_is_kind : DfT K mg "is_kind" s_is_kind ["kinds", "value"] := ⟨f_is_kind, _, F_is_kind, F_is_kind.binds (ps := ["kinds", "value"]) fun _ _ _ _ _ _ us hl => match us, hl with | [_, _], _ => rfl, PySem.W.mg_of X G a_is_kind⟩
  have F_is_move := fun_mk (st := s_is_move) l_is_move c_is_move k_is_move
  have D_is_move : DfT K mg "is_move" s_is_move ["kinds", "value"] := ⟨f_is_move, _, F_is_move, F_is_move.binds (ps := ["kinds", "value"]) fun _ _ _ _ _ _ us hl => match us, hl with | [_, _], _ => rfl, PySem.W.mg_of X G a_is_move⟩
  have F_other := fun_mk (st := s_other) l_other c_other k_other
  have D_other : DfT K mg "_law_other" s_other ["_law_pail", "_law_parts"] := ⟨f_other, _, F_other, F_other.binds (ps := ["_law_pail", "_law_parts"]) fun _ _ _ _ _ _ us hl => match us, hl with | [_, _], _ => rfl, PySem.W.mg_of X G a_other⟩
  have F_astray := fun_mk (st := s_astray) l_astray c_astray k_astray
  have D_astray : DfT K mg "_law_astray" s_astray ["_law_grid"] := ⟨f_astray, _, F_astray, F_astray.binds (ps := ["_law_grid"]) fun _ _ _ _ _ _ us hl => match us, hl with | [_], _ => rfl, PySem.W.mg_of X G a_astray⟩
  have F_greatest := fun_mk (st := s_greatL) l_greatest c_greatest k_greatest
  have D_greatest : DfT K mg "_law_greatest" s_greatL ["_law_grid"] := ⟨f_greatest, _, F_greatest, F_greatest.binds (ps := ["_law_grid"]) fun _ _ _ _ _ _ us hl => match us, hl with | [_], _ => rfl, PySem.W.mg_of X G a_greatest⟩
  have F_wanted := fun_mk (st := s_wanted) l_wanted c_wanted k_wanted
  have D_wanted : DfT K mg "_law_wanted" s_wanted ["_law_parts", "_law_others"] := ⟨f_wanted, _, F_wanted, F_wanted.binds (ps := ["_law_parts", "_law_others"]) fun _ _ _ _ _ _ us hl => match us, hl with | [_, _], _ => rfl, PySem.W.mg_of X G a_wanted⟩
  have F_end := fun_mk (st := s_end) l_end c_end k_end
  have D_end : DfT K mg "_law_end" s_end ["_law_act"] := ⟨f_end, _, F_end, F_end.binds (ps := ["_law_act"]) fun _ _ _ _ _ _ us hl => match us, hl with | [_], _ => rfl, PySem.W.mg_of X G a_end⟩
  have F_law := fun_mk (st := s_law) l_law c_law k_law
  have D_law : DfT K mg "law" s_law ["_law_script"] := ⟨fa, _, F_law, F_law.binds (ps := ["_law_script"]) fun _ _ _ _ _ _ us hl => match us, hl with | [_], _ => rfl, PySem.W.mg_of X G a_law⟩
  have T : Tx K mg := ⟨z_of X G z (by decide), z_of X G z (by decide), z_of X G z (by decide), z_of X G z (by decide), z_of X G z (by decide), z_of X G z (by decide), z_of X G z (by decide), z_of X G z (by decide), z_of X G z (by decide), z_of X G z (by decide), z_of X G z (by decide), z_of X G z (by decide), z_of X G z (by decide), z_of X G z (by decide), z_of X G z (by decide), z_of X G z (by decide), z_of X G z (by decide), v1, v2, v3, v4, v5⟩
  have Yt : YT K mg C := ⟨⟨pg, hd, po, sa⟩, nK, nR, PySem.W.mg_of X G aC⟩
  have Y2 : YOwn K C f_m_str f_m_len f_m_repr := ⟨i_str, n_str, i_len, n_len, i_repr, n_repr, sBool⟩
  have Y3 : YCm K C (.type "type") p_read f_m_read := ⟨⟨rd, ga⟩, ⟨i_read, ⟨_, r_read⟩, n_read⟩⟩
  have YA : YAdd K C f_m_add := ⟨sfC, i_add, n_add⟩
  have Yi : YIs K C f_m_eq := ⟨yha, yhn, yht, yhm, i_eq, n_eq⟩
  have G0 : Eg mg (fun n => [e0, e1, e2, e3, e4, e5, e6, e7, e8, e9, e10, e11, e12, e13, e14, e15, e16, e17, e18, e19, e20, e21, e22].getD n 0) := ⟨PySem.W.mg_of X G x0, PySem.W.mg_of X G x1, PySem.W.mg_of X G x2, PySem.W.mg_of X G x3, PySem.W.mg_of X G x4, PySem.W.mg_of X G x5, PySem.W.mg_of X G x6, PySem.W.mg_of X G x7, PySem.W.mg_of X G x8, PySem.W.mg_of X G x9, PySem.W.mg_of X G x10, PySem.W.mg_of X G x11, PySem.W.mg_of X G x12, PySem.W.mg_of X G x13, PySem.W.mg_of X G x14, PySem.W.mg_of X G x15, PySem.W.mg_of X G x16, PySem.W.mg_of X G x17, PySem.W.mg_of X G x18, PySem.W.mg_of X G x19, PySem.W.mg_of X G x20, PySem.W.mg_of X G x21, PySem.W.mg_of X G x22⟩
  have E0 : EK K (fun n => [e0, e1, e2, e3, e4, e5, e6, e7, e8, e9, e10, e11, e12, e13, e14, e15, e16, e17, e18, e19, e20, e21, e22].getD n 0) 0 := EK.of ek0
  have E8 : EK K (fun n => [e0, e1, e2, e3, e4, e5, e6, e7, e8, e9, e10, e11, e12, e13, e14, e15, e16, e17, e18, e19, e20, e21, e22].getD n 0) 8 := EK.of ek8
  have E9 : EK K (fun n => [e0, e1, e2, e3, e4, e5, e6, e7, e8, e9, e10, e11, e12, e13, e14, e15, e16, e17, e18, e19, e20, e21, e22].getD n 0) 9 := EK.of ek9
  have E14 : EK K (fun n => [e0, e1, e2, e3, e4, e5, e6, e7, e8, e9, e10, e11, e12, e13, e14, e15, e16, e17, e18, e19, e20, e21, e22].getD n 0) 14 := EK.of ek14
  have E16 : EK K (fun n => [e0, e1, e2, e3, e4, e5, e6, e7, e8, e9, e10, e11, e12, e13, e14, e15, e16, e17, e18, e19, e20, e21, e22].getD n 0) 16 := EK.of ek16
  have E17 : EK K (fun n => [e0, e1, e2, e3, e4, e5, e6, e7, e8, e9, e10, e11, e12, e13, e14, e15, e16, e17, e18, e19, e20, e21, e22].getD n 0) 17 := EK.of ek17
  have XA : XAny K (fun n => [e0, e1, e2, e3, e4, e5, e6, e7, e8, e9, e10, e11, e12, e13, e14, e15, e16, e17, e18, e19, e20, e21, e22].getD n 0) := ⟨xany⟩
  have Yn : YNo K C := ⟨yno⟩
  have Me_size : Meth K C "size" f_m_size := ⟨i_size, n_size, k_m_size⟩
  have Me_out : Meth K C "out" f_m_out := ⟨i_out, n_out, k_m_out⟩
  have DL_right : DfL K mg "_law_right" s_right ["_law_pail"] c_right := ⟨f_right, _, _, _, _, _, _, _, _, l_right, cc_right, k_right, (fun_mk (st := s_right) l_right cc_right k_right).binds (ps := ["_law_pail"]) fun _ _ _ _ _ _ us hl => match us, hl with | [_], _ => rfl, PySem.W.mg_of X G a_right⟩
  have Mi : Mk K C f_m_init := ⟨mki, i_init, n_init, kpC⟩
  have P_kinds : PropOf K C "kinds" p_kinds f_m_kinds := ⟨i_kinds, g_kinds, t_kinds, ⟨_, r_kinds⟩⟩
  have P_rows : PropOf K C "rows" p_rows f_m_rows := ⟨i_rows, g_rows, t_rows, ⟨_, r_rows⟩⟩
  suffices hS : ∀ base : Heap, K.In base → base.Ns mainGlobals mg → LamX.TabB base mg c_right Pt_right → ∃ (f : Addr) (fd : FuncData), FnG l.prog w K mg base 21 f fd ["_law_script"] (spLaw K [(Pt_right, qRight)]) ∧ mg "law" = some (.ref f) ∧ fd = PySem.W.fnOf "law" "law" (defArgs s_law) (defBody s_law) (defScope s_law) .none kV_law dc_law pm_law an_law cd_law ct_law by
    refine ⟨PySem.W.fnOf "law" "law" (defArgs s_law) (defBody s_law) (defScope s_law) .none kV_law dc_law pm_law an_law cd_law ct_law, [(c_right, Pt_right)], spLaw K [(Pt_right, qRight)], fun p hp => ?_, fun p hp => ?_, fun p hp => ?_, fun s v => .of_eq rfl, fun H a ns hl hb hH hS => ?_, fun base hK hG hTB => ?_⟩
    · simp only [List.mem_cons, List.not_mem_nil, or_false] at hp; subst hp; exact hPt_right
    · simp only [List.mem_cons, List.not_mem_nil, or_false] at hp; subst hp; exact nPt_right
    · simp only [List.mem_cons, List.not_mem_nil, or_false] at hp; subst hp; exact PySem.W.codeHd_of_K X chd_right
    · refine ⟨a, ns, rfl, fun p hp => ?_, hS, hb, Nat.le_trans hl (by decide), fun _ => rfl⟩
      simp only [List.mem_cons, List.not_mem_nil, or_false] at hp; subst hp; exact LamX.TabS.nil (hH (c_right, Pt_right) (by simp))
    · obtain ⟨f, fd, q1, q2, q3⟩ := hS base hK hG (hTB (c_right, Pt_right) (by simp))
      have e := q2.symm.trans hfa
      cases e
      rw [q3] at q1
      exact q1
  intro base hK hG TB_right
  have XN_InvalidKinds : Z.XN l.prog w K mg base "InvalidKinds" e8 "index" := xn_of (cl := (fun n => [e0, e1, e2, e3, e4, e5, e6, e7, e8, e9, e10, e11, e12, e13, e14, e15, e16, e17, e18, e19, e20, e21, e22].getD n 0)) (n := 8) (.inr rfl) E8 (PySem.W.mg_of X G x8) ii_InvalidKinds in_InvalidKinds ini_InvalidKinds l_i_InvalidKinds c_i_InvalidKinds k_i_InvalidKinds
  have XN_InvalidRows : Z.XN l.prog w K mg base "InvalidRows" e9 "index" := xn_of (cl := (fun n => [e0, e1, e2, e3, e4, e5, e6, e7, e8, e9, e10, e11, e12, e13, e14, e15, e16, e17, e18, e19, e20, e21, e22].getD n 0)) (n := 9) (.inr rfl) E9 (PySem.W.mg_of X G x9) ii_InvalidRows in_InvalidRows ini_InvalidRows l_i_InvalidRows c_i_InvalidRows k_i_InvalidRows
  have XN_InvalidText : Z.XN l.prog w K mg base "InvalidText" e0 "given" := xn_of (cl := (fun n => [e0, e1, e2, e3, e4, e5, e6, e7, e8, e9, e10, e11, e12, e13, e14, e15, e16, e17, e18, e19, e20, e21, e22].getD n 0)) (n := 0) (.inl rfl) E0 (PySem.W.mg_of X G x0) ii_InvalidText in_InvalidText ini_InvalidText l_i_InvalidText c_i_InvalidText k_i_InvalidText
  have XN_OtherKinds : Z.XN l.prog w K mg base "OtherKinds" e16 "given" := xn_of (cl := (fun n => [e0, e1, e2, e3, e4, e5, e6, e7, e8, e9, e10, e11, e12, e13, e14, e15, e16, e17, e18, e19, e20, e21, e22].getD n 0)) (n := 16) (.inl rfl) E16 (PySem.W.mg_of X G x16) ii_OtherKinds in_OtherKinds ini_OtherKinds l_i_OtherKinds c_i_OtherKinds k_i_OtherKinds
  have XN_TooGreat : Z.XN l.prog w K mg base "TooGreat" e17 "given" := xn_of (cl := (fun n => [e0, e1, e2, e3, e4, e5, e6, e7, e8, e9, e10, e11, e12, e13, e14, e15, e16, e17, e18, e19, e20, e21, e22].getD n 0)) (n := 17) (.inl rfl) E17 (PySem.W.mg_of X G x17) ii_TooGreat in_TooGreat ini_TooGreat l_i_TooGreat c_i_TooGreat k_i_TooGreat
  have XN_Unbalanced : Z.XN l.prog w K mg base "Unbalanced" e14 "given" := xn_of (cl := (fun n => [e0, e1, e2, e3, e4, e5, e6, e7, e8, e9, e10, e11, e12, e13, e14, e15, e16, e17, e18, e19, e20, e21, e22].getD n 0)) (n := 14) (.inl rfl) E14 (PySem.W.mg_of X G x14) ii_Unbalanced in_Unbalanced ini_Unbalanced l_i_Unbalanced c_i_Unbalanced k_i_Unbalanced
  have K_cast := ok_cast (P := l.prog) (w := w) (mg := mg) (base := base) D_cast T
  have K_any_of := ok_any_of (P := l.prog) (w := w) (mg := mg) (base := base) D_any_of T K_cast
  have K_vast := ok_vast (P := l.prog) (w := w) (mg := mg) (base := base) D_vast T K_cast
  have K_amount := ok_amount (P := l.prog) (w := w) (mg := mg) (base := base) D_amount T K_cast K_vast
  have K_drawn_title := ok_drawn_title (P := l.prog) (w := w) (mg := mg) (base := base) D_drawn_title T K_cast K_any_of
  have K_titles := ok_titles (P := l.prog) (w := w) (mg := mg) (base := base) D_titles T K_cast K_drawn_title
  have K_drawn_ring := ok_drawn_ring (P := l.prog) (w := w) (mg := mg) (base := base) D_drawn_ring T K_cast
  have K_with_ring := ok_with_ring (P := l.prog) (w := w) (mg := mg) (base := base) D_with_ring T
  have K_drawn_grid := ok_drawn_grid (P := l.prog) (w := w) (mg := mg) (base := base) D_drawn_grid T K_cast K_any_of K_amount K_drawn_ring K_with_ring
  have K_is_integer := ok_is_integer (P := l.prog) (w := w) (mg := mg) (base := base) D_is_integer T
  have K_is_number := ok_is_number (P := l.prog) (w := w) (mg := mg) (base := base) D_is_number T K_is_integer
  have K_is_row := ok_is_row (P := l.prog) (w := w) (mg := mg) (base := base) D_is_row T K_is_number
  have K_is_name := ok_is_name (P := l.prog) (w := w) (mg := mg) (base := base) D_is_name T
  have K_row_line := ok_row_line (P := l.prog) (w := w) (mg := mg) (base := base) D_row_line T
  have K_text_lines := ok_text_lines (P := l.prog) (w := w) (mg := mg) (base := base) D_text_lines T K_row_line
  have K_number_of := ok_number_of (P := l.prog) (w := w) (mg := mg) (base := base) D_number_of T
  have K_kinds_of_text := ok_kinds_of_text (P := l.prog) (w := w) (mg := mg) (base := base) D_kinds_of_text T
  have K_numbers_of_line := ok_numbers_of_line (P := l.prog) (w := w) (mg := mg) (base := base) D_numbers_of_line T K_number_of
  have K_rows_of_text := ok_rows_of_text (P := l.prog) (w := w) (mg := mg) (base := base) D_rows_of_text T K_numbers_of_line
  have K_check_kinds := ok_check_kinds (P := l.prog) (w := w) (mg := mg) (base := base) D_check_kinds T K_is_name
  have K_check_rows := ok_check_rows (P := l.prog) (w := w) (mg := mg) (base := base) D_check_rows T K_is_row
  have K_unbalanced_at := ok_unbalanced_at (P := l.prog) (w := w) (mg := mg) (base := base) D_unbalanced_at T
  have K_check_balance := ok_check_balance (P := l.prog) (w := w) (mg := mg) (base := base) D_check_balance T K_unbalanced_at
  have In := ok_initY (P := l.prog) (w := w) (mg := mg) (base := base) D_m_init Mi T Yt K_check_kinds K_check_rows K_check_balance
  have M_kinds := ok_kinds (P := l.prog) (w := w) (mg := mg) (base := base) D_m_kinds Yt
  have M_rows := ok_rows (P := l.prog) (w := w) (mg := mg) (base := base) D_m_rows Yt
  have M_len := ok_len (P := l.prog) (w := w) (mg := mg) (base := base) D_m_len T Yt
  have M_str := ok_str (P := l.prog) (w := w) (mg := mg) (base := base) D_m_str T Yt K_text_lines
  have M_repr := ok_repr (P := l.prog) (w := w) (mg := mg) (base := base) D_m_repr T Yt
  have K_begun := ok_begun (P := l.prog) (w := w) (mg := mg) (base := base) D_begun T
  have K_drawn := ok_drawn (P := l.prog) (w := w) (mg := mg) (base := base) D_drawn T K_any_of K_titles K_drawn_grid
  have K_sheet := ok_sheet (P := l.prog) (w := w) (mg := mg) (base := base) D_sheet T
  have K_yard_of_text := ok_yard_of_text (P := l.prog) (w := w) (mg := mg) (base := base) D_yard_of_text T Yt Y2 In M_str K_kinds_of_text K_rows_of_text
  have M_read := ok_read (P := l.prog) (w := w) (mg := mg) (base := base) D_m_read T K_yard_of_text
  have K_class := ok_class (P := l.prog) (w := w) (mg := mg) (base := base) D_class T G0
  have K_shown := ok_shown (P := l.prog) (w := w) (mg := mg) (base := base) D_shown T Yt Y2 Yi Yn M_str
  have K_shownH := ok_shownH (P := l.prog) (w := w) (mg := mg) (base := base) D_shown T Yt Yn
  have K_check_kindsN := ok_check_kindsN (P := l.prog) (w := w) (mg := mg) (base := base) D_check_kinds T XN_InvalidKinds K_is_name
  have K_check_rowsN := ok_check_rowsN (P := l.prog) (w := w) (mg := mg) (base := base) D_check_rows T XN_InvalidRows K_is_row
  have K_check_balanceN := ok_check_balanceN (P := l.prog) (w := w) (mg := mg) (base := base) D_check_balance T XN_Unbalanced K_unbalanced_at
  have InN := ok_initYN (P := l.prog) (w := w) (mg := mg) (base := base) D_m_init Mi T Yt K_check_kindsN K_check_rowsN K_check_balanceN
  have K_yard_of_textU := ok_yard_of_textU (P := l.prog) (w := w) (mg := mg) (base := base) D_yard_of_text T Yt Y2 G0 XA InN M_str K_kinds_of_text K_rows_of_text
  have M_readU := ok_readU (P := l.prog) (w := w) (mg := mg) (base := base) D_m_read T XN_InvalidText K_yard_of_textU
  have K_greatest_numberA := ok_greatest_numberA (P := l.prog) (w := w) (mg := mg) (base := base) D_greatest_numberA T
  have K_check_not_too_greatA := ok_check_not_too_greatA (P := l.prog) (w := w) (mg := mg) (base := base) D_check_not_too_greatA T XN_TooGreat K_greatest_numberA
  have M_add := ok_add (P := l.prog) (w := w) (mg := mg) (base := base) D_m_add T Yt Yi XN_OtherKinds InN K_check_not_too_greatA
  have M_sizeS := ok_sizeS (P := l.prog) (w := w) (mg := mg) (base := base) D_m_size T Yt
  have K_things_out := ok_things_out (P := l.prog) (w := w) (mg := mg) (base := base) D_things_out T
  have M_outS := ok_outS (P := l.prog) (w := w) (mg := mg) (base := base) D_m_out T Yt K_things_out
  have K_built := ok_built (P := l.prog) (w := w) (mg := mg) (base := base) D_built T Yt Y3 In M_read K_cast K_sheet
  have K_is_kind := ok_is_kind (P := l.prog) (w := w) (mg := mg) (base := base) D_is_kind T
  have K_is_move := ok_is_move (P := l.prog) (w := w) (mg := mg) (base := base) D_is_move T (z_of X G z (by decide)) K_is_kind
  have K_sheetL := ok_sheetL (P := l.prog) (w := w) (mg := mg) (base := base) D_sheet T
  have K_builtS := ok_builtS (P := l.prog) (w := w) (mg := mg) (base := base) D_built T Yt Y3 In M_read K_cast K_sheet
  have K_other := ok_other (P := l.prog) (w := w) (mg := mg) (base := base) D_other T K_cast K_drawn K_drawn_grid
  have K_astray := ok_astray (P := l.prog) (w := w) (mg := mg) (base := base) D_astray T
  have K_greatest := ok_greatest (P := l.prog) (w := w) (mg := mg) (base := base) D_greatest T
  have K_wanted := ok_wanted (P := l.prog) (w := w) (mg := mg) (base := base) D_wanted T K_sheet K_sheetL K_greatest
  have K_row_lineH := ok_row_lineH (P := l.prog) (w := w) (mg := mg) (base := base) D_row_line T
  have K_text_linesH := ok_text_linesH (P := l.prog) (w := w) (mg := mg) (base := base) D_text_lines T K_row_lineH
  have M_strH := ok_strH (P := l.prog) (w := w) (mg := mg) (base := base) D_m_str T Yt K_text_linesH
  have K_shownHY := ok_shownHY (P := l.prog) (w := w) (mg := mg) (base := base) D_shown T Yt Y2 Yi Yn M_strH
  have K_right := ok_right (P := l.prog) (w := w) (mg := mg) (base := base) DL_right T Yt Y2 YA G0 E16 E17 TB_right M_str M_add Me_out M_outS Me_size M_sizeS K_drawn K_builtS K_other K_wanted K_astray K_sheet D_end K_class K_shown K_shownHY (Tb := [(Pt_right, qRight)]) (Pt := Pt_right) List.mem_cons_self (fun p hp e => by rw [List.mem_singleton.mp hp])
  obtain ⟨f, fd, q1, q2, q3⟩ := ok_law D_law T K_begun K_right
  obtain ⟨oc, od, kV, doc, pm, an, cdv, ct, osl, q4, q5, q6⟩ := q3.ex
  have e := q2.symm.trans hfa
  cases e
  rw [l_law] at q5
  refine ⟨_, fd, q1, q2, ?_⟩
  have q7 := Option.some.inj q5
  injection q7 with _ _ q8 _
  injection q8 with q9
  exact q9.symm
theorem const_int {P : Program} {loose : List Str} {mean : ExcName → Option Value} {mg mb : Str → Option Value} {h : Heap} (T : PyProof.Rows.Top P loose mean mg mb h) {x : Str} {i : Int} (e : PyProof.Rows.valOf P x = some (.int i)) : ∃ u, mg x = some u ∧ RelV (.int i) u := by
  obtain ⟨v, h1, h2⟩ := T.const x _ e
  obtain ⟨t, rfl, _⟩ := PyProof.Rows.reads_int_inv (h2 h)
  exact ⟨_, h1, t, rfl⟩
theorem const_str {P : Program} {loose : List Str} {mean : ExcName → Option Value} {mg mb : Str → Option Value} {h : Heap} (T : PyProof.Rows.Top P loose mean mg mb h) {x z : Str} (e : PyProof.Rows.valOf P x = some (.str z)) : ∃ u, mg x = some u ∧ RelV (.str z) u := by
  obtain ⟨v, h1, h2⟩ := T.const x _ e
  obtain ⟨t, rfl, _⟩ := PyProof.Rows.reads_str_inv (h2 h)
  exact ⟨_, h1, t, rfl⟩
end Y

open PySem PySem.W PyProof.Rows
set_option Elab.async false
set_option linter.all false
abbrev Y.R9 : OpenRow := PySem.Challenge.rw_swapkinds_k17_whole_yards_added.row
noncomputable def Y.q9 : Program := { Y.R9.prog with main := { Y.R9.prog.main with body := Y.R9.prog.main.body.filter fun s => match s with | .FunctionDef n .. => n == "law" | _ => false } }
noncomputable def Y.loose9 : List Str := (Y.R9.prog.main.scope.names.map (·.1)).filter fun x => !(x == "law")
theorem Y.km_ob {K : Params → Frag} {as : List Addr} {e : ∀ P, as = (K P).map (·.1)} {ts : List Addr} (s : SharedT) : (as.map (HandSHeadRun.getT s), ts.map (HandSHeadRun.getT s)) = (kmHook K as e ts).obs s.abs := by
  show _ = (as.map s.abs.heap.get?, ts.map s.abs.heap.get?)
  rw [show HandSHeadRun.getT s = s.abs.heap.get? from funext (HandSHeadRun.getT_eq s)]
set_option hygiene false in
local macro_rules
  | `(tactic| o_head ($f $k $a $e $t)) => `(tactic| (refine HandSHeadRun.head_any (q := Y.q9) (loose := Y.loose9) (H := ($f $k $a $e $t)) (ob := fun s => (List.map (HandSHeadRun.getT s) $a, List.map (HandSHeadRun.getT s) $t)) (M := 9000) (fun s => Y.km_ob s) (by rfl) (fun s => by rfl) ?run (by rfl) (by rfl) (by rfl) (by rfl) (by first | assumption | decide +kernel) (by decide +kernel) ⟨rfl, rfl, rfl, rfl, rfl, by decide +kernel⟩ ?hw ?hc; (case run => intro w os; kernel_rfl)))
set_option maxRecDepth 100000 in
set_option maxHeartbeats 0 in
open_top Y.top9 for PySem.Challenge.rw_swapkinds_k17_whole_yards_added
set_option maxRecDepth 100000 in
set_option maxHeartbeats 0 in
theorem PySem.Challenge.cw_swapkinds_k17_whole_yards_added_holds : PySem.Challenge.rw_swapkinds_k17_whole_yards_added.Holds := by
  refine Y.top9 ?_
  k_fill
  refine Z.walk_ofGT (l := PySem.Challenge.rw_swapkinds_k17_whole_yards_added) (n := 63) (k := 21) (x := "_law_script") rfl (by decide) rfl ⟨rfl, by decide, by decide⟩ (fun w h Y => PySem.W.km_in_of Y) ?F
  case F =>
    intro w s₀ mg mb fa h Gr YY KX G hmg
    have hTs0 := PySem.W.km_tabs_of YY _ List.mem_cons_self
    have v4 : ∃ u, mg "MOST_COUNT" = some u ∧ L2.RelV (.int 1000000000000000000000000000000) u := ⟨_, PySem.W.mg_of KX G (by k_is), _, rfl⟩
    have v1 : ∃ u, mg "LETTERS" = some u ∧ L2.RelV (.str "abcdefghijklmnopqrstuvwxyz") u := ⟨_, PySem.W.mg_of KX G (by k_is), _, rfl⟩
    have v2 : ∃ u, mg "DIGITS" = some u ∧ L2.RelV (.str "0123456789") u := ⟨_, PySem.W.mg_of KX G (by k_is), _, rfl⟩
    have v3 : ∃ u, mg "LONGEST_NAME" = some u ∧ L2.RelV (.int 8) u := ⟨_, PySem.W.mg_of KX G (by k_is), _, rfl⟩
    have v5 : ∃ u, mg "MOST_KINDS" = some u ∧ L2.RelV (.int 4) u := ⟨_, PySem.W.mg_of KX G (by k_is), _, rfl⟩
    refine' Y.all_mk (hPt_right := hTs0) KX G hmg ?aC ?pg ?hd ?po ?sa ?nK ?nR ?mki ?kpC ?sBool ?rd ?ga ?yha ?yhn ?yht ?yhm ?i_eq ?n_eq ?sfC ?i_init ?n_init ?l_m_init ?c_m_init ?k_m_init ?i_kinds ?g_kinds ?t_kinds ?r_kinds ?l_m_kinds ?c_m_kinds ?k_m_kinds ?i_rows ?g_rows ?t_rows ?r_rows ?l_m_rows ?c_m_rows ?k_m_rows ?i_len ?n_len ?l_m_len ?c_m_len ?k_m_len ?i_str ?n_str ?l_m_str ?c_m_str ?k_m_str ?i_repr ?n_repr ?l_m_repr ?c_m_repr ?k_m_repr ?i_read ?r_read ?n_read ?l_m_read ?c_m_read ?k_m_read ?i_add ?n_add ?l_m_add ?c_m_add ?k_m_add ?i_size ?n_size ?l_m_size ?c_m_size ?k_m_size ?i_out ?n_out ?l_m_out ?c_m_out ?k_m_out ?a_cast ?l_cast ?c_cast ?k_cast ?a_any_of ?l_any_of ?c_any_of ?k_any_of ?a_vast ?l_vast ?c_vast ?k_vast ?a_amount ?l_amount ?c_amount ?k_amount ?a_drawn_title ?l_drawn_title ?c_drawn_title ?k_drawn_title ?a_titles ?l_titles ?c_titles ?k_titles ?a_drawn_ring ?l_drawn_ring ?c_drawn_ring ?k_drawn_ring ?a_with_ring ?l_with_ring ?c_with_ring ?k_with_ring ?a_drawn_grid ?l_drawn_grid ?c_drawn_grid ?k_drawn_grid ?a_is_integer ?l_is_integer ?c_is_integer ?k_is_integer ?a_is_number ?l_is_number ?c_is_number ?k_is_number ?a_is_row ?l_is_row ?c_is_row ?k_is_row ?a_is_name ?l_is_name ?c_is_name ?k_is_name ?a_row_line ?l_row_line ?c_row_line ?k_row_line ?a_text_lines ?l_text_lines ?c_text_lines ?k_text_lines ?a_number_of ?l_number_of ?c_number_of ?k_number_of ?a_kinds_of_text ?l_kinds_of_text ?c_kinds_of_text ?k_kinds_of_text ?a_numbers_of_line ?l_numbers_of_line ?c_numbers_of_line ?k_numbers_of_line ?a_rows_of_text ?l_rows_of_text ?c_rows_of_text ?k_rows_of_text ?a_check_kinds ?l_check_kinds ?c_check_kinds ?k_check_kinds ?a_check_rows ?l_check_rows ?c_check_rows ?k_check_rows ?a_unbalanced_at ?l_unbalanced_at ?c_unbalanced_at ?k_unbalanced_at ?a_check_balance ?l_check_balance ?c_check_balance ?k_check_balance ?a_begun ?l_begun ?c_begun ?k_begun ?a_drawn ?l_drawn ?c_drawn ?k_drawn ?a_sheet ?l_sheet ?c_sheet ?k_sheet ?a_yard_of_text ?l_yard_of_text ?c_yard_of_text ?k_yard_of_text ?a_class ?l_class ?c_class ?k_class ?a_shown ?l_shown ?c_shown ?k_shown ?a_greatest_numberA ?l_greatest_numberA ?c_greatest_numberA ?k_greatest_numberA ?a_check_not_too_greatA ?l_check_not_too_greatA ?c_check_not_too_greatA ?k_check_not_too_greatA ?a_things_out ?l_things_out ?c_things_out ?k_things_out ?a_built ?l_built ?c_built ?k_built ?a_is_kind ?l_is_kind ?c_is_kind ?k_is_kind ?a_is_move ?l_is_move ?c_is_move ?k_is_move ?a_other ?l_other ?c_other ?k_other ?a_astray ?l_astray ?c_astray ?k_astray ?a_greatest ?l_greatest ?c_greatest ?k_greatest ?a_wanted ?l_wanted ?c_wanted ?k_wanted ?a_end ?l_end ?c_end ?k_end ?a_law ?l_law ?c_law ?k_law ?a_right ?l_right ?cc_right ?k_right ?chd_right ?nPt_right ?x0 ?x1 ?x2 ?x3 ?x4 ?x5 ?x6 ?x7 ?x8 ?x9 ?x10 ?x11 ?x12 ?x13 ?x14 ?x15 ?x16 ?x17 ?x18 ?x19 ?x20 ?x21 ?x22 ?ek0 ?ek8 ?ek9 ?ek14 ?ek16 ?ek17 ?xany ?yno ?ii_InvalidKinds ?in_InvalidKinds ?l_i_InvalidKinds ?c_i_InvalidKinds ?k_i_InvalidKinds ?ii_InvalidRows ?in_InvalidRows ?l_i_InvalidRows ?c_i_InvalidRows ?k_i_InvalidRows ?ii_InvalidText ?in_InvalidText ?l_i_InvalidText ?c_i_InvalidText ?k_i_InvalidText ?ii_OtherKinds ?in_OtherKinds ?l_i_OtherKinds ?c_i_OtherKinds ?k_i_OtherKinds ?ii_TooGreat ?in_TooGreat ?l_i_TooGreat ?c_i_TooGreat ?k_i_TooGreat ?ii_Unbalanced ?in_Unbalanced ?l_i_Unbalanced ?c_i_Unbalanced ?k_i_Unbalanced ?z v1 v2 v3 v4 v5
    (case aC => k_is)
    (case pg => k_is)
    (case hd => k_is)
    (case po => k_is)
    (case sa => k_is)
    (case nK => k_is)
    (case nR => k_is)
    (case mki => k_is)
    (case kpC => k_is)
    (case sBool => k_is)
    (case rd => k_is)
    (case ga => k_is)
    (case yha => k_is)
    (case yhn => k_is)
    (case yht => k_is)
    (case yhm => k_is)
    (case i_eq => k_is)
    (case n_eq => k_is)
    (case sfC => k_is)
    (case i_init => k_is)
    (case n_init => k_is)
    (case l_m_init => k_is)
    (case c_m_init => k_is)
    (case k_m_init => k_is)
    (case i_kinds => k_is)
    (case g_kinds => k_is)
    (case t_kinds => k_is)
    (case r_kinds => k_is)
    (case l_m_kinds => k_is)
    (case c_m_kinds => k_is)
    (case k_m_kinds => k_is)
    (case i_rows => k_is)
    (case g_rows => k_is)
    (case t_rows => k_is)
    (case r_rows => k_is)
    (case l_m_rows => k_is)
    (case c_m_rows => k_is)
    (case k_m_rows => k_is)
    (case i_len => k_is)
    (case n_len => k_is)
    (case l_m_len => k_is)
    (case c_m_len => k_is)
    (case k_m_len => k_is)
    (case i_str => k_is)
    (case n_str => k_is)
    (case l_m_str => k_is)
    (case c_m_str => k_is)
    (case k_m_str => k_is)
    (case i_repr => k_is)
    (case n_repr => k_is)
    (case l_m_repr => k_is)
    (case c_m_repr => k_is)
    (case k_m_repr => k_is)
    (case i_read => k_is)
    (case r_read => k_is)
    (case n_read => k_is)
    (case l_m_read => k_is)
    (case c_m_read => k_is)
    (case k_m_read => k_is)
    (case i_add => k_is)
    (case n_add => k_is)
    (case l_m_add => k_is)
    (case c_m_add => k_is)
    (case k_m_add => k_is)
    (case i_size => k_is)
    (case n_size => k_is)
    (case l_m_size => k_is)
    (case c_m_size => k_is)
    (case k_m_size => k_is)
    (case i_out => k_is)
    (case n_out => k_is)
    (case l_m_out => k_is)
    (case c_m_out => k_is)
    (case k_m_out => k_is)
    (case a_cast => k_is)
    (case l_cast => k_is)
    (case c_cast => k_is)
    (case k_cast => k_is)
    (case a_any_of => k_is)
    (case l_any_of => k_is)
    (case c_any_of => k_is)
    (case k_any_of => k_is)
    (case a_vast => k_is)
    (case l_vast => k_is)
    (case c_vast => k_is)
    (case k_vast => k_is)
    (case a_amount => k_is)
    (case l_amount => k_is)
    (case c_amount => k_is)
    (case k_amount => k_is)
    (case a_drawn_title => k_is)
    (case l_drawn_title => k_is)
    (case c_drawn_title => k_is)
    (case k_drawn_title => k_is)
    (case a_titles => k_is)
    (case l_titles => k_is)
    (case c_titles => k_is)
    (case k_titles => k_is)
    (case a_drawn_ring => k_is)
    (case l_drawn_ring => k_is)
    (case c_drawn_ring => k_is)
    (case k_drawn_ring => k_is)
    (case a_with_ring => k_is)
    (case l_with_ring => k_is)
    (case c_with_ring => k_is)
    (case k_with_ring => k_is)
    (case a_drawn_grid => k_is)
    (case l_drawn_grid => k_is)
    (case c_drawn_grid => k_is)
    (case k_drawn_grid => k_is)
    (case a_is_integer => k_is)
    (case l_is_integer => k_is)
    (case c_is_integer => k_is)
    (case k_is_integer => k_is)
    (case a_is_number => k_is)
    (case l_is_number => k_is)
    (case c_is_number => k_is)
    (case k_is_number => k_is)
    (case a_is_row => k_is)
    (case l_is_row => k_is)
    (case c_is_row => k_is)
    (case k_is_row => k_is)
    (case a_is_name => k_is)
    (case l_is_name => k_is)
    (case c_is_name => k_is)
    (case k_is_name => k_is)
    (case a_row_line => k_is)
    (case l_row_line => k_is)
    (case c_row_line => k_is)
    (case k_row_line => k_is)
    (case a_text_lines => k_is)
    (case l_text_lines => k_is)
    (case c_text_lines => k_is)
    (case k_text_lines => k_is)
    (case a_number_of => k_is)
    (case l_number_of => k_is)
    (case c_number_of => k_is)
    (case k_number_of => k_is)
    (case a_kinds_of_text => k_is)
    (case l_kinds_of_text => k_is)
    (case c_kinds_of_text => k_is)
    (case k_kinds_of_text => k_is)
    (case a_numbers_of_line => k_is)
    (case l_numbers_of_line => k_is)
    (case c_numbers_of_line => k_is)
    (case k_numbers_of_line => k_is)
    (case a_rows_of_text => k_is)
    (case l_rows_of_text => k_is)
    (case c_rows_of_text => k_is)
    (case k_rows_of_text => k_is)
    (case a_check_kinds => k_is)
    (case l_check_kinds => k_is)
    (case c_check_kinds => k_is)
    (case k_check_kinds => k_is)
    (case a_check_rows => k_is)
    (case l_check_rows => k_is)
    (case c_check_rows => k_is)
    (case k_check_rows => k_is)
    (case a_unbalanced_at => k_is)
    (case l_unbalanced_at => k_is)
    (case c_unbalanced_at => k_is)
    (case k_unbalanced_at => k_is)
    (case a_check_balance => k_is)
    (case l_check_balance => k_is)
    (case c_check_balance => k_is)
    (case k_check_balance => k_is)
    (case a_begun => k_is)
    (case l_begun => k_is)
    (case c_begun => k_is)
    (case k_begun => k_is)
    (case a_drawn => k_is)
    (case l_drawn => k_is)
    (case c_drawn => k_is)
    (case k_drawn => k_is)
    (case a_sheet => k_is)
    (case l_sheet => k_is)
    (case c_sheet => k_is)
    (case k_sheet => k_is)
    (case a_yard_of_text => k_is)
    (case l_yard_of_text => k_is)
    (case c_yard_of_text => k_is)
    (case k_yard_of_text => k_is)
    (case a_class => k_is)
    (case l_class => k_is)
    (case c_class => k_is)
    (case k_class => k_is)
    (case a_shown => k_is)
    (case l_shown => k_is)
    (case c_shown => k_is)
    (case k_shown => k_is)
    (case a_greatest_numberA => k_is)
    (case l_greatest_numberA => k_is)
    (case c_greatest_numberA => k_is)
    (case k_greatest_numberA => k_is)
    (case a_check_not_too_greatA => k_is)
    (case l_check_not_too_greatA => k_is)
    (case c_check_not_too_greatA => k_is)
    (case k_check_not_too_greatA => k_is)
    (case a_things_out => k_is)
    (case l_things_out => k_is)
    (case c_things_out => k_is)
    (case k_things_out => k_is)
    (case a_built => k_is)
    (case l_built => k_is)
    (case c_built => k_is)
    (case k_built => k_is)
    (case a_is_kind => k_is)
    (case l_is_kind => k_is)
    (case c_is_kind => k_is)
    (case k_is_kind => k_is)
    (case a_is_move => k_is)
    (case l_is_move => k_is)
    (case c_is_move => k_is)
    (case k_is_move => k_is)
    (case a_other => k_is)
    (case l_other => k_is)
    (case c_other => k_is)
    (case k_other => k_is)
    (case a_astray => k_is)
    (case l_astray => k_is)
    (case c_astray => k_is)
    (case k_astray => k_is)
    (case a_greatest => k_is)
    (case l_greatest => k_is)
    (case c_greatest => k_is)
    (case k_greatest => k_is)
    (case a_wanted => k_is)
    (case l_wanted => k_is)
    (case c_wanted => k_is)
    (case k_wanted => k_is)
    (case a_end => k_is)
    (case l_end => k_is)
    (case c_end => k_is)
    (case k_end => k_is)
    (case a_law => k_is)
    (case l_law => k_is)
    (case c_law => k_is)
    (case k_law => k_is)
    (case a_right => k_is)
    (case l_right => k_is)
    (case cc_right => k_is)
    (case k_right => k_is)
    (case chd_right => kernel_rfl)
    (case nPt_right => kernel_rfl)
    (case x0 => k_is)
    (case x1 => k_is)
    (case x2 => k_is)
    (case x3 => k_is)
    (case x4 => k_is)
    (case x5 => k_is)
    (case x6 => k_is)
    (case x7 => k_is)
    (case x8 => k_is)
    (case x9 => k_is)
    (case x10 => k_is)
    (case x11 => k_is)
    (case x12 => k_is)
    (case x13 => k_is)
    (case x14 => k_is)
    (case x15 => k_is)
    (case x16 => k_is)
    (case x17 => k_is)
    (case x18 => k_is)
    (case x19 => k_is)
    (case x20 => k_is)
    (case x21 => k_is)
    (case x22 => k_is)
    (case ek0 => kernel_rfl)
    (case ek8 => kernel_rfl)
    (case ek9 => kernel_rfl)
    (case ek14 => kernel_rfl)
    (case ek16 => kernel_rfl)
    (case ek17 => kernel_rfl)
    (case xany => kernel_rfl)
    (case yno => kernel_rfl)
    (case ii_InvalidKinds => k_is)
    (case in_InvalidKinds => k_is)
    (case l_i_InvalidKinds => k_is)
    (case c_i_InvalidKinds => k_is)
    (case k_i_InvalidKinds => k_is)
    (case ii_InvalidRows => k_is)
    (case in_InvalidRows => k_is)
    (case l_i_InvalidRows => k_is)
    (case c_i_InvalidRows => k_is)
    (case k_i_InvalidRows => k_is)
    (case ii_InvalidText => k_is)
    (case in_InvalidText => k_is)
    (case l_i_InvalidText => k_is)
    (case c_i_InvalidText => k_is)
    (case k_i_InvalidText => k_is)
    (case ii_OtherKinds => k_is)
    (case in_OtherKinds => k_is)
    (case l_i_OtherKinds => k_is)
    (case c_i_OtherKinds => k_is)
    (case k_i_OtherKinds => k_is)
    (case ii_TooGreat => k_is)
    (case in_TooGreat => k_is)
    (case l_i_TooGreat => k_is)
    (case c_i_TooGreat => k_is)
    (case k_i_TooGreat => k_is)
    (case ii_Unbalanced => k_is)
    (case in_Unbalanced => k_is)
    (case l_i_Unbalanced => k_is)
    (case c_i_Unbalanced => k_is)
    (case k_i_Unbalanced => k_is)
    (case z => kernel_rfl)
