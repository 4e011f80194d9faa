import PyProof.Rows.All
import Wide.All
import OpenK.AllK
import Wide.FinOn
import HandS.ForMost
import HandS.Wide
import HandS.WideBits
import HandS.IsInst
import HandS.Flow
import HandS.ExcInit
import KE.KExcInit
import KE.KExcIs
import HandS.LawCells
import HandS.EndBits
import PySem.Challenge.RW_swapkinds_k01_limits_and_errors
set_option Elab.async false
set_option linter.all false
set_option maxRecDepth 100000
set_option maxHeartbeats 4000000
namespace Sv
open PySem L2

/-- a value of the copy: tracked objects by their numbers, classes of the program by theirs -/
inductive W where
  | non | bl (b : Bool) | int (i : Int) | str (x : Str) | ref (i : Nat) | cl (n : Nat) | ty (s : String)
  deriving DecidableEq
inductive O where
  | lst (xs : List W) | tup (xs : List W) | dk (kvs : List (Key × W)) | exo (C d : Nat) | exd (fs : List (Str × W)) | exz (C : Nat)
  deriving DecidableEq

structure Kx where
  K : PySem.W.Frag
  cl : List Addr

def RelW (κ : Kx) (ρ : List Addr) : W → V → Prop
  | .non, v => v = .non
  | .bl b, v => v = .bl b
  | .int i, v => v = .int i
  | .str x, v => v = .str x
  | .ref i, v => ∃ a, ρ[i]? = some a ∧ v = .ref a
  | .cl n, v => ∃ a, κ.cl[n]? = some a ∧ v = .ref a
  | .ty s, v => v = .ty s
abbrev RelL (κ : Kx) (ρ : List Addr) : List W → List V → Prop := Paired (RelW κ ρ)
def RelP {α : Type} (κ : Kx) (ρ : List Addr) (p : α × W) (q : α × V) : Prop := p.1 = q.1 ∧ RelW κ ρ p.2 q.2

def ObjR (κ : Kx) (ρ : List Addr) (H : Hp) (a : Addr) : O → Prop
  | .lst xs => ∃ vs, H a = some (.lst vs) ∧ RelL κ ρ xs vs
  | .tup xs => ∃ vs, H a = some (.tup vs) ∧ RelL κ ρ xs vs
  | .dk kvs => ∃ vs, H a = some (.dK vs) ∧ Paired (RelP κ ρ) kvs vs
  | .exo C d => ∃ c b, κ.cl[C]? = some c ∧ ρ[d]? = some b ∧ H a = some (exo a c (some b))
  | .exd fs => ∃ gs, H a = some (exd a gs) ∧ Paired (RelP κ ρ) fs gs
  | .exz C => ∃ c, κ.cl[C]? = some c ∧ H a = some (exo a c none)

def Pre (ρ ρ' : List Addr) : Prop := ∀ (i : Nat) (a : Addr), ρ[i]? = some a → ρ'[i]? = some a
theorem Pre.refl (ρ : List Addr) : Pre ρ ρ := fun _ _ h => h
theorem Pre.trans {a b c : List Addr} (x : Pre a b) (y : Pre b c) : Pre a c := fun i p h => y i p (x i p h)
theorem Pre.snoc (ρ : List Addr) (p : Addr) : Pre ρ (ρ ++ [p]) := fun i a h => by
  have hi := (List.getElem?_eq_some_iff.mp h).1
  rw [List.getElem?_append_left hi]
  exact h

section
variable {κ : Kx} {ρ ρ' ρ'' : List Addr} {H H' H'' : Hp}
theorem RelW.mono (p : Pre ρ ρ') : ∀ {w : W} {v : V}, RelW κ ρ w v → RelW κ ρ' w v
  | .non, _, h => h
  | .bl _, _, h => h
  | .int _, _, h => h
  | .str _, _, h => h
  | .ref _, _, ⟨a, h, e⟩ => ⟨a, p _ _ h, e⟩
  | .cl _, _, h => h
  | .ty _, _, h => h
theorem Paired.mono {α β : Type} {F G : α → β → Prop} (h : ∀ a b, F a b → G a b) : ∀ {l₁ : List α} {l₂ : List β}, Paired F l₁ l₂ → Paired G l₁ l₂
  | _, _, .nil => .nil
  | _, _, .cons r t => .cons (h _ _ r) (Paired.mono h t)
theorem RelL.mono (p : Pre ρ ρ') {xs : List W} {vs : List V} (h : RelL κ ρ xs vs) : RelL κ ρ' xs vs := Paired.mono (fun _ _ => RelW.mono p) h
theorem RelP.mono {α : Type} (p : Pre ρ ρ') {x : α × W} {y : α × V} (h : RelP κ ρ x y) : RelP κ ρ' x y := ⟨h.1, h.2.mono p⟩
theorem ObjR.mono {a : Addr} (p : Pre ρ ρ') (e : H' a = H a) : ∀ {o : O}, ObjR κ ρ H a o → ObjR κ ρ' H' a o
  | .lst _, ⟨vs, h, r⟩ => ⟨vs, e.trans h, RelL.mono p r⟩
  | .tup _, ⟨vs, h, r⟩ => ⟨vs, e.trans h, RelL.mono p r⟩
  | .dk _, ⟨vs, h, r⟩ => ⟨vs, e.trans h, Paired.mono (fun _ _ => RelP.mono p) r⟩
  | .exo _ _, ⟨c, b, h1, h2, h3⟩ => ⟨c, b, h1, p _ _ h2, e.trans h3⟩
  | .exd _, ⟨gs, h, r⟩ => ⟨gs, e.trans h, Paired.mono (fun _ _ => RelP.mono p) r⟩
  | .exz _, ⟨c, h1, h3⟩ => ⟨c, h1, e.trans h3⟩
theorem ObjR.there {a : Addr} : ∀ {o : O}, ObjR κ ρ H a o → ∃ u, H a = some u
  | .lst _, ⟨_, h, _⟩ => ⟨_, h⟩
  | .tup _, ⟨_, h, _⟩ => ⟨_, h⟩
  | .dk _, ⟨_, h, _⟩ => ⟨_, h⟩
  | .exo _ _, ⟨_, _, _, _, h⟩ => ⟨_, h⟩
  | .exd _, ⟨_, h, _⟩ => ⟨_, h⟩
  | .exz _, ⟨_, _, h⟩ => ⟨_, h⟩

structure Rep (κ : Kx) (ρ : List Addr) (A : List O) (H : Hp) : Prop where
  len : ρ.length = A.length
  nd : ρ.Nodup
  ob : ∀ (i : Nat) (a : Addr) (o : O), ρ[i]? = some a → A[i]? = some o → ObjR κ ρ H a o

structure Go (ρ : List Addr) (H : Hp) (ρ' : List Addr) (H' : Hp) : Prop where
  pre : Pre ρ ρ'
  new : ∀ p, p ∈ ρ' → p ∈ ρ ∨ H p = none
  kp : ∀ b o, H b = some o → b ∉ ρ → H' b = some o
theorem Go.refl : Go ρ H ρ H := ⟨.refl _, fun _ h => .inl h, fun _ _ h _ => h⟩
theorem Go.trans (a : Go ρ H ρ' H') (b : Go ρ' H' ρ'' H'') : Go ρ H ρ'' H'' where
  pre := a.pre.trans b.pre
  new := fun p hp => by
    by_cases h1 : p ∈ ρ
    · exact .inl h1
    · refine .inr ?_
      rcases b.new p hp with h | h
      · rcases a.new p h with h | h
        · exact absurd h h1
        · exact h
      · cases e : H p with
        | none => rfl
        | some o =>
          rw [a.kp p o e h1] at h
          cases h
  kp := fun c o e h => b.kp c o (a.kp c o e h) fun h2 => by
    rcases a.new c h2 with h3 | h3
    · exact h h3
    · rw [e] at h3
      cases h3
variable {A : List O}
theorem Rep.at (R : Rep κ ρ A H) {i : Nat} {o : O} (h : A[i]? = some o) : ∃ a, ρ[i]? = some a ∧ ObjR κ ρ H a o := by
  have hi := (List.getElem?_eq_some_iff.mp h).1
  rw [← R.len] at hi
  exact ⟨ρ[i], List.getElem?_eq_getElem hi, R.ob i _ o (List.getElem?_eq_getElem hi) h⟩
theorem Rep.of (R : Rep κ ρ A H) {i : Nat} {a : Addr} {o : O} (ha : ρ[i]? = some a) (h : A[i]? = some o) : ObjR κ ρ H a o := R.ob i a o ha h
theorem Rep.fresh (R : Rep κ ρ A H) {p : Addr} (hp : H p = none) : p ∉ ρ := fun h => by
  obtain ⟨i, hi⟩ := List.getElem?_of_mem h
  have hl := (List.getElem?_eq_some_iff.mp hi).1
  rw [R.len] at hl
  obtain ⟨u, e⟩ := (R.ob i p _ hi (List.getElem?_eq_getElem hl)).there
  rw [hp] at e
  cases e
theorem Rep.push (R : Rep κ ρ A H) {p : Addr} {o : O} {u : HO} (hp : H p = none) (h : ObjR κ (ρ ++ [p]) (upd H p u) p o) : Rep κ (ρ ++ [p]) (A ++ [o]) (upd H p u) ∧ Go ρ H (ρ ++ [p]) (upd H p u) := by
  have nf := R.fresh hp
  refine ⟨⟨by simp [R.len], ?_, fun i a o' ha ho => ?_⟩, ⟨.snoc ρ p, fun q hq => ?_, fun b ob e hb => by rw [upd_ne (ne_of_none e hp)]; exact e⟩⟩
  · rw [List.nodup_append]
    refine ⟨R.nd, by simp, fun a ha b hb e => ?_⟩
    rw [List.mem_singleton.mp hb] at e
    exact nf (e ▸ ha)
  · by_cases hi : i < ρ.length
    · rw [List.getElem?_append_left hi] at ha
      rw [List.getElem?_append_left (by rw [← R.len]; exact hi)] at ho
      have hne : a ≠ p := fun e => nf (e ▸ List.mem_of_getElem? ha)
      exact (R.ob i a o' ha ho).mono (.snoc ρ p) (upd_ne hne)
    · have hi2 : i = ρ.length := by
        have := (List.getElem?_eq_some_iff.mp ha).1
        rw [List.length_append, List.length_singleton] at this
        omega
      subst hi2
      rw [List.getElem?_append_right (Nat.le_refl _), Nat.sub_self] at ha
      rw [R.len, List.getElem?_append_right (Nat.le_refl _), Nat.sub_self] at ho
      obtain rfl : p = a := Option.some.inj ha
      obtain rfl : o = o' := Option.some.inj ho
      exact h
  · rcases List.mem_append.mp hq with h1 | h1
    · exact .inl h1
    · exact .inr (by rw [List.mem_singleton.mp h1]; exact hp)
theorem snoc_at (ρ : List Addr) (p : Addr) : (ρ ++ [p])[ρ.length]? = some p := by simp
theorem Rep.set (R : Rep κ ρ A H) {i : Nat} {a : Addr} {o : O} {u : HO} (hi : ρ[i]? = some a) (h : ObjR κ ρ (upd H a u) a o) : Rep κ ρ (A.set i o) (upd H a u) ∧ Go ρ H ρ (upd H a u) := by
  refine ⟨⟨by simp [R.len], R.nd, fun j b o' hb ho => ?_⟩, ⟨.refl _, fun _ h => .inl h, fun b ob e hb => by
    have hba : b ≠ a := fun z => by
      subst z
      exact hb (List.mem_of_getElem? hi)
    rw [upd_ne hba]
    exact e⟩⟩
  by_cases hj : i = j
  · subst hj
    rw [hi] at hb
    obtain rfl : a = b := Option.some.inj hb
    have hl := (List.getElem?_eq_some_iff.mp hi).1
    rw [R.len] at hl
    rw [List.getElem?_set_self hl] at ho
    obtain rfl : o = o' := Option.some.inj ho
    exact h
  · rw [List.getElem?_set_ne hj] at ho
    have hne : b ≠ a := fun e => by
      subst e
      obtain ⟨h1, e1⟩ := List.getElem?_eq_some_iff.mp hi
      obtain ⟨h2, e2⟩ := List.getElem?_eq_some_iff.mp hb
      exact hj ((List.getElem_inj R.nd).mp (e1.trans e2.symm))
    exact (R.ob j b o' hb ho).mono (.refl _) (upd_ne hne)
end

/-! ### what a reading does to the copy -/
abbrev Sl := List (Option W)
abbrev ME := Sl → List O → Option (W × List O)
abbrev MT := Sl → List O → Option (Bool × List O)
abbrev MA := Sl → List O → Option (List W × List O)
inductive Out where
  | nx (e : Sl) | rt (w : W) | bk (e : Sl) | ct (e : Sl)
abbrev MS := Sl → List O → Option (Out × List O)
def RelE (κ : Kx) (ρ : List Addr) (e : Sl) (σ : St) : Prop := e.length = σ.length ∧ ∀ (i : Nat) (w : W), e[i]? = some (some w) → ∃ v, σ[i]? = some (some v) ∧ RelW κ ρ w v
theorem RelE.mono {κ : Kx} {ρ ρ' : List Addr} {e : Sl} {σ : St} (p : Pre ρ ρ') (h : RelE κ ρ e σ) : RelE κ ρ' e σ := ⟨h.1, fun i w q => by
  obtain ⟨v, h1, h2⟩ := h.2 i w q
  exact ⟨v, h1, h2.mono p⟩⟩
theorem RelE.set {κ : Kx} {ρ : List Addr} {e : Sl} {σ : St} (h : RelE κ ρ e σ) {w : W} {v : V} (r : RelW κ ρ w v) (i : Nat) : RelE κ ρ (e.set i (some w)) (σ.set i (some v)) := by
  refine ⟨by rw [List.length_set, List.length_set]; exact h.1, fun j x q => ?_⟩
  by_cases hj : i = j
  · subst hj
    have hl := (List.getElem?_eq_some_iff.mp q).1
    rw [List.length_set] at hl
    rw [List.getElem?_set_self hl] at q
    obtain rfl : w = x := Option.some.inj (Option.some.inj q)
    exact ⟨v, List.getElem?_set_self (by rw [← h.1]; exact hl), r⟩
  · rw [List.getElem?_set_ne hj] at q ⊢
    exact h.2 j x q

def SimE (κ : Kx) (t : TE) (m : ME) : Prop := ∀ (ρ : List Addr) (A : List O) (e : Sl) (σ : St) (H : Hp) (Q : VK) (w : W) (A' : List O), Rep κ ρ A H → RelE κ ρ e σ → m e A = some (w, A') →
  (∀ ρ' H' v, Rep κ ρ' A' H' → Go ρ H ρ' H' → RelW κ ρ' w v → Q v H') → t σ H Q
def SimT (κ : Kx) (t : TT) (m : MT) : Prop := ∀ (ρ : List Addr) (A : List O) (e : Sl) (σ : St) (H : Hp) (Q : Bool → Hp → Prop) (b : Bool) (A' : List O), Rep κ ρ A H → RelE κ ρ e σ → m e A = some (b, A') →
  (∀ ρ' H', Rep κ ρ' A' H' → Go ρ H ρ' H' → Q b H') → t σ H Q
def SimA (κ : Kx) (t : TA) (m : MA) : Prop := ∀ (ρ : List Addr) (A : List O) (e : Sl) (σ : St) (H : Hp) (Q : List V → Hp → Prop) (ws : List W) (A' : List O), Rep κ ρ A H → RelE κ ρ e σ → m e A = some (ws, A') →
  (∀ ρ' H' vs, Rep κ ρ' A' H' → Go ρ H ρ' H' → RelL κ ρ' ws vs → Q vs H') → t σ H Q
def OutR (κ : Kx) (ρ : List Addr) (D : Ends) (H : Hp) : Out → Prop
  | .nx e => ∀ σ, RelE κ ρ e σ → D.nx σ H
  | .rt w => ∀ v, RelW κ ρ w v → D.rt v H
  | .bk e => ∀ σ, RelE κ ρ e σ → D.bk σ H
  | .ct e => ∀ σ, RelE κ ρ e σ → D.ct σ H
def SimS (κ : Kx) (t : TS) (m : MS) : Prop := ∀ (ρ : List Addr) (A : List O) (e : Sl) (σ : St) (H : Hp) (D : Ends) (o : Out) (A' : List O), Rep κ ρ A H → RelE κ ρ e σ → m e A = some (o, A') →
  (∀ ρ' H', Rep κ ρ' A' H' → Go ρ H ρ' H' → OutR κ ρ' D H' o) → t D σ H
def SimR (κ : Kx) (r : R2) (f : W → W → List O → Option (W × List O)) : Prop := ∀ (ρ : List Addr) (A : List O) (H : Hp) (x y : W) (vx vy : V) (w : W) (A' : List O) (Q : VK), Rep κ ρ A H → RelW κ ρ x vx → RelW κ ρ y vy → f x y A = some (w, A') →
  (∀ ρ' H' v, Rep κ ρ' A' H' → Go ρ H ρ' H' → RelW κ ρ' w v → Q v H') → r vx vy H Q
def SimC (κ : Kx) (r : List V → Hp → VK → Prop) (f : List W → List O → Option (W × List O)) : Prop := ∀ (ρ : List Addr) (A : List O) (H : Hp) (xs : List W) (vs : List V) (w : W) (A' : List O) (Q : VK), Rep κ ρ A H → RelL κ ρ xs vs → f xs A = some (w, A') →
  (∀ ρ' H' v, Rep κ ρ' A' H' → Go ρ H ρ' H' → RelW κ ρ' w v → Q v H') → r vs H Q

structure GE (X : Cx) (κ : Kx) (e : Expr) (t : TE) (m : ME) : Prop where
  pe : X.K = κ.K → PE X e t
  sim : SimE κ t m
structure GT (X : Cx) (κ : Kx) (e : Expr) (t : TT) (m : MT) : Prop where
  pt : X.K = κ.K → PT X e t
  sim : SimT κ t m
structure GW (X : Cx) (κ : Kx) (e : Expr) (t : TT) (m : MT) : Prop where
  pw : X.K = κ.K → PW X e t
  sim : SimT κ t m
structure GA (X : Cx) (κ : Kx) (es : List Expr) (t : TA) (m : MA) : Prop where
  pa : X.K = κ.K → PA X es t
  sim : SimA κ t m
structure GS (X : Cx) (κ : Kx) (st : Stmt) (t : TS) (m : MS) : Prop where
  ps : X.K = κ.K → PS X st t
  sim : SimS κ t m
structure GSs (X : Cx) (κ : Kx) (st : List Stmt) (t : TS) (m : MS) : Prop where
  pss : X.K = κ.K → PSs X st t
  sim : SimS κ t m

/-! ### the copy's steps -/
def mVar (i : Nat) : ME := fun e A => match e[i]? with | some (some w) => some (w, A) | _ => none
def mC (w : W) : ME := fun _ A => some (w, A)
def mOp (f : W → W → List O → Option (W × List O)) (a b : ME) : ME := fun e A => match a e A with
  | some (x, A1) => match b e A1 with
    | some (y, A2) => f x y A2
    | none => none
  | none => none
def mNil : MA := fun _ A => some ([], A)
def mCons (a : ME) (r : MA) : MA := fun e A => match a e A with
  | some (x, A1) => match r e A1 with
    | some (xs, A2) => some (x :: xs, A2)
    | none => none
  | none => none
def mCB (f : List W → List O → Option (W × List O)) (a : MA) : ME := fun e A => match a e A with
  | some (xs, A1) => f xs A1
  | none => none
def mTup (a : MA) : ME := fun e A => match a e A with
  | some (xs, A1) => if xs.length ≤ 100000 then some (.ref A1.length, A1 ++ [.tup xs]) else none
  | none => none
def mLst (a : MA) : ME := fun e A => match a e A with
  | some (xs, A1) => if xs.length ≤ 100000 then some (.ref A1.length, A1 ++ [.lst xs]) else none
  | none => none
def mB (a : ME) : MT := fun e A => match a e A with
  | some (.bl b, A1) => some (b, A1)
  | _ => none
def mAnd (a b : MT) : MT := fun e A => match a e A with
  | some (true, A1) => b e A1
  | r => r
def mOr (a b : MT) : MT := fun e A => match a e A with
  | some (false, A1) => b e A1
  | r => r
def mNot (a : MT) : MT := fun e A => match a e A with
  | some (b, A1) => some (!b, A1)
  | none => none
def mIf (t : MT) (a b : ME) : ME := fun e A => match t e A with
  | some (true, A1) => a e A1
  | some (false, A1) => b e A1
  | none => none
def mAndV (a b : ME) : ME := fun e A => match a e A with
  | some (.bl true, A1) => b e A1
  | some (.bl false, A1) => some (.bl false, A1)
  | _ => none
def mOrV (a b : ME) : ME := fun e A => match a e A with
  | some (.bl false, A1) => b e A1
  | some (.bl true, A1) => some (.bl true, A1)
  | _ => none
def mNotV (a : ME) : ME := fun e A => match a e A with
  | some (.bl b, A1) => some (.bl (!b), A1)
  | _ => none
def mNext : MS := fun e A => some (.nx e, A)
def mSeq (a b : MS) : MS := fun e A => match a e A with
  | some (.nx e1, A1) => b e1 A1
  | r => r
def mRet (a : ME) : MS := fun e A => match a e A with
  | some (w, A1) => some (.rt w, A1)
  | none => none
def mDrop (a : ME) : MS := fun e A => match a e A with
  | some (_, A1) => some (.nx e, A1)
  | none => none
def mIfS (t : MT) (a b : MS) : MS := fun e A => match t e A with
  | some (true, A1) => a e A1
  | some (false, A1) => b e A1
  | none => none
def mSet (i : Nat) (a : ME) : MS := fun e A => match a e A with
  | some (w, A1) => some (.nx (e.set i (some w)), A1)
  | none => none

section
variable {κ : Kx} {ta tb te : TE} {ma mb me : ME} {tA : TA} {mA : MA} {t u : TT} {m n : MT} {ts tu : TS} {ms mu : MS}
theorem sim_var (i : Nat) : SimE κ (tVar i) (mVar i) := by
  intro ρ A e σ H Q w A' R E h k
  unfold mVar at h
  split at h
  · rename_i w0 hw
    cases h
    obtain ⟨v, h1, h2⟩ := E.2 i w hw
    exact ⟨v, h1, k ρ H v R .refl h2⟩
  · cases h
theorem sim_c {w0 : W} {v0 : V} (r : ∀ ρ, RelW κ ρ w0 v0) : SimE κ (tC v0) (mC w0) := by
  intro ρ A e σ H Q w A' R E h k
  cases h
  exact k ρ H v0 R .refl (r ρ)
theorem sim_op {r : R2} {f : W → W → List O → Option (W × List O)} (ha : SimE κ ta ma) (hb : SimE κ tb mb) (hr : SimR κ r f) : SimE κ (tOp r ta tb) (mOp f ma mb) := by
  intro ρ A e σ H Q w A' R E h k
  unfold mOp at h
  split at h
  · rename_i x A1 h1
    split at h
    · rename_i y A2 h2
      refine ha _ _ _ _ _ _ _ _ R E h1 fun ρ1 H1 vx R1 G1 rx => ?_
      refine hb _ _ _ _ _ _ _ _ R1 (E.mono G1.pre) h2 fun ρ2 H2 vy R2 G2 ry => ?_
      exact hr _ _ _ _ _ _ _ _ _ Q R2 (rx.mono G2.pre) ry h fun ρ3 H3 v R3 G3 rv => k ρ3 H3 v R3 (G1.trans (G2.trans G3)) rv
    · cases h
  · cases h
theorem sim_nil : SimA κ tNil mNil := by
  intro ρ A e σ H Q w A' R E h k
  cases h
  exact k ρ H [] R .refl .nil
theorem sim_cons (ha : SimE κ ta ma) (hb : SimA κ tA mA) : SimA κ (tCons ta tA) (mCons ma mA) := by
  intro ρ A e σ H Q w A' R E h k
  unfold mCons at h
  split at h
  · rename_i x A1 h1
    split at h
    · rename_i y A2 h2
      cases h
      refine ha _ _ _ _ _ _ _ _ R E h1 fun ρ1 H1 vx R1 G1 rx => ?_
      exact hb _ _ _ _ _ _ _ _ R1 (E.mono G1.pre) h2 fun ρ2 H2 vy R2 G2 ry => k ρ2 H2 _ R2 (G1.trans G2) (.cons (rx.mono G2.pre) ry)
    · cases h
  · cases h
theorem sim_cb {r : List V → Hp → VK → Prop} {f : List W → List O → Option (W × List O)} (ha : SimA κ tA mA) (hr : SimC κ r f) : SimE κ (tCB r tA) (mCB f mA) := by
  intro ρ A e σ H Q w A' R E h k
  unfold mCB at h
  split at h
  · rename_i x A1 h1
    refine ha _ _ _ _ _ _ _ _ R E h1 fun ρ1 H1 vx R1 G1 rx => ?_
    exact hr _ _ _ _ _ _ _ Q R1 rx h fun ρ2 H2 v R2 G2 rv => k ρ2 H2 v R2 (G1.trans G2) rv
  · cases h
theorem sz_line {n : Nat} (h : n ≤ 100000) : n ≤ sizeLine := Nat.le_trans h (by decide)
theorem sz_lineL {n : Nat} (h : n < 100000) : n < sizeLine := Nat.lt_of_lt_of_le h (by decide)
theorem RelL.len {ρ : List Addr} {xs : List W} {vs : List V} (h : RelL κ ρ xs vs) : xs.length = vs.length := Paired.length h
theorem Rep.newTup {ρ : List Addr} {A : List O} {H : Hp} {p : Addr} {xs : List W} {vs : List V} (R : Rep κ ρ A H) (hp : H p = none) (r : RelL κ ρ xs vs) :
    Rep κ (ρ ++ [p]) (A ++ [.tup xs]) (upd H p (.tup vs)) ∧ Go ρ H (ρ ++ [p]) (upd H p (.tup vs)) ∧ RelW κ (ρ ++ [p]) (.ref A.length) (.ref p) := by
  obtain ⟨h1, h2⟩ := R.push (o := .tup xs) (u := .tup vs) hp ⟨vs, upd_same, RelL.mono (.snoc ρ p) r⟩
  exact ⟨h1, h2, p, by rw [← R.len]; exact snoc_at ρ p, rfl⟩
theorem Rep.newLst {ρ : List Addr} {A : List O} {H : Hp} {p : Addr} {xs : List W} {vs : List V} (R : Rep κ ρ A H) (hp : H p = none) (r : RelL κ ρ xs vs) :
    Rep κ (ρ ++ [p]) (A ++ [.lst xs]) (upd H p (.lst vs)) ∧ Go ρ H (ρ ++ [p]) (upd H p (.lst vs)) ∧ RelW κ (ρ ++ [p]) (.ref A.length) (.ref p) := by
  obtain ⟨h1, h2⟩ := R.push (o := .lst xs) (u := .lst vs) hp ⟨vs, upd_same, RelL.mono (.snoc ρ p) r⟩
  exact ⟨h1, h2, p, by rw [← R.len]; exact snoc_at ρ p, rfl⟩
theorem sim_tup (ha : SimA κ tA mA) : SimE κ (tTup tA) (mTup mA) := by
  intro ρ A e σ H Q w A' R E h k
  unfold mTup at h
  split at h
  · rename_i xs A1 h1
    split at h
    · rename_i hz
      cases h
      refine ha _ _ _ _ _ _ _ _ R E h1 fun ρ1 H1 vs R1 G1 rs => ?_
      refine ⟨by rw [← rs.len]; exact sz_line hz, fun p hp => ?_⟩
      obtain ⟨R2, G2, r2⟩ := R1.newTup hp rs
      exact k _ _ _ R2 (G1.trans G2) r2
    · cases h
  · cases h
theorem sim_lst (ha : SimA κ tA mA) : SimE κ (tLst tA) (mLst mA) := by
  intro ρ A e σ H Q w A' R E h k
  unfold mLst at h
  split at h
  · rename_i xs A1 h1
    split at h
    · rename_i hz
      cases h
      refine ha _ _ _ _ _ _ _ _ R E h1 fun ρ1 H1 vs R1 G1 rs => ?_
      refine ⟨by rw [← rs.len]; exact sz_line hz, fun p hp => ?_⟩
      obtain ⟨R2, G2, r2⟩ := R1.newLst hp rs
      exact k _ _ _ R2 (G1.trans G2) r2
    · cases h
  · cases h
theorem sim_b (ha : SimE κ ta ma) : SimT κ (tB ta) (mB ma) := by
  intro ρ A e σ H Q w A' R E h k
  unfold mB at h
  split at h
  · rename_i b A1 h1
    cases h
    refine ha _ _ _ _ _ _ _ _ R E h1 fun ρ1 H1 v R1 G1 rv => ?_
    exact ⟨w, rv, k ρ1 H1 R1 G1⟩
  · cases h
theorem sim_test (ha : SimE κ ta ma) : SimT κ (tTest ta) (mB ma) := by
  intro ρ A e σ H Q w A' R E h k
  unfold mB at h
  split at h
  · rename_i b A1 h1
    cases h
    refine ha _ _ _ _ _ _ _ _ R E h1 fun ρ1 H1 v R1 G1 rv => ?_
    exact ⟨w, rv, k ρ1 H1 R1 G1⟩
  · cases h
theorem sim_and (ha : SimT κ t m) (hb : SimT κ u n) : SimT κ (tAnd t u) (mAnd m n) := by
  intro ρ A e σ H Q w A' R E h k
  unfold mAnd at h
  split at h
  · rename_i A1 h1
    refine ha _ _ _ _ _ _ _ _ R E h1 fun ρ1 H1 R1 G1 => ?_
    show u σ H1 Q
    exact hb _ _ _ _ _ _ _ _ R1 (E.mono G1.pre) h fun ρ2 H2 R2 G2 => k ρ2 H2 R2 (G1.trans G2)
  · rename_i r hr
    cases w with
    | true => exact absurd h (hr A')
    | false =>
      refine ha _ _ _ _ _ _ _ _ R E h fun ρ1 H1 R1 G1 => ?_
      show Q false H1
      exact k ρ1 H1 R1 G1
theorem sim_or (ha : SimT κ t m) (hb : SimT κ u n) : SimT κ (tOr t u) (mOr m n) := by
  intro ρ A e σ H Q w A' R E h k
  unfold mOr at h
  split at h
  · rename_i A1 h1
    refine ha _ _ _ _ _ _ _ _ R E h1 fun ρ1 H1 R1 G1 => ?_
    show u σ H1 Q
    exact hb _ _ _ _ _ _ _ _ R1 (E.mono G1.pre) h fun ρ2 H2 R2 G2 => k ρ2 H2 R2 (G1.trans G2)
  · rename_i r hr
    cases w with
    | false => exact absurd h (hr A')
    | true =>
      refine ha _ _ _ _ _ _ _ _ R E h fun ρ1 H1 R1 G1 => ?_
      show Q true H1
      exact k ρ1 H1 R1 G1
theorem sim_not (ha : SimT κ t m) : SimT κ (tNot t) (mNot m) := by
  intro ρ A e σ H Q w A' R E h k
  unfold mNot at h
  split at h
  · rename_i b A1 h1
    cases h
    exact ha _ _ _ _ _ _ _ _ R E h1 fun ρ1 H1 R1 G1 => k ρ1 H1 R1 G1
  · cases h
theorem sim_if (ht : SimT κ t m) (ha : SimE κ ta ma) (hb : SimE κ tb mb) : SimE κ (tIf t ta tb) (mIf m ma mb) := by
  intro ρ A e σ H Q w A' R E h k
  unfold mIf at h
  split at h
  · rename_i A1 h1
    refine ht _ _ _ _ _ _ _ _ R E h1 fun ρ1 H1 R1 G1 => ?_
    show ta σ H1 Q
    exact ha _ _ _ _ _ _ _ _ R1 (E.mono G1.pre) h fun ρ2 H2 v R2 G2 rv => k ρ2 H2 v R2 (G1.trans G2) rv
  · rename_i A1 h1
    refine ht _ _ _ _ _ _ _ _ R E h1 fun ρ1 H1 R1 G1 => ?_
    show tb σ H1 Q
    exact hb _ _ _ _ _ _ _ _ R1 (E.mono G1.pre) h fun ρ2 H2 v R2 G2 rv => k ρ2 H2 v R2 (G1.trans G2) rv
  · cases h
theorem sim_andV (ha : SimE κ ta ma) (hb : SimE κ tb mb) : SimE κ (tAndV ta tb) (mAndV ma mb) := by
  intro ρ A e σ H Q w A' R E h k
  unfold mAndV at h
  split at h
  · rename_i A1 h1
    refine ha _ _ _ _ _ _ _ _ R E h1 fun ρ1 H1 v R1 G1 rv => ⟨true, rv, ?_⟩
    show tb σ H1 Q
    exact hb _ _ _ _ _ _ _ _ R1 (E.mono G1.pre) h fun ρ2 H2 v R2 G2 rv => k ρ2 H2 v R2 (G1.trans G2) rv
  · rename_i A1 h1
    cases h
    refine ha _ _ _ _ _ _ _ _ R E h1 fun ρ1 H1 v R1 G1 rv => ⟨false, rv, ?_⟩
    show Q (.bl false) H1
    exact k ρ1 H1 _ R1 G1 rfl
  · cases h
theorem sim_orV (ha : SimE κ ta ma) (hb : SimE κ tb mb) : SimE κ (tOrV ta tb) (mOrV ma mb) := by
  intro ρ A e σ H Q w A' R E h k
  unfold mOrV at h
  split at h
  · rename_i A1 h1
    refine ha _ _ _ _ _ _ _ _ R E h1 fun ρ1 H1 v R1 G1 rv => ⟨false, rv, ?_⟩
    show tb σ H1 Q
    exact hb _ _ _ _ _ _ _ _ R1 (E.mono G1.pre) h fun ρ2 H2 v R2 G2 rv => k ρ2 H2 v R2 (G1.trans G2) rv
  · rename_i A1 h1
    cases h
    refine ha _ _ _ _ _ _ _ _ R E h1 fun ρ1 H1 v R1 G1 rv => ⟨true, rv, ?_⟩
    show Q (.bl true) H1
    exact k ρ1 H1 _ R1 G1 rfl
  · cases h
theorem sim_notV (ha : SimE κ ta ma) : SimE κ (tNotV ta) (mNotV ma) := by
  intro ρ A e σ H Q w A' R E h k
  unfold mNotV at h
  split at h
  · rename_i b A1 h1
    cases h
    exact ha _ _ _ _ _ _ _ _ R E h1 fun ρ1 H1 v R1 G1 rv => ⟨b, rv, k ρ1 H1 _ R1 G1 rfl⟩
  · cases h
/-! ### statements -/
theorem sim_next : SimS κ tNext mNext := by
  intro ρ A e σ H D o A' R E h k
  cases h
  exact k ρ H R .refl σ E
theorem sim_seq (ha : SimS κ ts ms) (hb : SimS κ tu mu) : SimS κ (tSeq ts tu) (mSeq ms mu) := by
  intro ρ A e σ H D o A' R E h k
  unfold mSeq at h
  split at h
  · rename_i e1 A1 h1
    refine ha _ _ _ _ _ _ _ _ R E h1 fun ρ1 H1 R1 G1 σ1 E1 => ?_
    exact hb _ _ _ _ _ _ _ _ R1 E1 h fun ρ2 H2 R2 G2 => k ρ2 H2 R2 (G1.trans G2)
  · rename_i r hr
    refine ha _ _ _ _ _ _ _ _ R E h fun ρ1 H1 R1 G1 => ?_
    have q := k ρ1 H1 R1 G1
    cases o with
    | nx e1 => exact absurd h (hr e1 A')
    | rt w => exact q
    | bk e1 => exact q
    | ct e1 => exact q
theorem sim_ret (ha : SimE κ ta ma) : SimS κ (tRet ta) (mRet ma) := by
  intro ρ A e σ H D o A' R E h k
  unfold mRet at h
  split at h
  · rename_i w A1 h1
    cases h
    exact ha _ _ _ _ _ _ _ _ R E h1 fun ρ1 H1 v R1 G1 rv => k ρ1 H1 R1 G1 v rv
  · cases h
theorem sim_drop (ha : SimE κ ta ma) : SimS κ (tDrop ta) (mDrop ma) := by
  intro ρ A e σ H D o A' R E h k
  unfold mDrop at h
  split at h
  · rename_i w A1 h1
    cases h
    exact ha _ _ _ _ _ _ _ _ R E h1 fun ρ1 H1 v R1 G1 rv => k ρ1 H1 R1 G1 σ (E.mono G1.pre)
  · cases h
theorem sim_ifS (ht : SimT κ t m) (ha : SimS κ ts ms) (hb : SimS κ tu mu) : SimS κ (tIfS t ts tu) (mIfS m ms mu) := by
  intro ρ A e σ H D o A' R E h k
  unfold mIfS at h
  split at h
  · rename_i A1 h1
    refine ht _ _ _ _ _ _ _ _ R E h1 fun ρ1 H1 R1 G1 => ?_
    show ts D σ H1
    exact ha _ _ _ _ _ _ _ _ R1 (E.mono G1.pre) h fun ρ2 H2 R2 G2 => k ρ2 H2 R2 (G1.trans G2)
  · rename_i A1 h1
    refine ht _ _ _ _ _ _ _ _ R E h1 fun ρ1 H1 R1 G1 => ?_
    show tu D σ H1
    exact hb _ _ _ _ _ _ _ _ R1 (E.mono G1.pre) h fun ρ2 H2 R2 G2 => k ρ2 H2 R2 (G1.trans G2)
  · cases h
theorem sim_set (i : Nat) (ha : SimE κ ta ma) : SimS κ (tAsg ta (gName i)) (mSet i ma) := by
  intro ρ A e σ H D o A' R E h k
  unfold mSet at h
  split at h
  · rename_i w A1 h1
    cases h
    exact ha _ _ _ _ _ _ _ _ R E h1 fun ρ1 H1 v R1 G1 rv => k ρ1 H1 R1 G1 _ ((E.mono G1.pre).set rv i)
  · cases h
end
end Sv

set_option Elab.async false
set_option linter.all false
set_option maxRecDepth 100000
set_option maxHeartbeats 4000000
namespace Sv
open PySem L2

/-! ### operators by values -/
abbrev F2 := W → W → List O → Option (W × List O)
def fII (c : Int → Int → Bool) (g : Int → Int → W) : F2
  | .int i, .int j, A => if c i j = true then some (g i j, A) else none
  | _, _, _ => none
def lstAt (A : List O) (l : Nat) : Option (List W) := match A[l]? with
  | some (.lst xs) => some xs
  | _ => none
def tupAt (A : List O) (l : Nat) : Option (List W) := match A[l]? with
  | some (.tup xs) => some xs
  | _ => none
def fCat : F2
  | .ref a, .ref b, A => match lstAt A a, lstAt A b with
    | some xs, some ys => if xs.length + ys.length ≤ 100000 then some (.ref A.length, A ++ [.lst (xs ++ ys)]) else none
    | _, _ => none
  | _, _, _ => none
def fRep : F2
  | .ref a, .int k, A => match lstAt A a with
    | some xs => if 0 ≤ k ∧ k ≤ 10000 ∧ xs.length ≤ 10 ∨ (0 ≤ k ∧ k ≤ 10 ∧ xs.length ≤ 10000) then some (.ref A.length, A ++ [.lst (List.replicate k.toNat xs).flatten]) else none
    | none => none
  | _, _, _ => none
def fIxL : F2
  | .ref a, .int k, A => match lstAt A a with
    | some xs => match atI xs k with
      | some w => some (w, A)
      | none => none
    | none => none
  | _, _, _ => none
def fIxT : F2
  | .ref a, .int k, A => match tupAt A a with
    | some xs => match atI xs k with
      | some w => some (w, A)
      | none => none
    | none => none
  | _, _, _ => none
def flatW : W → Bool
  | .non => true
  | .bl _ => true
  | .int _ => true
  | .str _ => true
  | _ => false
def eqW : W → W → Bool
  | .non, .non => true
  | .bl a, .bl b => a == b
  | .bl a, .int b => (if a then 1 else 0) == b
  | .int a, .bl b => a == (if b then 1 else 0)
  | .int a, .int b => a == b
  | .str a, .str b => a == b
  | _, _ => false
def seqAtO (A : List O) (l : Nat) : Option (List W) := match A[l]? with
  | some (.lst xs) => some xs
  | some (.tup xs) => some xs
  | _ => none
def fIn (neg : Bool) : F2
  | x, .ref b, A => match seqAtO A b with
    | some xs => if flatW x = true ∧ xs.all flatW = true then some (.bl (if neg then !(xs.any fun y => eqW y x) else xs.any fun y => eqW y x), A) else none
    | none => none
  | _, _, _ => none
/-- data, as == and repr see it -/
def toDs (f : W → Option PyData) : List W → Option (List PyData)
  | [] => some []
  | x :: xs => match f x with
    | some d => match toDs f xs with
      | some ds => some (d :: ds)
      | none => none
    | none => none
def toD (A : List O) : Nat → W → Option PyData
  | _, .non => some .none
  | _, .bl b => some (.bool b)
  | _, .int i => some (.int i)
  | _, .str x => some (.str x)
  | 0, _ => none
  | n + 1, .ref a => match A[a]? with
    | some (.lst xs) => match toDs (toD A n) xs with
      | some ds => some (.list ds)
      | none => none
    | some (.tup xs) => match toDs (toD A n) xs with
      | some ds => some (.tuple ds)
      | none => none
    | _ => none
  | _, _ => none
def fEqD (neg : Bool) : F2 := fun x y A => match toD A 8 x, toD A 8 y with
  | some d, some e => if SeqAt.shaped d = true ∧ SeqAt.shaped e = true then some (.bl (if neg then !PyData.eqv d e else PyData.eqv d e), A) else none
  | _, _ => none

section
variable {κ : Kx} {ρ : List Addr} {A : List O} {H : Hp}
theorem Rep.lstAt (R : Rep κ ρ A H) {l : Nat} {xs : List W} {v : V} (h : lstAt A l = some xs) (r : RelW κ ρ (.ref l) v) : ∃ a vs, v = .ref a ∧ ρ[l]? = some a ∧ H a = some (.lst vs) ∧ RelL κ ρ xs vs := by
  obtain ⟨a, ha, rfl⟩ := r
  unfold Sv.lstAt at h
  split at h
  · rename_i ys e
    cases h
    obtain ⟨vs, h1, h2⟩ := R.of ha e
    exact ⟨a, vs, rfl, ha, h1, h2⟩
  · cases h
theorem Rep.tupAt (R : Rep κ ρ A H) {l : Nat} {xs : List W} {v : V} (h : tupAt A l = some xs) (r : RelW κ ρ (.ref l) v) : ∃ a vs, v = .ref a ∧ ρ[l]? = some a ∧ H a = some (.tup vs) ∧ RelL κ ρ xs vs := by
  obtain ⟨a, ha, rfl⟩ := r
  unfold Sv.tupAt at h
  split at h
  · rename_i ys e
    cases h
    obtain ⟨vs, h1, h2⟩ := R.of ha e
    exact ⟨a, vs, rfl, ha, h1, h2⟩
  · cases h
theorem Rep.seqAt (R : Rep κ ρ A H) {l : Nat} {xs : List W} {v : V} (h : seqAtO A l = some xs) (r : RelW κ ρ (.ref l) v) : ∃ a vs, v = .ref a ∧ ρ[l]? = some a ∧ (H a = some (.lst vs) ∨ H a = some (.tup vs)) ∧ RelL κ ρ xs vs := by
  obtain ⟨a, ha, rfl⟩ := r
  unfold Sv.seqAtO at h
  split at h
  · rename_i ys e
    cases h
    obtain ⟨vs, h1, h2⟩ := R.of ha e
    exact ⟨a, vs, rfl, ha, .inl h1, h2⟩
  · rename_i ys e
    cases h
    obtain ⟨vs, h1, h2⟩ := R.of ha e
    exact ⟨a, vs, rfl, ha, .inr h1, h2⟩
  · cases h
theorem sr_I {C : Int → Int → Prop} {c : Int → Int → Bool} {g : Int → Int → V} {g' : Int → Int → W} (hc : ∀ i j, c i j = true → C i j) (hg : ∀ ρ i j, RelW κ ρ (g' i j) (g i j)) : SimR κ (rI C g) (fII c g') := by
  intro ρ A H x y vx vy w A' Q R rx ry h k
  unfold fII at h
  split at h
  · split at h
    · rename_i i j hij
      cases h
      exact ⟨i, j, rx, ry, hc _ _ hij, k ρ H _ R .refl (hg ρ i j)⟩
    · cases h
  · cases h
theorem sr_I0 {g : Int → Int → V} {g' : Int → Int → W} (hg : ∀ ρ i j, RelW κ ρ (g' i j) (g i j)) : SimR κ (rI0 g) (fII (fun _ _ => true) g') := by
  intro ρ A H x y vx vy w A' Q R rx ry h k
  unfold fII at h
  split at h
  · split at h
    · rename_i i j hij
      cases h
      exact ⟨i, j, rx, ry, k ρ H _ R .refl (hg ρ i j)⟩
    · cases h
  · cases h
theorem RelL.append {xs ys : List W} {vs us : List V} (a : RelL κ ρ xs vs) (b : RelL κ ρ ys us) : RelL κ ρ (xs ++ ys) (vs ++ us) := by
  induction a with
  | nil => exact b
  | cons r t ih => exact .cons r ih
theorem RelL.rep {xs : List W} {vs : List V} (a : RelL κ ρ xs vs) : ∀ n : Nat, RelL κ ρ (List.replicate n xs).flatten (List.replicate n vs).flatten
  | 0 => .nil
  | n + 1 => by
    rw [List.replicate_succ, List.replicate_succ, List.flatten_cons, List.flatten_cons]
    exact a.append (RelL.rep a n)
theorem RelL.get : ∀ {xs : List W} {vs : List V} {i : Nat} {w : W}, RelL κ ρ xs vs → xs[i]? = some w → ∃ v, vs[i]? = some v ∧ RelW κ ρ w v
  | _, _, _, _, .nil, e => by simp at e
  | _, _, 0, _, .cons r _, e => by
    simp at e
    subst e
    exact ⟨_, rfl, r⟩
  | _, _, i + 1, w, .cons _ t, e => by
    obtain ⟨v, h1, h2⟩ := RelL.get (i := i) (w := w) t (by simpa using e)
    exact ⟨v, by simpa using h1, h2⟩
theorem RelL.none_of : ∀ {xs : List W} {vs : List V} {i : Nat}, RelL κ ρ xs vs → xs[i]? = none → vs[i]? = none := fun {xs vs i} r e => by
  have h1 := r.len
  have h2 : xs.length ≤ i := List.getElem?_eq_none_iff.mp e
  exact List.getElem?_eq_none_iff.mpr (by omega)
theorem RelL.atI {xs : List W} {vs : List V} {k : Int} {w : W} (r : RelL κ ρ xs vs) (h : atI xs k = some w) : ∃ v, L2.atI vs k = some v ∧ RelW κ ρ w v := by
  unfold L2.atI at h ⊢
  obtain ⟨j, hj, hw⟩ := Option.bind_eq_some_iff.mp h
  obtain ⟨v, h1, h2⟩ := r.get hw
  exact ⟨v, by rw [← r.len, hj]; exact h1, h2⟩
theorem RelL.set {xs : List W} {vs : List V} {w : W} {v : V} (h : RelL κ ρ xs vs) (r : RelW κ ρ w v) : ∀ i : Nat, RelL κ ρ (xs.set i w) (vs.set i v) := by
  induction h with
  | nil => intro i; exact .nil
  | cons q t ih =>
    intro i
    cases i with
    | zero => exact .cons r t
    | succ i => exact .cons q (ih i)
theorem sr_cat : SimR κ rCat fCat := by
  intro ρ A H x y vx vy w A' Q R rx ry h k
  unfold fCat at h
  split at h
  · split at h
    · rename_i a b xs ys h1 h2
      split at h
      · rename_i hz
        cases h
        obtain ⟨p, vs, rfl, hp, e1, r1⟩ := R.lstAt h1 rx
        obtain ⟨q, us, rfl, hq, e2, r2⟩ := R.lstAt h2 ry
        refine ⟨p, q, vs, us, rfl, rfl, e1, e2, by rw [← r1.len, ← r2.len]; exact sz_line hz, fun t ht => ?_⟩
        obtain ⟨R2, G2, r3⟩ := R.newLst ht (r1.append r2)
        exact k _ _ _ R2 G2 r3
      · cases h
    · cases h
  · cases h
theorem sr_rep : SimR κ rRep fRep := by
  intro ρ A H x y vx vy w A' Q R rx ry h k
  unfold fRep at h
  split at h
  · split at h
    · rename_i a i x0 xs h1
      split at h
      · rename_i hz
        cases h
        obtain ⟨p, vs, rfl, hp, e1, r1⟩ := R.lstAt h1 rx
        have hl := r1.len
        have hb : 0 ≤ i ∧ i ≤ 10000 := by omega
        have hm : vs.length * i.toNat ≤ 100000 := by
          rcases hz with ⟨_, h2, h3⟩ | ⟨_, h2, h3⟩
          · exact Nat.le_trans (Nat.mul_le_mul (show vs.length ≤ 10 by omega) (show i.toNat ≤ 10000 by omega)) (by decide)
          · exact Nat.le_trans (Nat.mul_le_mul (show vs.length ≤ 10000 by omega) (show i.toNat ≤ 10 by omega)) (by decide)
        refine ⟨p, i, vs, rfl, ry, e1, by omega, by omega, sz_line hm, fun t ht => ?_⟩
        obtain ⟨R2, G2, r3⟩ := R.newLst ht (r1.rep i.toNat)
        exact k _ _ _ R2 G2 r3
      · cases h
    · cases h
  · cases h
theorem sr_ixL : SimR κ (rIxL κ.K) fIxL := by
  intro ρ A H x y vx vy w A' Q R rx ry h k
  unfold fIxL at h
  split at h
  · split at h
    · rename_i a i x0 xs h1
      split at h
      · rename_i u hu
        cases h
        obtain ⟨p, vs, rfl, hp, e1, r1⟩ := R.lstAt h1 rx
        obtain ⟨v, h2, h3⟩ := r1.atI hu
        exact ⟨p, vs, i, v, rfl, ry, SqL.of e1, h2, k ρ H v R .refl h3⟩
      · cases h
    · cases h
  · cases h
theorem sr_ixT : SimR κ (rIxT κ.K) fIxT := by
  intro ρ A H x y vx vy w A' Q R rx ry h k
  unfold fIxT at h
  split at h
  · split at h
    · rename_i a i x0 xs h1
      split at h
      · rename_i u hu
        cases h
        obtain ⟨p, vs, rfl, hp, e1, r1⟩ := R.tupAt h1 rx
        obtain ⟨v, h2, h3⟩ := r1.atI hu
        exact ⟨p, vs, i, v, rfl, ry, SqT.of e1, h2, k ρ H v R .refl h3⟩
      · cases h
    · cases h
  · cases h
theorem flat_of {w : W} {v : V} (r : RelW κ ρ w v) (h : flatW w = true) : flatV v = true := by
  cases w with
  | non => cases r; rfl
  | bl b => cases r; rfl
  | int b => cases r; rfl
  | str b => cases r; rfl
  | _ => exact absurd (show false = true from h) Bool.false_ne_true
theorem eq_of {w u : W} {v x : V} (r : RelW κ ρ w v) (q : RelW κ ρ u x) (h : flatW w = true) (g : flatW u = true) : eqV v x = eqW w u := by
  cases w with
  | non => cases r; cases u with
    | non => cases q; rfl
    | bl b => cases q; rfl
    | int b => cases q; rfl
    | str b => cases q; rfl
    | _ => exact absurd (show false = true from g) Bool.false_ne_true
  | bl b => cases r; cases u with
    | non => cases q; rfl
    | bl b => cases q; rfl
    | int b => cases q; rfl
    | str b => cases q; rfl
    | _ => exact absurd (show false = true from g) Bool.false_ne_true
  | int b => cases r; cases u with
    | non => cases q; rfl
    | bl b => cases q; rfl
    | int b => cases q; rfl
    | str b => cases q; rfl
    | _ => exact absurd (show false = true from g) Bool.false_ne_true
  | str b => cases r; cases u with
    | non => cases q; rfl
    | bl b => cases q; rfl
    | int b => cases q; rfl
    | str b => cases q; rfl
    | _ => exact absurd (show false = true from g) Bool.false_ne_true
  | _ => exact absurd (show false = true from h) Bool.false_ne_true
theorem flats_of {xs : List W} {vs : List V} (r : RelL κ ρ xs vs) : xs.all flatW = true → vs.all flatV = true := by
  induction r with
  | nil => intro _; rfl
  | cons q t ih =>
    intro h
    rw [List.all_cons, Bool.and_eq_true] at h ⊢
    exact ⟨flat_of q h.1, ih h.2⟩
theorem any_of {u : W} {x : V} (q : RelW κ ρ u x) (g : flatW u = true) {xs : List W} {vs : List V} (r : RelL κ ρ xs vs) : xs.all flatW = true → (vs.any fun y => eqV y x) = xs.any fun y => eqW y u := by
  induction r with
  | nil => intro _; rfl
  | cons r0 t ih =>
    intro h
    rw [List.all_cons, Bool.and_eq_true] at h
    rw [List.any_cons, List.any_cons, eq_of r0 q h.1 g, ih h.2]
theorem sr_in (neg : Bool) : SimR κ (rIn κ.K neg) (fIn neg) := by
  intro ρ A H x y vx vy w A' Q R rx ry h k
  unfold fIn at h
  split at h
  · split at h
    · rename_i b xs h1
      split at h
      · rename_i hf
        cases h
        obtain ⟨p, vs, rfl, hp, e1, r1⟩ := R.seqAt h1 ry
        refine ⟨p, vs, rfl, ?_, flat_of rx hf.1, flats_of r1 hf.2, ?_⟩
        · rcases e1 with e1 | e1
          · exact .inl (SqL.of e1)
          · exact .inr (SqT.of e1)
        · refine k ρ H _ R .refl ?_
          show V.bl _ = V.bl _
          unfold inV
          rw [any_of rx hf.1 r1 hf.2]
      · cases h
    · cases h
  · cases h
theorem toDs_all {K : PySem.W.Frag} {f : W → Option PyData} {xs : List W} {vs : List V} (r : RelL κ ρ xs vs) : (∀ w v d, w ∈ xs → f w = some d → RelW κ ρ w v → Dp K H v d) → ∀ ds, toDs f xs = some ds → DpAll K H vs ds := by
  induction r with
  | nil =>
    intro _ ds h
    cases h
    exact .nil
  | cons q t ih =>
    intro hf ds h
    unfold toDs at h
    split at h
    · rename_i d hd
      split at h
      · rename_i es hes
        cases h
        exact .cons (hf _ _ _ (List.mem_cons_self ..) hd q) (ih (fun w v d hw => hf w v d (List.mem_cons_of_mem _ hw)) _ hes)
      · cases h
    · cases h
theorem toD_dp {K : PySem.W.Frag} (R : Rep κ ρ A H) : ∀ (n : Nat) (w : W) (v : V) (d : PyData), toD A n w = some d → RelW κ ρ w v → Dp K H v d
  | n, .non, v, d, h, r => by
    unfold toD at h
    cases h
    cases r
    exact .non
  | n, .bl b, v, d, h, r => by
    unfold toD at h
    cases h
    cases r
    exact .bl b
  | n, .int b, v, d, h, r => by
    unfold toD at h
    cases h
    cases r
    exact .int b
  | n, .str b, v, d, h, r => by
    unfold toD at h
    cases h
    cases r
    exact .str b
  | 0, .ref a, v, d, h, r => by
    unfold toD at h
    cases h
  | n, .cl a, v, d, h, r => by
    unfold toD at h
    cases n <;> cases h
  | n, .ty a, v, d, h, r => by
    unfold toD at h
    cases n <;> cases h
  | n + 1, .ref l, v, d, h, r => by
    obtain ⟨a, ha, rfl⟩ := r
    unfold toD at h
    split at h
    · rename_i xs e
      split at h
      · rename_i ds hds
        cases h
        obtain ⟨vs, h1, h2⟩ := R.of ha e
        exact .lst (SqL.of h1) (toDs_all h2 (fun w v d _ => toD_dp R n w v d) _ hds)
      · cases h
    · rename_i xs e
      split at h
      · rename_i ds hds
        cases h
        obtain ⟨vs, h1, h2⟩ := R.of ha e
        exact .tup (SqT.of h1) (toDs_all h2 (fun w v d _ => toD_dp R n w v d) _ hds)
      · cases h
    · cases h
theorem sr_eqD : SimR κ (rEqD κ.K) (fEqD false) := by
  intro ρ A H x y vx vy w A' Q R rx ry h k
  unfold fEqD at h
  split at h
  · rename_i d e hd he
    split at h
    · rename_i hs
      cases h
      exact ⟨d, e, toD_dp R 8 _ _ _ hd rx, toD_dp R 8 _ _ _ he ry, hs.1, hs.2, k ρ H _ R .refl rfl⟩
    · cases h
  · cases h
theorem sr_neD : SimR κ (rNeD κ.K) (fEqD true) := by
  intro ρ A H x y vx vy w A' Q R rx ry h k
  unfold fEqD at h
  split at h
  · rename_i d e hd he
    split at h
    · rename_i hs
      cases h
      exact ⟨d, e, toD_dp R 8 _ _ _ hd rx, toD_dp R 8 _ _ _ he ry, hs.1, hs.2, k ρ H _ R .refl rfl⟩
    · cases h
  · cases h
end

/-! ### for -/
inductive Src where
  | lst (l : Nat) | tup (l : Nat) | rng (lo : Int) (n : Nat)
def srcGo : Src → Nat → List O → Option (Option (W × List O))
  | .lst l, i, A => match lstAt A l with
    | some xs => match xs[i]? with
      | some w => some (some (w, A))
      | none => some none
    | none => none
  | .tup l, i, A => match tupAt A l with
    | some xs => match xs[i]? with
      | some w => some (some (w, A))
      | none => some none
    | none => none
  | .rng lo n, i, A => if i < n then some (some (.int (lo + i), A)) else some none
def srcLen : Src → List O → Nat
  | .lst l, A => ((lstAt A l).getD []).length
  | .tup l, A => ((tupAt A l).getD []).length
  | .rng _ n, _ => n
def JR (κ : Kx) (ρ : List Addr) : Src → It → Prop
  | .lst l, J => ∃ a, ρ[l]? = some a ∧ J = Itl κ.K a
  | .tup l, J => ∃ a, ρ[l]? = some a ∧ J = Itt κ.K a
  | .rng lo n, J => J = Itr lo n
abbrev MI := Sl → List O → Option (Src × List O)
abbrev MG := W → Sl → List O → Option (Sl × List O)
def SimI (κ : Kx) (wi : TI) (m : MI) : Prop := ∀ (ρ : List Addr) (A : List O) (e : Sl) (σ : St) (H : Hp) (Q : It → Hp → Prop) (s : Src) (A' : List O), Rep κ ρ A H → RelE κ ρ e σ → m e A = some (s, A') →
  (∀ ρ' H' J, Rep κ ρ' A' H' → Go ρ H ρ' H' → JR κ ρ' s J → Q J H') → wi σ H Q
def SimG (κ : Kx) (g : TG) (m : MG) : Prop := ∀ (ρ : List Addr) (A : List O) (w : W) (e : Sl) (v : V) (σ : St) (H : Hp) (Q : St → Hp → Prop) (e' : Sl) (A' : List O), Rep κ ρ A H → RelE κ ρ e σ → RelW κ ρ w v → m w e A = some (e', A') →
  (∀ ρ' H' σ', Rep κ ρ' A' H' → Go ρ H ρ' H' → RelE κ ρ' e' σ' → Q σ' H') → g v σ H Q
structure GI (X : Cx) (κ : Kx) (tg e : Expr) (t : TI) (m : MI) : Prop where
  pi : X.K = κ.K → PI X tg e t
  sim : SimI κ t m
structure GG (X : Cx) (κ : Kx) (e : Expr) (t : TG) (m : MG) : Prop where
  pg : X.K = κ.K → PG X e t
  sim : SimG κ t m
section
variable {κ : Kx} {ρ ρ' : List Addr} {A A' : List O} {H : Hp} {J : It} {s : Src} {i : Nat}
theorem JR.mono (p : Pre ρ ρ') : ∀ {s : Src}, JR κ ρ s J → JR κ ρ' s J
  | .lst _, ⟨a, h, e⟩ => ⟨a, p _ _ h, e⟩
  | .tup _, ⟨a, h, e⟩ => ⟨a, p _ _ h, e⟩
  | .rng _ _, h => h
theorem Rep.list_at (R : Rep κ ρ A H) {l : Nat} {xs : List W} {a : Addr} (h : Sv.lstAt A l = some xs) (ha : ρ[l]? = some a) : ∃ vs, H a = some (.lst vs) ∧ RelL κ ρ xs vs := by
  obtain ⟨b, vs, e, hb, h1, h2⟩ := R.lstAt h ⟨a, ha, rfl⟩
  cases e
  exact ⟨vs, h1, h2⟩
theorem Rep.tup_at (R : Rep κ ρ A H) {l : Nat} {xs : List W} {a : Addr} (h : Sv.tupAt A l = some xs) (ha : ρ[l]? = some a) : ∃ vs, H a = some (.tup vs) ∧ RelL κ ρ xs vs := by
  obtain ⟨b, vs, e, hb, h1, h2⟩ := R.tupAt h ⟨a, ha, rfl⟩
  cases e
  exact ⟨vs, h1, h2⟩
theorem src_go {w : W} (R : Rep κ ρ A H) (j : JR κ ρ s J) (h : srcGo s i A = some (some (w, A'))) : J.go i H ∧ ∀ x H', J.yld i H x H' → ∃ ρ', Rep κ ρ' A' H' ∧ Go ρ H ρ' H' ∧ RelW κ ρ' w x := by
  cases s with
  | lst l =>
    obtain ⟨a, ha, rfl⟩ := j
    simp only [srcGo] at h
    split at h
    · rename_i xs hx
      split at h
      · rename_i u hu
        cases h
        obtain ⟨vs, h1, h2⟩ := R.list_at hx ha
        obtain ⟨v, h3, h4⟩ := h2.get hu
        refine ⟨⟨vs, v, SqL.of h1, h3⟩, fun x H' y => ?_⟩
        obtain ⟨rfl, y⟩ := y
        have q := y vs (SqL.of h1)
        rw [h3] at q
        cases q
        exact ⟨ρ, R, .refl, h4⟩
      · cases h
    · cases h
  | tup l =>
    obtain ⟨a, ha, rfl⟩ := j
    simp only [srcGo] at h
    split at h
    · rename_i xs hx
      split at h
      · rename_i u hu
        cases h
        obtain ⟨vs, h1, h2⟩ := R.tup_at hx ha
        obtain ⟨v, h3, h4⟩ := h2.get hu
        refine ⟨⟨vs, v, SqT.of h1, h3⟩, fun x H' y => ?_⟩
        obtain ⟨rfl, y⟩ := y
        have q := y vs (SqT.of h1)
        rw [h3] at q
        cases q
        exact ⟨ρ, R, .refl, h4⟩
      · cases h
    · cases h
  | rng lo n =>
    cases j
    simp only [srcGo] at h
    split at h
    · rename_i hi
      cases h
      refine ⟨hi, fun x H' y => ?_⟩
      obtain ⟨rfl, rfl⟩ := y
      exact ⟨ρ, R, .refl, rfl⟩
    · cases h
theorem src_stop (R : Rep κ ρ A H) (j : JR κ ρ s J) (h : srcGo s i A = some none) : J.stop i H := by
  cases s with
  | lst l =>
    obtain ⟨a, ha, rfl⟩ := j
    simp only [srcGo] at h
    split at h
    · rename_i xs hx
      split at h
      · cases h
      · rename_i hu
        obtain ⟨vs, h1, h2⟩ := R.list_at hx ha
        exact ⟨vs, SqL.of h1, by rw [← h2.len]; exact List.getElem?_eq_none_iff.mp hu⟩
    · cases h
  | tup l =>
    obtain ⟨a, ha, rfl⟩ := j
    simp only [srcGo] at h
    split at h
    · rename_i xs hx
      split at h
      · cases h
      · rename_i hu
        obtain ⟨vs, h1, h2⟩ := R.tup_at hx ha
        exact ⟨vs, SqT.of h1, by rw [← h2.len]; exact List.getElem?_eq_none_iff.mp hu⟩
    · cases h
  | rng lo n =>
    cases j
    simp only [srcGo] at h
    split at h
    · cases h
    · rename_i hi
      exact Nat.le_of_not_lt hi
end
def forM (s : Src) (mg : MG) (mb : MS) : Nat → Nat → Sl → List O → Option (Out × List O)
  | 0, _, _, _ => none
  | m + 1, i, e, A => match srcGo s i A with
    | none => none
    | some none => some (.nx e, A)
    | some (some (w, A1)) => match mg w e A1 with
      | none => none
      | some (e2, A2) => match mb e2 A2 with
        | some (.nx e3, A3) => forM s mg mb m (i + 1) e3 A3
        | some (.ct e3, A3) => forM s mg mb m (i + 1) e3 A3
        | some (.bk e3, A3) => some (.nx e3, A3)
        | some (.rt w, A3) => some (.rt w, A3)
        | none => none
def mFor (mi : MI) (mg : MG) (mb : MS) : MS := fun e A => match mi e A with
  | some (s, A1) => forM s mg mb (srcLen s A1 + 1) 0 e A1
  | none => none
def gmName (i : Nat) : MG := fun w e A => some (e.set i (some w), A)
def miL (a : ME) : MI := fun e A => match a e A with
  | some (.ref l, A1) => match lstAt A1 l with
    | some _ => some (.lst l, A1)
    | none => none
  | _ => none
def miT (a : ME) : MI := fun e A => match a e A with
  | some (.ref l, A1) => match tupAt A1 l with
    | some _ => some (.tup l, A1)
    | none => none
  | _ => none
def miR1 (a : MA) : MI := fun e A => match a e A with
  | some ([.int n], A1) => if -1000000 ≤ n ∧ n ≤ 1000000 then some (.rng 0 n.toNat, A1) else none
  | _ => none
def miR2 (a : MA) : MI := fun e A => match a e A with
  | some ([.int lo, .int n], A1) => if -1000000 ≤ lo ∧ lo ≤ 1000000 ∧ -1000000 ≤ n ∧ n ≤ 1000000 then some (.rng lo (n - lo).toNat, A1) else none
  | _ => none
section
variable {κ : Kx} {ta tb te : TE} {ma mb me : ME} {tA : TA} {mA : MA} {t u : TT} {m n : MT} {ts tu : TS} {ms mu : MS} {wi : TI} {mi : MI} {g : TG} {mg : MG}
theorem sim_gName (i : Nat) : SimG κ (gName i) (gmName i) := by
  intro ρ A w e v σ H Q e' A' R E rw' h k
  cases h
  exact k ρ H _ R .refl (E.set rw' i)
theorem sim_iL (ha : SimE κ ta ma) : SimI κ (iList κ.K ta) (miL ma) := by
  intro ρ A e σ H Q s A' R E h k
  unfold miL at h
  split at h
  · rename_i l A1 h1
    split at h
    · rename_i xs hx
      cases h
      refine ha _ _ _ _ _ _ _ _ R E h1 fun ρ1 H1 v R1 G1 rv => ?_
      obtain ⟨a, vs, rfl, ha', h2, h3⟩ := R1.lstAt hx rv
      exact ⟨a, rfl, ⟨vs, SqL.of h2⟩, k ρ1 H1 _ R1 G1 ⟨a, ha', rfl⟩⟩
    · cases h
  · cases h
theorem sim_iT (ha : SimE κ ta ma) : SimI κ (iTup κ.K ta) (miT ma) := by
  intro ρ A e σ H Q s A' R E h k
  unfold miT at h
  split at h
  · rename_i l A1 h1
    split at h
    · rename_i xs hx
      cases h
      refine ha _ _ _ _ _ _ _ _ R E h1 fun ρ1 H1 v R1 G1 rv => ?_
      obtain ⟨a, vs, rfl, ha', h2, h3⟩ := R1.tupAt hx rv
      exact ⟨a, rfl, ⟨vs, SqT.of h2⟩, k ρ1 H1 _ R1 G1 ⟨a, ha', rfl⟩⟩
    · cases h
  · cases h
theorem sim_iR1 (ha : SimA κ tA mA) : SimI κ (iRng1 tA) (miR1 mA) := by
  intro ρ A e σ H Q s A' R E h k
  unfold miR1 at h
  split at h
  · rename_i n A1 h1
    split at h
    · rename_i hn
      cases h
      refine ha _ _ _ _ _ _ _ _ R E h1 fun ρ1 H1 vs R1 G1 rv => ?_
      cases rv with
      | cons r0 t => cases t; cases r0; exact ⟨n, rfl, by omega, by omega, k ρ1 H1 _ R1 G1 rfl⟩
    · cases h
  · cases h
theorem sim_iR2 (ha : SimA κ tA mA) : SimI κ (iRng2 tA) (miR2 mA) := by
  intro ρ A e σ H Q s A' R E h k
  unfold miR2 at h
  split at h
  · rename_i lo n A1 h1
    split at h
    · rename_i hn
      cases h
      refine ha _ _ _ _ _ _ _ _ R E h1 fun ρ1 H1 vs R1 G1 rv => ?_
      cases rv with
      | cons r0 t => cases t with
        | cons r1 t => cases t; cases r0; cases r1; exact ⟨lo, n, rfl, ⟨by omega, by omega, by omega, by omega⟩, k ρ1 H1 _ R1 G1 rfl⟩
    · cases h
  · cases h
theorem sim_for (hi : SimI κ wi mi) (hg : SimG κ g mg) (hb : SimS κ ts ms) : SimS κ (tFor wi g ts) (mFor mi mg ms) := by
  intro ρ A e σ H D o A' R E h k
  unfold mFor at h
  split at h
  · rename_i s A1 h1
    refine hi _ _ _ _ _ _ _ _ R E h1 fun ρ1 H1 J R1 G1 j1 => ?_
    refine ⟨fun i m σ H => ∃ ρ A e, Rep κ ρ A H ∧ Go ρ1 H1 ρ H ∧ RelE κ ρ e σ ∧ forM s mg ms m i e A = some (o, A'), ⟨_, ρ1, A1, e, R1, .refl, E.mono G1.pre, h⟩, ?_⟩
    rintro i m σ2 H2 ⟨ρ2, A2, e2, R2, G2, E2, h2⟩
    cases m with
    | zero =>
      unfold forM at h2
      cases h2
    | succ m =>
      unfold forM at h2
      split at h2
      · cases h2
      · rename_i hs
        cases h2
        exact .inl ⟨src_stop R2 (j1.mono G2.pre) hs, k ρ2 H2 R2 (G1.trans G2) σ2 E2⟩
      · rename_i w A3 hs
        obtain ⟨hgo, hy⟩ := src_go R2 (j1.mono G2.pre) hs
        refine .inr ⟨hgo, fun σ' H' => ∃ ρ A e, Rep κ ρ A H' ∧ Go ρ1 H1 ρ H' ∧ RelE κ ρ e σ' ∧ forM s mg ms m (i + 1) e A = some (o, A'), fun σ' H' hN => ⟨m, Nat.lt_succ_self m, hN⟩, fun x H' y => ?_⟩
        obtain ⟨ρ3, R3, G3, r3⟩ := hy x H' y
        split at h2
        · cases h2
        · rename_i e4 A4 hg4
          refine hg _ _ _ _ _ _ _ _ _ _ R3 (E2.mono G3.pre) r3 hg4 fun ρ4 H4 σ4 R4 G4 E4 => ?_
          split at h2
          · rename_i e5 A5 hb5
            exact hb _ _ _ _ _ _ _ _ R4 E4 hb5 fun ρ5 H5 R5 G5 σ5 E5 => ⟨ρ5, A5, e5, R5, G2.trans (G3.trans (G4.trans G5)), E5, h2⟩
          · rename_i e5 A5 hb5
            exact hb _ _ _ _ _ _ _ _ R4 E4 hb5 fun ρ5 H5 R5 G5 σ5 E5 => ⟨ρ5, A5, e5, R5, G2.trans (G3.trans (G4.trans G5)), E5, h2⟩
          · rename_i e5 A5 hb5
            cases h2
            exact hb _ _ _ _ _ _ _ _ R4 E4 hb5 fun ρ5 H5 R5 G5 σ5 E5 => k ρ5 H5 R5 (G1.trans (G2.trans (G3.trans (G4.trans G5)))) σ5 E5
          · rename_i w5 A5 hb5
            cases h2
            exact hb _ _ _ _ _ _ _ _ R4 E4 hb5 fun ρ5 H5 R5 G5 v5 r5 => k ρ5 H5 R5 (G1.trans (G2.trans (G3.trans (G4.trans G5)))) v5 r5
          · cases h2
  · cases h
end
end Sv

set_option Elab.async false
set_option linter.all false
set_option maxRecDepth 100000
set_option maxHeartbeats 4000000
namespace Sv
open PySem L2
open PyProof.Rows (envOfC)

/-! ### a comprehension -/
def wipeW (e : Sl) : List Nat → Sl
  | [] => e
  | v :: vs => (wipeW e vs).set v none
theorem wipeW_get (e : Sl) (i : Nat) : ∀ vs : List Nat, (wipeW e vs)[i]? = if i ∈ vs then (e[i]?).map (fun _ => none) else e[i]?
  | [] => by simp [wipeW]
  | v :: vs => by
    unfold wipeW
    rw [List.getElem?_set, wipeW_get e i vs]
    have hlen : ∀ ws : List Nat, (wipeW e ws).length = e.length := by
      intro ws
      induction ws with
      | nil => rfl
      | cons a r ih => unfold wipeW; rw [List.length_set, ih]
    rw [hlen]
    by_cases h : v = i
    · subst h
      simp only [List.mem_cons, true_or, if_true]
      by_cases hl : v < e.length
      · rw [if_pos hl, List.getElem?_eq_getElem hl]; rfl
      · rw [if_neg hl, List.getElem?_eq_none (by omega)]; rfl
    · have : i ∈ v :: vs ↔ i ∈ vs := by simp [List.mem_cons, Ne.symm h]
      rw [if_neg h]
      by_cases hm : i ∈ vs
      · rw [if_pos hm, if_pos (this.mpr hm)]
      · rw [if_neg hm, if_neg (fun z => hm (this.mp z))]
theorem wipe_get (e : St) (i : Nat) : ∀ vs : List Nat, (wipe e vs)[i]? = if i ∈ vs then (e[i]?).map (fun _ => none) else e[i]?
  | [] => by simp [wipe]
  | v :: vs => by
    unfold wipe
    rw [List.getElem?_set, wipe_get e i vs, wipe_length]
    by_cases h : v = i
    · subst h
      simp only [List.mem_cons, true_or, if_true]
      by_cases hl : v < e.length
      · rw [if_pos hl, List.getElem?_eq_getElem hl]; rfl
      · rw [if_neg hl, List.getElem?_eq_none (by omega)]; rfl
    · have : i ∈ v :: vs ↔ i ∈ vs := by simp [List.mem_cons, Ne.symm h]
      rw [if_neg h]
      by_cases hm : i ∈ vs
      · rw [if_pos hm, if_pos (this.mpr hm)]
      · rw [if_neg hm, if_neg (fun z => hm (this.mp z))]
theorem wipeW_length (e : Sl) : ∀ vs : List Nat, (wipeW e vs).length = e.length
  | [] => rfl
  | v :: vs => by unfold wipeW; rw [List.length_set, wipeW_length e vs]
theorem RelE.wipe {κ : Kx} {ρ : List Addr} {e : Sl} {σ : St} (h : RelE κ ρ e σ) (vs : List Nat) : RelE κ ρ (wipeW e vs) (wipe σ vs) := by
  refine ⟨by rw [wipeW_length, wipe_length]; exact h.1, fun i w q => ?_⟩
  rw [wipeW_get] at q
  rw [wipe_get]
  by_cases hm : i ∈ vs
  · rw [if_pos hm] at q
    cases e[i]? <;> simp at q
  · rw [if_neg hm] at q ⊢
    exact h.2 i w q
def WipeOk (g : TG) (vs : List Nat) : Prop := ∀ (x : V) (σ : St) (H : Hp) (Q : St → Hp → Prop), (g x (wipe σ vs) H Q) → g x (wipe σ vs) H fun σ2 H2 => wipe σ2 vs = wipe σ vs ∧ Q σ2 H2
theorem wipeOk_name (j : Nat) : WipeOk (gName j) [j] := by
  intro x σ H Q h
  refine ⟨?_, h⟩
  apply List.ext_getElem?
  intro i
  rw [wipe_get, List.getElem?_set]
  rw [wipe_get, wipe_length]
  by_cases hi : j = i
  · subst hi
    simp only [List.mem_singleton, if_true]
    by_cases hl : j < σ.length
    · rw [if_pos hl, List.getElem?_eq_getElem hl]; rfl
    · rw [if_neg hl, List.getElem?_eq_none (by omega)]
  · have : i ∉ [j] := by simp [Ne.symm hi]
    rw [if_neg hi, if_neg this, if_neg this]
def lcM (s : Src) (mg : MG) (mt : MT) (me : ME) (ew : Sl) (d : Nat) : Nat → Nat → List O → Option (List O)
  | 0, _, _ => none
  | m + 1, i, A => match srcGo s i A with
    | none => none
    | some none => some A
    | some (some (w, A1)) => match mg w ew A1 with
      | none => none
      | some (e2, A2) => match mt e2 A2 with
        | none => none
        | some (false, A3) => lcM s mg mt me ew d m (i + 1) A3
        | some (true, A3) => match me e2 A3 with
          | none => none
          | some (y, A4) => match lstAt A4 d with
            | none => none
            | some acc => if acc.length < 100000 then lcM s mg mt me ew d m (i + 1) (A4.set d (.lst (acc ++ [y]))) else none
def mLc (mi : MI) (mg : MG) (mt : MT) (me : ME) (vs : List Nat) : ME := fun e A => match mi e A with
  | some (s, A1) => match lcM s mg mt me (wipeW e vs) A1.length (srcLen s A1 + 1) 0 (A1 ++ [.lst []]) with
    | some A2 => some (.ref A1.length, A2)
    | none => none
  | none => none
def mYes : MT := fun _ A => some (true, A)
/-! ### targets -/
abbrev MGs := List W → Sl → List O → Option (Sl × List O)
def gmNil : MGs := fun ws e A => match ws with
  | [] => some (e, A)
  | _ => none
def gmCons (a : MG) (r : MGs) : MGs := fun ws e A => match ws with
  | w :: rest => match a w e A with
    | some (e1, A1) => r rest e1 A1
    | none => none
  | [] => none
def gmTup (n : Nat) (r : MGs) : MG := fun w e A => match w with
  | .ref l => match tupAt A l with
    | some xs => if xs.length = n then r xs e A else none
    | none => none
  | _ => none
def gmSub (o i : ME) : MG := fun w e A => match o e A with
  | some (.ref l, A1) => match i e A1 with
    | some (.int k, A2) => match lstAt A2 l with
      | some xs => match ixN xs.length k with
        | some j => some (e, A2.set l (.lst (xs.set j w)))
        | none => none
      | none => none
    | _ => none
  | _ => none
def SimGs (κ : Kx) (g : TGs) (m : MGs) : Prop := ∀ (ρ : List Addr) (A : List O) (ws : List W) (e : Sl) (vs : List V) (σ : St) (H : Hp) (Q : St → Hp → Prop) (e' : Sl) (A' : List O), Rep κ ρ A H → RelE κ ρ e σ → RelL κ ρ ws vs → m ws e A = some (e', A') →
  (∀ ρ' H' σ', Rep κ ρ' A' H' → Go ρ H ρ' H' → RelE κ ρ' e' σ' → Q σ' H') → g vs σ H Q
def mAsg (a : ME) (g : MG) : MS := fun e A => match a e A with
  | some (w, A1) => match g w e A1 with
    | some (e1, A2) => some (.nx e1, A2)
    | none => none
  | none => none
section
variable {κ : Kx} {ta tb te : TE} {ma mb me : ME} {tA : TA} {mA : MA} {t u tt : TT} {m n mt : MT} {ts tu : TS} {ms mu : MS} {wi : TI} {mi : MI} {g : TG} {mg : MG} {gs : TGs} {mgs : MGs}
theorem sim_yes : SimT κ tYes mYes := by
  intro ρ A e σ H Q b A' R E h k
  cases h
  exact k ρ H R .refl
theorem sim_lc {vs : List Nat} (hi : SimI κ wi mi) (hg : SimG κ g mg) (ht : SimT κ tt mt) (he : SimE κ te me) (hw : WipeOk g vs) : SimE κ (tLc wi g tt te vs) (mLc mi mg mt me vs) := by
  intro ρ A e σ H Q w A' R E h k
  unfold mLc at h
  split at h
  · rename_i s A1 h1
    split at h
    · rename_i A2 h2
      cases h
      refine hi _ _ _ _ _ _ _ _ R E h1 fun ρ1 H1 J R1 G1 j1 D hD => ?_
      obtain ⟨R0, G0, r0⟩ := R1.newLst (xs := []) (vs := []) hD .nil
      have hd0 : (ρ1 ++ [D])[A1.length]? = some D := by rw [← R1.len]; exact snoc_at ρ1 D
      refine ⟨fun i m H => ∃ ρ A, Rep κ ρ A H ∧ Go (ρ1 ++ [D]) (upd H1 D (.lst [])) ρ H ∧ lcM s mg mt me (wipeW e vs) A1.length m i A = some A', ⟨_, _, _, R0, .refl, h2⟩, ?_⟩
      rintro i m H2 ⟨ρ2, A2', R2, G2, h3⟩
      have Eb : RelE κ ρ2 (wipeW e vs) (wipe σ vs) := ((E.mono G1.pre).mono (G0.pre.trans G2.pre)).wipe vs
      have j2 := (j1.mono G0.pre).mono G2.pre
      cases m with
      | zero =>
        unfold lcM at h3
        cases h3
      | succ m =>
        unfold lcM at h3
        split at h3
        · cases h3
        · rename_i hs
          cases h3
          exact .inl ⟨src_stop R2 j2 hs, k ρ2 H2 _ R2 (G1.trans (G0.trans G2)) ⟨D, G2.pre _ _ hd0, rfl⟩⟩
        · rename_i w3 A3 hs
          obtain ⟨hgo, hy⟩ := src_go R2 j2 hs
          refine .inr ⟨hgo, fun H' => ∃ ρ A, Rep κ ρ A H' ∧ Go (ρ1 ++ [D]) (upd H1 D (.lst [])) ρ H' ∧ lcM s mg mt me (wipeW e vs) A1.length m (i + 1) A = some A', fun H' hN => ⟨m, Nat.lt_succ_self m, hN⟩, fun x H' y => ?_⟩
          obtain ⟨ρ3, R3, G3, r3⟩ := hy x H' y
          split at h3
          · cases h3
          · rename_i e4 A4 hg4
            refine hw _ _ _ _ ?_
            refine hg _ _ _ _ _ _ _ _ _ _ R3 (Eb.mono G3.pre) r3 hg4 fun ρ4 H4 σ4 R4 G4 E4 => ?_
            split at h3
            · cases h3
            · rename_i A5 ht5
              refine ht _ _ _ _ _ _ _ _ R4 E4 ht5 fun ρ5 H5 R5 G5 => ?_
              show if false = true then _ else _
              rw [if_neg Bool.false_ne_true]
              exact ⟨ρ5, A5, R5, G2.trans (G3.trans (G4.trans G5)), h3⟩
            · rename_i A5 ht5
              refine ht _ _ _ _ _ _ _ _ R4 E4 ht5 fun ρ5 H5 R5 G5 => ?_
              show if true = true then _ else _
              rw [if_pos rfl]
              split at h3
              · cases h3
              · rename_i y6 A6 he6
                refine he _ _ _ _ _ _ _ _ R5 (E4.mono G5.pre) he6 fun ρ6 H6 v6 R6 G6 r6 => ?_
                split at h3
                · cases h3
                · rename_i acc hacc
                  split at h3
                  · rename_i hz
                    have hd6 : ρ6[A1.length]? = some D := G6.pre _ _ (G5.pre _ _ (G4.pre _ _ (G3.pre _ _ (G2.pre _ _ hd0))))
                    obtain ⟨us, e1, e2⟩ := R6.list_at hacc hd6
                    refine ⟨us, e1, by rw [← e2.len]; exact sz_lineL hz, ?_⟩
                    obtain ⟨R7, G7⟩ := R6.set (o := .lst (acc ++ [y6])) (u := .lst (us ++ [v6])) hd6 ⟨_, upd_same, e2.append (.cons r6 .nil)⟩
                    exact ⟨ρ6, _, R7, G2.trans (G3.trans (G4.trans (G5.trans (G6.trans G7)))), h3⟩
                  · cases h3
    · cases h
  · cases h
theorem sim_gNil : SimGs κ gNil gmNil := by
  intro ρ A ws e vs σ H Q e' A' R E r h k
  unfold gmNil at h
  split at h
  · cases h
    cases r
    exact ⟨rfl, k ρ H σ R .refl E⟩
  · cases h
theorem sim_gCons (ha : SimG κ g mg) (hb : SimGs κ gs mgs) : SimGs κ (gCons g gs) (gmCons mg mgs) := by
  intro ρ A ws e vs σ H Q e' A' R E r h k
  unfold gmCons at h
  split at h
  · rename_i w rest
    split at h
    · rename_i e1 A1 h1
      cases r with
      | cons r0 t =>
        refine ⟨_, _, rfl, ?_⟩
        refine ha _ _ _ _ _ _ _ _ _ _ R E r0 h1 fun ρ1 H1 σ1 R1 G1 E1 => ?_
        exact hb _ _ _ _ _ _ _ _ _ _ R1 E1 (RelL.mono G1.pre t) h fun ρ2 H2 σ2 R2 G2 E2 => k ρ2 H2 σ2 R2 (G1.trans G2) E2
    · cases h
  · cases h
theorem sim_gTup {n : Nat} (hb : SimGs κ gs mgs) : SimG κ (gTup κ.K n gs) (gmTup n mgs) := by
  intro ρ A w e v σ H Q e' A' R E r h k
  unfold gmTup at h
  split at h
  · split at h
    · rename_i xs hx
      split at h
      · rename_i hn
        obtain ⟨a, vs, rfl, ha, h1, h2⟩ := R.tupAt hx r
        exact ⟨a, vs, rfl, SqT.of h1, by rw [← h2.len]; exact hn, hb _ _ _ _ _ _ _ _ _ _ R E h2 h k⟩
      · cases h
    · cases h
  · cases h
theorem sim_gSub (ha : SimE κ ta ma) (hb : SimE κ tb mb) : SimG κ (gSub ta tb rSetL) (gmSub ma mb) := by
  intro ρ A w e v σ H Q e' A' R E r h k
  unfold gmSub at h
  split at h
  · rename_i l A1 h1
    split at h
    · rename_i k0 A2 h2
      split at h
      · rename_i xs hx
        split at h
        · rename_i j hj
          cases h
          refine ha _ _ _ _ _ _ _ _ R E h1 fun ρ1 H1 v1 R1 G1 r1 => ?_
          refine hb _ _ _ _ _ _ _ _ R1 (E.mono G1.pre) h2 fun ρ2 H2 v2 R2 G2 r2 => ?_
          obtain ⟨a, vs, rfl, ha', e1, e2⟩ := R2.lstAt hx (r1.mono G2.pre)
          obtain ⟨R3, G3⟩ := R2.set (o := .lst (xs.set j w)) (u := .lst (vs.set j v)) ha' ⟨_, upd_same, e2.set (r.mono (G1.pre.trans G2.pre)) j⟩
          exact ⟨a, vs, k0, j, rfl, r2, e1, by rw [← e2.len]; exact hj, k ρ2 _ σ R3 (G1.trans (G2.trans G3)) (E.mono (G1.pre.trans G2.pre))⟩
        · cases h
      · cases h
    · cases h
  · cases h
theorem sim_asg (ha : SimE κ ta ma) (hg : SimG κ g mg) : SimS κ (tAsg ta g) (mAsg ma mg) := by
  intro ρ A e σ H D o A' R E h k
  unfold mAsg at h
  split at h
  · rename_i w A1 h1
    split at h
    · rename_i e1 A2 h2
      cases h
      refine ha _ _ _ _ _ _ _ _ R E h1 fun ρ1 H1 v1 R1 G1 r1 => ?_
      exact hg _ _ _ _ _ _ _ _ _ _ R1 (E.mono G1.pre) r1 h2 fun ρ2 H2 σ2 R2 G2 E2 => k ρ2 H2 R2 (G1.trans G2) σ2 E2
    · cases h
  · cases h
end

/-! ### built-ins by values -/
abbrev FC := List W → List O → Option (W × List O)
def fLen : FC
  | [.ref l], A => match seqAtO A l with
    | some xs => some (.int xs.length, A)
    | none => none
  | _, _ => none
def fInt1 : FC
  | [.int i], A => some (.int i, A)
  | _, _ => none
def fAbs : FC
  | [.int i], A => some (.int (if i < 0 then -i else i), A)
  | _, _ => none
def fDivmod : FC
  | [.int i, .int j], A => if 0 < j ∧ j < 1073741824 then some (.ref A.length, A ++ [.tup [.int (i / j), .int (i % j)]]) else none
  | _, _ => none
def fList1 : FC
  | [.ref l], A => match seqAtO A l with
    | some xs => some (.ref A.length, A ++ [.lst xs])
    | none => none
  | _, _ => none
def fTuple1 : FC
  | [.ref l], A => match A[l]? with
    | some (.lst xs) => some (.ref A.length, A ++ [.tup xs])
    | some (.tup _) => some (.ref l, A)
    | _ => none
  | _, _ => none
section
variable {κ : Kx}
theorem sc_len : SimC κ (fun xs H Q => ∃ p ys, xs = [.ref p] ∧ (SqL κ.K H p ys ∨ SqT κ.K H p ys) ∧ Q (.int ys.length) H) fLen := by
  intro ρ A H xs vs w A' Q R r h k
  unfold fLen at h
  split at h
  · split at h
    · rename_i l x0 ys hx
      cases h
      cases r with
      | cons r0 t =>
        cases t
        obtain ⟨a, us, rfl, ha, e1, e2⟩ := R.seqAt hx r0
        refine ⟨a, us, rfl, ?_, ?_⟩
        · rcases e1 with e1 | e1
          · exact .inl (SqL.of e1)
          · exact .inr (SqT.of e1)
        · rw [← e2.len]
          exact k ρ H _ R .refl rfl
    · cases h
  · cases h
theorem sc_int1 : SimC κ (fun xs H Q => (∃ i, xs = [.int i] ∧ Q (.int i) H) ∨ ∃ k, xs = [.bl k] ∧ Q (.int (if k then 1 else 0)) H) fInt1 := by
  intro ρ A H xs vs w A' Q R r h k
  unfold fInt1 at h
  split at h
  · rename_i i
    cases h
    cases r with
    | cons r0 t =>
      cases t
      cases r0
      exact .inl ⟨i, rfl, k ρ H _ R .refl rfl⟩
  · cases h
theorem sc_abs : SimC κ (fun xs H Q => ∃ i, xs = [.int i] ∧ Q (.int (if i < 0 then -i else i)) H) fAbs := by
  intro ρ A H xs vs w A' Q R r h k
  unfold fAbs at h
  split at h
  · rename_i i
    cases h
    cases r with
    | cons r0 t =>
      cases t
      cases r0
      exact ⟨i, rfl, k ρ H _ R .refl rfl⟩
  · cases h
theorem sc_divmod : SimC κ (fun xs H Q => ∃ i j, xs = [.int i, .int j] ∧ CDiv i j ∧ ∀ p, H p = none → Q (.ref p) (upd H p (.tup [.int (i / j), .int (i % j)]))) fDivmod := by
  intro ρ A H xs vs w A' Q R r h k
  unfold fDivmod at h
  split at h
  · rename_i i j
    split at h
    · rename_i hj
      cases h
      cases r with
      | cons r0 t =>
        cases t with
        | cons r1 t =>
          cases t
          cases r0
          cases r1
          refine ⟨i, j, rfl, hj, fun p hp => ?_⟩
          obtain ⟨R2, G2, r2⟩ := R.newTup (xs := [.int (i / j), .int (i % j)]) (vs := [.int (i / j), .int (i % j)]) hp (.cons rfl (.cons rfl .nil))
          exact k _ _ _ R2 G2 r2
    · cases h
  · cases h
theorem sc_list1 : SimC κ (fun xs H Q => ∃ p ys, xs = [.ref p] ∧ (SqL κ.K H p ys ∨ SqT κ.K H p ys) ∧ ∀ l, H l = none → Q (.ref l) (upd H l (.lst ys))) fList1 := by
  intro ρ A H xs vs w A' Q R r h k
  unfold fList1 at h
  split at h
  · split at h
    · rename_i l x0 ys hx
      cases h
      cases r with
      | cons r0 t =>
        cases t
        obtain ⟨a, us, rfl, ha, e1, e2⟩ := R.seqAt hx r0
        refine ⟨a, us, rfl, ?_, fun l hl => ?_⟩
        · rcases e1 with e1 | e1
          · exact .inl (SqL.of e1)
          · exact .inr (SqT.of e1)
        · obtain ⟨R2, G2, r2⟩ := R.newLst hl e2
          exact k _ _ _ R2 G2 r2
    · cases h
  · cases h
theorem sc_tuple1 : SimC κ (fun xs H Q => ∃ p ys, xs = [.ref p] ∧ ((SqL κ.K H p ys ∧ ∀ l, H l = none → Q (.ref l) (upd H l (.tup ys))) ∨ (SqT κ.K H p ys ∧ Q (.ref p) H))) fTuple1 := by
  intro ρ A H xs vs w A' Q R r h k
  unfold fTuple1 at h
  split at h
  · split at h
    · rename_i l x0 ys hx
      cases h
      cases r with
      | cons r0 t =>
        cases t
        obtain ⟨a, ha, rfl⟩ := r0
        obtain ⟨us, e1, e2⟩ := R.of ha hx
        refine ⟨a, us, rfl, .inl ⟨SqL.of e1, fun l hl => ?_⟩⟩
        obtain ⟨R2, G2, r2⟩ := R.newTup hl e2
        exact k _ _ _ R2 G2 r2
    · rename_i l x0 ys hx
      cases h
      cases r with
      | cons r0 t =>
        cases t
        obtain ⟨a, ha, rfl⟩ := r0
        obtain ⟨us, e1, e2⟩ := R.of ha hx
        exact ⟨a, us, rfl, .inr ⟨SqT.of e1, k ρ H _ R .refl ⟨a, ha, rfl⟩⟩⟩
    · cases h
  · cases h
end

/-! ### own defs -/
def callM (N : Nat) (m : MS) (ws : List W) (A : List O) : Option (W × List O) := match m (ws.map some ++ List.replicate (N - ws.length) none) A with
  | some (.rt w, A') => some (w, A')
  | some (.nx _, A') => some (.non, A')
  | _ => none
def spM (κ : Kx) (np N : Nat) (m : MS) : Sp := fun vs H Q _ => vs.length = np ∧ ∃ ρ A ws w A', Rep κ ρ A H ∧ RelL κ ρ ws vs ∧ callM N m ws A = some (w, A') ∧ ∀ ρ' H' v, Rep κ ρ' A' H' → Go ρ H ρ' H' → RelW κ ρ' w v → Q v H'
def mCall (N : Nat) (m : MS) (a : MA) : ME := fun e A => match a e A with
  | some (ws, A1) => callM N m ws A1
  | none => none
section
variable {κ : Kx} {P : Program} {w : World} {mg : Str → Option Value} {base : Heap}
theorem RelE.start {ρ : List Addr} {ws : List W} {vs : List V} (r : RelL κ ρ ws vs) (N : List Str) : RelE κ ρ (ws.map some ++ List.replicate (N.length - ws.length) none) (L2.start N vs) := by
  unfold L2.start
  refine ⟨by simp [r.len], fun i w q => ?_⟩
  by_cases hi : i < ws.length
  · rw [List.getElem?_append_left (by rw [List.length_map]; exact hi), List.getElem?_map] at q
    obtain ⟨x, hx, e⟩ := Option.map_eq_some_iff.mp q
    obtain rfl : x = w := Option.some.inj e
    obtain ⟨v, h1, h2⟩ := r.get hx
    refine ⟨v, ?_, h2⟩
    have hv := (List.getElem?_eq_some_iff.mp h1).1
    rw [List.getElem?_append_left (by rw [List.length_map]; exact hv), List.getElem?_map, h1]
    rfl
  · rw [List.getElem?_append_right (by rw [List.length_map]; omega)] at q
    have := List.mem_of_getElem? q
    rw [List.mem_replicate] at this
    exact absurd this.2 (by simp)
theorem ok_m {x qual : Str} {st : Stmt} {f : Addr} {fd : FuncData} {N ps : List Str} {k : Nat} {m : MS} (F : Fun κ.K x qual st f fd) (S : FnScope N ps (defScope st))
    (hb : ∀ (cdv : Value) (A : Around) (outer : List Env) (s : Shared) (H : Hp) (E : XK), Room k (A.deeper (envOfC qual (defScope st) s.heap.objs.size f cdv)) →
      ∃ t, GSs (cxOf CX0 P w κ.K mg base N qual (defScope st) f cdv A outer s H E).nox κ (defBody st) t m) : FnOk P w κ.K mg base CX0 (k + 1) f fd ps (spM κ ps.length N.length m) := by
  refine F.ok S (fun vs H Q E h => h.1) (fun cdv A outer s H vs Q E hr h => ?_)
  obtain ⟨t, G⟩ := hb cdv A outer s H E hr
  obtain ⟨hl, ρ, Ah, ws, wv, A', R, r, hc, hk⟩ := h
  refine ⟨t, G.pss rfl, ?_⟩
  unfold callM at hc
  split at hc
  · rename_i w1 A1 h1
    cases hc
    exact G.sim _ _ _ _ _ _ _ _ R (RelE.start r N) h1 fun ρ' H' R' G' v rv => hk ρ' H' v R' G' rv
  · rename_i e1 A1 h1
    cases hc
    exact G.sim _ _ _ _ _ _ _ _ R (RelE.start r N) h1 fun ρ' H' R' G' σ' E' => hk ρ' H' _ R' G' rfl
  · cases hc
theorem sim_call {np N : Nat} {m : MS} {tA : TA} {mA : MA} {E : XK} (ha : SimA κ tA mA) (hn : ∀ ρ A e σ ws A', RelE κ ρ e σ → mA e A = some (ws, A') → ws.length = np) : SimE κ (tCall (spM κ np N m) [] E tA) (mCall N m mA) := by
  intro ρ A e σ H Q w A' R E' h k
  unfold mCall at h
  split at h
  · rename_i ws A1 h1
    refine ha _ _ _ _ _ _ _ _ R E' h1 fun ρ1 H1 vs R1 G1 rs => ?_
    refine ⟨by rw [List.append_nil, ← rs.len]; exact hn _ _ _ _ _ _ E' h1, ρ1, A1, ws, w, A', R1, by rw [List.append_nil]; exact rs, h, fun ρ' H' v R' G' rv => k ρ' H' v R' (G1.trans G') rv⟩
  · cases h
end
def ArgN (mA : MA) (n : Nat) : Prop := ∀ e A ws A', mA e A = some (ws, A') → ws.length = n
theorem argN_nil : ArgN mNil 0 := by
  intro e A ws A' h
  cases h
  rfl
theorem argN_cons {ma : ME} {mA : MA} {n : Nat} (h : ArgN mA n) : ArgN (mCons ma mA) (n + 1) := by
  intro e A ws A' q
  unfold mCons at q
  split at q
  · split at q
    · rename_i xs A2 h2
      cases q
      rw [List.length_cons, h _ _ _ _ h2]
    · cases q
  · cases q
end Sv

set_option Elab.async false
set_option linter.all false
set_option maxRecDepth 100000
set_option maxHeartbeats 4000000
namespace PySem
namespace SvX
open PySem.W PySem.Calls PyProof.Rows PySem.HandSPX
open Builtin Builtin.ObjectAttr
section
variable {M : Model} {A : Around} {E : Value → Shared → Prop} {h : Heap} {g : Array GenState} {d : Drawn} {t : Nat} {os : OsState}
variable {nm q : Str} {C N : Addr} {bs bm bmB : List Value} {hdct : Bool} {sn : List Str} {sub : List Value} {ab : Bool} {col : Option Bool} {dd : Option Addr} {k0 k1 k2 k3 k5 : Option Value} {B newId initId : String} {kw : List (Str × Value)}

theorem check_new_kw (F : ExcBaseFacts B newId initId bmB) (hT : ∀ X : String, bm.contains (.type X) = bmB.contains (.type X)) {rest : List Value} {Q : Unit → Shared → Prop}
    (hC : h.get? C = some (excClassObj nm q C N bs bm hdct sn sub ab col dd k0 k1 k2 k3 k5 newId)) (hq : Q () ⟨h, g, d, t, os⟩) : wpAny M A (checkBuiltinCall newId ⟨.ref C :: rest, kw⟩) Q E ⟨h, g, d, t, os⟩ := by
  have hcont : (Value.ref C :: bm).contains (.type B) = true := by rw [List.contains_cons, hT, F.hasB, Bool.or_true]
  have hstar := F.noStar
  simp only [checkBuiltinCall, F.newKind, F.newSplit, F.newRow]
  repeat (first | refine wpAny_loadPart_at hC ?_ | (refine wpAny_isSubtype_exc hC ?_; rw [hcont]) | refine wpAny_staticBase_exc hC ?_ | refine wpAny_madeBy_exc hC ?_ | simp only [bne_self_eq_false, Bool.false_eq_true, if_false] | wp_step)
  exact hq
end
section
variable {prog : Program} {w : World} {A : Around} {E : Value → Shared → Prop} {R : Result → Shared → Prop} {h : Heap} {g : Array GenState} {d : Drawn} {t : Nat} {os : OsState}
variable {nm q : Str} {C N : Addr} {bs bm bmB : List Value} {hdct : Bool} {sn : List Str} {sub : List Value} {ab : Bool} {col : Option Bool} {dd : Option Addr} {k0 k1 k2 k3 k5 : Option Value} {B newId initId : String} {kw : List (Str × Value)}
theorem new_kw (F : ExcBaseFacts B newId initId bmB) (hT : ∀ X : String, bm.contains (.type X) = bmB.contains (.type X)) {rest : List Value}
    (hC : h.get? C = some (excClassObj nm q C N bs bm hdct sn sub ab col dd k0 k1 k2 k3 k5 newId))
    (hq : R (.ok (.ret (.ref (h.objs.size + 1)))) ⟨(h.push { cls := .type "tuple", data := .seq rest.toArray }).push
      { cls := .ref C, data := .fields #[.ref h.objs.size, .none, .none, .none, .bool false, .none] }, g, d, t, os⟩) (hrest : rest.length ≤ sizeLine) :
    codeAny (model prog w) A (.builtin newId ⟨.ref C :: rest, kw⟩) R ⟨h, g, d, t, os⟩ := by
  have hends := F.ends
  have hcB : (Value.ref C :: bm).contains (.type B) = true := by rw [List.contains_cons, hT, F.hasB, Bool.or_true]
  have hcA : (Value.ref C :: bm).contains (.type "AttributeError") = false := by rw [List.contains_cons, hT, F.noAttr]; rfl
  have hcN : (Value.ref C :: bm).contains (.type "NameError") = false := by rw [List.contains_cons, hT, F.noName]; rfl
  refine codeAny_builtinAt F.entry ?_
  unfold Builtin.«BaseException.__new__»
  refine wpAt_bind ?_
  show wpAt _ _ _ (stack >>= _) _ _ _
  refine wpAt_bind (wpAt_stack fun p below => wpAt_of_wpAny ?_)
  wp_walk
  refine wpAt_of_wpAny ?_
  rw [F.owner]
  repeat (first | with_reducible refine wpAny_madeHere_exc F.canon hC ?_ | with_reducible refine wpAny_loadPart_at hC ?_ | (with_reducible refine wpAny_isSubtype_exc hC ?_; first | rw [hcB] | rw [hcA] | rw [hcN]) | wp_step)
  show R _ _
  rw [Heap.size_push]
  exact hq
theorem type_call_kw (F : ExcBaseFacts B newId initId bmB) (hT : ∀ X : String, bm.contains (.type X) = bmB.contains (.type X)) {rest : List Value} {fI : Addr} {Q : Fin → Shared → Prop}
    (hC : h.get? C = some (excClassObj nm q C N bs bm hdct sn sub ab col dd k0 k1 k2 k3 k5 newId))
    (hi : W.Looks (model prog w) h (typeLookup (.ref C) "__init__") (some (.ref fI))) (hb : ∀ self, W.Looks (model prog w) h (bindSpecial (.ref fI) self) (.ref fI, [self])) (hrest : rest.length ≤ sizeLine)
    (hq : codeAny (model prog w) A (.call (.ref fI) ⟨.ref (h.objs.size + 1) :: rest, kw⟩)
      (fun r s' => match r with | .ok (.ret v) => v = .none ∧ Q (.done (.ret (.ref (h.objs.size + 1)))) s' | .ok _ => False | .error e => E e s')
      ⟨(h.push (W.kdv_tup rest)).push (excO C h.objs.size), g, d, t, os⟩) :
    wpAny (model prog w) A (Builtin.«type.__call__» ⟨.ref C :: rest, kw⟩) Q E ⟨h, g, d, t, os⟩ := by
  repeat (first | with_reducible refine wpAny_loadPart_at hC ?_ | with_reducible refine wpAny_madeBy_exc hC ?_ | wp_step)
  refine codeAny_call_builtin_code (Code.quiet_builtin _ F.quiet) (check_new_kw F hT hC ?_)
  refine new_kw F hT hC ?_ hrest
  show wpAny _ _ _ _ _ _
  have k : ∀ b o, h.get? b = some o → ((h.push (W.kdv_tup rest)).push (excO C h.objs.size)).get? b = some o := fun b o e => Heap.get?_push_of_some _ (Heap.get?_push_of_some _ e)
  have hC₁ := k _ _ hC
  have hget : ((h.push (W.kdv_tup rest)).push (excO C h.objs.size)).get? (h.objs.size + 1) = some (excO C h.objs.size) := by heap_get
  have hcC : (Value.ref C :: bm).contains (.ref C) = true := by simp
  have i1 := hi.keeps k
  have b1 := (hb (.ref (h.objs.size + 1))).keeps k
  unfold isInstance
  repeat (first | with_reducible refine wpAny_loadPart_at hget ?_ | (with_reducible refine wpAny_isSubtype_exc hC₁ ?_; rw [hcC]) | wp_step)
  show wpAny _ _ (typeLookup (.ref C) _) _ _ _
  refine i1.at ?_
  refine wpAny_holding (wpAny_bind (b1.at ?_))
  refine wpAny_bind (wpAny_call (codeAny_mono hq fun r s' z => ?_))
  rcases r with e | (v | _ | _ | _) <;> first | exact z | exact z.elim | skip
  obtain ⟨rfl, z⟩ := z
  first
    | exact wpAny_pure (wpAny_pure z)
    | (wp_walk; exact z)
theorem check_type_call_kw {M : Model} {rest : List Value} {Q : Unit → Shared → Prop} (hC : h.get? C = some (excClassObj nm q C N bs bm hdct sn sub ab col dd k0 k1 k2 k3 k5 newId))
    (hq : Q () ⟨h, g, d, t, os⟩) : wpAny M A (checkBuiltinCall "type.__call__" ⟨.ref C :: rest, kw⟩) Q E ⟨h, g, d, t, os⟩ := by
  have f3 := tc_sub
  have hT : (⟨h, g, d, t, os⟩ : Shared).TypeIs (.ref C) "type" := ⟨_, hC, rfl⟩
  simp only [checkBuiltinCall, tc_kind, tc_split]
  repeat (any_goals (first | assumption | with_reducible refine wpAny_loadPart_at hC ?_ | with_reducible refine wpAny_onRaise ?_ | with_reducible refine wpAny_map ?_ | wp_step))
theorem call_kw (F : ExcBaseFacts B newId initId bmB) (hT : ∀ X : String, bm.contains (.type X) = bmB.contains (.type X)) {rest : List Value} {fI : Addr}
    (hC : h.get? C = some (excClassObj nm q C N bs bm hdct sn sub ab col dd k0 k1 k2 k3 k5 newId))
    (hi : W.Looks (model prog w) h (typeLookup (.ref C) "__init__") (some (.ref fI))) (hb : ∀ self, W.Looks (model prog w) h (bindSpecial (.ref fI) self) (.ref fI, [self])) (hrest : rest.length ≤ sizeLine)
    (hq : codeAny (model prog w) (A.under (.builtin "type.__call__" ⟨.ref C :: rest, kw⟩)) (.call (.ref fI) ⟨.ref (h.objs.size + 1) :: rest, kw⟩) (W.InitBack (h.objs.size + 1) R)
      ⟨(h.push (W.kdv_tup rest)).push (excO C h.objs.size), g, d, t, os⟩) :
    codeAny (model prog w) A (.call (.ref C) ⟨rest, kw⟩) R ⟨h, g, d, t, os⟩ := by
  have f1 := tc_lookup
  have f2 := tc_bind (.ref C)
  have hTy : (⟨h, g, d, t, os⟩ : Shared).TypeIs (.ref C) "type" := ⟨_, hC, rfl⟩
  refine codeAny_of_tree ?_
  show wpAny _ _ (callAny (.ref C) _) _ _ _
  repeat (any_goals (first | assumption | with_reducible refine wpAny_loadPart_at hC ?_ | wp_step))
  refine ⟨rfl, ?_⟩
  refine codeAny_call_builtin_at (Code.quiet_builtin _ (by decide +kernel)) entry_typeCall (check_type_call_kw hC (type_call_kw F hT hC hi hb hrest ?_))
  refine codeAny_mono hq fun r s' z => ?_
  rcases r with e | (v | _ | _ | _) <;> exact z
end
section
variable {prog : Program} {w : World} {A : Around} {E : Value → Shared → Prop} {R : Result → Shared → Prop} {hp : Heap} {g : Array GenState} {d : Drawn} {t : Nat} {os : OsState} {B : String} {bmB : List Value}
/-- self.name = v on an exception without a dict, any built-in base -/
theorem exc_osaB {K : W.Frag} {name : Str} {tk : Tok} {v : Value} {x C : Addr} {fv : Array Value} (SF : StoreFacts B bmB "object.__setattr__" "object")
    (X : K.In hp) (hx : hp.get? x = some { cls := .ref C, data := .fields fv }) (hov : excOver K C bmB = true) (hdc : hasDictIn K C = true) (ha : takerIn K C name = some none)
    (hq : ∀ h' tk' dx, (∀ b o, b ≠ x → hp.get? b = some o → h'.get? b = some o) → hp.objs.size ≤ dx → dx ≠ x → h'.get? x = some { cls := .ref C, dict := some dx, data := .fields fv } →
      h'.Ns1 dx (fun y => if y = name then some v else none) → R (.ok (.ret .none)) ⟨h', g, d, tk', os⟩) :
    codeAny (model prog w) A (.call (.builtin "object.__setattr__") ⟨[.ref x, .str name tk, v], []⟩) R ⟨hp, g, d, t, os⟩ := by
  have I : W.InstAt hp x { cls := .ref C, data := .fields fv } C none := ⟨hx, rfl, rfl, trivial⟩
  obtain ⟨cd, hcd, hh⟩ := any_some hdc
  have hxs : x ≠ hp.objs.size := Nat.ne_of_lt (Heap.lt_size hx)
  refine osa_openX SF X I hov ha fun b => ?_
  have hcls : W.Looks (model prog w) hp (classData C) cd := W.looks_clsIn X hcd
  show wpAny _ _ (storeInOwnDict (.ref x) (.ref C) (.str name tk) name v b) _ _ _
  obtain ⟨nm, bs, mro, ns, qn, hd, sn, sb, ab, col, del⟩ := cd
  dsimp only at hh
  subst hh
  unfold storeInOwnDict ownDictForStores
  repeat (first | with_reducible refine store_in_new ?_ ?_ | with_reducible refine wpAny_loadPart_at hx ?_ | with_reducible refine hcls.at ?_ | wp_step)
  · exact ⟨_, #[], _, (Heap.get?_update_ne _ _ _ _ hxs.symm).trans (Heap.get?_push_at rfl rfl), rfl, fun e he => absurd he (by simp), fun _ => rfl⟩
  · intro h' tk' hn' hs
    have hx₁ : (hp.push { cls := .type "dict", data := .dict #[] }).get? x = some { cls := .ref C, data := .fields fv } := Heap.get?_push_of_some _ hx
    refine hq h' tk' hp.objs.size (fun b o hb ho => ?_) (Nat.le_refl _) hxs.symm ?_ hn'
    · exact (hs.2 b (Nat.ne_of_lt (Heap.lt_size ho))).trans ((Heap.get?_update_ne _ _ _ _ hb).trans (Heap.get?_push_of_some _ ho))
    · exact (hs.2 x hxs).trans (Heap.get?_update_self _ hx₁ rfl)
end
end SvX
end PySem

set_option Elab.async false
set_option linter.all false
set_option maxRecDepth 100000
set_option maxHeartbeats 4000000
namespace L2
open PySem PySem.Spec PyProof.Rows

/-- what the written part says of an own exception class, over the built-in B -/
structure XcB (K : PySem.W.Frag) (C : Addr) (B newId initId : String) (bmB : List Value) : Prop where
  ini : PySem.W.excInitIn K C bmB newId = true
  ov : PySem.W.excOver K C bmB = true
  hd : PySem.W.hasDictIn K C = true
  sa : PySem.W.findIn K (.ref C) "__setattr__" = some (some (.builtin "object.__setattr__"))
  kC : PySem.W.keepIn K (.ref C) = true
  ga : PySem.W.findIn K (.ref C) "__getattribute__" = some (some (.builtin "BaseException.__getattribute__"))
  gg : PySem.W.findIn K (.ref C) "__getattr__" = some none
  exC : PySem.W.subIn K (.ref C) (.type "BaseException") = some true
  ha : PySem.W.findIn K (.ref C) "__class__" = some (some (.builtin "object.__class__"))
  hn : PySem.W.specialIn K (.builtin "object.__class__") "__get__" = some (some (.builtin "getset_descriptor.__get__"))
  ht : PySem.W.takesIn K (.builtin "object.__class__") = some true
  hm : PySem.W.mroIn K C (.type "object") = some true
  base : PySem.ExcBaseFacts B newId initId bmB
  store : PySem.StoreFacts B bmB "object.__setattr__" "object"

section
variable {X : Cx} {pins : List (Addr × Obj)} {σ : St} {H : Hp} {s : Shared} {a C dx : Addr} {f : Str} {y : V} {u : Value} {fs : List (Str × V)} {Q : Unit → Shared → Prop} {E : Value → Shared → Prop} {A : Around} {B newId initId : String} {bmB : List Value}
theorem ost_newB (T : XcB X.K C B newId initId bmB) (htk : PySem.W.takerIn X.K C f = some none) (I : Inv X pins σ H s) (e : H a = some (exo a C none)) (ry : RelV y u)
    (h : ∀ dx s', H dx = none → dx ≠ a → Inv X pins σ (upd (upd H dx (exd dx [(f, y)])) a (exo a C (some dx))) s' → Q () s') : wpAny (model X.prog X.w) A (setAttr (.ref a) f u) Q E s := by
  obtain ⟨t1, ho⟩ := exo_at I.hok e
  obtain ⟨hp, g, d, t, os⟩ := s
  refine PySem.W.set_plain I.kIn (ox := { cls := .ref C, dict := none, data := .fields #[.ref t1, .none, .none, .none, .bool false, .none] }) (od := none) ⟨ho, rfl, rfl, trivial⟩ T.sa ?_
  refine PySem.SvX.exc_osaB T.store I.kIn ho T.ov T.hd htk (fun h' tk' dx k dn dne hx hn => ?_)
  have hnd : H dx = none := I.hok.fresh dn
  have nd : ∀ {b : Addr} {o : Obj}, hp.get? b = some o → b ≠ dx := fun {b o} q => Nat.ne_of_lt (Nat.lt_of_lt_of_le (Heap.lt_size q) dn)
  have na : ∀ {b : Addr}, H b = none → b ≠ a := fun {b} n z => by
    rw [z, e] at n
    cases n
  have Un1 : Un X.fs [] H (upd (upd H dx (exd dx [(f, y)])) a (exo a C (some dx))) hp h' := {
    keep := fun b o q n _ _ => k b o (na n) q
    slot := fun b o q n _ _ => ⟨o.slots, k b o (na n) q⟩
    free := fun b o q n _ => by rw [upd_ne (na n), upd_ne (nd q)]; exact n
    there := fun b o q _ => by
      by_cases hb : b = a
      · exact ⟨_, by rw [hb]; exact hx⟩
      · exact ⟨o, k b o hb q⟩
    tups := fun b xs q => by rw [upd_ne (at_ne e q exo_tup), upd_ne (ne_of_none q hnd)]; exact q
    frzs := fun b o v q => by rw [upd_ne (at_ne e q exo_frz), upd_ne (ne_of_none q hnd)]; exact q
    tbls := fun b ps q => ⟨#[], by rw [upd_ne (at_ne e q exo_tbl), upd_ne (ne_of_none q hnd), q]; simp⟩ }
  refine h dx _ hnd dne (I.un (t' := tk') Un1 fun b o q => ?_)
  by_cases hb : b = a
  · subst hb
    rw [upd_same] at q
    cases q
    exact exo_ok hx
  · rw [upd_ne hb] at q
    by_cases hd : b = dx
    · subst hd
      rw [upd_same] at q
      cases q
      exact exd_ok hn (relO_put (fs := []) ry fun g => True.intro)
    · rw [upd_ne hd] at q
      exact (I.hok b o q).stay (fun c v hc z => k c v (by
          rcases hc with hc | hc
          · rw [hc]
            exact hb
          · exact at_ne e hc exo_own) z)
        (fun c hc => by rw [upd_ne (at_ne e hc exo_own), upd_ne (ne_of_none hc hnd)]; exact hc) (fun c xs hc => by rw [upd_ne (at_ne e hc exo_tup), upd_ne (ne_of_none hc hnd)]; exact hc)
end
/-- self.f = e, in an own __init__ -/
def tOstB (C : Addr) (f : Str) (to te : TE) : TS := fun D σ H => te σ H fun y H1 => to σ H1 fun x H2 => ∃ a : Addr, x = .ref a ∧ H2 a = some (exo a C none) ∧ ∀ dx, H2 dx = none → dx ≠ a → D.nx σ (upd (upd H2 dx (exd dx [(f, y)])) a (exo a C (some dx)))
def spIni (C : Addr) (f : Str) : Sp := fun vs H Q _ => ∃ (a : Addr) (v : V), vs = [.ref a, v] ∧ H a = some (exo a C none) ∧ ∀ d, H d = none → d ≠ a → Q .non (upd (upd H d (exd d [(f, v)])) a (exo a C (some d)))
section
variable {X : Cx} {o e : Expr} {es : List Expr} {to te : TE} {ta : TA} {f : Str} {p p' p1 p2 pos : Pos} {C fI : Addr} {B newId initId : String} {bmB : List Value} {x : Str}
theorem ps_ostB (T : XcB X.K C B newId initId bmB) (htk : PySem.W.takerIn X.K C f = some none) (ho : PE X o to) (he : PE X e te) (hs : swapsWith e (some (.Attribute o f p')) pos.line X.env = pure false := by rfl) : PS X (.Assign [.Attribute o f p'] e pos) (tOstB C f to te) := by
  refine ⟨fun pins s σ H D I h => ?_⟩
  refine plainObj_wpAny_Assign_Attribute (thn (he.run pins s σ H _ I h) fun v s1 ⟨y, H1, I1, r1, q1⟩ => thn (ho.run pins s1 σ H1 _ I1 q1) fun u s2 ⟨x, H2, I2, r2, a, ex, ea, q⟩ => ?_) hs
  subst ex
  obtain rfl : u = Value.ref a := r2
  exact ost_newB T htk I2 ea r1 fun dx s' n ne J => ⟨σ, _, J, q dx n ne⟩
section
variable {P : Program} {w : World} {K : PySem.W.Frag} {mg : Str → Option Value} {base : Heap}
theorem ok_ini {qual : Str} {st : Stmt} {f0 : Addr} {fd : FuncData} {q1 q2 q3 q4 : Pos} (F : Fun K "__init__" qual st f0 fd) (T : XcB K C B newId initId bmB) (htk : PySem.W.takerIn K C f = some none) (S : FnScope ["self", f] ["self", f] (defScope st))
    (hb : defBody st = [.Assign [.Attribute (.Name "self" q1) f q2] (.Name f q3) q4]) (hne : ¬ (f == ("__debug__" : Str)) = true) (hnc : (f == ("__classdict__" : Str)) = false) : FnOk P w K mg base CX0 1 f0 fd ["self", f] (spIni C f) := by
  have hne : (f == ("__debug__" : Str)) = false := by simpa using hne
  refine F.ok S (fun vs H Q E h => ?_) (fun cdv A outer s H vs Q E hr h => ?_)
  · obtain ⟨a, v, rfl, _⟩ := h
    rfl
  · obtain ⟨a, v, rfl, ea, q⟩ := h
    refine ⟨_, by rw [hb]; exact pss_one (ps_ostB T htk (pe_var (i := 0) rfl (vis_par S (List.mem_cons_self ..))) (pe_var (i := 1) rfl (vis_par S (List.mem_cons_of_mem _ (List.mem_cons_self ..))) hne hnc)), ?_⟩
    exact ⟨v, rfl, .ref a, rfl, a, rfl, ea, q⟩
end
/-- an own exception class with its own __init__, as a body wants it -/
structure XMk (P : Program) (w : World) (K : PySem.W.Frag) (mg : Str → Option Value) (base : Heap) (x : Str) (C : Addr) (f : Str) : Prop where
  ex : ∃ (fI : Addr) (fd : FuncData) (B newId initId : String) (bmB : List Value), XcB K C B newId initId bmB ∧ PySem.W.findIn K (.ref C) "__init__" = some (some (.ref fI)) ∧ PySem.W.isFn K (.ref fI) = true ∧
    FnOk P w K mg base CX0 1 fI fd ["self", f] (spIni C f) ∧ (∀ s u v, BindsTo s fd ⟨[u, v], []⟩ [("self", u), (f, v)]) ∧ (∀ s u v, BindsTo s fd ⟨[u], [(f, v)]⟩ [("self", u), (f, v)])
  gx : mg x = some (.ref C)
/-- the reading of C(e): a new exception at a, its dict at d -/
def tNewX (C : Addr) (f : Str) (ta : TA) : TE := fun σ H Q => ta σ H fun vs H1 => ∃ v, vs = [v] ∧ ∀ a d, H1 a = none → H1 d = none → d ≠ a → Q (.ref a) (upd (upd H1 d (exd d [(f, v)])) a (exo a C (some d)))
theorem upd2 {H : Hp} {a d : Addr} {o1 o2 o3 : HO} (h : d ≠ a) : upd (upd (upd H a o1) d o2) a o3 = upd (upd H d o2) a o3 := by
  funext b
  by_cases hb : b = a
  · subst hb
    rw [upd_same, upd_same]
  · rw [upd_ne hb, upd_ne hb]
    by_cases hd : b = d
    · subst hd
      rw [upd_same, upd_same]
    · rw [upd_ne hd, upd_ne hd, upd_ne hb]
theorem run_newX {pins : List (Addr × Obj)} {σ : St} {H1 : Hp} {s1 : Shared} {Q : VK} {us : List Value} {kw : List (Str × Value)} {v : V} {uv : Value} (M : XMk X.prog X.w X.K X.mg X.base x C f) (hr : Room 2 X.A) (I1 : Inv X pins σ H1 s1) (rv : RelV v uv) (hcase : (us = [uv] ∧ kw = []) ∨ (us = [] ∧ kw = [(f, uv)]))
    (q1 : ∀ a d, H1 a = none → H1 d = none → d ≠ a → Q (.ref a) (upd (upd H1 d (exd d [(f, v)])) a (exo a C (some d)))) : wpAny (model X.prog X.w) X.A (call (.ref C) us kw) (EP X pins σ Q) X.xe s1 := by
  obtain ⟨fI, fd, B, newId, initId, bmB, T, iC, hfn, F1, b1, b2⟩ := M.ex
  obtain ⟨nm, N', qn, bs, bm, hdct, sn, sub, ab, col, dd, k0, k1, k2, k3, k5, hC, hT⟩ := PySem.W.excInit_of I1.kIn T.ini
  obtain ⟨oI, hoI, hcI⟩ : ∃ oI, s1.heap.get? fI = some oI ∧ oI.cls = .type "function" := by
    obtain ⟨o, ho, hc⟩ := Option.map_eq_some_iff.mp (show (X.K.lookup fI).map (·.cls) = some (.type "function") from beq_iff_eq.mp hfn)
    exact ⟨o, I1.kIn _ _ ho, hc⟩
  have hi' : PySem.W.Looks (model X.prog X.w) s1.heap (typeLookup (.ref C) "__init__") (some (.ref fI)) := PySem.W.looks_findIn I1.kIn iC
  obtain ⟨hp, g, dr, tk, os⟩ := s1
  have hsz : hp.objs.size ≤ hp.objs.size + 1 := Nat.le_succ _
  have hn : H1 (hp.objs.size + 1) = none := I1.hok.fresh hsz
  have kk : ∀ b o, hp.get? b = some o → ((hp.push (PySem.W.kdv_tup us)).push (PySem.HandSPX.excO C hp.objs.size)).get? b = some o := fun b o e => Heap.get?_push_of_some _ (Heap.get?_push_of_some _ e)
  have hget : ((hp.push (PySem.W.kdv_tup us)).push (PySem.HandSPX.excO C hp.objs.size)).get? (hp.objs.size + 1) = some (PySem.HandSPX.excO C hp.objs.size) := by heap_get
  have I2 : Inv X pins σ (upd H1 (hp.objs.size + 1) (exo (hp.objs.size + 1) C none)) ⟨(hp.push (PySem.W.kdv_tup us)).push (PySem.HandSPX.excO C hp.objs.size), g, dr, tk, os⟩ :=
    I1.laid (t' := tk) (a := hp.objs.size + 1) (o := exo (hp.objs.size + 1) C none) (h' := (hp.push (PySem.W.kdv_tup us)).push (PySem.HandSPX.excO C hp.objs.size)) kk hsz (exo_ok hget)
  have r2 : Vals [V.ref (hp.objs.size + 1), v] [Value.ref (hp.objs.size + 1), uv] := .cons rfl (.cons rv .nil)
  have hus : us.length ≤ sizeLine := by
    rcases hcase with ⟨h, _⟩ | ⟨h, _⟩ <;> rw [h, sizeLine_eq]
    · exact (by decide : 1 ≤ 16777216)
    · exact (by decide : 0 ≤ 16777216)
  have hbind : ∀ s, BindsTo s fd ⟨Value.ref (hp.objs.size + 1) :: us, kw⟩ [("self", Value.ref (hp.objs.size + 1)), (f, uv)] := fun s => by
    rcases hcase with ⟨h, h'⟩ | ⟨h, h'⟩
    · rw [h, h']
      exact b1 s _ _
    · rw [h, h']
      exact b2 s _ _
  refine wpAny_call (PySem.SvX.call_kw T.base hT hC hi' (fun self => PySem.W.exc_bind hoI hcI self) hus
    (codeAny_mono (F1.run _ X.stack _ _ ⟨Value.ref (hp.objs.size + 1) :: us, kw⟩ [Value.ref (hp.objs.size + 1), uv] [V.ref (hp.objs.size + 1), v] (fun v H2 => v = .non ∧ Q (.ref (hp.objs.size + 1)) H2) (fun _ _ _ => False) (hr.make C us kw) (I2.env0.make C us kw) (hbind _) r2
      ⟨hp.objs.size + 1, v, rfl, upd_same, fun d hd hda => ⟨rfl, ?_⟩⟩) fun r s' hq' => ?_))
  · rw [upd2 hda]
    exact q1 _ d hn (by rw [upd_ne hda] at hd; exact hd) hda
  · cases r with
    | error er => exact False.elim hq'
    | ok fl =>
      cases fl with
      | ret u =>
        obtain ⟨v', H', I3, rv', ev, q3⟩ := I2.after hq'
        subst ev
        exact ⟨rv', ⟨V.ref (hp.objs.size + 1), H', I3, rfl, q3⟩⟩
      | next => exact False.elim hq'
      | brk => exact False.elim hq'
      | cont => exact False.elim hq'
theorem pe_newX (M : XMk X.prog X.w X.K X.mg X.base x C f) (hr : Room 2 X.A) (ha : PA X [e] ta) (hg : Gl X x := by rfl) (hdb : (x == ("__debug__" : Str)) = false := by decide) (he : starEach [e] X.env = (false, eval e X.env) :: starEach [] X.env := by rfl) (hpl : (backTo pos (starEach [] X.env)).any (·.1) = false := by rfl) :
    PE X (.Call (.Name x p) [e] [] pos) (tNewX C f ta) := by
  obtain ⟨fI, fd, B, newId, initId, bmB, T, _⟩ := M.ex
  refine ⟨fun pins s σ H Q I h => ?_⟩
  refine wpAny_Call_Name_kw (ld_glob I hg M.gx ?_ hdb)
  refine PySem.W.callWith_K (h₀ := X.base) I.ok.mod.kin T.kC (thn (ha.run pos pins s σ H _ I h) fun us s1 ⟨vs, H1, I1, r1, v, ev, q1⟩ => ⟨I1.kIn, ?_⟩) he hpl
  subst ev
  cases r1 with
  | cons rv rn =>
    cases rn
    exact run_newX M hr I1 rv (.inl ⟨rfl, rfl⟩) q1
theorem pe_newXk {kpos : Pos} {tk : TA} (M : XMk X.prog X.w X.K X.mg X.base x C f) (hr : Room 2 X.A) (hkw : PK X [⟨some f, e, kpos⟩] tk) (hg : Gl X x := by rfl) (hdb : (x == ("__debug__" : Str)) = false := by decide)
    (hall : (backToKw pos (keywordEach [⟨some f, e, kpos⟩] X.env)).all (·.1.isSome) = true := by rfl) (hks : (backToKw pos (keywordEach [⟨some f, e, kpos⟩] X.env)).filterMap (·.1) = [f] := by rfl)
    (hpl : ((backTo pos (starEach [] X.env)).any (·.1) || (backToKw pos (keywordEach [⟨some f, e, kpos⟩] X.env)).any (·.1.isNone)) = false := by rfl) :
    PE X (.Call (.Name x p) [] [⟨some f, e, kpos⟩] pos) (tNewX C f tk) := by
  obtain ⟨fI, fd, B, newId, initId, bmB, T, _⟩ := M.ex
  refine ⟨fun pins s σ H Q I h => ?_⟩
  refine wpAny_Call_Name_kw (ld_glob I hg M.gx ?_ hdb)
  refine PySem.W.callWith_KW0 (h₀ := X.base) I.ok.mod.kin T.kC hall ?_ hpl
  refine thn (hkw.run pos pins s σ H _ I h) fun ws s2 ⟨zs, H2, I2, rz, v, ev, q2⟩ => ⟨I2.kIn, ?_⟩
  rw [hks]
  subst ev
  cases rz with
  | cons rv rn =>
    cases rn
    exact run_newX M hr I2 rv (.inr ⟨rfl, rfl⟩) q2
/-- an own exception class without an __init__ of its own, called without arguments -/
structure XMk0 (K : PySem.W.Frag) (mg : Str → Option Value) (x : Str) (C : Addr) : Prop where
  ex : ∃ (B newId initId : String) (bmB : List Value), XcB K C B newId initId bmB ∧ PySem.W.findIn K (.ref C) "__init__" = some (some (.builtin initId))
  gx : mg x = some (.ref C)
def tNewZ (C : Addr) : TE := fun _ H Q => ∀ a, H a = none → Q (.ref a) (upd H a (exo a C none))
theorem pe_newZ (M : XMk0 X.K X.mg x C) (hg : Gl X x := by rfl) (hdb : (x == ("__debug__" : Str)) = false := by decide) : PE X (.Call (.Name x p) [] [] pos) (tNewZ C) := by
  obtain ⟨B, newId, initId, bmB, T, iC⟩ := M.ex
  refine ⟨fun pins s σ H Q I h => ?_⟩
  refine wpAny_Call_Name_kw (ld_glob I hg M.gx ?_ hdb)
  refine PySem.W.callWith_K0 I.kIn T.kC ?_
  obtain ⟨nm, N', qn, bs, bm, hdct, sn, sub, ab, col, dd, k0, k1, k2, k3, k5, hC, hT⟩ := PySem.W.excInit_of I.kIn T.ini
  have hi' : PySem.W.Looks (model X.prog X.w) s.heap (typeLookup (.ref C) "__init__") (some (.builtin initId)) := PySem.W.looks_findIn I.kIn iC
  obtain ⟨hp, g, dr, tk, os⟩ := s
  refine PySem.W.call_B T.base hT hC hi' (rest := []) (Nat.zero_le _) fun h' k he ht => ?_
  exact ⟨.ref (hp.objs.size + 1), _, I.laid (t' := tk) k (Nat.le_succ _) (exo_ok he), rfl, h _ (I.hok.fresh (Nat.le_succ _))⟩
/-! ### isinstance, fields -/
def ExAt (H : Hp) (a C : Addr) : Prop := (∃ d fs, H a = some (exo a C (some d)) ∧ H d = some (exd d fs)) ∨ H a = some (exo a C none)
theorem inst_of {pins : List (Addr × Obj)} {σ : St} {H : Hp} {s : Shared} {a C : Addr} (I : Inv X pins σ H s) (h : ExAt H a C) : ∃ ox od, PySem.W.InstAt s.heap a ox C od := by
  rcases h with ⟨d, fs, h1, h2⟩ | h1
  · obtain ⟨t1, ho⟩ := exo_at I.hok h1
    obtain ⟨mA, ⟨od, es, ep, hd, _⟩, _⟩ := exd_at I.hok h2
    exact ⟨_, some od, ho, rfl, rfl, hd⟩
  · obtain ⟨t1, ho⟩ := exo_at I.hok h1
    exact ⟨_, none, ho, rfl, rfl, trivial⟩
def rIsX (K : PySem.W.Frag) : List V → Hp → VK → Prop := fun xs H Q => ∃ (a C : Addr) (c : V) (cv : Value) (b : Bool) (B newId initId : String) (bmB : List Value), xs = [.ref a, c] ∧ ExAt H a C ∧ XcB K C B newId initId bmB ∧ (∀ u, RelV c u → u = cv) ∧ PySem.W.kitOne K (.ref C) cv = some b ∧ Q (.bl b) H
theorem call_isX : CallR X (.builtin "isinstance") (rIsX X.K) := by
  intro pins s σ H xs us Q I r h
  obtain ⟨a, C, c, cv, b, B, newId, initId, bmB, rfl, hx, T, hcv, e, q⟩ := h
  cases r with
  | cons rx rr =>
    cases rr with
    | cons rt rr =>
      cases rr
      cases rx
      have ec := hcv _ rt
      subst ec
      obtain ⟨ox, od, J⟩ := inst_of I hx
      have hcl : (PySem.W.clsIn X.K C).isSome = true := by
        obtain ⟨cd, hc, _⟩ := PySem.W.any_some T.hd
        rw [hc] <;> rfl
      exact PySem.W.kia_one (PySem.W.kitx_exc hcl T.ga T.gg T.exC T.ha T.hn T.ht T.hm) I.kIn J e (fun z => nomatch z) fun tk => ⟨.bl b, H, I.kept (t' := tk) fun _ _ z => z, rfl, q⟩
/-- e.f, e a tracked exception -/
def tXget (K : PySem.W.Frag) (f : Str) (te : TE) : TE := fun σ H Q => te σ H fun x H1 => ∃ (a C d : Addr) (fs : List (Str × V)) (v : V) (B newId initId : String) (bmB : List Value), x = .ref a ∧ H1 a = some (exo a C (some d)) ∧ H1 d = some (exd d fs) ∧ XcB K C B newId initId bmB ∧ PySem.W.findIn K (.ref C) f = some none ∧ fs.lookup f = some v ∧ Q v H1
theorem pe_xget {te : TE} (he : PE X e te) (hb : attributeBase e f X.env (eval e X.env) = eval e X.env := by rfl) : PE X (.Attribute e f pos) (tXget X.K f te) := by
  refine ⟨fun pins s σ H Q I h => ?_⟩
  refine attr_of hb (thn (he.run pins s σ H _ I h) fun u s1 hh => ?_)
  obtain ⟨x, H1, I1, rx, a, C, d, fs, v, B, newId, initId, bmB, ex, h1, h2, T, hno, l, q⟩ := hh
  subst ex
  obtain rfl : u = Value.ref a := rx
  obtain ⟨t1, ho⟩ := exo_at I1.hok h1
  obtain ⟨mA, hns, hr⟩ := exd_at I1.hok h2
  obtain ⟨od, hod, hl⟩ := lookIn_ns hns
  obtain ⟨uv, hu, ru⟩ := RelO.some_of (v := v) (o := mA f) (by rw [← l]; exact hr f)
  have J : PySem.W.InstAt s1.heap a _ C (some od) := ⟨ho, rfl, rfl, hod⟩
  exact HandSPX.exc_get I1.kIn J T.ga T.gg T.exC (PySem.W.findObj_own T.hd hno rfl (by rw [hl, hu])) (handed_of ru) ⟨v, H1, I1.tok _, ru, q⟩
end
end L2

set_option Elab.async false
set_option linter.all false
set_option maxRecDepth 100000
set_option maxHeartbeats 4000000
namespace L2
open PySem PySem.Spec PyProof.Rows
/-- a def's promise where nothing is being shown (repr) around it -/
structure FnG (P : Program) (w : World) (K : PySem.W.Frag) (mg : Str → Option Value) (base : Heap) (k : Nat) (f : Addr) (fd : FuncData) (ps : List Str) (sp : Sp) : Prop where
  len : ∀ vs H Q E, sp vs H Q E → vs.length = ps.length
  run : ∀ (A : Around) (outer : List Env) (s : Shared) (H : Hp) (args : Args) (us : List Value) (vs : List V) (Q : VK) (E : XK), Room k A → A.guards = some [] → Env0 P w K mg base A outer s H →
    BindsTo s fd args (ps.zip us) → Vals vs us → sp vs H Q E → codeAny (model P w) A (.call (.ref f) args) (CR CX0 outer P w H s Q E) s
section
variable {P : Program} {w : World} {K : PySem.W.Frag} {mg : Str → Option Value} {base : Heap}
theorem FnG.of {k : Nat} {f : Addr} {fd : FuncData} {ps : List Str} {sp : Sp} (F : FnOk P w K mg base CX0 k f fd ps sp) : FnG P w K mg base k f fd ps sp :=
  ⟨F.len, fun A outer s H args us vs Q E hr _ => F.run A outer s H args us vs Q E hr⟩
theorem FnG.lift {j k : Nat} {f : Addr} {fd : FuncData} {ps : List Str} {sp : Sp} (F : FnG P w K mg base j f fd ps sp) (h : j ≤ k) : FnG P w K mg base k f fd ps sp :=
  ⟨F.len, fun A outer s H args us vs Q E hr => F.run A outer s H args us vs Q E (hr.mono h)⟩
theorem deeper_guards (A : Around) (env : Env) : (A.deeper env).guards = A.guards := rfl
theorem okG {x qual : Str} {st : Stmt} {f : Addr} {fd : FuncData} {N ps : List Str} {k : Nat} {sp : Sp} (F : Fun K x qual st f fd) (S : FnScope N ps (defScope st)) (len : ∀ vs H Q E, sp vs H Q E → vs.length = ps.length)
    (hbody : ∀ (cdv : Value) (A : Around) (outer : List Env) (s : Shared) (H : Hp) (vs : List V) (Q : VK) (E : XK), Room k (A.deeper (envOfC qual (defScope st) s.heap.objs.size f cdv)) → A.guards = some [] → sp vs H Q E →
      ∃ t, PSs (cxOf CX0 P w K mg base N qual (defScope st) f cdv A outer s H E).nox (defBody st) t ∧ t { nx := fun _ H' => Q .non H', rt := Q } (start N vs) H) : FnG P w K mg base (k + 1) f fd ps sp := by
  obtain ⟨oc, od, kV, doc, pm, an, cdv, ct, osl, rfl, lk, hcd⟩ := F.ex
  refine ⟨len, fun A outer s H args us vs Q E hr hA e0 hb r hsp => ?_⟩
  have kept : ∀ b o, base.get? b = some o → s.heap.get? b = some o := fun b o e => (e0.bs b o e).1
  have KX : K.In s.heap := e0.mod.kin.keeps kept
  have lim : s.heap.NoLimit := e0.mod.nolimit.keeps kept
  refine codeAny_call_function hr.depth (KX _ _ lk) rfl S.co S.gen rfl (PySem.W.codeRec_of KX hcd) (hb _ _ _ _ ?_)
  refine wpAny_newFunctionEnv_cells S.kind (fun ⟨n, v⟩ hy => ?_) fun env he s1 x => ?_
  · rcases S.par n (List.of_mem_zip hy).1 with q | q
    · exact .inl q
    · exact .inr ⟨q, PySem.W.cellsFrom_some _ _ _ (.inl q)⟩
  · subst he
    refine ⟨lim.keeps x.toInCall.keep, codeAny_func ?_⟩
    obtain ⟨t, ht, hq⟩ := hbody cdv A outer s H vs Q E (hr.deeper _) hA hsp
    have I : Inv (cxOf CX0 P w K mg base N qual (defScope st) f cdv A outer s H E) [] (start N vs) H s1 := inv_start S hr.hd e0 (len _ _ _ _ hsp) r x
    refine wpAny_mono (ht.nox.run [] s1 (start N vs) H _ I hq) (fun fl s' hs => ?_) fun e s' hs => hs
    cases fl with
    | ret u =>
      obtain ⟨v, σ', H', J, rv, q⟩ := hs
      exact ⟨v, H', J.os, J.bare, J.base, J.hok, rv, q⟩
    | next =>
      obtain ⟨σ', H', J, q⟩ := hs
      exact ⟨.non, H', J.os, J.bare, J.base, J.hok, rfl, q⟩
    | brk => exact hs.elim fun _ z => z.elim fun _ y => y.2.elim
    | cont => exact hs.elim fun _ z => z.elim fun _ y => y.2.elim
end
section
variable {X : Cx} {k : Nat} {f : Addr} {fd : FuncData} {ps : List Str} {sp : Sp} {x : Str} {p pos : Pos} {e : Expr} {es : List Expr} {t : TA}
theorem run_fnG {pins : List (Addr × Obj)} {σ : St} {H : Hp} {s : Shared} {Q : VK} {us : List Value} {vs : List V} (F : FnG X.prog X.w X.K X.mg X.base k f fd ps sp) (hr : Room k X.A) (hG : X.A.guards = some []) (hb : Binds X.K fd ps [])
    (I : Inv X pins σ H s) (r : Vals vs us) (h : sp vs H Q E0) : wpAny (model X.prog X.w) X.A (call (.ref f) us) (EP X pins σ Q) X.xe s := by
  have hl : us.length = ps.length := by rw [← r.length]; exact F.len _ _ _ _ h
  have hb' : BindsTo s fd ⟨us, []⟩ (ps.zip us) := by
    have q := hb s us I.kIn (by rw [List.append_nil]; exact hl)
    rw [List.append_nil] at q
    exact q
  refine wpAny_call (codeAny_mono (F.run X.A X.stack s H ⟨us, []⟩ us vs Q E0 hr hG I.env0 hb' r h) fun r' s' hq => ?_)
  cases r' with
  | error e => exact False.elim hq
  | ok fl =>
    cases fl with
    | ret u => exact I.after hq
    | next => exact False.elim hq
    | brk => exact False.elim hq
    | cont => exact False.elim hq
theorem pe_callG (F : FnG X.prog X.w X.K X.mg X.base k f fd ps sp) (hr : Room k X.A) (hG : X.A.guards = some []) (hm : X.mg x = some (.ref f)) (hk : PySem.W.keepIn X.K (.ref f) = true) (hb : Binds X.K fd ps []) (ha : PA X (e :: es) t) (hg : Gl X x := by rfl)
    (hdb : (x == ("__debug__" : Str)) = false := by decide) (he : starEach (e :: es) X.env = (false, eval e X.env) :: starEach es X.env := by rfl) (hpl : (backTo pos (starEach es X.env)).any (·.1) = false := by rfl) :
    PE X (.Call (.Name x p) (e :: es) [] pos) (tCall sp [] E0 t) := by
  refine ⟨fun pins s σ H Q I h => wpAny_Call_Name_kw (ld_glob I hg hm ?_ hdb)⟩
  refine PySem.W.callWith_K (h₀ := X.base) I.ok.mod.kin hk (thn (ha.run pos pins s σ H _ I h) fun us s1 ⟨vs, H1, I1, r1, q1⟩ => ⟨I1.kIn, ?_⟩) he hpl
  have q0 : sp (vs ++ []) H1 Q E0 := q1
  have q1' : sp vs H1 Q E0 := by
    rw [List.append_nil] at q0
    exact q0
  exact run_fnG F hr hG hb I1 r1 q1'
end
/-! ### repr -/
def rRepr (K : PySem.W.Frag) : List V → Hp → VK → Prop := fun xs H Q => ∃ v d, xs = [v] ∧ Dp K H v d ∧ d.showable = true ∧ d.shown.length ≤ sizeLine ∧ d.depth ≤ 10 ∧ Q (.str d.shown) H
mutual
theorem dp_noDict {K : PySem.W.Frag} {H : Hp} : ∀ (d : PyData) (v : V), Dp K H v d → d.hasDict = false
  | .none, _, _ => by simp [PyData.hasDict]
  | .bool _, _, _ => by simp [PyData.hasDict]
  | .int _, _, _ => by simp [PyData.hasDict]
  | .str _, _, _ => by simp [PyData.hasDict]
  | .list ds, _, h => by
    cases h with
    | lst _ ha => simp only [PyData.hasDict]; exact dp_noDicts ds _ ha
  | .tuple ds, _, h => by
    cases h with
    | tup _ ha => simp only [PyData.hasDict]; exact dp_noDicts ds _ ha
  | .dict _, _, h => by cases h
theorem dp_noDicts {K : PySem.W.Frag} {H : Hp} : ∀ (ds : List PyData) (vs : List V), DpAll K H vs ds → PyData.hasDictAll ds = false
  | [], _, _ => by simp [PyData.hasDictAll]
  | d :: ds, _, h => by
    cases h with
    | cons h1 h2 => simp only [PyData.hasDictAll, dp_noDict d _ h1, dp_noDicts ds _ h2, Bool.or_self]
end
theorem call_repr {X : Cx} {k : Nat} (hr : Room k X.A) (hG : X.A.guards = some []) : CallR X (.builtin "repr") (rRepr X.K) := by
  intro pins s σ H xs us Q I r h
  obtain ⟨v, d, rfl, hd, hs, hz, hdep, q⟩ := h
  obtain ⟨u, rfl, rv⟩ := vals1 r
  have hu := hr.units
  have big : ∀ {a : Addr} {as : List Addr}, Reads s.heap (.ref a) d as → wpAny (model X.prog X.w) X.A (call (.builtin "repr") [.ref a]) (EP X pins σ Q) X.xe s := fun {a as} rd =>
    repr_of_reads' rd hs (PyData.noDict_hsm (dp_noDict d v hd)) hG (by omega) (fun _ _ e => e) (fun h' u tk hk => ⟨.str d.shown, H, I.kept hk, ⟨u, rfl⟩, q⟩) hz
  obtain ⟨as, rd⟩ := Dp.reads I d v u hd rv
  cases hd with
  | non =>
    cases rv
    simp only [PyData.shown] at q
    exact PySem.P.repr_of_none ⟨.str "None", H, I.tok _, ⟨_, rfl⟩, q⟩
  | bl b =>
    cases rv
    simp only [PyData.shown] at q
    exact PySem.P.repr_of_bool ⟨.str _, H, I.tok _, ⟨_, rfl⟩, q⟩
  | int i =>
    obtain ⟨t, rfl⟩ := rv
    simp only [PyData.shown] at q
    exact PySem.P.repr_of_int (by simpa [PyData.showable] using hs) ⟨.str _, H, I.tok _, ⟨_, rfl⟩, q⟩
  | str x =>
    obtain ⟨t, rfl⟩ := rv
    simp only [PyData.shown] at q hz
    exact PySem.P.repr_of_str ⟨.str _, H, I.tok _, ⟨_, rfl⟩, q⟩ hz
  | lst h1 h2 =>
    cases rv
    exact big rd
  | tup h1 h2 =>
    cases rv
    exact big rd
/-- a dict of flat texts, bools and ints under flat keys -/
def flatD : V → Option PyData
  | .non => some .none
  | .bl b => some (.bool b)
  | .int i => some (.int i)
  | .str x => some (.str x)
  | _ => none
end L2
namespace L2
open PySem PySem.Spec PyProof.Rows
def keyD : Key → PyData
  | .inl i => .int i
  | .inr x => .str x
def kvsD (f : V → Option PyData) : List (Key × V) → Option (List (PyData × PyData))
  | [] => some []
  | (k, v) :: r => match f v with
    | some d => match kvsD f r with
      | some ds => some ((keyD k, d) :: ds)
      | none => none
    | none => none
end L2

set_option Elab.async false
set_option linter.all false
set_option maxRecDepth 100000
set_option maxHeartbeats 4000000
namespace L2
open PySem PySem.Spec PyProof.Rows
theorem flat_reads {v : V} {u : Value} {d : PyData} {h : Heap} (e : flatD v = some d) (r : RelV v u) : Reads h u d [] := by
  cases v with
  | non => cases r; cases e; exact .none
  | bl b => cases r; cases e; exact .bool b
  | int i => obtain ⟨t, rfl⟩ := r; cases e; exact .int i t
  | str x => obtain ⟨t, rfl⟩ := r; cases e; exact .str x t
  | _ => cases e
theorem key_reads {k : Key} {u : Value} {h : Heap} (e : keyIs k u = true) : Reads h u (keyD k) [] := by
  rcases keyIs_shape e with ⟨i, t, rfl, rfl⟩ | ⟨x, t, rfl, rfl⟩
  · exact .int i t
  · exact .str x t
theorem pairs_reads {P : Program} {w : World} {h : Heap} : ∀ {kvs : List (Key × V)} {vs : List (Key × Value)} {es : List DictEntry} {ds : List (PyData × PyData)}, KV kvs vs → Pairs (mixKind P w) es vs → kvsD flatD kvs = some ds →
    ReadsAll h (es.map (·.key)) (ds.map (·.1)) [] ∧ ReadsAll h (es.map (·.val)) (ds.map (·.2)) []
  | _, _, _, _, .nil, .nil, e => by
    cases e
    exact ⟨.nil, .nil⟩
  | _, _, _, _, .cons (a := (k, v)) (b := (k', u)) r t, .cons h1 h2 t2, e => by
    unfold kvsD at e
    split at e
    · rename_i d hd
      split at e
      · rename_i ds hds
        cases e
        obtain ⟨q1, q2⟩ := pairs_reads (h := h) t t2 hds
        obtain ⟨rk, rv⟩ := r
        have rk : k = k' := rk
        subst rk
        have a1 : Reads h _ (keyD k) [] := key_reads h1
        have a2 : Reads h _ d [] := flat_reads hd rv
        rw [← h2] at a2
        exact ⟨ReadsAll.cons (as := []) (bs := []) a1 q1, ReadsAll.cons (as := []) (bs := []) a2 q2⟩
      · cases e
    · cases e
def rReprK : List V → Hp → VK → Prop := fun xs H Q => ∃ a kvs ds, xs = [.ref a] ∧ H a = some (.dK kvs) ∧ kvsD flatD kvs = some ds ∧ (PyData.dict ds).showable = true ∧ (PyData.dict ds).shown.length ≤ sizeLine ∧ (PyData.dict ds).depth ≤ 10 ∧ Q (.str (PyData.dict ds).shown) H
theorem call_reprK {X : Cx} {k : Nat} (hr : Room k X.A) (hG : X.A.guards = some []) : CallR X (.builtin "repr") rReprK := by
  intro pins s σ H xs us Q I r h
  obtain ⟨a, kvs, ds, rfl, ha, hds, hs, hz, hdep, q⟩ := h
  obtain ⟨u, rfl, rv⟩ := vals1 r
  cases rv
  have hu := hr.units
  obtain ⟨_, hsys, vs, rkv, o, es, ep, h1, h2, h3, _, h4, _⟩ := I.hok a _ ha
  obtain ⟨q1, q2⟩ := pairs_reads (h := s.heap) rkv h4 hds
  have rd : Reads s.heap (.ref a) (.dict ds) (a :: [] ++ []) := Reads.dict h1 h2.1 h3 q1 q2
  refine repr_of_reads' rd hs (fun _ hm => ?_) hG (by omega) (fun _ _ e => e) (fun h' u tk hk => ⟨.str (PyData.dict ds).shown, H, I.kept hk, ⟨u, rfl⟩, q⟩) hz
  have e : sysModules = a := by simpa using hm
  rw [← e] at hsys
  simp at hsys
/-! ### the law's own end -/
theorem law_callG {P : Program} {w : World} {K : PySem.W.Frag} {mg mb : Str → Option Value} {k : Nat} {fa a : Addr} {fd : FuncData} {x : Str} {sp : Sp} {s₁ : Shared} {vs : List Value} {ns : List Int}
    (KX : K.In s₁.heap) (hns : s₁.heap.Ns mainGlobals mg) (hb : s₁.heap.Ns builtinsNs mb) (hbb : ∀ x : Str, x ≠ "__name__" → mb x = bootBuiltins x) (hlim : s₁.heap.NoLimit) (hg : s₁.gens = #[])
    (ha : s₁.heap.get? a = some { cls := .type "list", data := .seq vs.toArray }) (hi : IntsAre vs ns) (hl : ns.length ≤ sizeLine) (hr : Room k callerA)
    (F : ∀ base : Heap, K.In base → base.Ns mainGlobals mg → FnG P w K mg base k fa fd [x] sp) (hbind : ∀ (s : Shared) (u : Value), BindsTo s fd ⟨[u], []⟩ [(x, u)])
    (hsp : ∀ H : Hp, Only H → SqL K H a (ns.map V.int) → sp [.ref a] H (fun v _ => v = .bl true) fun _ _ _ => False) :
    codeAny (model P w) callerA (.call (.ref fa) ⟨[.ref a], []⟩) (fun r s' => r = .ok (.ret (.bool true)) ∧ OldK s₁.heap s'.heap ∧ s'.os = s₁.os ∧ AllBare s'.gens) s₁ := by
  have start : ∀ H : Hp, Only H → SqL K H a (ns.map V.int) → HOk P w H s₁.heap → (∀ b, H b ≠ none → b = a) → (H a ≠ none → K.lookup a = none) →
      codeAny (model P w) callerA (.call (.ref fa) ⟨[.ref a], []⟩) (fun r s' => r = .ok (.ret (.bool true)) ∧ OldK s₁.heap s'.heap ∧ s'.os = s₁.os ∧ AllBare s'.gens) s₁ := by
    intro H hO hS hok hA hK
    have free : ∀ {b : Addr} {o : Obj}, s₁.heap.get? b = some o → (∀ es ep, o.data = .dict es ep → H b = none) := fun {b o} e es ep d => by
      refine Classical.byContradiction fun q => ?_
      have eb := hA b q
      subst eb
      rw [ha] at e
      cases e
      cases d
    have nsK : ∀ {b : Addr} {m : Str → Option Value}, s₁.heap.Ns b m → (hidT s₁.heap H).Ns b m := fun {b m} ⟨o, es, ep, e, d, r⟩ => ⟨o, es, ep, hidT_get e (free e es ep d), d, r⟩
    have hKb : K.In (hidT s₁.heap H) := fun b o e => hidT_get (KX b o e) (by
      refine Classical.byContradiction fun q => ?_
      have eb := hA b q
      subst eb
      rw [hK q] at e
      cases e)
    have lim' : (hidT s₁.heap H).NoLimit := hlim.elim fun mc z => ⟨mc, nsK z.1, z.2⟩
    have hM : Mod K mg (hidT s₁.heap H) := ⟨hKb, nsK hns, ⟨mb, nsK hb, hbb⟩, lim'⟩
    have e0 : Env0 P w K mg (hidT s₁.heap H) callerA [] s₁ H := ⟨rfl, hM, fun b o e => of_hidT e, Nat.le_of_eq (hidT_size _ _), trivial, fun b z => (nomatch z), hok, .of_eq hg⟩
    refine codeAny_mono ((F _ hKb (nsK hns)).run callerA [] s₁ H ⟨[.ref a], []⟩ [.ref a] [.ref a] _ _ hr rfl e0 (hbind s₁ (.ref a)) (.cons rfl .nil) (hsp H hO hS)) fun r s' h => ?_
    match r, h with
    | .ok (.ret u), ⟨v, H', os, bare, un, hok', r', q⟩ =>
      have qv : v = .bl true := q
      subst qv
      obtain rfl : u = Value.bool true := r'
      refine ⟨rfl, OldK.of_keep fun b o e => ?_, os, bare⟩
      rcases hO b with z | ⟨ob, xs, z⟩
      · exact un.keep b o e z (fun m => (nomatch m)) (fun m => (nomatch m))
      · have z2 := un.frzs b ob _ z
        obtain ⟨e1, _⟩ := hok b _ z
        obtain ⟨e2, _⟩ := hok' b _ z2
        rw [e] at e1
        cases e1
        exact e2
  cases hk : K.lookup a with
  | some o =>
    have e := KX a o hk
    rw [ha] at e
    cases e
    exact start (fun _ => none) (fun _ => .inl rfl) (.inr ⟨_, vs.toArray, _, hk, rfl, rfl, rfl, by rw [List.size_toArray, hi.length]; exact hl, by simpa using vals_ints hi⟩)
      (fun b u z => (nomatch (show (none : Option HO) = some u from z))) (fun b z => absurd rfl z) fun z => absurd rfl z
  | none =>
    let o0 : Obj := { cls := .type "list", data := .seq vs.toArray }
    have at_a : ∀ {b : Addr} {u : HO}, (if b = a then some (HO.frz o0 (.lst (ns.map V.int))) else none) = some u → b = a ∧ u = .frz o0 (.lst (ns.map V.int)) := fun {b u} z => by
      by_cases hb : b = a
      · rw [if_pos hb] at z
        exact ⟨hb, (Option.some.inj z).symm⟩
      · rw [if_neg hb] at z
        cases z
    refine start (fun b => if b = a then some (.frz o0 (.lst (ns.map V.int))) else none) (fun b => ?_) (.inl (.inr ⟨o0, if_pos rfl⟩)) (fun b u z => ?_) (fun b z => ?_) fun _ => hk
    · by_cases hb : b = a
      · exact .inr ⟨_, _, if_pos hb⟩
      · exact .inl (if_neg hb)
    · obtain ⟨rfl, rfl⟩ := at_a z
      exact ⟨ha, by rw [List.length_map]; exact hl, vs, _, vals_ints hi, ha⟩
    · refine Classical.byContradiction fun hb => z (if_neg hb)
theorem walk_ofG {l : PySem.W.OpenLaw} {n k : Nat} {q : Program} {loose : List Str} {XP : (Str → Option Value) → Heap → Prop} {YP : World → Heap → Prop} {d : DefRec} {K : Params → PySem.W.Frag} {sp : World → Sp} {x : Str}
    (hn : l.most = some n) (hn2 : n ≤ sizeLine) (hdf : d.params.defaults = []) (hr : Room k callerA)
    (hY : ∀ (w : World) (h : Heap), YP w h → (K w.params).In h)
    (F : ∀ (w : World) (s₀ : Shared) (mg mb : Str → Option Value) (fa : Addr) (h : Heap), PySem.W.Ground q loose [] XP w s₀ mg mb h → (K w.params).In h → h.Ns mainGlobals mg → mg d.name = some (.ref fa) →
      ∃ fd : FuncData, (∀ (s : Shared) (u : Value), BindsTo s fd ⟨[u], []⟩ [(x, u)]) ∧ ∀ base : Heap, (K w.params).In base → base.Ns mainGlobals mg → FnG l.prog w (K w.params) mg base k fa fd [x] (sp w))
    (hsp : ∀ (w : World) (H : Hp) (a : Addr) (ns : List Int), ns.length ≤ n → (∀ z ∈ ns, Builtin.Int.intBits z ≤ 1048576) → Only H → SqL (K w.params) H a (ns.map V.int) → sp w [.ref a] H (fun v _ => v = .bl true) fun _ _ _ => False) :
    PySem.W.WalkO q loose XP YP l.row.toRowW d [] (fun f vs => PySem.call f vs) := by
  refine Att.attach_callB hn hdf fun w s₀ s₁ mg mb fa o pm cd doc a vs ns G Y ho hd hcd hmg hobj hints hlen hbits hg => ?_
  have KX := hY w _ Y
  obtain ⟨fd, hb, hF⟩ := F w s₀ mg mb fa _ G KX G.T.g hmg
  exact law_callG KX G.T.g G.T.b G.T.builtins G.T.nolimit hg hobj hints (Nat.le_trans hlen hn2) hr hF hb fun H hO hS => hsp w H a ns hlen hbits hO hS
end L2

set_option Elab.async false
set_option linter.all false
set_option maxRecDepth 100000
set_option maxHeartbeats 4000000
namespace Sv
open PySem L2
open PyProof.Rows (envOfC)

/-- the classes: which is under which (own ones by number, built-in ones by name), and their fields -/
structure ClsT (κ : Kx) (nEx : Nat) (sub : Nat → Nat → Bool) (subB : Nat → String → Option Bool) (fnames : List Str) : Prop where
  xc : ∀ (n : Nat) (C : Addr), n < nEx → κ.cl[n]? = some C → ∃ (B newId initId : String) (bmB : List Value), XcB κ.K C B newId initId bmB
  own : ∀ (n m : Nat) (C D : Addr), n < nEx → κ.cl[n]? = some C → κ.cl[m]? = some D → PySem.W.kitOne κ.K (.ref C) (.ref D) = some (sub n m)
  bi : ∀ (n : Nat) (C : Addr) (s : String) (b : Bool), n < nEx → κ.cl[n]? = some C → subB n s = some b → PySem.W.kitOne κ.K (.ref C) (.type s) = some b
  fld : ∀ (n : Nat) (C : Addr) (f : Str), n < nEx → κ.cl[n]? = some C → f ∈ fnames → PySem.W.findIn κ.K (.ref C) f = some none
def fIsX (nEx : Nat) (sub : Nat → Nat → Bool) (subB : Nat → String → Option Bool) : FC
  | [.ref a, c], A =>
    match (match A[a]? with
      | some (.exo n d) => (match A[d]? with
        | some (.exd _) => some n
        | _ => none)
      | some (.exz n) => some n
      | _ => none) with
    | some n => if n < nEx then (match c with
      | .cl m => some (.bl (sub n m), A)
      | .ty s => (match subB n s with
        | some b => some (.bl b, A)
        | none => none)
      | _ => none) else none
    | none => none
  | _, _ => none
def mNewX (n : Nat) (f : Str) (a : MA) : ME := fun e A => match a e A with
  | some ([w], A1) => some (.ref (A1.length + 1), A1 ++ [.exd [(f, w)]] ++ [.exo n A1.length])
  | _ => none
def mNewZ (n : Nat) : ME := fun e A => some (.ref A.length, A ++ [.exz n])
def mXget (nEx : Nat) (fnames : List Str) (f : Str) (a : ME) : ME := fun e A => match a e A with
  | some (.ref l, A1) => match A1[l]? with
    | some (.exo n d) => if n < nEx ∧ f ∈ fnames then (match A1[d]? with
      | some (.exd fs) => (match fs.lookup f with
        | some w => some (w, A1)
        | none => none)
      | _ => none) else none
    | _ => none
  | _ => none
def flatDW : W → Option PyData
  | .non => some .none
  | .bl b => some (.bool b)
  | .int i => some (.int i)
  | .str x => some (.str x)
  | _ => none
def kvsDW : List (Key × W) → Option (List (PyData × PyData))
  | [] => some []
  | (k, v) :: r => match flatDW v with
    | some d => match kvsDW r with
      | some ds => some ((keyD k, d) :: ds)
      | none => none
    | none => none
def dkAt (A : List O) : W → Option (List (Key × W))
  | .ref l => match A[l]? with
    | some (.dk kvs) => some kvs
    | _ => none
  | _ => none
def fRepr : FC
  | [w], A => match toD A 8 w with
    | some d => if d.showable = true ∧ d.shown.length ≤ 100000 ∧ d.depth ≤ 10 then some (.str d.shown, A) else none
    | none => match dkAt A w with
      | some kvs => match kvsDW kvs with
        | some ds => if (PyData.dict ds).showable = true ∧ (PyData.dict ds).shown.length ≤ 100000 ∧ (PyData.dict ds).depth ≤ 10 then some (.str (PyData.dict ds).shown, A) else none
        | none => none
      | none => none
  | _, _ => none
def mDnew : ME := fun _ A => some (.ref A.length, A ++ [.dk []])
/-- {k: w}, both constants -/
def mDisp1 (k : Key) (w : W) : ME := fun _ A => some (.ref A.length, A ++ [.dk [(k, w)]])
section
variable {κ : Kx} {ta tb te : TE} {ma mb me : ME} {tA : TA} {mA : MA}
theorem RelE.none_ok : True := trivial
theorem Paired.lookup {ρ : List Addr} {fs : List (Str × W)} {gs : List (Str × V)} {f : Str} {w : W} (h : Paired (RelP κ ρ) fs gs) : fs.lookup f = some w → ∃ v, gs.lookup f = some v ∧ RelW κ ρ w v := by
  induction h with
  | nil => intro e; cases e
  | cons r t ih =>
    rename_i a b l1 l2
    obtain ⟨fa, wa⟩ := a
    obtain ⟨fb, vb⟩ := b
    obtain ⟨h1, h2⟩ := r
    have h1 : fa = fb := h1
    subst h1
    intro e
    rw [lookup_put] 
    simp only [List.lookup] at e
    by_cases hf : f = fa
    · subst hf
      simp at e
      subst e
      exact ⟨vb, if_pos rfl, h2⟩
    · have hb : (f == fa) = false := by simpa using hf
      rw [hb] at e
      obtain ⟨v, q1, q2⟩ := ih e
      exact ⟨v, by rw [if_neg hf]; exact q1, q2⟩
theorem sim_newX {n : Nat} {C : Addr} {f : Str} (hC : κ.cl[n]? = some C) (ha : SimA κ tA mA) : SimE κ (tNewX C f tA) (mNewX n f mA) := by
  intro ρ A e σ H Q w A' R E h k
  unfold mNewX at h
  split at h
  · rename_i u A1 h1
    cases h
    refine ha _ _ _ _ _ _ _ _ R E h1 fun ρ1 H1 vs R1 G1 rs => ?_
    cases rs with
    | @cons _ bv _ _ r t =>
      cases t
      refine ⟨bv, rfl, fun a d hna hnd hne => ?_⟩
      obtain ⟨R2, G2⟩ := R1.push (o := .exd [(f, u)]) (u := exd d [(f, bv)]) hnd ⟨_, upd_same, .cons ⟨rfl, r.mono (.snoc ρ1 d)⟩ .nil⟩
      have hna2 : upd H1 d (exd d [(f, bv)]) a = none := by rw [upd_ne (Ne.symm hne)]; exact hna
      have hd2 : (ρ1 ++ [d])[A1.length]? = some d := by rw [← R1.len]; exact snoc_at ρ1 d
      obtain ⟨R3, G3⟩ := R2.push (o := .exo n A1.length) (u := exo a C (some d)) hna2 ⟨C, d, hC, Pre.snoc _ a _ _ hd2, upd_same⟩
      refine k _ _ _ R3 (G1.trans (G2.trans G3)) ⟨a, ?_, rfl⟩
      have hl : (ρ1 ++ [d]).length = A1.length + 1 := by rw [List.length_append, R1.len]; rfl
      rw [← hl]
      exact snoc_at _ a
  · cases h
theorem sim_newZ {n : Nat} {C : Addr} (hC : κ.cl[n]? = some C) : SimE κ (tNewZ C) (mNewZ n) := by
  intro ρ A e σ H Q w A' R E h k
  cases h
  intro a hna
  obtain ⟨R2, G2⟩ := R.push (o := .exz n) (u := exo a C none) hna ⟨C, hC, upd_same⟩
  exact k _ _ _ R2 G2 ⟨a, by rw [← R.len]; exact snoc_at ρ a, rfl⟩
theorem sc_isX {nEx : Nat} {sub : Nat → Nat → Bool} {subB : Nat → String → Option Bool} {fn : List Str} (T : ClsT κ nEx sub subB fn) : SimC κ (rIsX κ.K) (fIsX nEx sub subB) := by
  intro ρ A H xs vs w A' Q R r h k
  unfold fIsX at h
  split at h
  · rename_i a c
    split at h
    · rename_i x0 n hn
      split at h
      · rename_i hlt
        cases r with
        | cons r0 t =>
          cases t with
          | cons r1 t =>
            cases t
            obtain ⟨ad, had, rfl⟩ := r0
            have hex : ∃ C, κ.cl[n]? = some C ∧ ExAt H ad C := by
              split at hn
              · rename_i n' d hex
                split at hn
                · rename_i fs hfs
                  cases hn
                  obtain ⟨C, b, h1, h2, h3⟩ := R.of had hex
                  obtain ⟨gs, h4, _⟩ := R.of h2 hfs
                  exact ⟨C, h1, .inl ⟨b, gs, h3, h4⟩⟩
                · cases hn
              · rename_i n' hex
                cases hn
                obtain ⟨C, h1, h3⟩ := R.of had hex
                exact ⟨C, h1, .inr h3⟩
              · cases hn
            obtain ⟨C, hC, hX⟩ := hex
            obtain ⟨B, newId, initId, bmB, hB⟩ := T.xc n C hlt hC
            split at h
            · rename_i m
              cases h
              obtain ⟨D, hD, rfl⟩ := r1
              exact ⟨ad, C, .ref D, .ref D, sub n m, B, newId, initId, bmB, rfl, hX, hB, fun u q => q, T.own n m C D hlt hC hD, k ρ H _ R .refl rfl⟩
            · rename_i s
              split at h
              · rename_i b hb
                cases h
                have r1 := r1
                cases r1
                exact ⟨ad, C, .ty s, .type s, b, B, newId, initId, bmB, rfl, hX, hB, fun u q => q, T.bi n C s b hlt hC hb, k ρ H _ R .refl rfl⟩
              · cases h
            · cases h
      · cases h
    · cases h
  · cases h
theorem sim_xget {nEx : Nat} {sub : Nat → Nat → Bool} {subB : Nat → String → Option Bool} {fn : List Str} {f : Str} (T : ClsT κ nEx sub subB fn) (ha : SimE κ ta ma) : SimE κ (tXget κ.K f ta) (mXget nEx fn f ma) := by
  intro ρ A e σ H Q w A' R E h k
  unfold mXget at h
  split at h
  · rename_i l A1 h1
    split at h
    · rename_i n d hex
      split at h
      · rename_i hlt
        split at h
        · rename_i fs hfs
          split at h
          · rename_i w0 hl
            cases h
            refine ha _ _ _ _ _ _ _ _ R E h1 fun ρ1 H1 v R1 G1 rv => ?_
            obtain ⟨a, had, rfl⟩ := rv
            obtain ⟨C, b, hC, h2, h3⟩ := R1.of had hex
            obtain ⟨gs, h4, h5⟩ := R1.of h2 hfs
            obtain ⟨v, h6, h7⟩ := Paired.lookup h5 hl
            obtain ⟨B, newId, initId, bmB, hB⟩ := T.xc n C hlt.1 hC
            exact ⟨a, C, b, gs, v, B, newId, initId, bmB, rfl, h3, h4, hB, T.fld n C f hlt.1 hC hlt.2, h6, k ρ1 H1 v R1 G1 h7⟩
          · cases h
        · cases h
      · cases h
    · cases h
  · cases h
theorem flatDW_of {ρ : List Addr} {w : W} {v : V} {d : PyData} (r : RelW κ ρ w v) (h : flatDW w = some d) : flatD v = some d := by
  cases w with
  | non => cases r; exact h
  | bl b => cases r; exact h
  | int b => cases r; exact h
  | str b => cases r; exact h
  | _ => cases h
theorem kvsDW_of {ρ : List Addr} {kvs : List (Key × W)} {vs : List (Key × V)} (r : Paired (RelP κ ρ) kvs vs) : ∀ {ds : List (PyData × PyData)}, kvsDW kvs = some ds → kvsD flatD vs = some ds := by
  induction r with
  | nil => intro ds h; exact h
  | cons q t ih =>
    rename_i a b l1 l2
    obtain ⟨ka, wa⟩ := a
    obtain ⟨kb, vb⟩ := b
    obtain ⟨q1, q2⟩ := q
    have q1 : ka = kb := q1
    subst q1
    intro ds h
    unfold kvsDW at h
    unfold kvsD
    split at h
    · rename_i d hd
      split at h
      · rename_i es hes
        cases h
        rw [flatDW_of q2 hd, ih hes]
      · cases h
    · cases h
theorem sc_repr : SimC κ (fun vs H Q => rRepr κ.K vs H Q ∨ rReprK vs H Q) fRepr := by
  intro ρ A H xs vs w A' Q R r h k
  unfold fRepr at h
  split at h
  · rename_i x
    cases r with
    | cons r0 t =>
      cases t
      split at h
      · rename_i d hd
        split at h
        · rename_i hc
          cases h
          exact .inl ⟨_, d, rfl, toD_dp R 8 _ _ _ hd r0, hc.1, sz_line hc.2.1, hc.2.2, k ρ H _ R .refl rfl⟩
        · cases h
      · split at h
        · rename_i kvs hk
          split at h
          · rename_i ds hds
            split at h
            · rename_i hc
              cases h
              unfold dkAt at hk
              split at hk
              · split at hk
                · rename_i l kv hl
                  cases hk
                  obtain ⟨a, ha, rfl⟩ := r0
                  obtain ⟨us, h1, h2⟩ := R.of ha hl
                  exact .inr ⟨a, us, ds, rfl, h1, kvsDW_of h2 hds, hc.1, sz_line hc.2.1, hc.2.2, k ρ H _ R .refl rfl⟩
                · cases hk
              · cases hk
            · cases h
          · cases h
        · cases h
  · cases h
theorem sim_dnew : SimE κ tDNewK mDnew := by
  intro ρ A e σ H Q w A' R E h k
  cases h
  intro a hna
  obtain ⟨R2, G2⟩ := R.push (o := .dk []) (u := .dK []) hna ⟨[], upd_same, .nil⟩
  exact k _ _ _ R2 G2 ⟨a, by rw [← R.len]; exact snoc_at ρ a, rfl⟩
theorem sim_disp1 {key : Key} {w0 : W} {v0 : V} (r : ∀ ρ, RelW κ ρ w0 v0) : SimE κ (tDisp [(tC (kV key), tC v0)]) (mDisp1 key w0) := by
  intro ρ A e σ H Q w A' R E h k
  cases h
  intro p hp
  show upd H p (.dK []) p = some (.dK []) ∧ _
  refine ⟨upd_same, [(key, v0)], rfl, Nat.le_of_ble_eq_true rfl, ?_⟩
  have e0 : upd (upd H p (.dK [])) p (.dK (mergeK [] [(key, v0)])) = upd H p (.dK [(key, v0)]) := upd_upd
  rw [e0]
  obtain ⟨R2, G2⟩ := R.push (o := .dk [(key, w0)]) (u := .dK [(key, v0)]) hp ⟨_, upd_same, .cons ⟨rfl, r _⟩ .nil⟩
  exact k _ _ _ R2 G2 ⟨p, by rw [← R.len]; exact snoc_at ρ p, rfl⟩
end
end Sv

set_option Elab.async false
set_option linter.all false
set_option maxRecDepth 100000
set_option maxHeartbeats 4000000
namespace Sv
open PySem L2
open PyProof.Rows (envOfC)
def fAddI : F2 := fII (fun _ _ => true) fun i j => .int (i + j)
def fSubI : F2 := fII (fun _ _ => true) fun i j => .int (i - j)
def fLtI : F2 := fII (fun _ _ => true) fun i j => .bl (decide (i < j))
def fLeI : F2 := fII (fun _ _ => true) fun i j => .bl (decide (i ≤ j))
def fGtI : F2 := fII (fun _ _ => true) fun i j => .bl (decide (j < i))
def fGeI : F2 := fII (fun _ _ => true) fun i j => .bl (decide (j ≤ i))
def cMul (i j : Int) : Bool := decide (-(2 ^ 64) < i ∧ i < 2 ^ 64) || decide (-(2 ^ 64) < j ∧ j < 2 ^ 64)
def fMulI : F2 := fII cMul fun i j => .int (i * j)
def fModI : F2 := fII (fun _ j => decide (0 < j)) fun i j => .int (i % j)
def cDiv (_ j : Int) : Bool := decide (0 < j ∧ j < 1073741824)
def fDivI : F2 := fII cDiv fun i j => .int (i / j)
def cPow (i j : Int) : Bool := decide (0 ≤ j ∧ j ≤ 1000000 ∧ i.natAbs < 2 ^ 64)
def fPowI : F2 := fII cPow fun i j => .int (i ^ j.toNat)
def mUn (f : W → Option W) (a : ME) : ME := fun e A => match a e A with
  | some (w, A1) => match f w with
    | some u => some (u, A1)
    | none => none
  | none => none
def fNeg : W → Option W
  | .int i => some (.int (-i))
  | _ => none
section
variable {κ : Kx}
theorem sr_addI : SimR κ (rI0 fun i j => .int (i + j)) fAddI := sr_I0 fun _ _ _ => rfl
theorem sr_subI : SimR κ (rI0 fun i j => .int (i - j)) fSubI := sr_I0 fun _ _ _ => rfl
theorem sr_ltI : SimR κ (rI0 fun i j => .bl (decide (i < j))) fLtI := sr_I0 fun _ _ _ => rfl
theorem sr_leI : SimR κ (rI0 fun i j => .bl (decide (i ≤ j))) fLeI := sr_I0 fun _ _ _ => rfl
theorem sr_gtI : SimR κ (rI0 fun i j => .bl (decide (j < i))) fGtI := sr_I0 fun _ _ _ => rfl
theorem sr_geI : SimR κ (rI0 fun i j => .bl (decide (j ≤ i))) fGeI := sr_I0 fun _ _ _ => rfl
theorem sr_mulI : SimR κ (rI CMul fun i j => .int (i * j)) fMulI := sr_I (fun i j h => by
  unfold cMul at h
  rw [Bool.or_eq_true] at h
  exact h.elim (fun q => .inl (of_decide_eq_true q)) (fun q => .inr (of_decide_eq_true q))) fun _ _ _ => rfl
theorem sr_modI : SimR κ (rI (fun _ j => 0 < j) fun i j => .int (i % j)) fModI := sr_I (fun i j h => of_decide_eq_true h) fun _ _ _ => rfl
theorem sr_divI : SimR κ (rI CDiv fun i j => .int (i / j)) fDivI := sr_I (fun i j h => (show 0 < j ∧ j < 1073741824 from of_decide_eq_true (show decide (0 < j ∧ j < 1073741824) = true from h))) fun _ _ _ => rfl
theorem sr_powI : SimR κ (rI CPow fun i j => .int (i ^ j.toNat)) fPowI := sr_I (fun i j h => (show 0 ≤ j ∧ j ≤ 1000000 ∧ i.natAbs < 2 ^ 64 from of_decide_eq_true (show decide (0 ≤ j ∧ j ≤ 1000000 ∧ i.natAbs < 2 ^ 64) = true from h))) fun _ _ _ => rfl
theorem sim_neg {ta : TE} {ma : ME} (ha : SimE κ ta ma) : SimE κ (tUn (rU fun i => .int (-i)) ta) (mUn fNeg ma) := by
  intro ρ A e σ H Q w A' R E h k
  unfold mUn at h
  split at h
  · rename_i w0 A1 h1
    split at h
    · rename_i u hu
      cases h
      refine ha _ _ _ _ _ _ _ _ R E h1 fun ρ1 H1 v R1 G1 rv => ?_
      unfold fNeg at hu
      split at hu
      · cases hu
        cases rv
        exact ⟨_, rfl, k ρ1 H1 _ R1 G1 rfl⟩
      · cases hu
    · cases h
  · cases h
theorem sim_callN {np N : Nat} {m : MS} {tA : TA} {mA : MA} {E : XK} (ha : SimA κ tA mA) (hn : ArgN mA np) : SimE κ (tCall (spM κ np N m) [] E tA) (mCall N m mA) :=
  sim_call ha fun _ A e _ ws A' _ h => hn e A ws A' h
end
/-- a def of the text, where it stands, and by which name -/
structure DefT (K : PySem.W.Frag) (mg : Str → Option Value) (x : Str) (st : Stmt) (ps : List Str) (f : Addr) (fd : FuncData) : Prop where
  F : Fun K x x st f fd
  b : Binds K fd ps []
  g : mg x = some (.ref f)
section
variable {κ : Kx} {P : Program} {w : World} {mg : Str → Option Value} {base : Heap}
theorem okG_m {x qual : Str} {st : Stmt} {f : Addr} {fd : FuncData} {N ps : List Str} {k : Nat} {m : MS} (F : Fun κ.K x qual st f fd) (S : FnScope N ps (defScope st))
    (hb : ∀ (cdv : Value) (A : Around) (outer : List Env) (s : Shared) (H : Hp) (E : XK), Room k (A.deeper (envOfC qual (defScope st) s.heap.objs.size f cdv)) → A.guards = some [] →
      ∃ t, PSs (cxOf CX0 P w κ.K mg base N qual (defScope st) f cdv A outer s H E).nox (defBody st) t ∧ SimS κ t m) : FnG P w κ.K mg base (k + 1) f fd ps (spM κ ps.length N.length m) := by
  refine okG F S (fun vs H Q E h => h.1) (fun cdv A outer s H vs Q E hr hA h => ?_)
  obtain ⟨t, G1, G2⟩ := hb cdv A outer s H E hr hA
  obtain ⟨hl, ρ, Ah, ws, wv, A', R, r, hc, hk⟩ := h
  refine ⟨t, G1, ?_⟩
  unfold callM at hc
  split at hc
  · rename_i w1 A1 h1
    cases hc
    exact G2 _ _ _ _ _ _ _ _ R (RelE.start r N) h1 fun ρ' H' R' G' v rv => hk ρ' H' v R' G' rv
  · rename_i e1 A1 h1
    cases hc
    exact G2 _ _ _ _ _ _ _ _ R (RelE.start r N) h1 fun ρ' H' R' G' σ' E' => hk ρ' H' _ R' G' rfl
  · cases hc
theorem okF_m {x qual : Str} {st : Stmt} {f : Addr} {fd : FuncData} {N ps : List Str} {k : Nat} {m : MS} (F : Fun κ.K x qual st f fd) (S : FnScope N ps (defScope st))
    (hb : ∀ (cdv : Value) (A : Around) (outer : List Env) (s : Shared) (H : Hp) (E : XK), Room k (A.deeper (envOfC qual (defScope st) s.heap.objs.size f cdv)) →
      ∃ t, PSs (cxOf CX0 P w κ.K mg base N qual (defScope st) f cdv A outer s H E).nox (defBody st) t ∧ SimS κ t m) : FnOk P w κ.K mg base CX0 (k + 1) f fd ps (spM κ ps.length N.length m) :=
  ok_m F S fun cdv A outer s H E hr => by
    obtain ⟨t, h1, h2⟩ := hb cdv A outer s H E hr
    exact ⟨t, fun _ => h1, h2⟩
end
end Sv

set_option Elab.async false
set_option linter.all false
set_option maxRecDepth 100000
set_option maxHeartbeats 4000000
namespace Sv
open PySem L2

/-! ### what only adds -/
def Adds {α β : Type} (m : α → List O → Option (β × List O)) : Prop := ∀ e A r A', m e A = some (r, A') → ∃ J, A' = A ++ J
def Adds2 (f : F2) : Prop := ∀ x y A r A', f x y A = some (r, A') → ∃ J, A' = A ++ J
theorem app0 (A : List O) : ∃ J, A = A ++ J := ⟨[], (List.append_nil A).symm⟩
theorem appT {A B C : List O} (h : ∃ J, B = A ++ J) (k : ∃ J, C = B ++ J) : ∃ J, C = A ++ J := by
  obtain ⟨J, rfl⟩ := h
  obtain ⟨L, rfl⟩ := k
  exact ⟨J ++ L, List.append_assoc ..⟩
theorem ad_var (i : Nat) : Adds (mVar i) := by
  intro e A r A' h
  unfold mVar at h
  split at h
  · cases h
    exact app0 _
  · cases h
theorem ad_c (w : W) : Adds (mC w) := by
  intro e A r A' h
  cases h
  exact app0 _
theorem ad_op {f : F2} {a b : ME} (ha : Adds a) (hb : Adds b) (hf : Adds2 f) : Adds (mOp f a b) := by
  intro e A r A' h
  unfold mOp at h
  split at h
  · rename_i x A1 h1
    split at h
    · rename_i y A2 h2
      exact appT (ha _ _ _ _ h1) (appT (hb _ _ _ _ h2) (hf _ _ _ _ _ h))
    · cases h
  · cases h
theorem ad_nil : Adds mNil := by
  intro e A r A' h
  cases h
  exact app0 _
theorem ad_cons {a : ME} {b : MA} (ha : Adds a) (hb : Adds b) : Adds (mCons a b) := by
  intro e A r A' h
  unfold mCons at h
  split at h
  · rename_i x A1 h1
    split at h
    · rename_i y A2 h2
      cases h
      exact appT (ha _ _ _ _ h1) (hb _ _ _ _ h2)
    · cases h
  · cases h
theorem ad_cb {f : FC} {a : MA} (ha : Adds a) (hf : Adds f) : Adds (mCB f a) := by
  intro e A r A' h
  unfold mCB at h
  split at h
  · rename_i x A1 h1
    exact appT (ha _ _ _ _ h1) (hf _ _ _ _ h)
  · cases h
theorem ad_lst {a : MA} (ha : Adds a) : Adds (mLst a) := by
  intro e A r A' h
  unfold mLst at h
  split at h
  · rename_i x A1 h1
    split at h
    · cases h
      exact appT (ha _ _ _ _ h1) ⟨_, rfl⟩
    · cases h
  · cases h
theorem ad_tup {a : MA} (ha : Adds a) : Adds (mTup a) := by
  intro e A r A' h
  unfold mTup at h
  split at h
  · rename_i x A1 h1
    split at h
    · cases h
      exact appT (ha _ _ _ _ h1) ⟨_, rfl⟩
    · cases h
  · cases h
theorem ad_b {a : ME} (ha : Adds a) : Adds (mB a) := by
  intro e A r A' h
  unfold mB at h
  split at h
  · rename_i b A1 h1
    cases h
    exact ha _ _ _ _ h1
  · cases h
theorem ad_and {a b : MT} (ha : Adds a) (hb : Adds b) : Adds (mAnd a b) := by
  intro e A r A' h
  unfold mAnd at h
  split at h
  · rename_i A1 h1
    exact appT (ha _ _ _ _ h1) (hb _ _ _ _ h)
  · exact ha _ _ _ _ h
theorem ad_or {a b : MT} (ha : Adds a) (hb : Adds b) : Adds (mOr a b) := by
  intro e A r A' h
  unfold mOr at h
  split at h
  · rename_i A1 h1
    exact appT (ha _ _ _ _ h1) (hb _ _ _ _ h)
  · exact ha _ _ _ _ h
theorem ad_not {a : MT} (ha : Adds a) : Adds (mNot a) := by
  intro e A r A' h
  unfold mNot at h
  split at h
  · rename_i b A1 h1
    cases h
    exact ha _ _ _ _ h1
  · cases h
theorem ad_if {t : MT} {a b : ME} (ht : Adds t) (ha : Adds a) (hb : Adds b) : Adds (mIf t a b) := by
  intro e A r A' h
  unfold mIf at h
  split at h
  · rename_i A1 h1
    exact appT (ht _ _ _ _ h1) (ha _ _ _ _ h)
  · rename_i A1 h1
    exact appT (ht _ _ _ _ h1) (hb _ _ _ _ h)
  · cases h
theorem ad_next : Adds mNext := by
  intro e A r A' h
  cases h
  exact app0 _
theorem ad_seq {a b : MS} (ha : Adds a) (hb : Adds b) : Adds (mSeq a b) := by
  intro e A r A' h
  unfold mSeq at h
  split at h
  · rename_i e1 A1 h1
    exact appT (ha _ _ _ _ h1) (hb _ _ _ _ h)
  · exact ha _ _ _ _ h
theorem ad_ret {a : ME} (ha : Adds a) : Adds (mRet a) := by
  intro e A r A' h
  unfold mRet at h
  split at h
  · rename_i b A1 h1
    cases h
    exact ha _ _ _ _ h1
  · cases h
theorem ad_set {i : Nat} {a : ME} (ha : Adds a) : Adds (mSet i a) := by
  intro e A r A' h
  unfold mSet at h
  split at h
  · rename_i b A1 h1
    cases h
    exact ha _ _ _ _ h1
  · cases h
theorem ad_ifS {t : MT} {a b : MS} (ht : Adds t) (ha : Adds a) (hb : Adds b) : Adds (mIfS t a b) := by
  intro e A r A' h
  unfold mIfS at h
  split at h
  · rename_i A1 h1
    exact appT (ht _ _ _ _ h1) (ha _ _ _ _ h)
  · rename_i A1 h1
    exact appT (ht _ _ _ _ h1) (hb _ _ _ _ h)
  · cases h
theorem ad_call {N : Nat} {m : MS} {a : MA} (hm : Adds m) (ha : Adds a) : Adds (mCall N m a) := by
  intro e A r A' h
  unfold mCall at h
  split at h
  · rename_i ws A1 h1
    refine appT (ha _ _ _ _ h1) ?_
    unfold callM at h
    split at h
    · rename_i w A2 h2
      cases h
      exact hm _ _ _ _ h2
    · rename_i w A2 h2
      cases h
      exact hm _ _ _ _ h2
    · cases h
  · cases h
theorem ad_xget {n : Nat} {fn : List Str} {f : Str} {a : ME} (ha : Adds a) : Adds (mXget n fn f a) := by
  intro e A r A' h
  unfold mXget at h
  split at h
  · rename_i l A1 h1
    split at h
    · split at h
      · split at h
        · split at h
          · cases h
            exact ha _ _ _ _ h1
          · cases h
        · cases h
      · cases h
    · cases h
  · cases h
theorem ad2_I {c : Int → Int → Bool} {g : Int → Int → W} : Adds2 (fII c g) := by
  intro x y A r A' h
  unfold fII at h
  split at h
  · split at h
    · cases h
      exact app0 _
    · cases h
  · cases h
theorem ad2_cat : Adds2 fCat := by
  intro x y A r A' h
  unfold fCat at h
  split at h
  · split at h
    · split at h
      · cases h
        exact ⟨_, rfl⟩
      · cases h
    · cases h
  · cases h
theorem ad2_rep : Adds2 fRep := by
  intro x y A r A' h
  unfold fRep at h
  split at h
  · split at h
    · split at h
      · cases h
        exact ⟨_, rfl⟩
      · cases h
    · cases h
  · cases h
theorem ad2_ixL : Adds2 fIxL := by
  intro x y A r A' h
  unfold fIxL at h
  split at h
  · split at h
    · split at h
      · cases h
        exact app0 _
      · cases h
    · cases h
  · cases h
theorem ad2_in {neg : Bool} : Adds2 (fIn neg) := by
  intro x y A r A' h
  unfold fIn at h
  split at h
  · split at h
    · split at h
      · cases h
        exact app0 _
      · cases h
    · cases h
  · cases h
theorem ad2_eq {neg : Bool} : Adds2 (fEqD neg) := by
  intro x y A r A' h
  unfold fEqD at h
  split at h
  · split at h
    · cases h
      exact app0 _
    · cases h
  · cases h
theorem ad_len : Adds fLen := by
  intro x A r A' h
  unfold fLen at h
  split at h
  · split at h
    · cases h
      exact app0 _
    · cases h
  · cases h
theorem ad_isX {n : Nat} {s : Nat → Nat → Bool} {sB : Nat → String → Option Bool} : Adds (fIsX n s sB) := by
  intro x A r A' h
  unfold fIsX at h
  split at h
  · split at h
    · split at h
      · split at h
        · cases h
          exact app0 _
        · split at h
          · cases h
            exact app0 _
          · cases h
        · cases h
      · cases h
    · cases h
  · cases h
theorem ad_repr : Adds fRepr := by
  intro x A r A' h
  unfold fRepr at h
  split at h
  · split at h
    · split at h
      · cases h
        exact app0 _
      · cases h
    · split at h
      · split at h
        · split at h
          · cases h
            exact app0 _
          · cases h
        · cases h
      · cases h
  · cases h
theorem ad_gName {i : Nat} {w : W} : Adds (gmName i w) := by
  intro e A r A' h
  cases h
  exact app0 _
theorem src_adds {s : Src} {i : Nat} {A A' : List O} {w : W} (h : srcGo s i A = some (some (w, A'))) : A' = A := by
  cases s with
  | lst l =>
    simp only [srcGo] at h
    split at h
    · split at h
      · cases h
        rfl
      · cases h
    · cases h
  | tup l =>
    simp only [srcGo] at h
    split at h
    · split at h
      · cases h
        rfl
      · cases h
    · cases h
  | rng lo n =>
    simp only [srcGo] at h
    split at h
    · cases h
      rfl
    · cases h
theorem lc_adds {s : Src} {mg : MG} {mt : MT} {me : ME} {ew : Sl} {B : List O} (hg : ∀ w, Adds (mg w)) (ht : Adds mt) (he : Adds me) : ∀ (m i : Nat) (A A' : List O), (∃ J, A = B ++ J) → lcM s mg mt me ew B.length m i A = some A' → ∃ J, A' = B ++ J
  | 0, _, _, _, _, h => by
    unfold lcM at h
    cases h
  | m + 1, i, A, A', hA, h => by
    unfold lcM at h
    split at h
    · cases h
    · cases h
      exact hA
    · rename_i w A1 hs
      have e1 := src_adds hs
      subst e1
      split at h
      · cases h
      · rename_i e2 A2 h2
        have q2 := appT hA (hg w _ _ _ _ h2)
        split at h
        · cases h
        · rename_i A3 h3
          exact lc_adds hg ht he m (i + 1) A3 A' (appT q2 (ht _ _ _ _ h3)) h
        · rename_i A3 h3
          split at h
          · cases h
          · rename_i y A4 h4
            split at h
            · cases h
            · rename_i acc hacc
              split at h
              · refine lc_adds hg ht he m (i + 1) _ A' ?_ h
                obtain ⟨J, rfl⟩ := appT (appT q2 (ht _ _ _ _ h3)) (he _ _ _ _ h4)
                refine ⟨J.set 0 (.lst (acc ++ [y])), ?_⟩
                rw [List.set_append, if_neg (Nat.lt_irrefl _), Nat.sub_self]
              · cases h
theorem ad_lc {mi : MI} {mg : MG} {mt : MT} {me : ME} {vs : List Nat} (hi : Adds mi) (hg : ∀ w, Adds (mg w)) (ht : Adds mt) (he : Adds me) : Adds (mLc mi mg mt me vs) := by
  intro e A r A' h
  unfold mLc at h
  split at h
  · rename_i s A1 h1
    split at h
    · rename_i A2 h2
      cases h
      exact appT (hi _ _ _ _ h1) (lc_adds hg ht he _ _ _ _ ⟨_, rfl⟩ h2)
    · cases h
  · cases h
theorem ad_yes : Adds mYes := by
  intro e A r A' h
  cases h
  exact app0 _
theorem ad_iR1 {a : MA} (ha : Adds a) : Adds (miR1 a) := by
  intro e A r A' h
  unfold miR1 at h
  split at h
  · rename_i n A1 h1
    split at h
    · cases h
      exact ha _ _ _ _ h1
    · cases h
  · cases h

/-! ### a loop whose turns leave nothing -/
def wipeR (n : Nat) (e : Sl) : Sl := e.map fun s => match s with
  | some (.ref i) => if i < n then some (.ref i) else none
  | x => x
def forG (s : Src) (mg : MG) (mb : MS) : Nat → Nat → Sl → List O → Option (Out × List O)
  | 0, _, _, _ => none
  | m + 1, i, e, A => match srcGo s i A with
    | none => none
    | some none => some (.nx e, A)
    | some (some (w, A1)) => match mg w e A1 with
      | none => none
      | some (e2, A2) => match mb e2 A2 with
        | some (.nx e3, _) => forG s mg mb m (i + 1) (wipeR A.length e3) A
        | some (.ct e3, _) => forG s mg mb m (i + 1) (wipeR A.length e3) A
        | some (.bk e3, A3) => some (.nx e3, A3)
        | some (.rt w, A3) => some (.rt w, A3)
        | none => none
def mForG (mi : MI) (mg : MG) (mb : MS) : MS := fun e A => match mi e A with
  | some (s, A1) => forG s mg mb (srcLen s A1 + 1) 0 e A1
  | none => none
section
variable {κ : Kx}
theorem RelW.fun {ρ : List Addr} : ∀ {w : W} {v u : V}, RelW κ ρ w v → RelW κ ρ w u → v = u
  | .non, _, _, h, k => h.trans k.symm
  | .bl _, _, _, h, k => h.trans k.symm
  | .int _, _, _, h, k => h.trans k.symm
  | .str _, _, _, h, k => h.trans k.symm
  | .ty _, _, _, h, k => h.trans k.symm
  | .ref _, _, _, ⟨a, h, e⟩, ⟨b, k, e'⟩ => by
    rw [h] at k
    cases k
    exact e.trans e'.symm
  | .cl _, _, _, ⟨a, h, e⟩, ⟨b, k, e'⟩ => by
    rw [h] at k
    cases k
    exact e.trans e'.symm
theorem RelL.fun {ρ : List Addr} {xs : List W} {vs us : List V} (h : RelL κ ρ xs vs) (k : RelL κ ρ xs us) : vs = us := by
  induction h generalizing us with
  | nil => cases k; rfl
  | cons r t ih =>
    cases k with
    | cons r2 t2 => rw [r.fun r2, ih t2]
theorem RelPs.fun {α : Type} {ρ : List Addr} {xs : List (α × W)} {vs us : List (α × V)} (h : Paired (RelP κ ρ) xs vs) (k : Paired (RelP κ ρ) xs us) : vs = us := by
  induction h generalizing us with
  | nil => cases k; rfl
  | cons r t ih =>
    cases k with
    | cons r2 t2 =>
      rw [ih t2]
      have e1 := r.1.symm.trans r2.1
      have e2 := r.2.fun r2.2
      congr 1
      exact Prod.ext e1 e2
theorem Rep.gc {ρ ρ' : List Addr} {A J : List O} {H H' : Hp} (R : Rep κ ρ A H) (G : Go ρ H ρ' H') (R' : Rep κ ρ' (A ++ J) H') : Rep κ ρ A H' := by
  refine ⟨R.len, R.nd, fun i a o ha ho => ?_⟩
  have hi := (List.getElem?_eq_some_iff.mp ho).1
  have q := R'.ob i a o (G.pre _ _ ha) (by rw [List.getElem?_append_left hi]; exact ho)
  have p := R.ob i a o ha ho
  cases o with
  | lst xs =>
    obtain ⟨vs, _, r1⟩ := p
    obtain ⟨us, h2, r2⟩ := q
    rw [← (RelL.mono G.pre r1).fun r2] at h2
    exact ⟨vs, h2, r1⟩
  | tup xs =>
    obtain ⟨vs, _, r1⟩ := p
    obtain ⟨us, h2, r2⟩ := q
    rw [← (RelL.mono G.pre r1).fun r2] at h2
    exact ⟨vs, h2, r1⟩
  | dk xs =>
    obtain ⟨vs, _, r1⟩ := p
    obtain ⟨us, h2, r2⟩ := q
    rw [← RelPs.fun (Paired.mono (fun _ _ => RelP.mono G.pre) r1) r2] at h2
    exact ⟨vs, h2, r1⟩
  | exd xs =>
    obtain ⟨vs, _, r1⟩ := p
    obtain ⟨us, h2, r2⟩ := q
    rw [← RelPs.fun (Paired.mono (fun _ _ => RelP.mono G.pre) r1) r2] at h2
    exact ⟨vs, h2, r1⟩
  | exo C d =>
    obtain ⟨c, b, h1, h2, _⟩ := p
    obtain ⟨c', b', h1', h2', h3'⟩ := q
    rw [h1] at h1'
    cases h1'
    rw [G.pre _ _ h2] at h2'
    cases h2'
    exact ⟨c, b, h1, h2, h3'⟩
  | exz C => exact q
theorem RelE.wipeR {ρ ρ' : List Addr} {n : Nat} {e : Sl} {σ : St} (h : RelE κ ρ' e σ) (p : Pre ρ ρ') (hn : ρ.length = n) : RelE κ ρ (wipeR n e) σ := by
  refine ⟨by unfold Sv.wipeR; rw [List.length_map]; exact h.1, fun i w q => ?_⟩
  unfold Sv.wipeR at q
  rw [List.getElem?_map] at q
  obtain ⟨s, hs, e1⟩ := Option.map_eq_some_iff.mp q
  split at e1
  · rename_i j
    split at e1
    · rename_i hj
      cases e1
      obtain ⟨v, h1, a, h2, h3⟩ := h.2 i _ hs
      have hj' : j < ρ.length := by omega
      have h4 := p j _ (List.getElem?_eq_getElem hj')
      rw [h2] at h4
      cases h4
      exact ⟨v, h1, _, List.getElem?_eq_getElem hj', h3⟩
    · cases e1
  · rename_i x hx
    subst e1
    obtain ⟨v, h1, h2⟩ := h.2 i _ hs
    refine ⟨v, h1, ?_⟩
    cases w with
    | ref j => exact absurd rfl (hx j)
    | _ => exact h2
theorem sim_forG {wi : TI} {mi : MI} {g : TG} {mg : MG} {ts : TS} {ms : MS} (hi : SimI κ wi mi) (hg : SimG κ g mg) (hb : SimS κ ts ms) (pg : ∀ w, Adds (mg w)) (pb : Adds ms) : SimS κ (tFor wi g ts) (mForG mi mg ms) := by
  intro ρ A e σ H D o A' R E h k
  unfold mForG at h
  split at h
  · rename_i s A1 h1
    refine hi _ _ _ _ _ _ _ _ R E h1 fun ρ1 H1 J R1 G1 j1 => ?_
    refine ⟨fun i m σ H => ∃ ρ A e, Rep κ ρ A H ∧ Go ρ1 H1 ρ H ∧ RelE κ ρ e σ ∧ forG s mg ms m i e A = some (o, A'), ⟨_, ρ1, A1, e, R1, .refl, E.mono G1.pre, h⟩, ?_⟩
    rintro i m σ2 H2 ⟨ρ2, A2, e2, R2, G2, E2, h2⟩
    cases m with
    | zero =>
      unfold forG at h2
      cases h2
    | succ m =>
      unfold forG at h2
      split at h2
      · cases h2
      · rename_i hs
        cases h2
        exact .inl ⟨src_stop R2 (j1.mono G2.pre) hs, k ρ2 H2 R2 (G1.trans G2) σ2 E2⟩
      · rename_i w A3 hs
        obtain ⟨hgo, hy⟩ := src_go R2 (j1.mono G2.pre) hs
        have e3 := src_adds hs
        subst e3
        refine .inr ⟨hgo, fun σ' H' => ∃ ρ A e, Rep κ ρ A H' ∧ Go ρ1 H1 ρ H' ∧ RelE κ ρ e σ' ∧ forG s mg ms m (i + 1) e A = some (o, A'), fun σ' H' hN => ⟨m, Nat.lt_succ_self m, hN⟩, fun x H' y => ?_⟩
        obtain ⟨ρ3, R3, G3, r3⟩ := hy x H' y
        split at h2
        · cases h2
        · rename_i e4 A4 hg4
          refine hg _ _ _ _ _ _ _ _ _ _ R3 (E2.mono G3.pre) r3 hg4 fun ρ4 H4 σ4 R4 G4 E4 => ?_
          have fin : ∀ {e5 : Sl} {A5 : List O} {ρ5 : List Addr} {H5 : Hp} {σ5 : St}, (∃ J, A5 = A4 ++ J) → Rep κ ρ5 A5 H5 → Go ρ4 H4 ρ5 H5 → RelE κ ρ5 e5 σ5 → forG s mg ms m (i + 1) (Sv.wipeR A3.length e5) A3 = some (o, A') →
              ∃ ρ A e, Rep κ ρ A H5 ∧ Go ρ1 H1 ρ H5 ∧ RelE κ ρ e σ5 ∧ forG s mg ms m (i + 1) e A = some (o, A') := fun {e5 A5 ρ5 H5 σ5} hJ R5 G5 E5 h5 => by
            obtain ⟨J5, rfl⟩ := appT (pg w _ _ _ _ hg4) hJ
            have G25 := G3.trans (G4.trans G5)
            exact ⟨ρ2, A3, _, R2.gc G25 R5, G2.trans ⟨.refl _, fun _ z => .inl z, G25.kp⟩, E5.wipeR G25.pre R2.len, h5⟩
          split at h2
          · rename_i e5 A5 hb5
            exact hb _ _ _ _ _ _ _ _ R4 E4 hb5 fun ρ5 H5 R5 G5 σ5 E5 => fin (pb _ _ _ _ hb5) R5 G5 E5 h2
          · rename_i e5 A5 hb5
            exact hb _ _ _ _ _ _ _ _ R4 E4 hb5 fun ρ5 H5 R5 G5 σ5 E5 => fin (pb _ _ _ _ hb5) R5 G5 E5 h2
          · rename_i e5 A5 hb5
            cases h2
            exact hb _ _ _ _ _ _ _ _ R4 E4 hb5 fun ρ5 H5 R5 G5 σ5 E5 => k ρ5 H5 R5 (G1.trans (G2.trans (G3.trans (G4.trans G5)))) σ5 E5
          · rename_i w5 A5 hb5
            cases h2
            exact hb _ _ _ _ _ _ _ _ R4 E4 hb5 fun ρ5 H5 R5 G5 v5 r5 => k ρ5 H5 R5 (G1.trans (G2.trans (G3.trans (G4.trans G5)))) v5 r5
          · cases h2
  · cases h
/-! ### a part of what is tracked, by other numbers -/
def reW (sel : List Nat) : W → Option W
  | .ref i => (sel[i]?).map .ref
  | w => some w
def reL (sel : List Nat) : List W → Option (List W)
  | [] => some []
  | w :: ws => match reW sel w with
    | some x => match reL sel ws with
      | some xs => some (x :: xs)
      | none => none
    | none => none
def reP {α : Type} (sel : List Nat) : List (α × W) → Option (List (α × W))
  | [] => some []
  | (k, w) :: ws => match reW sel w with
    | some x => match reP sel ws with
      | some xs => some ((k, x) :: xs)
      | none => none
    | none => none
def reO (sel : List Nat) : O → Option O
  | .lst xs => (reL sel xs).map .lst
  | .tup xs => (reL sel xs).map .tup
  | .dk kvs => (reP sel kvs).map .dk
  | .exd fs => (reP sel fs).map .exd
  | .exo C d => (sel[d]?).map (.exo C)
  | .exz C => some (.exz C)
def subOk (A : List O) (sel0 : List Nat) : List Nat → List O → Bool
  | [], [] => true
  | j :: js, o :: os => (match reO sel0 o with
    | some u => decide (A[j]? = some u)
    | none => false) && subOk A sel0 js os
  | _, _ => false
theorem subOk_at {A : List O} {sel0 : List Nat} : ∀ {sel : List Nat} {B : List O}, subOk A sel0 sel B = true → sel.length = B.length ∧ ∀ (i : Nat) (o : O), B[i]? = some o → ∃ j u, sel[i]? = some j ∧ reO sel0 o = some u ∧ A[j]? = some u
  | [], [], _ => ⟨rfl, fun i o h => by simp at h⟩
  | j :: js, o :: os, h => by
    unfold subOk at h
    rw [Bool.and_eq_true] at h
    obtain ⟨h1, h2⟩ := h
    obtain ⟨hl, ih⟩ := subOk_at h2
    refine ⟨by rw [List.length_cons, List.length_cons, hl], fun i o' ho => ?_⟩
    cases i with
    | zero =>
      simp at ho
      subst ho
      split at h1
      · rename_i u hu
        exact ⟨j, u, rfl, hu, of_decide_eq_true h1⟩
      · cases h1
    | succ i => exact ih i o' (by simpa using ho)
  | [], _ :: _, h => by cases h
  | _ :: _, [], h => by cases h
theorem reW_rel {ρ ρ' : List Addr} {sel : List Nat} (hs : ∀ i j : Nat, sel[i]? = some j → ρ'[i]? = ρ[j]?) {w x : W} {v : V} (h : reW sel w = some x) (r : RelW κ ρ x v) : RelW κ ρ' w v := by
  cases w with
  | ref i =>
    obtain ⟨j, hj, e⟩ := Option.map_eq_some_iff.mp h
    subst e
    obtain ⟨a, h1, h2⟩ := r
    exact ⟨a, by rw [hs i j hj]; exact h1, h2⟩
  | non => cases h; exact r
  | bl b => cases h; exact r
  | int b => cases h; exact r
  | str b => cases h; exact r
  | cl b => cases h; exact r
  | ty b => cases h; exact r
theorem reL_rel {ρ ρ' : List Addr} {sel : List Nat} (hs : ∀ i j : Nat, sel[i]? = some j → ρ'[i]? = ρ[j]?) : ∀ {ws xs : List W} {vs : List V}, reL sel ws = some xs → RelL κ ρ xs vs → RelL κ ρ' ws vs
  | [], xs, vs, h, r => by
    cases h
    cases r
    exact .nil
  | w :: ws, xs, vs, h, r => by
    unfold reL at h
    split at h
    · rename_i x hx
      split at h
      · rename_i ys hys
        cases h
        cases r with
        | cons r1 r2 => exact .cons (reW_rel hs hx r1) (reL_rel hs hys r2)
      · cases h
    · cases h
theorem reP_rel {α : Type} {ρ ρ' : List Addr} {sel : List Nat} (hs : ∀ i j : Nat, sel[i]? = some j → ρ'[i]? = ρ[j]?) : ∀ {ws xs : List (α × W)} {vs : List (α × V)}, reP sel ws = some xs → Paired (RelP κ ρ) xs vs → Paired (RelP κ ρ') ws vs
  | [], xs, vs, h, r => by
    cases h
    cases r
    exact .nil
  | (k, w) :: ws, xs, vs, h, r => by
    unfold reP at h
    split at h
    · rename_i x hx
      split at h
      · rename_i ys hys
        cases h
        cases r with
        | cons r1 r2 => exact .cons ⟨r1.1, reW_rel hs hx r1.2⟩ (reP_rel hs hys r2)
      · cases h
    · cases h
theorem Rep.sub {ρ : List Addr} {A : List O} {H : Hp} (R : Rep κ ρ A H) {sel : List Nat} {B : List O} (hn : sel.Nodup) (h : subOk A sel sel B = true) : ∃ ρ', Rep κ ρ' B H ∧ (∀ p ∈ ρ', p ∈ ρ) ∧ ∀ w x v, reW sel w = some x → RelW κ ρ x v → RelW κ ρ' w v := by
  obtain ⟨hl, hat⟩ := subOk_at h
  have inb : ∀ j ∈ sel, j < ρ.length := fun j hj => by
    obtain ⟨i, hi⟩ := List.getElem?_of_mem hj
    have hil := (List.getElem?_eq_some_iff.mp hi).1
    rw [hl] at hil
    obtain ⟨j', u, h1, _, h3⟩ := hat i _ (List.getElem?_eq_getElem hil)
    rw [hi] at h1
    cases h1
    rw [R.len]
    exact (List.getElem?_eq_some_iff.mp h3).1
  let ρ' := sel.map fun j => (ρ[j]?).getD 0
  have hs : ∀ i j : Nat, sel[i]? = some j → ρ'[i]? = ρ[j]? := fun i j hj => by
    have hj2 := inb j (List.mem_of_getElem? hj)
    show (sel.map _)[i]? = _
    rw [List.getElem?_map, hj, Option.map_some, List.getElem?_eq_getElem hj2, Option.getD_some]
  refine ⟨ρ', ⟨by show (sel.map _).length = _; rw [List.length_map]; exact hl, ?_, fun i a o ha ho => ?_⟩, fun p hp => ?_, fun w x v hw r => reW_rel hs hw r⟩
  · show (sel.map _).Nodup
    rw [List.nodup_iff_pairwise_ne] at hn ⊢
    refine List.pairwise_map.mpr (List.Pairwise.imp_of_mem (fun {a b} hma hmb hab z => ?_) hn)
    rw [List.getElem?_eq_getElem (inb a hma), List.getElem?_eq_getElem (inb b hmb)] at z
    exact hab ((List.getElem_inj R.nd).mp z)
  · obtain ⟨j, u, h1, h2, h3⟩ := hat i o ho
    rw [hs i j h1] at ha
    have q := R.ob j a u ha h3
    cases o with
    | lst xs =>
      obtain ⟨ys, hy, e⟩ := Option.map_eq_some_iff.mp h2
      subst e
      obtain ⟨vs, q1, q2⟩ := q
      exact ⟨vs, q1, reL_rel hs hy q2⟩
    | tup xs =>
      obtain ⟨ys, hy, e⟩ := Option.map_eq_some_iff.mp h2
      subst e
      obtain ⟨vs, q1, q2⟩ := q
      exact ⟨vs, q1, reL_rel hs hy q2⟩
    | dk xs =>
      obtain ⟨ys, hy, e⟩ := Option.map_eq_some_iff.mp h2
      subst e
      obtain ⟨vs, q1, q2⟩ := q
      exact ⟨vs, q1, reP_rel hs hy q2⟩
    | exd xs =>
      obtain ⟨ys, hy, e⟩ := Option.map_eq_some_iff.mp h2
      subst e
      obtain ⟨vs, q1, q2⟩ := q
      exact ⟨vs, q1, reP_rel hs hy q2⟩
    | exo C d =>
      obtain ⟨d', hd, e⟩ := Option.map_eq_some_iff.mp h2
      subst e
      obtain ⟨c, b, q1, q2, q3⟩ := q
      exact ⟨c, b, q1, by rw [hs d d' hd]; exact q2, q3⟩
    | exz C =>
      cases h2
      exact q
  · obtain ⟨j, hj, e⟩ := List.mem_map.mp hp
    rw [List.getElem?_eq_getElem (inb j hj)] at e
    subst e
    exact List.getElem_mem _
end
end Sv

set_option Elab.async false
set_option linter.all false
set_option maxRecDepth 100000
set_option maxHeartbeats 4000000
namespace Sv
open PySem L2
/-! ### a comprehension whose list is laid at its end -/
def lcP (s : Src) (mg : MG) (mt : MT) (me : ME) (ew : Sl) : Nat → Nat → List W → List O → Option (List W × List O)
  | 0, _, _, _ => none
  | m + 1, i, acc, A => match srcGo s i A with
    | none => none
    | some none => some (acc, A)
    | some (some (w, A1)) => match mg w ew A1 with
      | none => none
      | some (e2, A2) => match mt e2 A2 with
        | none => none
        | some (false, A3) => lcP s mg mt me ew m (i + 1) acc A3
        | some (true, A3) => match me e2 A3 with
          | none => none
          | some (y, A4) => if acc.length < 100000 then lcP s mg mt me ew m (i + 1) (acc ++ [y]) A4 else none
def mLcP (mi : MI) (mg : MG) (mt : MT) (me : ME) (vs : List Nat) : ME := fun e A => match mi e A with
  | some (s, A1) => match lcP s mg mt me (wipeW e vs) (srcLen s A1 + 1) 0 [] A1 with
    | some (acc, A2) => some (.ref A2.length, A2 ++ [.lst acc])
    | none => none
  | none => none
section
variable {κ : Kx}
theorem Rep.other {ρ : List Addr} {A : List O} {H : Hp} (R : Rep κ ρ A H) {p : Addr} {o : HO} (hp : p ∉ ρ) : Rep κ ρ A (upd H p o) := by
  refine ⟨R.len, R.nd, fun i a u ha hu => (R.ob i a u ha hu).mono (.refl _) (upd_ne fun z => hp ?_)⟩
  rw [← z]
  exact List.mem_of_getElem? ha
theorem Rep.track {ρ : List Addr} {A : List O} {H : Hp} (R : Rep κ ρ A H) {p : Addr} {o : O} (hp : p ∉ ρ) (ho : ObjR κ (ρ ++ [p]) H p o) : Rep κ (ρ ++ [p]) (A ++ [o]) H := by
  refine ⟨by simp [R.len], ?_, fun i a u ha hu => ?_⟩
  · rw [List.nodup_append]
    refine ⟨R.nd, by simp, fun a ha b hb e => ?_⟩
    rw [List.mem_singleton.mp hb] at e
    exact hp (e ▸ ha)
  · by_cases hi : i < ρ.length
    · rw [List.getElem?_append_left hi] at ha
      rw [List.getElem?_append_left (by rw [← R.len]; exact hi)] at hu
      exact (R.ob i a u ha hu).mono (.snoc ρ p) rfl
    · have hi2 : i = ρ.length := by
        have := (List.getElem?_eq_some_iff.mp ha).1
        rw [List.length_append, List.length_singleton] at this
        omega
      subst hi2
      rw [snoc_at] at ha
      rw [R.len, List.getElem?_append_right (Nat.le_refl _), Nat.sub_self] at hu
      cases ha
      cases hu
      exact ho
theorem Go.out {ρ ρ' : List Addr} {H H' : Hp} (G : Go ρ H ρ' H') {p : Addr} {o : HO} (h : H p = some o) (hp : p ∉ ρ) : p ∉ ρ' ∧ H' p = some o := by
  refine ⟨fun z => ?_, G.kp p o h hp⟩
  rcases G.new p z with q | q
  · exact hp q
  · rw [h] at q
    cases q
theorem sim_lcP {wi : TI} {mi : MI} {g : TG} {mg : MG} {tt : TT} {mt : MT} {te : TE} {me : ME} {vs : List Nat} (hi : SimI κ wi mi) (hg : SimG κ g mg) (ht : SimT κ tt mt) (he : SimE κ te me) (hw : WipeOk g vs) : SimE κ (tLc wi g tt te vs) (mLcP mi mg mt me vs) := by
  intro ρ A e σ H Q w A' R E h k
  unfold mLcP at h
  split at h
  · rename_i s A1 h1
    split at h
    · rename_i accF AF h2
      cases h
      refine hi _ _ _ _ _ _ _ _ R E h1 fun ρ1 H1 J R1 G1 j1 D hD => ?_
      have hD1 := R1.fresh hD
      have up : ∀ {ρ2 : List Addr} {H2 : Hp} {o : HO}, Go ρ1 H1 ρ2 H2 → Go ρ1 H1 ρ2 (upd H2 D o) := fun {ρ2 H2 o} G => ⟨G.pre, G.new, fun b u hb hn => by
        rw [upd_ne (ne_of_none hb hD)]
        exact G.kp b u hb hn⟩
      refine ⟨fun i m H => ∃ ρ A acc us, Rep κ ρ A H ∧ Go ρ1 H1 ρ H ∧ D ∉ ρ ∧ H D = some (.lst us) ∧ RelL κ ρ acc us ∧ lcP s mg mt me (wipeW e vs) m i acc A = some (accF, AF), ⟨_, ρ1, A1, [], [], R1.other hD1, up .refl, hD1, upd_same, .nil, h2⟩, ?_⟩
      rintro i m H2 ⟨ρ2, A2, acc, us, R2, G2, nD, hDs, ra, h3⟩
      have Eb : RelE κ ρ2 (wipeW e vs) (wipe σ vs) := ((E.mono G1.pre).mono G2.pre).wipe vs
      have j2 := j1.mono G2.pre
      cases m with
      | zero =>
        unfold lcP at h3
        cases h3
      | succ m =>
        unfold lcP at h3
        split at h3
        · cases h3
        · rename_i hs
          cases h3
          refine .inl ⟨src_stop R2 j2 hs, k (ρ2 ++ [D]) H2 _ (R2.track nD ⟨us, hDs, RelL.mono (.snoc ρ2 D) ra⟩) (G1.trans ⟨G2.pre.trans (.snoc ρ2 D), fun p hp => ?_, G2.kp⟩) ⟨D, ?_, rfl⟩⟩
          · rcases List.mem_append.mp hp with q | q
            · exact G2.new p q
            · rw [List.mem_singleton.mp q]
              exact .inr hD
          · rw [← R2.len]
            exact snoc_at ρ2 D
        · rename_i w3 A3 hs
          obtain ⟨hgo, hy⟩ := src_go R2 j2 hs
          refine .inr ⟨hgo, fun H' => ∃ ρ A acc us, Rep κ ρ A H' ∧ Go ρ1 H1 ρ H' ∧ D ∉ ρ ∧ H' D = some (.lst us) ∧ RelL κ ρ acc us ∧ lcP s mg mt me (wipeW e vs) m (i + 1) acc A = some (accF, AF), fun H' hN => ⟨m, Nat.lt_succ_self m, hN⟩, fun x H' y => ?_⟩
          obtain ⟨ρ3, R3, G3, r3⟩ := hy x H' y
          split at h3
          · cases h3
          · rename_i e4 A4 hg4
            refine hw _ _ _ _ ?_
            refine hg _ _ _ _ _ _ _ _ _ _ R3 (Eb.mono G3.pre) r3 hg4 fun ρ4 H4 σ4 R4 G4 E4 => ?_
            split at h3
            · cases h3
            · rename_i A5 ht5
              refine ht _ _ _ _ _ _ _ _ R4 E4 ht5 fun ρ5 H5 R5 G5 => ?_
              show if false = true then _ else _
              rw [if_neg Bool.false_ne_true]
              have G25 := G3.trans (G4.trans G5)
              obtain ⟨n5, d5⟩ := G25.out hDs nD
              exact ⟨ρ5, A5, acc, us, R5, G2.trans G25, n5, d5, RelL.mono G25.pre ra, h3⟩
            · rename_i A5 ht5
              refine ht _ _ _ _ _ _ _ _ R4 E4 ht5 fun ρ5 H5 R5 G5 => ?_
              show if true = true then _ else _
              rw [if_pos rfl]
              split at h3
              · cases h3
              · rename_i y6 A6 he6
                refine he _ _ _ _ _ _ _ _ R5 (E4.mono G5.pre) he6 fun ρ6 H6 v6 R6 G6 r6 => ?_
                split at h3
                · rename_i hz
                  have G26 := G3.trans (G4.trans (G5.trans G6))
                  obtain ⟨n6, d6⟩ := G26.out hDs nD
                  exact ⟨us, d6, by rw [← ra.len]; exact sz_lineL hz, ρ6, A6, acc ++ [y6], us ++ [v6], R6.other n6, up (G2.trans G26), n6, upd_same, (RelL.mono G26.pre ra).append (.cons r6 .nil), h3⟩
                · cases h3
    · cases h
  · cases h
theorem lcP_adds {s : Src} {mg : MG} {mt : MT} {me : ME} {ew : Sl} (hg : ∀ w, Adds (mg w)) (ht : Adds mt) (he : Adds me) : ∀ (m i : Nat) (acc accF : List W) (A A' : List O), lcP s mg mt me ew m i acc A = some (accF, A') → ∃ J, A' = A ++ J
  | 0, _, _, _, _, _, h => by
    unfold lcP at h
    cases h
  | m + 1, i, acc, accF, A, A', h => by
    unfold lcP at h
    split at h
    · cases h
    · cases h
      exact app0 _
    · rename_i w A1 hs
      have e1 := src_adds hs
      subst e1
      split at h
      · cases h
      · rename_i e2 A2 h2
        have q2 := hg w _ _ _ _ h2
        split at h
        · cases h
        · rename_i A3 h3
          exact appT q2 (appT (ht _ _ _ _ h3) (lcP_adds hg ht he m (i + 1) _ _ A3 A' h))
        · rename_i A3 h3
          split at h
          · cases h
          · rename_i y A4 h4
            split at h
            · exact appT q2 (appT (ht _ _ _ _ h3) (appT (he _ _ _ _ h4) (lcP_adds hg ht he m (i + 1) _ _ A4 A' h)))
            · cases h
theorem ad_lcP {mi : MI} {mg : MG} {mt : MT} {me : ME} {vs : List Nat} (hi : Adds mi) (hg : ∀ w, Adds (mg w)) (ht : Adds mt) (he : Adds me) : Adds (mLcP mi mg mt me vs) := by
  intro e A r A' h
  unfold mLcP at h
  split at h
  · rename_i s A1 h1
    split at h
    · rename_i acc A2 h2
      cases h
      exact appT (hi _ _ _ _ h1) (appT (lcP_adds hg ht he _ _ _ _ _ _ h2) ⟨_, rfl⟩)
    · cases h
  · cases h
end
end Sv

set_option Elab.async false
set_option linter.all false
set_option maxRecDepth 100000
set_option maxHeartbeats 16000000
namespace K01
open PySem L2 Sv
open PyProof.Rows (envOfC)
def top (i : Nat) : Stmt := PySem.Challenge.pw_swapkinds_k01_limits_and_errors.main.body.getD i (.Pass ⟨0, 0, 0, 0⟩)
def exNames : List (Str × Option Str) := [("InvalidText", some "given"), ("InvalidName", some "given"), ("InvalidKind", some "given"), ("InvalidMove", some "given"), ("InvalidNumber", some "given"), ("InvalidGrowth", some "given"), ("InvalidFact", some "given"), ("InvalidOrder", some "given"), ("InvalidWish", some "given"), ("InvalidIndex", some "given"), ("NotYard", some "given"), ("NotFacts", some "given"), ("InvalidKinds", some "index"), ("InvalidRows", some "index"), ("InvalidFacts", some "index"), ("InvalidPlan", some "index"), ("InvalidChanges", some "index"), ("InvalidWishes", some "index"), ("UnknownName", some "given"), ("InUse", some "index"), ("Unbalanced", some "given"), ("NotThere", some "given"), ("OtherKinds", some "given"), ("TooGreat", some "given"), ("Impossible", none), ("NothingToUndo", none), ("Broken", some "index")]
def baseNames : List Str := ["WrongValue", "WrongName", "NotPossible"]
def fnames : List Str := ["given", "index"]
def subN (n m : Nat) : Bool := if m < 27 then n == m else if m == 27 then decide (n < 18) else if m == 28 then decide (18 ≤ n ∧ n < 20) else decide (20 ≤ n)
def subB (n : Nat) (s : String) : Option Bool := if s = "ValueError" then some (decide (n < 18)) else if s = "LookupError" then some (decide (18 ≤ n ∧ n < 20)) else if s = "ArithmeticError" then some (decide (20 ≤ n)) else none
structure Txt (P : Program) (w : World) (κ : Kx) (mg : Str → Option Value) (base : Heap) : Prop where
  xm : ∀ (n : Nat) (x f : Str), exNames[n]? = some (x, some f) → ∃ C, κ.cl[n]? = some C ∧ mg x = some (.ref C) ∧ XMk P w κ.K mg base x C f
  xz : ∀ (n : Nat) (x : Str), exNames[n]? = some (x, none) → ∃ C, κ.cl[n]? = some C ∧ mg x = some (.ref C) ∧ XMk0 κ.K mg x C
  gc : ∀ (n : Nat) (x : Str), (exNames.map (·.1) ++ baseNames)[n]? = some x → ∃ C, κ.cl[n]? = some C ∧ mg x = some (.ref C)
  cls : ClsT κ 27 subN subB fnames
  n_len : mg "len" = none
  n_int : mg "int" = none
  n_abs : mg "abs" = none
  n_divmod : mg "divmod" = none
  n_isinstance : mg "isinstance" = none
  n_range : mg "range" = none
  n_repr : mg "repr" = none
  n_all : mg "all" = none
  n_max : mg "max" = none
  n_min : mg "min" = none
  n_ValueError : mg "ValueError" = none
  n_LookupError : mg "LookupError" = none
  n_ArithmeticError : mg "ArithmeticError" = none
section
variable {κ : Kx} {P : Program} {w : World} {mg : Str → Option Value} {base : Heap}
abbrev s_cast : Stmt := top 37
def m_cast : MS := (mSeq (mIfS (mB (mOp fGtI (mOp fIxL (mVar 0) (mC (.int 0))) (mC (.int 0)))) (mSeq (mAsg (mCB fDivmod (mCons (mOp fIxL (mVar 0) (mC (.int 0))) (mCons (mVar 1) mNil))) (gmTup 2 (gmCons (gmSub (mVar 0) (mC (.int 0))) (gmCons (gmName 3) gmNil)))) (mRet (mVar 3))) mNext) (mSeq (mAsg (mOp fAddI (mOp fIxL (mVar 0) (mC (.int 2))) (mC (.int 1))) (gmSub (mVar 0) (mC (.int 2)))) (mSeq (mSet 2 (mOp fModI (mCB fInt1 (mCons (mOp fAddI (mOp fAddI (mOp fMulI (mOp fIxL (mVar 0) (mC (.int 1))) (mOp fAddI (mC (.int 36809)) (mOp fMulI (mC (.int 2)) (mOp fIxL (mVar 0) (mC (.int 2)))))) (mOp fMulI (mC (.int 5303)) (mOp fIxL (mVar 0) (mC (.int 2))))) (mC (.int 7))) mNil)) (mC (.int 2147483629)))) (mSeq (mAsg (mOp fModI (mCB fInt1 (mCons (mOp fAddI (mOp fAddI (mOp fMulI (mVar 2) (mC (.int 45413))) (mOp fMulI (mC (.int 3)) (mOp fIxL (mVar 0) (mC (.int 2))))) (mC (.int 1))) mNil)) (mC (.int 2147483587))) (gmSub (mVar 0) (mC (.int 1)))) (mRet (mOp fModI (mCB fInt1 (mCons (mOp fDivI (mOp fIxL (mVar 0) (mC (.int 1))) (mC (.int 256))) mNil)) (mVar 1)))))))
theorem sc_cast : FnScope ["_law_pail", "_law_many", "_law_state", "_law_figure"] ["_law_pail", "_law_many"] (defScope s_cast) := ⟨rfl, rfl, rfl, by decide +kernel, rfl, by decide +kernel, by decide +kernel⟩
theorem ok_cast {f : Addr} {fd : FuncData} (D : DefT κ.K mg "_law_cast" s_cast ["_law_pail", "_law_many"] f fd) (T : Txt P w κ mg base) : FnOk P w κ.K mg base CX0 1 f fd ["_law_pail", "_law_many"] (spM κ 2 4 m_cast) := by
  have nd := sc_cast.nd
  refine okF_m (k := 0) D.F sc_cast fun cdv A outer s H E hr => ?_
  let sc : Scope := defScope s_cast
  exact ⟨_, (pss_cons (ps_if (pt_cmpR op_gt (pe_ix ix_list (pv 0) pe_int (fun _ _ => rfl)) pe_int (nomark _)) (pss_cons (ps_asg (pe_callB call_divmod (by rfl) T.n_divmod (by decide +kernel) (pa_cons (pe_ix ix_list (pv 0) pe_int (fun _ _ => rfl)) (pa_cons (pv 1) pa_nil))) (pg_tup rfl (pgs_cons (pg_sub (pv 0) pe_int set_list) (pgs_cons (pg_name (i := 3) nd rfl (by first | exact Or.inl rfl | exact Or.inr rfl)) pgs_nil)))) (pss_one (ps_ret (pv 3)))) pss_nil) (pss_cons (ps_asg (pe_op op_add (pe_ix ix_list (pv 0) pe_int (fun _ _ => rfl)) pe_int) (pg_sub (pv 0) pe_int set_list)) (pss_cons (ps_set (i := 2) nd rfl (by first | exact Or.inl rfl | exact Or.inr rfl) (pe_op op_mod (pe_callTy call_int1 (by rfl) T.n_int (by decide +kernel) (pa_cons (pe_op op_add (pe_op op_add (pe_op op_mul (pe_ix ix_list (pv 0) pe_int (fun _ _ => rfl)) (pe_op op_add pe_int (pe_op op_mul pe_int (pe_ix ix_list (pv 0) pe_int (fun _ _ => rfl))))) (pe_op op_mul pe_int (pe_ix ix_list (pv 0) pe_int (fun _ _ => rfl)))) pe_int) pa_nil)) pe_int)) (pss_cons (ps_asg (pe_op op_mod (pe_callTy call_int1 (by rfl) T.n_int (by decide +kernel) (pa_cons (pe_op op_add (pe_op op_add (pe_op op_mul (pv 2) pe_int) (pe_op op_mul pe_int (pe_ix ix_list (pv 0) pe_int (fun _ _ => rfl)))) pe_int) pa_nil)) pe_int) (pg_sub (pv 0) pe_int set_list)) (pss_one (ps_ret (pe_op op_mod (pe_callTy call_int1 (by rfl) T.n_int (by decide +kernel) (pa_cons (pe_op op_fdiv (pe_ix ix_list (pv 0) pe_int (fun _ _ => rfl)) pe_int) pa_nil)) (pv 1)))))))),
    (sim_seq (sim_ifS (sim_test (sim_op (sim_op (sim_var 0) (sim_c (w0 := (.int 0)) fun _ => rfl) sr_ixL) (sim_c (w0 := (.int 0)) fun _ => rfl) sr_gtI)) (sim_seq (sim_asg (sim_cb (sim_cons (sim_op (sim_var 0) (sim_c (w0 := (.int 0)) fun _ => rfl) sr_ixL) (sim_cons (sim_var 1) sim_nil)) sc_divmod) (sim_gTup (sim_gCons (sim_gSub (sim_var 0) (sim_c (w0 := (.int 0)) fun _ => rfl)) (sim_gCons (sim_gName 3) sim_gNil)))) (sim_ret (sim_var 3))) sim_next) (sim_seq (sim_asg (sim_op (sim_op (sim_var 0) (sim_c (w0 := (.int 2)) fun _ => rfl) sr_ixL) (sim_c (w0 := (.int 1)) fun _ => rfl) sr_addI) (sim_gSub (sim_var 0) (sim_c (w0 := (.int 2)) fun _ => rfl))) (sim_seq (sim_set 2 (sim_op (sim_cb (sim_cons (sim_op (sim_op (sim_op (sim_op (sim_var 0) (sim_c (w0 := (.int 1)) fun _ => rfl) sr_ixL) (sim_op (sim_c (w0 := (.int 36809)) fun _ => rfl) (sim_op (sim_c (w0 := (.int 2)) fun _ => rfl) (sim_op (sim_var 0) (sim_c (w0 := (.int 2)) fun _ => rfl) sr_ixL) sr_mulI) sr_addI) sr_mulI) (sim_op (sim_c (w0 := (.int 5303)) fun _ => rfl) (sim_op (sim_var 0) (sim_c (w0 := (.int 2)) fun _ => rfl) sr_ixL) sr_mulI) sr_addI) (sim_c (w0 := (.int 7)) fun _ => rfl) sr_addI) sim_nil) sc_int1) (sim_c (w0 := (.int 2147483629)) fun _ => rfl) sr_modI)) (sim_seq (sim_asg (sim_op (sim_cb (sim_cons (sim_op (sim_op (sim_op (sim_var 2) (sim_c (w0 := (.int 45413)) fun _ => rfl) sr_mulI) (sim_op (sim_c (w0 := (.int 3)) fun _ => rfl) (sim_op (sim_var 0) (sim_c (w0 := (.int 2)) fun _ => rfl) sr_ixL) sr_mulI) sr_addI) (sim_c (w0 := (.int 1)) fun _ => rfl) sr_addI) sim_nil) sc_int1) (sim_c (w0 := (.int 2147483587)) fun _ => rfl) sr_modI) (sim_gSub (sim_var 0) (sim_c (w0 := (.int 1)) fun _ => rfl))) (sim_ret (sim_op (sim_cb (sim_cons (sim_op (sim_op (sim_var 0) (sim_c (w0 := (.int 1)) fun _ => rfl) sr_ixL) (sim_c (w0 := (.int 256)) fun _ => rfl) sr_divI) sim_nil) sc_int1) (sim_var 1) sr_modI))))))⟩
abbrev s_any_of : Stmt := top 38
def m_any_of : MS := (mRet (mOp fIxL (mVar 1) (mCall 4 m_cast (mCons (mVar 0) (mCons (mCB fLen (mCons (mVar 1) mNil)) mNil)))))
theorem sc_any_of : FnScope ["_law_pail", "_law_some"] ["_law_pail", "_law_some"] (defScope s_any_of) := ⟨rfl, rfl, rfl, by decide +kernel, rfl, by decide +kernel, by decide +kernel⟩
theorem ok_any_of {f : Addr} {fd : FuncData} (D : DefT κ.K mg "_law_any_of" s_any_of ["_law_pail", "_law_some"] f fd) (T : Txt P w κ mg base) {f_cast : Addr} {fd_cast : FuncData} (D_cast : DefT κ.K mg "_law_cast" s_cast ["_law_pail", "_law_many"] f_cast fd_cast) (K_cast : FnOk P w κ.K mg base CX0 1 f_cast fd_cast ["_law_pail", "_law_many"] (spM κ 2 4 m_cast)) : FnOk P w κ.K mg base CX0 2 f fd ["_law_pail", "_law_some"] (spM κ 2 2 m_any_of) := by
  have nd := sc_any_of.nd
  refine okF_m (k := 1) D.F sc_any_of fun cdv A outer s H E hr => ?_
  let sc : Scope := defScope s_any_of
  exact ⟨_, (pss_one (ps_ret (pe_ix ix_list (pv 1) (pe_call K_cast (hr.mono (by decide)) (by rfl) D_cast.g D_cast.F.kp D_cast.b .nil pass0 (pa_cons (pv 0) (pa_cons (pe_callB call_len_seq (by rfl) T.n_len (by decide +kernel) (pa_cons (pv 1) pa_nil)) pa_nil))) (fun _ _ => rfl)))),
    (sim_ret (sim_op (sim_var 1) (sim_callN (sim_cons (sim_var 0) (sim_cons (sim_cb (sim_cons (sim_var 1) sim_nil) sc_len) sim_nil)) (argN_cons (argN_cons argN_nil))) sr_ixL))⟩
abbrev s_anything : Stmt := top 39
def m_anything : MS := (mSeq (mSet 1 (mLst (mCons (mC .non) (mCons (mC (.bl true)) (mCons (mC (.bl false)) (mCons (mC (.int 0)) (mCons (mC (.int 1)) (mCons (mUn fNeg (mC (.int 1))) (mCons (mC (.int 2)) (mCons (mOp fPowI (mC (.int 10)) (mC (.int 39))) (mCons (mC (.str "")) (mCons (mC (.str "a")) (mCons (mC (.str "kinds a b")) (mCons (mC (.str "kinds a b\na 0 0\nb 0 0")) (mCons (mTup mNil) (mCons (mTup (mCons (mC (.int 0)) mNil)) (mCons (mLst mNil) (mCons (mLst (mCons (mC (.int 1)) mNil)) mNil)))))))))))))))))) (mRet (mCall 2 m_any_of (mCons (mVar 0) (mCons (mOp fCat (mVar 1) (mLst (mCons mDnew (mCons (mDisp1 (Sum.inr "a") (.int 1)) (mCons (mTup (mCons (mC (.str "a")) (mCons (mC .non) mNil))) (mCons (mTup (mCons (mC (.str "a")) (mCons (mC (.str "b")) mNil))) (mCons (mTup (mCons (mTup (mCons (mC (.int 0)) (mCons (mC (.int 0)) mNil))) (mCons (mTup (mCons (mC (.int 0)) (mCons (mC (.int 0)) mNil))) mNil))) (mCons (mLst (mCons (mC (.str "a")) (mCons (mC (.str "b")) mNil))) (mCons (mTup (mCons (mC (.str "a")) (mCons (mC (.str "b")) (mCons (mC (.str "b")) (mCons (mC (.str "a")) mNil))))) mNil))))))))) mNil)))))
theorem sc_anything : FnScope ["_law_pail", "_law_menu"] ["_law_pail"] (defScope s_anything) := ⟨rfl, rfl, rfl, by decide +kernel, rfl, by decide +kernel, by decide +kernel⟩
theorem ok_anything {f : Addr} {fd : FuncData} (D : DefT κ.K mg "_law_anything" s_anything ["_law_pail"] f fd) (T : Txt P w κ mg base) {f_any_of : Addr} {fd_any_of : FuncData} (D_any_of : DefT κ.K mg "_law_any_of" s_any_of ["_law_pail", "_law_some"] f_any_of fd_any_of) (K_any_of : FnOk P w κ.K mg base CX0 2 f_any_of fd_any_of ["_law_pail", "_law_some"] (spM κ 2 2 m_any_of)) : FnOk P w κ.K mg base CX0 3 f fd ["_law_pail"] (spM κ 1 2 m_anything) := by
  have nd := sc_anything.nd
  refine okF_m (k := 2) D.F sc_anything fun cdv A outer s H E hr => ?_
  let sc : Scope := defScope s_anything
  exact ⟨_, (pss_cons (ps_set (i := 1) nd rfl (by first | exact Or.inl rfl | exact Or.inr rfl) (pe_lst (pa_cons pe_non (pa_cons pe_bl (pa_cons pe_bl (pa_cons pe_int (pa_cons pe_int (pa_cons (pe_un un_neg pe_int) (pa_cons pe_int (pa_cons (pe_op op_pow pe_int pe_int) (pa_cons pe_str (pa_cons pe_str (pa_cons pe_str (pa_cons pe_str (pa_cons (pe_tup pa_nil) (pa_cons (pe_tup (pa_cons pe_int pa_nil)) (pa_cons (pe_lst pa_nil) (pa_cons (pe_lst (pa_cons pe_int pa_nil)) pa_nil)))))))))))))))))) (pss_one (ps_ret (pe_call K_any_of (hr.mono (by decide)) (by rfl) D_any_of.g D_any_of.F.kp D_any_of.b .nil pass0 (pa_cons (pv 0) (pa_cons (pe_op op_cat (pv 1) (pe_lst (pa_cons pe_dnewK (pa_cons (pe_disp (pps_cons pe_str pe_int pps_nil) (by rfl) (by rfl) (fun z => by cases z) (by decide)) (pa_cons (pe_tup (pa_cons pe_str (pa_cons pe_non pa_nil))) (pa_cons (pe_tup (pa_cons pe_str (pa_cons pe_str pa_nil))) (pa_cons (pe_tup (pa_cons (pe_tup (pa_cons pe_int (pa_cons pe_int pa_nil))) (pa_cons (pe_tup (pa_cons pe_int (pa_cons pe_int pa_nil))) pa_nil))) (pa_cons (pe_lst (pa_cons pe_str (pa_cons pe_str pa_nil))) (pa_cons (pe_tup (pa_cons pe_str (pa_cons pe_str (pa_cons pe_str (pa_cons pe_str pa_nil))))) pa_nil))))))))) pa_nil)))))),
    (sim_seq (sim_set 1 (sim_lst (sim_cons (sim_c (w0 := .non) fun _ => rfl) (sim_cons (sim_c (w0 := (.bl true)) fun _ => rfl) (sim_cons (sim_c (w0 := (.bl false)) fun _ => rfl) (sim_cons (sim_c (w0 := (.int 0)) fun _ => rfl) (sim_cons (sim_c (w0 := (.int 1)) fun _ => rfl) (sim_cons (sim_neg (sim_c (w0 := (.int 1)) fun _ => rfl)) (sim_cons (sim_c (w0 := (.int 2)) fun _ => rfl) (sim_cons (sim_op (sim_c (w0 := (.int 10)) fun _ => rfl) (sim_c (w0 := (.int 39)) fun _ => rfl) sr_powI) (sim_cons (sim_c (w0 := (.str "")) fun _ => rfl) (sim_cons (sim_c (w0 := (.str "a")) fun _ => rfl) (sim_cons (sim_c (w0 := (.str "kinds a b")) fun _ => rfl) (sim_cons (sim_c (w0 := (.str "kinds a b\na 0 0\nb 0 0")) fun _ => rfl) (sim_cons (sim_tup sim_nil) (sim_cons (sim_tup (sim_cons (sim_c (w0 := (.int 0)) fun _ => rfl) sim_nil)) (sim_cons (sim_lst sim_nil) (sim_cons (sim_lst (sim_cons (sim_c (w0 := (.int 1)) fun _ => rfl) sim_nil)) sim_nil)))))))))))))))))) (sim_ret (sim_callN (sim_cons (sim_var 0) (sim_cons (sim_op (sim_var 1) (sim_lst (sim_cons sim_dnew (sim_cons (sim_disp1 (key := (Sum.inr "a")) (w0 := (.int 1)) fun _ => rfl) (sim_cons (sim_tup (sim_cons (sim_c (w0 := (.str "a")) fun _ => rfl) (sim_cons (sim_c (w0 := .non) fun _ => rfl) sim_nil))) (sim_cons (sim_tup (sim_cons (sim_c (w0 := (.str "a")) fun _ => rfl) (sim_cons (sim_c (w0 := (.str "b")) fun _ => rfl) sim_nil))) (sim_cons (sim_tup (sim_cons (sim_tup (sim_cons (sim_c (w0 := (.int 0)) fun _ => rfl) (sim_cons (sim_c (w0 := (.int 0)) fun _ => rfl) sim_nil))) (sim_cons (sim_tup (sim_cons (sim_c (w0 := (.int 0)) fun _ => rfl) (sim_cons (sim_c (w0 := (.int 0)) fun _ => rfl) sim_nil))) sim_nil))) (sim_cons (sim_lst (sim_cons (sim_c (w0 := (.str "a")) fun _ => rfl) (sim_cons (sim_c (w0 := (.str "b")) fun _ => rfl) sim_nil))) (sim_cons (sim_tup (sim_cons (sim_c (w0 := (.str "a")) fun _ => rfl) (sim_cons (sim_c (w0 := (.str "b")) fun _ => rfl) (sim_cons (sim_c (w0 := (.str "b")) fun _ => rfl) (sim_cons (sim_c (w0 := (.str "a")) fun _ => rfl) sim_nil))))) sim_nil)))))))) sr_cat) sim_nil)) (argN_cons (argN_cons argN_nil)))))⟩
abbrev s_placed : Stmt := top 40
def m_placed : MS := (mSeq (mSet 1 (mLst (mCons (mNewX 0 "given" (mCons (mVar 0) mNil)) (mCons (mNewX 1 "given" (mCons (mVar 0) mNil)) (mCons (mNewX 2 "given" (mCons (mVar 0) mNil)) (mCons (mNewX 3 "given" (mCons (mVar 0) mNil)) (mCons (mNewX 4 "given" (mCons (mVar 0) mNil)) mNil))))))) (mSeq (mSet 1 (mOp fCat (mVar 1) (mLst (mCons (mNewX 5 "given" (mCons (mVar 0) mNil)) (mCons (mNewX 6 "given" (mCons (mVar 0) mNil)) (mCons (mNewX 7 "given" (mCons (mVar 0) mNil)) (mCons (mNewX 8 "given" (mCons (mVar 0) mNil)) mNil))))))) (mSeq (mSet 1 (mOp fCat (mVar 1) (mLst (mCons (mNewX 9 "given" (mCons (mVar 0) mNil)) (mCons (mNewX 10 "given" (mCons (mVar 0) mNil)) (mCons (mNewX 11 "given" (mCons (mVar 0) mNil)) (mCons (mNewX 12 "index" (mCons (mVar 0) mNil)) (mCons (mNewX 13 "index" (mCons (mVar 0) mNil)) mNil)))))))) (mSeq (mSet 1 (mOp fCat (mVar 1) (mLst (mCons (mNewX 14 "index" (mCons (mVar 0) mNil)) (mCons (mNewX 15 "index" (mCons (mVar 0) mNil)) (mCons (mNewX 16 "index" (mCons (mVar 0) mNil)) (mCons (mNewX 17 "index" (mCons (mVar 0) mNil)) mNil))))))) (mSeq (mSet 1 (mOp fCat (mVar 1) (mLst (mCons (mNewX 18 "given" (mCons (mVar 0) mNil)) (mCons (mNewX 19 "index" (mCons (mVar 0) mNil)) (mCons (mNewX 20 "given" (mCons (mVar 0) mNil)) (mCons (mNewX 21 "given" (mCons (mVar 0) mNil)) (mCons (mNewX 22 "given" (mCons (mVar 0) mNil)) mNil)))))))) (mRet (mOp fCat (mVar 1) (mLst (mCons (mNewX 23 "given" (mCons (mVar 0) mNil)) (mCons (mNewZ 24) (mCons (mNewZ 25) (mCons (mNewX 26 "index" (mCons (mVar 0) mNil)) mNil))))))))))))
theorem sc_placed : FnScope ["_law_thing", "_law_found"] ["_law_thing"] (defScope s_placed) := ⟨rfl, rfl, rfl, by decide +kernel, rfl, by decide +kernel, by decide +kernel⟩
theorem ok_placed {f : Addr} {fd : FuncData} (D : DefT κ.K mg "_law_placed" s_placed ["_law_thing"] f fd) (T : Txt P w κ mg base) : FnOk P w κ.K mg base CX0 3 f fd ["_law_thing"] (spM κ 1 2 m_placed) := by
  have nd := sc_placed.nd
  obtain ⟨C0, hC0, g0, M0⟩ := T.xm 0 "InvalidText" "given" rfl
  obtain ⟨C1, hC1, g1, M1⟩ := T.xm 1 "InvalidName" "given" rfl
  obtain ⟨C2, hC2, g2, M2⟩ := T.xm 2 "InvalidKind" "given" rfl
  obtain ⟨C3, hC3, g3, M3⟩ := T.xm 3 "InvalidMove" "given" rfl
  obtain ⟨C4, hC4, g4, M4⟩ := T.xm 4 "InvalidNumber" "given" rfl
  obtain ⟨C5, hC5, g5, M5⟩ := T.xm 5 "InvalidGrowth" "given" rfl
  obtain ⟨C6, hC6, g6, M6⟩ := T.xm 6 "InvalidFact" "given" rfl
  obtain ⟨C7, hC7, g7, M7⟩ := T.xm 7 "InvalidOrder" "given" rfl
  obtain ⟨C8, hC8, g8, M8⟩ := T.xm 8 "InvalidWish" "given" rfl
  obtain ⟨C9, hC9, g9, M9⟩ := T.xm 9 "InvalidIndex" "given" rfl
  obtain ⟨C10, hC10, g10, M10⟩ := T.xm 10 "NotYard" "given" rfl
  obtain ⟨C11, hC11, g11, M11⟩ := T.xm 11 "NotFacts" "given" rfl
  obtain ⟨C12, hC12, g12, M12⟩ := T.xm 12 "InvalidKinds" "index" rfl
  obtain ⟨C13, hC13, g13, M13⟩ := T.xm 13 "InvalidRows" "index" rfl
  obtain ⟨C14, hC14, g14, M14⟩ := T.xm 14 "InvalidFacts" "index" rfl
  obtain ⟨C15, hC15, g15, M15⟩ := T.xm 15 "InvalidPlan" "index" rfl
  obtain ⟨C16, hC16, g16, M16⟩ := T.xm 16 "InvalidChanges" "index" rfl
  obtain ⟨C17, hC17, g17, M17⟩ := T.xm 17 "InvalidWishes" "index" rfl
  obtain ⟨C18, hC18, g18, M18⟩ := T.xm 18 "UnknownName" "given" rfl
  obtain ⟨C19, hC19, g19, M19⟩ := T.xm 19 "InUse" "index" rfl
  obtain ⟨C20, hC20, g20, M20⟩ := T.xm 20 "Unbalanced" "given" rfl
  obtain ⟨C21, hC21, g21, M21⟩ := T.xm 21 "NotThere" "given" rfl
  obtain ⟨C22, hC22, g22, M22⟩ := T.xm 22 "OtherKinds" "given" rfl
  obtain ⟨C23, hC23, g23, M23⟩ := T.xm 23 "TooGreat" "given" rfl
  obtain ⟨C24, hC24, g24, M24⟩ := T.xz 24 "Impossible" rfl
  obtain ⟨C25, hC25, g25, M25⟩ := T.xz 25 "NothingToUndo" rfl
  obtain ⟨C26, hC26, g26, M26⟩ := T.xm 26 "Broken" "index" rfl
  refine okF_m (k := 2) D.F sc_placed fun cdv A outer s H E hr => ?_
  let sc : Scope := defScope s_placed
  exact ⟨_, (pss_cons (ps_set (i := 1) nd rfl (by first | exact Or.inl rfl | exact Or.inr rfl) (pe_lst (pa_cons (pe_newX M0 (hr.mono (by decide)) (pa_cons (pv 0) pa_nil)) (pa_cons (pe_newX M1 (hr.mono (by decide)) (pa_cons (pv 0) pa_nil)) (pa_cons (pe_newX M2 (hr.mono (by decide)) (pa_cons (pv 0) pa_nil)) (pa_cons (pe_newX M3 (hr.mono (by decide)) (pa_cons (pv 0) pa_nil)) (pa_cons (pe_newX M4 (hr.mono (by decide)) (pa_cons (pv 0) pa_nil)) pa_nil))))))) (pss_cons (ps_set (i := 1) nd rfl (by first | exact Or.inl rfl | exact Or.inr rfl) (pe_op op_cat (pv 1) (pe_lst (pa_cons (pe_newX M5 (hr.mono (by decide)) (pa_cons (pv 0) pa_nil)) (pa_cons (pe_newX M6 (hr.mono (by decide)) (pa_cons (pv 0) pa_nil)) (pa_cons (pe_newX M7 (hr.mono (by decide)) (pa_cons (pv 0) pa_nil)) (pa_cons (pe_newX M8 (hr.mono (by decide)) (pa_cons (pv 0) pa_nil)) pa_nil))))))) (pss_cons (ps_set (i := 1) nd rfl (by first | exact Or.inl rfl | exact Or.inr rfl) (pe_op op_cat (pv 1) (pe_lst (pa_cons (pe_newX M9 (hr.mono (by decide)) (pa_cons (pv 0) pa_nil)) (pa_cons (pe_newX M10 (hr.mono (by decide)) (pa_cons (pv 0) pa_nil)) (pa_cons (pe_newX M11 (hr.mono (by decide)) (pa_cons (pv 0) pa_nil)) (pa_cons (pe_newX M12 (hr.mono (by decide)) (pa_cons (pv 0) pa_nil)) (pa_cons (pe_newX M13 (hr.mono (by decide)) (pa_cons (pv 0) pa_nil)) pa_nil)))))))) (pss_cons (ps_set (i := 1) nd rfl (by first | exact Or.inl rfl | exact Or.inr rfl) (pe_op op_cat (pv 1) (pe_lst (pa_cons (pe_newX M14 (hr.mono (by decide)) (pa_cons (pv 0) pa_nil)) (pa_cons (pe_newX M15 (hr.mono (by decide)) (pa_cons (pv 0) pa_nil)) (pa_cons (pe_newX M16 (hr.mono (by decide)) (pa_cons (pv 0) pa_nil)) (pa_cons (pe_newX M17 (hr.mono (by decide)) (pa_cons (pv 0) pa_nil)) pa_nil))))))) (pss_cons (ps_set (i := 1) nd rfl (by first | exact Or.inl rfl | exact Or.inr rfl) (pe_op op_cat (pv 1) (pe_lst (pa_cons (pe_newX M18 (hr.mono (by decide)) (pa_cons (pv 0) pa_nil)) (pa_cons (pe_newX M19 (hr.mono (by decide)) (pa_cons (pv 0) pa_nil)) (pa_cons (pe_newX M20 (hr.mono (by decide)) (pa_cons (pv 0) pa_nil)) (pa_cons (pe_newX M21 (hr.mono (by decide)) (pa_cons (pv 0) pa_nil)) (pa_cons (pe_newX M22 (hr.mono (by decide)) (pa_cons (pv 0) pa_nil)) pa_nil)))))))) (pss_one (ps_ret (pe_op op_cat (pv 1) (pe_lst (pa_cons (pe_newX M23 (hr.mono (by decide)) (pa_cons (pv 0) pa_nil)) (pa_cons (pe_newZ M24) (pa_cons (pe_newZ M25) (pa_cons (pe_newX M26 (hr.mono (by decide)) (pa_cons (pv 0) pa_nil)) pa_nil))))))))))))),
    (sim_seq (sim_set 1 (sim_lst (sim_cons (sim_newX (f := "given") hC0 (sim_cons (sim_var 0) sim_nil)) (sim_cons (sim_newX (f := "given") hC1 (sim_cons (sim_var 0) sim_nil)) (sim_cons (sim_newX (f := "given") hC2 (sim_cons (sim_var 0) sim_nil)) (sim_cons (sim_newX (f := "given") hC3 (sim_cons (sim_var 0) sim_nil)) (sim_cons (sim_newX (f := "given") hC4 (sim_cons (sim_var 0) sim_nil)) sim_nil))))))) (sim_seq (sim_set 1 (sim_op (sim_var 1) (sim_lst (sim_cons (sim_newX (f := "given") hC5 (sim_cons (sim_var 0) sim_nil)) (sim_cons (sim_newX (f := "given") hC6 (sim_cons (sim_var 0) sim_nil)) (sim_cons (sim_newX (f := "given") hC7 (sim_cons (sim_var 0) sim_nil)) (sim_cons (sim_newX (f := "given") hC8 (sim_cons (sim_var 0) sim_nil)) sim_nil))))) sr_cat)) (sim_seq (sim_set 1 (sim_op (sim_var 1) (sim_lst (sim_cons (sim_newX (f := "given") hC9 (sim_cons (sim_var 0) sim_nil)) (sim_cons (sim_newX (f := "given") hC10 (sim_cons (sim_var 0) sim_nil)) (sim_cons (sim_newX (f := "given") hC11 (sim_cons (sim_var 0) sim_nil)) (sim_cons (sim_newX (f := "index") hC12 (sim_cons (sim_var 0) sim_nil)) (sim_cons (sim_newX (f := "index") hC13 (sim_cons (sim_var 0) sim_nil)) sim_nil)))))) sr_cat)) (sim_seq (sim_set 1 (sim_op (sim_var 1) (sim_lst (sim_cons (sim_newX (f := "index") hC14 (sim_cons (sim_var 0) sim_nil)) (sim_cons (sim_newX (f := "index") hC15 (sim_cons (sim_var 0) sim_nil)) (sim_cons (sim_newX (f := "index") hC16 (sim_cons (sim_var 0) sim_nil)) (sim_cons (sim_newX (f := "index") hC17 (sim_cons (sim_var 0) sim_nil)) sim_nil))))) sr_cat)) (sim_seq (sim_set 1 (sim_op (sim_var 1) (sim_lst (sim_cons (sim_newX (f := "given") hC18 (sim_cons (sim_var 0) sim_nil)) (sim_cons (sim_newX (f := "index") hC19 (sim_cons (sim_var 0) sim_nil)) (sim_cons (sim_newX (f := "given") hC20 (sim_cons (sim_var 0) sim_nil)) (sim_cons (sim_newX (f := "given") hC21 (sim_cons (sim_var 0) sim_nil)) (sim_cons (sim_newX (f := "given") hC22 (sim_cons (sim_var 0) sim_nil)) sim_nil)))))) sr_cat)) (sim_ret (sim_op (sim_var 1) (sim_lst (sim_cons (sim_newX (f := "given") hC23 (sim_cons (sim_var 0) sim_nil)) (sim_cons (sim_newZ hC24) (sim_cons (sim_newZ hC25) (sim_cons (sim_newX (f := "index") hC26 (sim_cons (sim_var 0) sim_nil)) sim_nil))))) sr_cat)))))))⟩
abbrev s_named : Stmt := top 41
def m_named : MS := (mSeq (mSet 1 (mLst (mCons (mNewX 0 "given" (mCons (mVar 0) mNil)) (mCons (mNewX 1 "given" (mCons (mVar 0) mNil)) (mCons (mNewX 2 "given" (mCons (mVar 0) mNil)) (mCons (mNewX 3 "given" (mCons (mVar 0) mNil)) mNil)))))) (mSeq (mSet 1 (mOp fCat (mVar 1) (mLst (mCons (mNewX 4 "given" (mCons (mVar 0) mNil)) (mCons (mNewX 5 "given" (mCons (mVar 0) mNil)) (mCons (mNewX 6 "given" (mCons (mVar 0) mNil)) mNil)))))) (mSeq (mSet 1 (mOp fCat (mVar 1) (mLst (mCons (mNewX 7 "given" (mCons (mVar 0) mNil)) (mCons (mNewX 8 "given" (mCons (mVar 0) mNil)) (mCons (mNewX 9 "given" (mCons (mVar 0) mNil)) mNil)))))) (mSeq (mSet 1 (mOp fCat (mVar 1) (mLst (mCons (mNewX 10 "given" (mCons (mVar 0) mNil)) (mCons (mNewX 11 "given" (mCons (mVar 0) mNil)) (mCons (mNewX 12 "index" (mCons (mVar 0) mNil)) (mCons (mNewX 13 "index" (mCons (mVar 0) mNil)) mNil))))))) (mSeq (mSet 1 (mOp fCat (mVar 1) (mLst (mCons (mNewX 14 "index" (mCons (mVar 0) mNil)) (mCons (mNewX 15 "index" (mCons (mVar 0) mNil)) (mCons (mNewX 16 "index" (mCons (mVar 0) mNil)) mNil)))))) (mSeq (mSet 1 (mOp fCat (mVar 1) (mLst (mCons (mNewX 17 "index" (mCons (mVar 0) mNil)) (mCons (mNewX 18 "given" (mCons (mVar 0) mNil)) (mCons (mNewX 19 "index" (mCons (mVar 0) mNil)) (mCons (mNewX 20 "given" (mCons (mVar 0) mNil)) mNil))))))) (mSeq (mSet 1 (mOp fCat (mVar 1) (mLst (mCons (mNewX 21 "given" (mCons (mVar 0) mNil)) (mCons (mNewX 22 "given" (mCons (mVar 0) mNil)) (mCons (mNewX 23 "given" (mCons (mVar 0) mNil)) (mCons (mNewZ 24) mNil))))))) (mRet (mOp fCat (mVar 1) (mLst (mCons (mNewZ 25) (mCons (mNewX 26 "index" (mCons (mVar 0) mNil)) mNil))))))))))))
theorem sc_named : FnScope ["_law_thing", "_law_found"] ["_law_thing"] (defScope s_named) := ⟨rfl, rfl, rfl, by decide +kernel, rfl, by decide +kernel, by decide +kernel⟩
theorem ok_named {f : Addr} {fd : FuncData} (D : DefT κ.K mg "_law_named" s_named ["_law_thing"] f fd) (T : Txt P w κ mg base) : FnOk P w κ.K mg base CX0 3 f fd ["_law_thing"] (spM κ 1 2 m_named) := by
  have nd := sc_named.nd
  obtain ⟨C0, hC0, g0, M0⟩ := T.xm 0 "InvalidText" "given" rfl
  obtain ⟨C1, hC1, g1, M1⟩ := T.xm 1 "InvalidName" "given" rfl
  obtain ⟨C2, hC2, g2, M2⟩ := T.xm 2 "InvalidKind" "given" rfl
  obtain ⟨C3, hC3, g3, M3⟩ := T.xm 3 "InvalidMove" "given" rfl
  obtain ⟨C4, hC4, g4, M4⟩ := T.xm 4 "InvalidNumber" "given" rfl
  obtain ⟨C5, hC5, g5, M5⟩ := T.xm 5 "InvalidGrowth" "given" rfl
  obtain ⟨C6, hC6, g6, M6⟩ := T.xm 6 "InvalidFact" "given" rfl
  obtain ⟨C7, hC7, g7, M7⟩ := T.xm 7 "InvalidOrder" "given" rfl
  obtain ⟨C8, hC8, g8, M8⟩ := T.xm 8 "InvalidWish" "given" rfl
  obtain ⟨C9, hC9, g9, M9⟩ := T.xm 9 "InvalidIndex" "given" rfl
  obtain ⟨C10, hC10, g10, M10⟩ := T.xm 10 "NotYard" "given" rfl
  obtain ⟨C11, hC11, g11, M11⟩ := T.xm 11 "NotFacts" "given" rfl
  obtain ⟨C12, hC12, g12, M12⟩ := T.xm 12 "InvalidKinds" "index" rfl
  obtain ⟨C13, hC13, g13, M13⟩ := T.xm 13 "InvalidRows" "index" rfl
  obtain ⟨C14, hC14, g14, M14⟩ := T.xm 14 "InvalidFacts" "index" rfl
  obtain ⟨C15, hC15, g15, M15⟩ := T.xm 15 "InvalidPlan" "index" rfl
  obtain ⟨C16, hC16, g16, M16⟩ := T.xm 16 "InvalidChanges" "index" rfl
  obtain ⟨C17, hC17, g17, M17⟩ := T.xm 17 "InvalidWishes" "index" rfl
  obtain ⟨C18, hC18, g18, M18⟩ := T.xm 18 "UnknownName" "given" rfl
  obtain ⟨C19, hC19, g19, M19⟩ := T.xm 19 "InUse" "index" rfl
  obtain ⟨C20, hC20, g20, M20⟩ := T.xm 20 "Unbalanced" "given" rfl
  obtain ⟨C21, hC21, g21, M21⟩ := T.xm 21 "NotThere" "given" rfl
  obtain ⟨C22, hC22, g22, M22⟩ := T.xm 22 "OtherKinds" "given" rfl
  obtain ⟨C23, hC23, g23, M23⟩ := T.xm 23 "TooGreat" "given" rfl
  obtain ⟨C24, hC24, g24, M24⟩ := T.xz 24 "Impossible" rfl
  obtain ⟨C25, hC25, g25, M25⟩ := T.xz 25 "NothingToUndo" rfl
  obtain ⟨C26, hC26, g26, M26⟩ := T.xm 26 "Broken" "index" rfl
  refine okF_m (k := 2) D.F sc_named fun cdv A outer s H E hr => ?_
  let sc : Scope := defScope s_named
  exact ⟨_, (pss_cons (ps_set (i := 1) nd rfl (by first | exact Or.inl rfl | exact Or.inr rfl) (pe_lst (pa_cons (pe_newXk M0 (hr.mono (by decide)) (pk_cons (pv 0) pk_nil)) (pa_cons (pe_newXk M1 (hr.mono (by decide)) (pk_cons (pv 0) pk_nil)) (pa_cons (pe_newXk M2 (hr.mono (by decide)) (pk_cons (pv 0) pk_nil)) (pa_cons (pe_newXk M3 (hr.mono (by decide)) (pk_cons (pv 0) pk_nil)) pa_nil)))))) (pss_cons (ps_set (i := 1) nd rfl (by first | exact Or.inl rfl | exact Or.inr rfl) (pe_op op_cat (pv 1) (pe_lst (pa_cons (pe_newXk M4 (hr.mono (by decide)) (pk_cons (pv 0) pk_nil)) (pa_cons (pe_newXk M5 (hr.mono (by decide)) (pk_cons (pv 0) pk_nil)) (pa_cons (pe_newXk M6 (hr.mono (by decide)) (pk_cons (pv 0) pk_nil)) pa_nil)))))) (pss_cons (ps_set (i := 1) nd rfl (by first | exact Or.inl rfl | exact Or.inr rfl) (pe_op op_cat (pv 1) (pe_lst (pa_cons (pe_newXk M7 (hr.mono (by decide)) (pk_cons (pv 0) pk_nil)) (pa_cons (pe_newXk M8 (hr.mono (by decide)) (pk_cons (pv 0) pk_nil)) (pa_cons (pe_newXk M9 (hr.mono (by decide)) (pk_cons (pv 0) pk_nil)) pa_nil)))))) (pss_cons (ps_set (i := 1) nd rfl (by first | exact Or.inl rfl | exact Or.inr rfl) (pe_op op_cat (pv 1) (pe_lst (pa_cons (pe_newXk M10 (hr.mono (by decide)) (pk_cons (pv 0) pk_nil)) (pa_cons (pe_newXk M11 (hr.mono (by decide)) (pk_cons (pv 0) pk_nil)) (pa_cons (pe_newXk M12 (hr.mono (by decide)) (pk_cons (pv 0) pk_nil)) (pa_cons (pe_newXk M13 (hr.mono (by decide)) (pk_cons (pv 0) pk_nil)) pa_nil))))))) (pss_cons (ps_set (i := 1) nd rfl (by first | exact Or.inl rfl | exact Or.inr rfl) (pe_op op_cat (pv 1) (pe_lst (pa_cons (pe_newXk M14 (hr.mono (by decide)) (pk_cons (pv 0) pk_nil)) (pa_cons (pe_newXk M15 (hr.mono (by decide)) (pk_cons (pv 0) pk_nil)) (pa_cons (pe_newXk M16 (hr.mono (by decide)) (pk_cons (pv 0) pk_nil)) pa_nil)))))) (pss_cons (ps_set (i := 1) nd rfl (by first | exact Or.inl rfl | exact Or.inr rfl) (pe_op op_cat (pv 1) (pe_lst (pa_cons (pe_newXk M17 (hr.mono (by decide)) (pk_cons (pv 0) pk_nil)) (pa_cons (pe_newXk M18 (hr.mono (by decide)) (pk_cons (pv 0) pk_nil)) (pa_cons (pe_newXk M19 (hr.mono (by decide)) (pk_cons (pv 0) pk_nil)) (pa_cons (pe_newXk M20 (hr.mono (by decide)) (pk_cons (pv 0) pk_nil)) pa_nil))))))) (pss_cons (ps_set (i := 1) nd rfl (by first | exact Or.inl rfl | exact Or.inr rfl) (pe_op op_cat (pv 1) (pe_lst (pa_cons (pe_newXk M21 (hr.mono (by decide)) (pk_cons (pv 0) pk_nil)) (pa_cons (pe_newXk M22 (hr.mono (by decide)) (pk_cons (pv 0) pk_nil)) (pa_cons (pe_newXk M23 (hr.mono (by decide)) (pk_cons (pv 0) pk_nil)) (pa_cons (pe_newZ M24) pa_nil))))))) (pss_one (ps_ret (pe_op op_cat (pv 1) (pe_lst (pa_cons (pe_newZ M25) (pa_cons (pe_newXk M26 (hr.mono (by decide)) (pk_cons (pv 0) pk_nil)) pa_nil))))))))))))),
    (sim_seq (sim_set 1 (sim_lst (sim_cons (sim_newX (f := "given") hC0 (sim_cons (sim_var 0) sim_nil)) (sim_cons (sim_newX (f := "given") hC1 (sim_cons (sim_var 0) sim_nil)) (sim_cons (sim_newX (f := "given") hC2 (sim_cons (sim_var 0) sim_nil)) (sim_cons (sim_newX (f := "given") hC3 (sim_cons (sim_var 0) sim_nil)) sim_nil)))))) (sim_seq (sim_set 1 (sim_op (sim_var 1) (sim_lst (sim_cons (sim_newX (f := "given") hC4 (sim_cons (sim_var 0) sim_nil)) (sim_cons (sim_newX (f := "given") hC5 (sim_cons (sim_var 0) sim_nil)) (sim_cons (sim_newX (f := "given") hC6 (sim_cons (sim_var 0) sim_nil)) sim_nil)))) sr_cat)) (sim_seq (sim_set 1 (sim_op (sim_var 1) (sim_lst (sim_cons (sim_newX (f := "given") hC7 (sim_cons (sim_var 0) sim_nil)) (sim_cons (sim_newX (f := "given") hC8 (sim_cons (sim_var 0) sim_nil)) (sim_cons (sim_newX (f := "given") hC9 (sim_cons (sim_var 0) sim_nil)) sim_nil)))) sr_cat)) (sim_seq (sim_set 1 (sim_op (sim_var 1) (sim_lst (sim_cons (sim_newX (f := "given") hC10 (sim_cons (sim_var 0) sim_nil)) (sim_cons (sim_newX (f := "given") hC11 (sim_cons (sim_var 0) sim_nil)) (sim_cons (sim_newX (f := "index") hC12 (sim_cons (sim_var 0) sim_nil)) (sim_cons (sim_newX (f := "index") hC13 (sim_cons (sim_var 0) sim_nil)) sim_nil))))) sr_cat)) (sim_seq (sim_set 1 (sim_op (sim_var 1) (sim_lst (sim_cons (sim_newX (f := "index") hC14 (sim_cons (sim_var 0) sim_nil)) (sim_cons (sim_newX (f := "index") hC15 (sim_cons (sim_var 0) sim_nil)) (sim_cons (sim_newX (f := "index") hC16 (sim_cons (sim_var 0) sim_nil)) sim_nil)))) sr_cat)) (sim_seq (sim_set 1 (sim_op (sim_var 1) (sim_lst (sim_cons (sim_newX (f := "index") hC17 (sim_cons (sim_var 0) sim_nil)) (sim_cons (sim_newX (f := "given") hC18 (sim_cons (sim_var 0) sim_nil)) (sim_cons (sim_newX (f := "index") hC19 (sim_cons (sim_var 0) sim_nil)) (sim_cons (sim_newX (f := "given") hC20 (sim_cons (sim_var 0) sim_nil)) sim_nil))))) sr_cat)) (sim_seq (sim_set 1 (sim_op (sim_var 1) (sim_lst (sim_cons (sim_newX (f := "given") hC21 (sim_cons (sim_var 0) sim_nil)) (sim_cons (sim_newX (f := "given") hC22 (sim_cons (sim_var 0) sim_nil)) (sim_cons (sim_newX (f := "given") hC23 (sim_cons (sim_var 0) sim_nil)) (sim_cons (sim_newZ hC24) sim_nil))))) sr_cat)) (sim_ret (sim_op (sim_var 1) (sim_lst (sim_cons (sim_newZ hC25) (sim_cons (sim_newX (f := "index") hC26 (sim_cons (sim_var 0) sim_nil)) sim_nil))) sr_cat)))))))))⟩
abbrev s_flags : Stmt := top 42
def m_flags : MS := (mSeq (mSet 1 (mLst (mCons (mCB (fIsX 27 subN subB) (mCons (mVar 0) (mCons (mC (.cl 0)) mNil))) (mCons (mCB (fIsX 27 subN subB) (mCons (mVar 0) (mCons (mC (.cl 1)) mNil))) (mCons (mCB (fIsX 27 subN subB) (mCons (mVar 0) (mCons (mC (.cl 2)) mNil))) mNil))))) (mSeq (mSet 1 (mOp fCat (mVar 1) (mLst (mCons (mCB (fIsX 27 subN subB) (mCons (mVar 0) (mCons (mC (.cl 3)) mNil))) (mCons (mCB (fIsX 27 subN subB) (mCons (mVar 0) (mCons (mC (.cl 4)) mNil))) (mCons (mCB (fIsX 27 subN subB) (mCons (mVar 0) (mCons (mC (.cl 5)) mNil))) mNil)))))) (mSeq (mSet 1 (mOp fCat (mVar 1) (mLst (mCons (mCB (fIsX 27 subN subB) (mCons (mVar 0) (mCons (mC (.cl 6)) mNil))) (mCons (mCB (fIsX 27 subN subB) (mCons (mVar 0) (mCons (mC (.cl 7)) mNil))) (mCons (mCB (fIsX 27 subN subB) (mCons (mVar 0) (mCons (mC (.cl 8)) mNil))) mNil)))))) (mSeq (mSet 1 (mOp fCat (mVar 1) (mLst (mCons (mCB (fIsX 27 subN subB) (mCons (mVar 0) (mCons (mC (.cl 9)) mNil))) (mCons (mCB (fIsX 27 subN subB) (mCons (mVar 0) (mCons (mC (.cl 10)) mNil))) (mCons (mCB (fIsX 27 subN subB) (mCons (mVar 0) (mCons (mC (.cl 11)) mNil))) mNil)))))) (mSeq (mSet 1 (mOp fCat (mVar 1) (mLst (mCons (mCB (fIsX 27 subN subB) (mCons (mVar 0) (mCons (mC (.cl 12)) mNil))) (mCons (mCB (fIsX 27 subN subB) (mCons (mVar 0) (mCons (mC (.cl 13)) mNil))) (mCons (mCB (fIsX 27 subN subB) (mCons (mVar 0) (mCons (mC (.cl 14)) mNil))) mNil)))))) (mSeq (mSet 1 (mOp fCat (mVar 1) (mLst (mCons (mCB (fIsX 27 subN subB) (mCons (mVar 0) (mCons (mC (.cl 15)) mNil))) (mCons (mCB (fIsX 27 subN subB) (mCons (mVar 0) (mCons (mC (.cl 16)) mNil))) (mCons (mCB (fIsX 27 subN subB) (mCons (mVar 0) (mCons (mC (.cl 17)) mNil))) mNil)))))) (mSeq (mSet 1 (mOp fCat (mVar 1) (mLst (mCons (mCB (fIsX 27 subN subB) (mCons (mVar 0) (mCons (mC (.cl 18)) mNil))) (mCons (mCB (fIsX 27 subN subB) (mCons (mVar 0) (mCons (mC (.cl 19)) mNil))) (mCons (mCB (fIsX 27 subN subB) (mCons (mVar 0) (mCons (mC (.cl 20)) mNil))) mNil)))))) (mSeq (mSet 1 (mOp fCat (mVar 1) (mLst (mCons (mCB (fIsX 27 subN subB) (mCons (mVar 0) (mCons (mC (.cl 21)) mNil))) (mCons (mCB (fIsX 27 subN subB) (mCons (mVar 0) (mCons (mC (.cl 22)) mNil))) (mCons (mCB (fIsX 27 subN subB) (mCons (mVar 0) (mCons (mC (.cl 23)) mNil))) mNil)))))) (mRet (mOp fCat (mVar 1) (mLst (mCons (mCB (fIsX 27 subN subB) (mCons (mVar 0) (mCons (mC (.cl 24)) mNil))) (mCons (mCB (fIsX 27 subN subB) (mCons (mVar 0) (mCons (mC (.cl 25)) mNil))) (mCons (mCB (fIsX 27 subN subB) (mCons (mVar 0) (mCons (mC (.cl 26)) mNil))) mNil))))))))))))))
theorem ad_flags : Adds m_flags := (ad_seq (ad_set (ad_lst (ad_cons (ad_cb (ad_cons (ad_var _) (ad_cons (ad_c _) ad_nil)) ad_isX) (ad_cons (ad_cb (ad_cons (ad_var _) (ad_cons (ad_c _) ad_nil)) ad_isX) (ad_cons (ad_cb (ad_cons (ad_var _) (ad_cons (ad_c _) ad_nil)) ad_isX) ad_nil))))) (ad_seq (ad_set (ad_op (ad_var _) (ad_lst (ad_cons (ad_cb (ad_cons (ad_var _) (ad_cons (ad_c _) ad_nil)) ad_isX) (ad_cons (ad_cb (ad_cons (ad_var _) (ad_cons (ad_c _) ad_nil)) ad_isX) (ad_cons (ad_cb (ad_cons (ad_var _) (ad_cons (ad_c _) ad_nil)) ad_isX) ad_nil)))) ad2_cat)) (ad_seq (ad_set (ad_op (ad_var _) (ad_lst (ad_cons (ad_cb (ad_cons (ad_var _) (ad_cons (ad_c _) ad_nil)) ad_isX) (ad_cons (ad_cb (ad_cons (ad_var _) (ad_cons (ad_c _) ad_nil)) ad_isX) (ad_cons (ad_cb (ad_cons (ad_var _) (ad_cons (ad_c _) ad_nil)) ad_isX) ad_nil)))) ad2_cat)) (ad_seq (ad_set (ad_op (ad_var _) (ad_lst (ad_cons (ad_cb (ad_cons (ad_var _) (ad_cons (ad_c _) ad_nil)) ad_isX) (ad_cons (ad_cb (ad_cons (ad_var _) (ad_cons (ad_c _) ad_nil)) ad_isX) (ad_cons (ad_cb (ad_cons (ad_var _) (ad_cons (ad_c _) ad_nil)) ad_isX) ad_nil)))) ad2_cat)) (ad_seq (ad_set (ad_op (ad_var _) (ad_lst (ad_cons (ad_cb (ad_cons (ad_var _) (ad_cons (ad_c _) ad_nil)) ad_isX) (ad_cons (ad_cb (ad_cons (ad_var _) (ad_cons (ad_c _) ad_nil)) ad_isX) (ad_cons (ad_cb (ad_cons (ad_var _) (ad_cons (ad_c _) ad_nil)) ad_isX) ad_nil)))) ad2_cat)) (ad_seq (ad_set (ad_op (ad_var _) (ad_lst (ad_cons (ad_cb (ad_cons (ad_var _) (ad_cons (ad_c _) ad_nil)) ad_isX) (ad_cons (ad_cb (ad_cons (ad_var _) (ad_cons (ad_c _) ad_nil)) ad_isX) (ad_cons (ad_cb (ad_cons (ad_var _) (ad_cons (ad_c _) ad_nil)) ad_isX) ad_nil)))) ad2_cat)) (ad_seq (ad_set (ad_op (ad_var _) (ad_lst (ad_cons (ad_cb (ad_cons (ad_var _) (ad_cons (ad_c _) ad_nil)) ad_isX) (ad_cons (ad_cb (ad_cons (ad_var _) (ad_cons (ad_c _) ad_nil)) ad_isX) (ad_cons (ad_cb (ad_cons (ad_var _) (ad_cons (ad_c _) ad_nil)) ad_isX) ad_nil)))) ad2_cat)) (ad_seq (ad_set (ad_op (ad_var _) (ad_lst (ad_cons (ad_cb (ad_cons (ad_var _) (ad_cons (ad_c _) ad_nil)) ad_isX) (ad_cons (ad_cb (ad_cons (ad_var _) (ad_cons (ad_c _) ad_nil)) ad_isX) (ad_cons (ad_cb (ad_cons (ad_var _) (ad_cons (ad_c _) ad_nil)) ad_isX) ad_nil)))) ad2_cat)) (ad_ret (ad_op (ad_var _) (ad_lst (ad_cons (ad_cb (ad_cons (ad_var _) (ad_cons (ad_c _) ad_nil)) ad_isX) (ad_cons (ad_cb (ad_cons (ad_var _) (ad_cons (ad_c _) ad_nil)) ad_isX) (ad_cons (ad_cb (ad_cons (ad_var _) (ad_cons (ad_c _) ad_nil)) ad_isX) ad_nil)))) ad2_cat))))))))))
theorem sc_flags : FnScope ["_law_e", "_law_found"] ["_law_e"] (defScope s_flags) := ⟨rfl, rfl, rfl, by decide +kernel, rfl, by decide +kernel, by decide +kernel⟩
theorem ok_flags {f : Addr} {fd : FuncData} (D : DefT κ.K mg "_law_flags" s_flags ["_law_e"] f fd) (T : Txt P w κ mg base) : FnOk P w κ.K mg base CX0 1 f fd ["_law_e"] (spM κ 1 2 m_flags) := by
  have nd := sc_flags.nd
  obtain ⟨C0, hC0, g0, M0⟩ := T.xm 0 "InvalidText" "given" rfl
  obtain ⟨C1, hC1, g1, M1⟩ := T.xm 1 "InvalidName" "given" rfl
  obtain ⟨C2, hC2, g2, M2⟩ := T.xm 2 "InvalidKind" "given" rfl
  obtain ⟨C3, hC3, g3, M3⟩ := T.xm 3 "InvalidMove" "given" rfl
  obtain ⟨C4, hC4, g4, M4⟩ := T.xm 4 "InvalidNumber" "given" rfl
  obtain ⟨C5, hC5, g5, M5⟩ := T.xm 5 "InvalidGrowth" "given" rfl
  obtain ⟨C6, hC6, g6, M6⟩ := T.xm 6 "InvalidFact" "given" rfl
  obtain ⟨C7, hC7, g7, M7⟩ := T.xm 7 "InvalidOrder" "given" rfl
  obtain ⟨C8, hC8, g8, M8⟩ := T.xm 8 "InvalidWish" "given" rfl
  obtain ⟨C9, hC9, g9, M9⟩ := T.xm 9 "InvalidIndex" "given" rfl
  obtain ⟨C10, hC10, g10, M10⟩ := T.xm 10 "NotYard" "given" rfl
  obtain ⟨C11, hC11, g11, M11⟩ := T.xm 11 "NotFacts" "given" rfl
  obtain ⟨C12, hC12, g12, M12⟩ := T.xm 12 "InvalidKinds" "index" rfl
  obtain ⟨C13, hC13, g13, M13⟩ := T.xm 13 "InvalidRows" "index" rfl
  obtain ⟨C14, hC14, g14, M14⟩ := T.xm 14 "InvalidFacts" "index" rfl
  obtain ⟨C15, hC15, g15, M15⟩ := T.xm 15 "InvalidPlan" "index" rfl
  obtain ⟨C16, hC16, g16, M16⟩ := T.xm 16 "InvalidChanges" "index" rfl
  obtain ⟨C17, hC17, g17, M17⟩ := T.xm 17 "InvalidWishes" "index" rfl
  obtain ⟨C18, hC18, g18, M18⟩ := T.xm 18 "UnknownName" "given" rfl
  obtain ⟨C19, hC19, g19, M19⟩ := T.xm 19 "InUse" "index" rfl
  obtain ⟨C20, hC20, g20, M20⟩ := T.xm 20 "Unbalanced" "given" rfl
  obtain ⟨C21, hC21, g21, M21⟩ := T.xm 21 "NotThere" "given" rfl
  obtain ⟨C22, hC22, g22, M22⟩ := T.xm 22 "OtherKinds" "given" rfl
  obtain ⟨C23, hC23, g23, M23⟩ := T.xm 23 "TooGreat" "given" rfl
  obtain ⟨C24, hC24, g24, M24⟩ := T.xz 24 "Impossible" rfl
  obtain ⟨C25, hC25, g25, M25⟩ := T.xz 25 "NothingToUndo" rfl
  obtain ⟨C26, hC26, g26, M26⟩ := T.xm 26 "Broken" "index" rfl
  refine okF_m (k := 0) D.F sc_flags fun cdv A outer s H E hr => ?_
  let sc : Scope := defScope s_flags
  exact ⟨_, (pss_cons (ps_set (i := 1) nd rfl (by first | exact Or.inl rfl | exact Or.inr rfl) (pe_lst (pa_cons (pe_callB call_isX (by rfl) T.n_isinstance (by decide +kernel) (pa_cons (pv 0) (pa_cons (pe_glob rfl g0 (v := .ref C0) rfl) pa_nil))) (pa_cons (pe_callB call_isX (by rfl) T.n_isinstance (by decide +kernel) (pa_cons (pv 0) (pa_cons (pe_glob rfl g1 (v := .ref C1) rfl) pa_nil))) (pa_cons (pe_callB call_isX (by rfl) T.n_isinstance (by decide +kernel) (pa_cons (pv 0) (pa_cons (pe_glob rfl g2 (v := .ref C2) rfl) pa_nil))) pa_nil))))) (pss_cons (ps_set (i := 1) nd rfl (by first | exact Or.inl rfl | exact Or.inr rfl) (pe_op op_cat (pv 1) (pe_lst (pa_cons (pe_callB call_isX (by rfl) T.n_isinstance (by decide +kernel) (pa_cons (pv 0) (pa_cons (pe_glob rfl g3 (v := .ref C3) rfl) pa_nil))) (pa_cons (pe_callB call_isX (by rfl) T.n_isinstance (by decide +kernel) (pa_cons (pv 0) (pa_cons (pe_glob rfl g4 (v := .ref C4) rfl) pa_nil))) (pa_cons (pe_callB call_isX (by rfl) T.n_isinstance (by decide +kernel) (pa_cons (pv 0) (pa_cons (pe_glob rfl g5 (v := .ref C5) rfl) pa_nil))) pa_nil)))))) (pss_cons (ps_set (i := 1) nd rfl (by first | exact Or.inl rfl | exact Or.inr rfl) (pe_op op_cat (pv 1) (pe_lst (pa_cons (pe_callB call_isX (by rfl) T.n_isinstance (by decide +kernel) (pa_cons (pv 0) (pa_cons (pe_glob rfl g6 (v := .ref C6) rfl) pa_nil))) (pa_cons (pe_callB call_isX (by rfl) T.n_isinstance (by decide +kernel) (pa_cons (pv 0) (pa_cons (pe_glob rfl g7 (v := .ref C7) rfl) pa_nil))) (pa_cons (pe_callB call_isX (by rfl) T.n_isinstance (by decide +kernel) (pa_cons (pv 0) (pa_cons (pe_glob rfl g8 (v := .ref C8) rfl) pa_nil))) pa_nil)))))) (pss_cons (ps_set (i := 1) nd rfl (by first | exact Or.inl rfl | exact Or.inr rfl) (pe_op op_cat (pv 1) (pe_lst (pa_cons (pe_callB call_isX (by rfl) T.n_isinstance (by decide +kernel) (pa_cons (pv 0) (pa_cons (pe_glob rfl g9 (v := .ref C9) rfl) pa_nil))) (pa_cons (pe_callB call_isX (by rfl) T.n_isinstance (by decide +kernel) (pa_cons (pv 0) (pa_cons (pe_glob rfl g10 (v := .ref C10) rfl) pa_nil))) (pa_cons (pe_callB call_isX (by rfl) T.n_isinstance (by decide +kernel) (pa_cons (pv 0) (pa_cons (pe_glob rfl g11 (v := .ref C11) rfl) pa_nil))) pa_nil)))))) (pss_cons (ps_set (i := 1) nd rfl (by first | exact Or.inl rfl | exact Or.inr rfl) (pe_op op_cat (pv 1) (pe_lst (pa_cons (pe_callB call_isX (by rfl) T.n_isinstance (by decide +kernel) (pa_cons (pv 0) (pa_cons (pe_glob rfl g12 (v := .ref C12) rfl) pa_nil))) (pa_cons (pe_callB call_isX (by rfl) T.n_isinstance (by decide +kernel) (pa_cons (pv 0) (pa_cons (pe_glob rfl g13 (v := .ref C13) rfl) pa_nil))) (pa_cons (pe_callB call_isX (by rfl) T.n_isinstance (by decide +kernel) (pa_cons (pv 0) (pa_cons (pe_glob rfl g14 (v := .ref C14) rfl) pa_nil))) pa_nil)))))) (pss_cons (ps_set (i := 1) nd rfl (by first | exact Or.inl rfl | exact Or.inr rfl) (pe_op op_cat (pv 1) (pe_lst (pa_cons (pe_callB call_isX (by rfl) T.n_isinstance (by decide +kernel) (pa_cons (pv 0) (pa_cons (pe_glob rfl g15 (v := .ref C15) rfl) pa_nil))) (pa_cons (pe_callB call_isX (by rfl) T.n_isinstance (by decide +kernel) (pa_cons (pv 0) (pa_cons (pe_glob rfl g16 (v := .ref C16) rfl) pa_nil))) (pa_cons (pe_callB call_isX (by rfl) T.n_isinstance (by decide +kernel) (pa_cons (pv 0) (pa_cons (pe_glob rfl g17 (v := .ref C17) rfl) pa_nil))) pa_nil)))))) (pss_cons (ps_set (i := 1) nd rfl (by first | exact Or.inl rfl | exact Or.inr rfl) (pe_op op_cat (pv 1) (pe_lst (pa_cons (pe_callB call_isX (by rfl) T.n_isinstance (by decide +kernel) (pa_cons (pv 0) (pa_cons (pe_glob rfl g18 (v := .ref C18) rfl) pa_nil))) (pa_cons (pe_callB call_isX (by rfl) T.n_isinstance (by decide +kernel) (pa_cons (pv 0) (pa_cons (pe_glob rfl g19 (v := .ref C19) rfl) pa_nil))) (pa_cons (pe_callB call_isX (by rfl) T.n_isinstance (by decide +kernel) (pa_cons (pv 0) (pa_cons (pe_glob rfl g20 (v := .ref C20) rfl) pa_nil))) pa_nil)))))) (pss_cons (ps_set (i := 1) nd rfl (by first | exact Or.inl rfl | exact Or.inr rfl) (pe_op op_cat (pv 1) (pe_lst (pa_cons (pe_callB call_isX (by rfl) T.n_isinstance (by decide +kernel) (pa_cons (pv 0) (pa_cons (pe_glob rfl g21 (v := .ref C21) rfl) pa_nil))) (pa_cons (pe_callB call_isX (by rfl) T.n_isinstance (by decide +kernel) (pa_cons (pv 0) (pa_cons (pe_glob rfl g22 (v := .ref C22) rfl) pa_nil))) (pa_cons (pe_callB call_isX (by rfl) T.n_isinstance (by decide +kernel) (pa_cons (pv 0) (pa_cons (pe_glob rfl g23 (v := .ref C23) rfl) pa_nil))) pa_nil)))))) (pss_one (ps_ret (pe_op op_cat (pv 1) (pe_lst (pa_cons (pe_callB call_isX (by rfl) T.n_isinstance (by decide +kernel) (pa_cons (pv 0) (pa_cons (pe_glob rfl g24 (v := .ref C24) rfl) pa_nil))) (pa_cons (pe_callB call_isX (by rfl) T.n_isinstance (by decide +kernel) (pa_cons (pv 0) (pa_cons (pe_glob rfl g25 (v := .ref C25) rfl) pa_nil))) (pa_cons (pe_callB call_isX (by rfl) T.n_isinstance (by decide +kernel) (pa_cons (pv 0) (pa_cons (pe_glob rfl g26 (v := .ref C26) rfl) pa_nil))) pa_nil))))))))))))))),
    (sim_seq (sim_set 1 (sim_lst (sim_cons (sim_cb (sim_cons (sim_var 0) (sim_cons (sim_c (w0 := .cl 0) fun _ => ⟨_, hC0, rfl⟩) sim_nil)) (sc_isX T.cls)) (sim_cons (sim_cb (sim_cons (sim_var 0) (sim_cons (sim_c (w0 := .cl 1) fun _ => ⟨_, hC1, rfl⟩) sim_nil)) (sc_isX T.cls)) (sim_cons (sim_cb (sim_cons (sim_var 0) (sim_cons (sim_c (w0 := .cl 2) fun _ => ⟨_, hC2, rfl⟩) sim_nil)) (sc_isX T.cls)) sim_nil))))) (sim_seq (sim_set 1 (sim_op (sim_var 1) (sim_lst (sim_cons (sim_cb (sim_cons (sim_var 0) (sim_cons (sim_c (w0 := .cl 3) fun _ => ⟨_, hC3, rfl⟩) sim_nil)) (sc_isX T.cls)) (sim_cons (sim_cb (sim_cons (sim_var 0) (sim_cons (sim_c (w0 := .cl 4) fun _ => ⟨_, hC4, rfl⟩) sim_nil)) (sc_isX T.cls)) (sim_cons (sim_cb (sim_cons (sim_var 0) (sim_cons (sim_c (w0 := .cl 5) fun _ => ⟨_, hC5, rfl⟩) sim_nil)) (sc_isX T.cls)) sim_nil)))) sr_cat)) (sim_seq (sim_set 1 (sim_op (sim_var 1) (sim_lst (sim_cons (sim_cb (sim_cons (sim_var 0) (sim_cons (sim_c (w0 := .cl 6) fun _ => ⟨_, hC6, rfl⟩) sim_nil)) (sc_isX T.cls)) (sim_cons (sim_cb (sim_cons (sim_var 0) (sim_cons (sim_c (w0 := .cl 7) fun _ => ⟨_, hC7, rfl⟩) sim_nil)) (sc_isX T.cls)) (sim_cons (sim_cb (sim_cons (sim_var 0) (sim_cons (sim_c (w0 := .cl 8) fun _ => ⟨_, hC8, rfl⟩) sim_nil)) (sc_isX T.cls)) sim_nil)))) sr_cat)) (sim_seq (sim_set 1 (sim_op (sim_var 1) (sim_lst (sim_cons (sim_cb (sim_cons (sim_var 0) (sim_cons (sim_c (w0 := .cl 9) fun _ => ⟨_, hC9, rfl⟩) sim_nil)) (sc_isX T.cls)) (sim_cons (sim_cb (sim_cons (sim_var 0) (sim_cons (sim_c (w0 := .cl 10) fun _ => ⟨_, hC10, rfl⟩) sim_nil)) (sc_isX T.cls)) (sim_cons (sim_cb (sim_cons (sim_var 0) (sim_cons (sim_c (w0 := .cl 11) fun _ => ⟨_, hC11, rfl⟩) sim_nil)) (sc_isX T.cls)) sim_nil)))) sr_cat)) (sim_seq (sim_set 1 (sim_op (sim_var 1) (sim_lst (sim_cons (sim_cb (sim_cons (sim_var 0) (sim_cons (sim_c (w0 := .cl 12) fun _ => ⟨_, hC12, rfl⟩) sim_nil)) (sc_isX T.cls)) (sim_cons (sim_cb (sim_cons (sim_var 0) (sim_cons (sim_c (w0 := .cl 13) fun _ => ⟨_, hC13, rfl⟩) sim_nil)) (sc_isX T.cls)) (sim_cons (sim_cb (sim_cons (sim_var 0) (sim_cons (sim_c (w0 := .cl 14) fun _ => ⟨_, hC14, rfl⟩) sim_nil)) (sc_isX T.cls)) sim_nil)))) sr_cat)) (sim_seq (sim_set 1 (sim_op (sim_var 1) (sim_lst (sim_cons (sim_cb (sim_cons (sim_var 0) (sim_cons (sim_c (w0 := .cl 15) fun _ => ⟨_, hC15, rfl⟩) sim_nil)) (sc_isX T.cls)) (sim_cons (sim_cb (sim_cons (sim_var 0) (sim_cons (sim_c (w0 := .cl 16) fun _ => ⟨_, hC16, rfl⟩) sim_nil)) (sc_isX T.cls)) (sim_cons (sim_cb (sim_cons (sim_var 0) (sim_cons (sim_c (w0 := .cl 17) fun _ => ⟨_, hC17, rfl⟩) sim_nil)) (sc_isX T.cls)) sim_nil)))) sr_cat)) (sim_seq (sim_set 1 (sim_op (sim_var 1) (sim_lst (sim_cons (sim_cb (sim_cons (sim_var 0) (sim_cons (sim_c (w0 := .cl 18) fun _ => ⟨_, hC18, rfl⟩) sim_nil)) (sc_isX T.cls)) (sim_cons (sim_cb (sim_cons (sim_var 0) (sim_cons (sim_c (w0 := .cl 19) fun _ => ⟨_, hC19, rfl⟩) sim_nil)) (sc_isX T.cls)) (sim_cons (sim_cb (sim_cons (sim_var 0) (sim_cons (sim_c (w0 := .cl 20) fun _ => ⟨_, hC20, rfl⟩) sim_nil)) (sc_isX T.cls)) sim_nil)))) sr_cat)) (sim_seq (sim_set 1 (sim_op (sim_var 1) (sim_lst (sim_cons (sim_cb (sim_cons (sim_var 0) (sim_cons (sim_c (w0 := .cl 21) fun _ => ⟨_, hC21, rfl⟩) sim_nil)) (sc_isX T.cls)) (sim_cons (sim_cb (sim_cons (sim_var 0) (sim_cons (sim_c (w0 := .cl 22) fun _ => ⟨_, hC22, rfl⟩) sim_nil)) (sc_isX T.cls)) (sim_cons (sim_cb (sim_cons (sim_var 0) (sim_cons (sim_c (w0 := .cl 23) fun _ => ⟨_, hC23, rfl⟩) sim_nil)) (sc_isX T.cls)) sim_nil)))) sr_cat)) (sim_ret (sim_op (sim_var 1) (sim_lst (sim_cons (sim_cb (sim_cons (sim_var 0) (sim_cons (sim_c (w0 := .cl 24) fun _ => ⟨_, hC24, rfl⟩) sim_nil)) (sc_isX T.cls)) (sim_cons (sim_cb (sim_cons (sim_var 0) (sim_cons (sim_c (w0 := .cl 25) fun _ => ⟨_, hC25, rfl⟩) sim_nil)) (sc_isX T.cls)) (sim_cons (sim_cb (sim_cons (sim_var 0) (sim_cons (sim_c (w0 := .cl 26) fun _ => ⟨_, hC26, rfl⟩) sim_nil)) (sc_isX T.cls)) sim_nil)))) sr_cat))))))))))⟩
abbrev s_bases : Stmt := top 43
def m_bases : MS := (mSeq (mSet 1 (mLst (mCons (mCB (fIsX 27 subN subB) (mCons (mVar 0) (mCons (mC (.cl 27)) mNil))) (mCons (mCB (fIsX 27 subN subB) (mCons (mVar 0) (mCons (mC (.cl 28)) mNil))) (mCons (mCB (fIsX 27 subN subB) (mCons (mVar 0) (mCons (mC (.cl 29)) mNil))) mNil))))) (mRet (mOp fCat (mVar 1) (mLst (mCons (mCB (fIsX 27 subN subB) (mCons (mVar 0) (mCons (mC (.ty "ValueError")) mNil))) (mCons (mCB (fIsX 27 subN subB) (mCons (mVar 0) (mCons (mC (.ty "LookupError")) mNil))) (mCons (mCB (fIsX 27 subN subB) (mCons (mVar 0) (mCons (mC (.ty "ArithmeticError")) mNil))) mNil)))))))
theorem ad_bases : Adds m_bases := (ad_seq (ad_set (ad_lst (ad_cons (ad_cb (ad_cons (ad_var _) (ad_cons (ad_c _) ad_nil)) ad_isX) (ad_cons (ad_cb (ad_cons (ad_var _) (ad_cons (ad_c _) ad_nil)) ad_isX) (ad_cons (ad_cb (ad_cons (ad_var _) (ad_cons (ad_c _) ad_nil)) ad_isX) ad_nil))))) (ad_ret (ad_op (ad_var _) (ad_lst (ad_cons (ad_cb (ad_cons (ad_var _) (ad_cons (ad_c _) ad_nil)) ad_isX) (ad_cons (ad_cb (ad_cons (ad_var _) (ad_cons (ad_c _) ad_nil)) ad_isX) (ad_cons (ad_cb (ad_cons (ad_var _) (ad_cons (ad_c _) ad_nil)) ad_isX) ad_nil)))) ad2_cat)))
theorem sc_bases : FnScope ["_law_e", "_law_found"] ["_law_e"] (defScope s_bases) := ⟨rfl, rfl, rfl, by decide +kernel, rfl, by decide +kernel, by decide +kernel⟩
theorem ok_bases {f : Addr} {fd : FuncData} (D : DefT κ.K mg "_law_bases" s_bases ["_law_e"] f fd) (T : Txt P w κ mg base) : FnOk P w κ.K mg base CX0 1 f fd ["_law_e"] (spM κ 1 2 m_bases) := by
  have nd := sc_bases.nd
  obtain ⟨C27, hC27, g27⟩ := T.gc 27 "WrongValue" rfl
  obtain ⟨C28, hC28, g28⟩ := T.gc 28 "WrongName" rfl
  obtain ⟨C29, hC29, g29⟩ := T.gc 29 "NotPossible" rfl
  refine okF_m (k := 0) D.F sc_bases fun cdv A outer s H E hr => ?_
  let sc : Scope := defScope s_bases
  exact ⟨_, (pss_cons (ps_set (i := 1) nd rfl (by first | exact Or.inl rfl | exact Or.inr rfl) (pe_lst (pa_cons (pe_callB call_isX (by rfl) T.n_isinstance (by decide +kernel) (pa_cons (pv 0) (pa_cons (pe_glob rfl g27 (v := .ref C27) rfl) pa_nil))) (pa_cons (pe_callB call_isX (by rfl) T.n_isinstance (by decide +kernel) (pa_cons (pv 0) (pa_cons (pe_glob rfl g28 (v := .ref C28) rfl) pa_nil))) (pa_cons (pe_callB call_isX (by rfl) T.n_isinstance (by decide +kernel) (pa_cons (pv 0) (pa_cons (pe_glob rfl g29 (v := .ref C29) rfl) pa_nil))) pa_nil))))) (pss_one (ps_ret (pe_op op_cat (pv 1) (pe_lst (pa_cons (pe_callB call_isX (by rfl) T.n_isinstance (by decide +kernel) (pa_cons (pv 0) (pa_cons (pe_bltn (v := .ty "ValueError") rfl T.n_ValueError (by decide +kernel) rfl) pa_nil))) (pa_cons (pe_callB call_isX (by rfl) T.n_isinstance (by decide +kernel) (pa_cons (pv 0) (pa_cons (pe_bltn (v := .ty "LookupError") rfl T.n_LookupError (by decide +kernel) rfl) pa_nil))) (pa_cons (pe_callB call_isX (by rfl) T.n_isinstance (by decide +kernel) (pa_cons (pv 0) (pa_cons (pe_bltn (v := .ty "ArithmeticError") rfl T.n_ArithmeticError (by decide +kernel) rfl) pa_nil))) pa_nil)))))))),
    (sim_seq (sim_set 1 (sim_lst (sim_cons (sim_cb (sim_cons (sim_var 0) (sim_cons (sim_c (w0 := .cl 27) fun _ => ⟨_, hC27, rfl⟩) sim_nil)) (sc_isX T.cls)) (sim_cons (sim_cb (sim_cons (sim_var 0) (sim_cons (sim_c (w0 := .cl 28) fun _ => ⟨_, hC28, rfl⟩) sim_nil)) (sc_isX T.cls)) (sim_cons (sim_cb (sim_cons (sim_var 0) (sim_cons (sim_c (w0 := .cl 29) fun _ => ⟨_, hC29, rfl⟩) sim_nil)) (sc_isX T.cls)) sim_nil))))) (sim_ret (sim_op (sim_var 1) (sim_lst (sim_cons (sim_cb (sim_cons (sim_var 0) (sim_cons (sim_c (w0 := .ty "ValueError") fun _ => rfl) sim_nil)) (sc_isX T.cls)) (sim_cons (sim_cb (sim_cons (sim_var 0) (sim_cons (sim_c (w0 := .ty "LookupError") fun _ => rfl) sim_nil)) (sc_isX T.cls)) (sim_cons (sim_cb (sim_cons (sim_var 0) (sim_cons (sim_c (w0 := .ty "ArithmeticError") fun _ => rfl) sim_nil)) (sc_isX T.cls)) sim_nil)))) sr_cat)))⟩
abbrev s_held : Stmt := top 44
def m_held : MS := (mRet (mIf (mB (mOp (fIn false) (mVar 1) (mLst (mCons (mC (.int 12)) (mCons (mC (.int 13)) (mCons (mC (.int 14)) (mCons (mC (.int 15)) (mCons (mC (.int 16)) (mCons (mC (.int 17)) (mCons (mC (.int 19)) (mCons (mC (.int 26)) mNil))))))))))) (mXget 27 fnames "index" (mVar 0)) (mXget 27 fnames "given" (mVar 0))))
theorem ad_held : Adds m_held := (ad_ret (ad_if (ad_b (ad_op (ad_var _) (ad_lst (ad_cons (ad_c _) (ad_cons (ad_c _) (ad_cons (ad_c _) (ad_cons (ad_c _) (ad_cons (ad_c _) (ad_cons (ad_c _) (ad_cons (ad_c _) (ad_cons (ad_c _) ad_nil))))))))) ad2_in)) (ad_xget (ad_var _)) (ad_xget (ad_var _))))
theorem sc_held : FnScope ["_law_e", "_law_at"] ["_law_e", "_law_at"] (defScope s_held) := ⟨rfl, rfl, rfl, by decide +kernel, rfl, by decide +kernel, by decide +kernel⟩
theorem ok_held {f : Addr} {fd : FuncData} (D : DefT κ.K mg "_law_held" s_held ["_law_e", "_law_at"] f fd) (T : Txt P w κ mg base) : FnOk P w κ.K mg base CX0 1 f fd ["_law_e", "_law_at"] (spM κ 2 2 m_held) := by
  have nd := sc_held.nd
  refine okF_m (k := 0) D.F sc_held fun cdv A outer s H E hr => ?_
  let sc : Scope := defScope s_held
  exact ⟨_, (pss_one (ps_ret (pe_ifExp (pt_cmpR op_in_seq (pv 1) (pe_lst (pa_cons pe_int (pa_cons pe_int (pa_cons pe_int (pa_cons pe_int (pa_cons pe_int (pa_cons pe_int (pa_cons pe_int (pa_cons pe_int pa_nil))))))))) (by rfl)) (pe_xget (f := "index") (pv 0)) (pe_xget (f := "given") (pv 0))))),
    (sim_ret (sim_if (sim_test (sim_op (sim_var 1) (sim_lst (sim_cons (sim_c (w0 := (.int 12)) fun _ => rfl) (sim_cons (sim_c (w0 := (.int 13)) fun _ => rfl) (sim_cons (sim_c (w0 := (.int 14)) fun _ => rfl) (sim_cons (sim_c (w0 := (.int 15)) fun _ => rfl) (sim_cons (sim_c (w0 := (.int 16)) fun _ => rfl) (sim_cons (sim_c (w0 := (.int 17)) fun _ => rfl) (sim_cons (sim_c (w0 := (.int 19)) fun _ => rfl) (sim_cons (sim_c (w0 := (.int 26)) fun _ => rfl) sim_nil))))))))) (sr_in false))) (sim_xget T.cls (sim_var 0)) (sim_xget T.cls (sim_var 0))))⟩
abbrev s_some_right : Stmt := top 45
def m_some_right : MS := (mSeq (mForG (miR1 (mCons (mC (.int 27)) mNil)) (gmName 2) (mSeq (mSet 3 (mIf (mB (mOp fLtI (mVar 2) (mC (.int 18)))) (mC (.int 0)) (mIf (mB (mOp fLtI (mVar 2) (mC (.int 20)))) (mC (.int 1)) (mC (.int 2))))) (mSeq (mIfS (mB (mOp (fEqD true) (mCall 2 m_flags (mCons (mOp fIxL (mVar 0) (mVar 2)) mNil)) (mLcP (miR1 (mCons (mC (.int 27)) mNil)) (gmName 4) mYes (mOp (fEqD false) (mVar 4) (mVar 2)) [4]))) (mRet (mC (.bl false))) mNext) (mSeq (mIfS (mB (mOp (fEqD true) (mCall 2 m_bases (mCons (mOp fIxL (mVar 0) (mVar 2)) mNil)) (mOp fRep (mLcP (miR1 (mCons (mC (.int 3)) mNil)) (gmName 4) mYes (mOp (fEqD false) (mVar 4) (mVar 3)) [4]) (mC (.int 2))))) (mRet (mC (.bl false))) mNext) (mIfS (mAnd (mB (mOp (fIn true) (mVar 2) (mLst (mCons (mC (.int 24)) (mCons (mC (.int 25)) mNil))))) (mB (mOp (fEqD true) (mCB fRepr (mCons (mCall 2 m_held (mCons (mOp fIxL (mVar 0) (mVar 2)) (mCons (mVar 2) mNil))) mNil)) (mCB fRepr (mCons (mVar 1) mNil))))) (mRet (mC (.bl false))) mNext))))) (mRet (mOp (fEqD false) (mCB fLen (mCons (mVar 0) mNil)) (mC (.int 27)))))
theorem sc_some_right : FnScope ["_law_some", "_law_thing", "_law_at", "_law_base", "_law_k"] ["_law_some", "_law_thing"] (defScope s_some_right) := ⟨rfl, rfl, rfl, by decide +kernel, rfl, by decide +kernel, by decide +kernel⟩
theorem ok_some_right {f : Addr} {fd : FuncData} (D : DefT κ.K mg "_law_some_right" s_some_right ["_law_some", "_law_thing"] f fd) (T : Txt P w κ mg base) {f_flags : Addr} {fd_flags : FuncData} (D_flags : DefT κ.K mg "_law_flags" s_flags ["_law_e"] f_flags fd_flags) (K_flags : FnOk P w κ.K mg base CX0 1 f_flags fd_flags ["_law_e"] (spM κ 1 2 m_flags)) {f_bases : Addr} {fd_bases : FuncData} (D_bases : DefT κ.K mg "_law_bases" s_bases ["_law_e"] f_bases fd_bases) (K_bases : FnOk P w κ.K mg base CX0 1 f_bases fd_bases ["_law_e"] (spM κ 1 2 m_bases)) {f_held : Addr} {fd_held : FuncData} (D_held : DefT κ.K mg "_law_held" s_held ["_law_e", "_law_at"] f_held fd_held) (K_held : FnOk P w κ.K mg base CX0 1 f_held fd_held ["_law_e", "_law_at"] (spM κ 2 2 m_held)) : FnG P w κ.K mg base 2 f fd ["_law_some", "_law_thing"] (spM κ 2 5 m_some_right) := by
  have nd := sc_some_right.nd
  refine okG_m (k := 1) D.F sc_some_right fun cdv A outer s H E hr hG => ?_
  let sc : Scope := defScope s_some_right
  exact ⟨_, (pss_cons (ps_for PassesOwn.never rfl (pi_range1 rfl T.n_range (pa_cons pe_int pa_nil)) (pg_name (i := 2) nd rfl (by first | exact Or.inl rfl | exact Or.inr rfl)) (pss_cons (ps_set (i := 3) nd rfl (by first | exact Or.inl rfl | exact Or.inr rfl) (pe_ifExp (pt_cmpR op_lt (pv 2) pe_int (nomark _)) pe_int (pe_ifExp (pt_cmpR op_lt (pv 2) pe_int (nomark _)) pe_int pe_int))) (pss_cons (ps_if (pt_cmpR (op_neD hr.units) (pe_call K_flags (hr.mono (by decide)) (by rfl) D_flags.g D_flags.F.kp D_flags.b .nil pass0 (pa_cons (pe_ix ix_list (pv 0) (pv 2) (fun _ _ => rfl)) pa_nil)) (pe_lc (own := [("_law_k", 4)]) (g := gName 4) (tt := tYes) rfl nd (pi_range1 rfl T.n_range (pa_cons pe_int pa_nil)) (blkOk_by (own := [("_law_k", 4)]) (N := ["_law_some", "_law_thing", "_law_at", "_law_base", "_law_k"]) (sc := sc) (by decide +kernel)) (fun _ _ _ _ _ => pg_name (i := 4) nd rfl (Or.inl rfl)) (fun _ _ _ _ _ => pts_nil) (fun _ _ _ _ _ => (pe_cmpR (op_eqD hr.units) (pv 4) (pv 2) (nomark _)))) (nomark _)) (pss_one (ps_ret pe_bl)) pss_nil) (pss_cons (ps_if (pt_cmpR (op_neD hr.units) (pe_call K_bases (hr.mono (by decide)) (by rfl) D_bases.g D_bases.F.kp D_bases.b .nil pass0 (pa_cons (pe_ix ix_list (pv 0) (pv 2) (fun _ _ => rfl)) pa_nil)) (pe_op op_rep (pe_lc (own := [("_law_k", 4)]) (g := gName 4) (tt := tYes) rfl nd (pi_range1 rfl T.n_range (pa_cons pe_int pa_nil)) (blkOk_by (own := [("_law_k", 4)]) (N := ["_law_some", "_law_thing", "_law_at", "_law_base", "_law_k"]) (sc := sc) (by decide +kernel)) (fun _ _ _ _ _ => pg_name (i := 4) nd rfl (Or.inl rfl)) (fun _ _ _ _ _ => pts_nil) (fun _ _ _ _ _ => (pe_cmpR (op_eqD hr.units) (pv 4) (pv 3) (nomark _)))) pe_int) (nomark _)) (pss_one (ps_ret pe_bl)) pss_nil) (pss_one (ps_if (PW.pt (pw_and (pt_cmpR op_notIn_seq (pv 2) (pe_lst (pa_cons pe_int (pa_cons pe_int pa_nil))) (by rfl)) (pw_and1 (pt_cmpR (op_neD hr.units) (pe_callB ((call_repr (hr.mono (Nat.zero_le _)) hG).or (call_reprK (hr.mono (Nat.zero_le _)) hG)) (by rfl) T.n_repr (by decide +kernel) (pa_cons (pe_call K_held (hr.mono (by decide)) (by rfl) D_held.g D_held.F.kp D_held.b .nil pass0 (pa_cons (pe_ix ix_list (pv 0) (pv 2) (fun _ _ => rfl)) (pa_cons (pv 2) pa_nil))) pa_nil)) (pe_callB ((call_repr (hr.mono (Nat.zero_le _)) hG).or (call_reprK (hr.mono (Nat.zero_le _)) hG)) (by rfl) T.n_repr (by decide +kernel) (pa_cons (pv 1) pa_nil)) (nomark _))))) (pss_one (ps_ret pe_bl)) pss_nil)))))) (pss_one (ps_ret (pe_cmpR (op_eqD hr.units) (pe_callB call_len_seq (by rfl) T.n_len (by decide +kernel) (pa_cons (pv 0) pa_nil)) pe_int (nomark _))))),
    (sim_seq (sim_forG (sim_iR1 (sim_cons (sim_c (w0 := (.int 27)) fun _ => rfl) sim_nil)) (sim_gName 2) (sim_seq (sim_set 3 (sim_if (sim_test (sim_op (sim_var 2) (sim_c (w0 := (.int 18)) fun _ => rfl) sr_ltI)) (sim_c (w0 := (.int 0)) fun _ => rfl) (sim_if (sim_test (sim_op (sim_var 2) (sim_c (w0 := (.int 20)) fun _ => rfl) sr_ltI)) (sim_c (w0 := (.int 1)) fun _ => rfl) (sim_c (w0 := (.int 2)) fun _ => rfl)))) (sim_seq (sim_ifS (sim_test (sim_op (sim_callN (sim_cons (sim_op (sim_var 0) (sim_var 2) sr_ixL) sim_nil) (argN_cons argN_nil)) (sim_lcP (sim_iR1 (sim_cons (sim_c (w0 := (.int 27)) fun _ => rfl) sim_nil)) (sim_gName 4) sim_yes (sim_op (sim_var 4) (sim_var 2) sr_eqD) (wipeOk_name 4)) sr_neD)) (sim_ret (sim_c (w0 := (.bl false)) fun _ => rfl)) sim_next) (sim_seq (sim_ifS (sim_test (sim_op (sim_callN (sim_cons (sim_op (sim_var 0) (sim_var 2) sr_ixL) sim_nil) (argN_cons argN_nil)) (sim_op (sim_lcP (sim_iR1 (sim_cons (sim_c (w0 := (.int 3)) fun _ => rfl) sim_nil)) (sim_gName 4) sim_yes (sim_op (sim_var 4) (sim_var 3) sr_eqD) (wipeOk_name 4)) (sim_c (w0 := (.int 2)) fun _ => rfl) sr_rep) sr_neD)) (sim_ret (sim_c (w0 := (.bl false)) fun _ => rfl)) sim_next) (sim_ifS (sim_and (sim_test (sim_op (sim_var 2) (sim_lst (sim_cons (sim_c (w0 := (.int 24)) fun _ => rfl) (sim_cons (sim_c (w0 := (.int 25)) fun _ => rfl) sim_nil))) (sr_in true))) (sim_test (sim_op (sim_cb (sim_cons (sim_callN (sim_cons (sim_op (sim_var 0) (sim_var 2) sr_ixL) (sim_cons (sim_var 2) sim_nil)) (argN_cons (argN_cons argN_nil))) sim_nil) sc_repr) (sim_cb (sim_cons (sim_var 1) sim_nil) sc_repr) sr_neD))) (sim_ret (sim_c (w0 := (.bl false)) fun _ => rfl)) sim_next)))) (fun _ => ad_gName) (ad_seq (ad_set (ad_if (ad_b (ad_op (ad_var _) (ad_c _) ad2_I)) (ad_c _) (ad_if (ad_b (ad_op (ad_var _) (ad_c _) ad2_I)) (ad_c _) (ad_c _)))) (ad_seq (ad_ifS (ad_b (ad_op (ad_call ad_flags (ad_cons (ad_op (ad_var _) (ad_var _) ad2_ixL) ad_nil)) (ad_lcP (ad_iR1 (ad_cons (ad_c _) ad_nil)) (fun _ => ad_gName) ad_yes (ad_op (ad_var _) (ad_var _) ad2_eq)) ad2_eq)) (ad_ret (ad_c _)) ad_next) (ad_seq (ad_ifS (ad_b (ad_op (ad_call ad_bases (ad_cons (ad_op (ad_var _) (ad_var _) ad2_ixL) ad_nil)) (ad_op (ad_lcP (ad_iR1 (ad_cons (ad_c _) ad_nil)) (fun _ => ad_gName) ad_yes (ad_op (ad_var _) (ad_var _) ad2_eq)) (ad_c _) ad2_rep) ad2_eq)) (ad_ret (ad_c _)) ad_next) (ad_ifS (ad_and (ad_b (ad_op (ad_var _) (ad_lst (ad_cons (ad_c _) (ad_cons (ad_c _) ad_nil))) ad2_in)) (ad_b (ad_op (ad_cb (ad_cons (ad_call ad_held (ad_cons (ad_op (ad_var _) (ad_var _) ad2_ixL) (ad_cons (ad_var _) ad_nil))) ad_nil) ad_repr) (ad_cb (ad_cons (ad_var _) ad_nil) ad_repr) ad2_eq))) (ad_ret (ad_c _)) ad_next))))) (sim_ret (sim_op (sim_cb (sim_cons (sim_var 0) sim_nil) sc_len) (sim_c (w0 := (.int 27)) fun _ => rfl) sr_eqD)))⟩
end
end K01

set_option Elab.async false
set_option linter.all false
set_option maxRecDepth 100000
set_option maxHeartbeats 4000000
namespace K01
open PySem L2 Sv
theorem lstAt_set {A : List O} {p : Nat} {xs ys : List W} (h : lstAt A p = some xs) : lstAt (A.set p (.lst ys)) p = some ys := by
  unfold lstAt at h ⊢
  have hp : p < A.length := by
    cases e : A[p]? with
    | none => rw [e] at h; cases h
    | some o => exact (List.getElem?_eq_some_iff.mp e).1
  rw [List.getElem?_set_self hp]
theorem lstAt_lt {A : List O} {p : Nat} {xs : List W} (h : lstAt A p = some xs) : p < A.length := by
  unfold lstAt at h
  cases e : A[p]? with
  | none => rw [e] at h; cases h
  | some o => exact (List.getElem?_eq_some_iff.mp e).1
theorem lstAt_app {A J : List O} {p : Nat} {xs : List W} (h : lstAt A p = some xs) : lstAt (A ++ J) p = some xs := by
  have hp := lstAt_lt h
  unfold lstAt at h ⊢
  rw [List.getElem?_append_left hp]
  exact h
theorem tupAt_new {A : List O} {xs : List W} : tupAt (A ++ [.tup xs]) A.length = some xs := by
  unfold tupAt
  rw [List.getElem?_append_right (Nat.le_refl _), Nat.sub_self]
  rfl
theorem atI0 {x y z : W} : atI [x, y, z] 0 = some x := rfl
theorem atI1 {x y z : W} : atI [x, y, z] 1 = some y := rfl
theorem atI2 {x y z : W} : atI [x, y, z] 2 = some z := rfl
theorem ixN0 : ixN 3 0 = some 0 := rfl
theorem ixN1 : ixN 3 1 = some 1 := rfl
theorem ixN2 : ixN 3 2 = some 2 := rfl
theorem set_set {A : List O} {p : Nat} {x y : O} : (A.set p x).set p y = A.set p y := by simp
theorem cMul_l {i j : Int} (h : -(2 ^ 64) < i ∧ i < 2 ^ 64) : cMul i j = true := by
  unfold cMul
  rw [decide_eq_true h, Bool.true_or]
theorem cMul_r {i j : Int} (h : -(2 ^ 64) < j ∧ j < 2 ^ 64) : cMul i j = true := by
  unfold cMul
  rw [decide_eq_true h, Bool.or_true]
/-- the heap behind a draw: the pail anew, some things more -/
theorem cast_ok {A : List O} {p : Nat} {a b c n : Int} (hA : lstAt A p = some [.int a, .int b, .int c]) (hb : 0 ≤ b ∧ b < 2 ^ 63) (hn : 0 < n ∧ n < 1073741824) :
    ∃ (r a' b' c' : Int) (J : List O), callM 4 m_cast [.ref p, .int n] A = some (.int r, A.set p (.lst [.int a', .int b', .int c']) ++ J) ∧ 0 ≤ r ∧ r < n ∧ 0 ≤ b' ∧ b' < 2 ^ 63 := by
  have hp := lstAt_lt hA
  have mod_lt : ∀ x : Int, 0 ≤ x % n ∧ x % n < n := fun x => ⟨Int.emod_nonneg _ (by omega), Int.emod_lt_of_pos _ hn.1⟩
  by_cases ha : 0 < a
  · refine ⟨a % n, a / n, b, c, [.tup [.int (a / n), .int (a % n)]], ?_, (mod_lt a).1, (mod_lt a).2, hb.1, hb.2⟩
    have hA1 : lstAt (A ++ [.tup [.int (a / n), .int (a % n)]]) p = some [.int a, .int b, .int c] := lstAt_app hA
    have hs : (A ++ [O.tup [.int (a / n), .int (a % n)]]).set p (.lst ([W.int a, .int b, .int c].set 0 (.int (a / n)))) = A.set p (.lst [.int (a / n), .int b, .int c]) ++ [.tup [.int (a / n), .int (a % n)]] := by
      rw [List.set_append, if_pos hp]
      rfl
    simp [callM, m_cast, mSeq, mIfS, mB, mOp, mVar, mC, fIxL, hA, atI0, fGtI, fII, ha, mAsg, mCB, mCons, mNil, fDivmod, hn.1, hn.2, gmTup, tupAt_new, gmCons, gmSub, hA1, ixN0, gmName, gmNil, mRet]
    exact hs
  · let s1 : Int := (b * (36809 + 2 * (c + 1)) + 5303 * (c + 1) + 7) % 2147483629
    let b1 : Int := (s1 * 45413 + 3 * (c + 1) + 1) % 2147483587
    have hb1 : 0 ≤ b1 ∧ b1 < 2147483587 := ⟨Int.emod_nonneg _ (by decide), Int.emod_lt_of_pos _ (by decide)⟩
    have hs1 : 0 ≤ s1 ∧ s1 < 2147483629 := ⟨Int.emod_nonneg _ (by decide), Int.emod_lt_of_pos _ (by decide)⟩
    refine ⟨(b1 / 256) % n, a, b1, c + 1, [], ?_, (mod_lt _).1, (mod_lt _).2, hb1.1, by omega⟩
    have h1 : lstAt (A.set p (.lst [.int a, .int b, .int (c + 1)])) p = some [.int a, .int b, .int (c + 1)] := lstAt_set hA
    have h2 : lstAt (A.set p (.lst [.int a, .int b1, .int (c + 1)])) p = some [.int a, .int b1, .int (c + 1)] := lstAt_set hA
    have k1 : cMul 2 (c + 1) = true := cMul_l (by decide)
    have k2 : cMul b (36809 + 2 * (c + 1)) = true := cMul_l ⟨by omega, by omega⟩
    have k3 : cMul 5303 (c + 1) = true := cMul_l (by decide)
    have k4 : cMul s1 45413 = true := cMul_r (by decide)
    have k5 : cMul 3 (c + 1) = true := cMul_l (by decide)
    simp only [callM, m_cast]
    simp [mSeq, mIfS, mB, mOp, mVar, mC, fIxL, hA, atI0, atI1, atI2, fGtI, fII, ha, mNext, mAsg, fAddI, gmSub, ixN2, h1, mSet, mCB, mCons, mNil, fInt1, fMulI, k1, k2, k3, fModI]
    simp only [show (b * (36809 + 2 * (c + 1)) + 5303 * (c + 1) + 7) % 2147483629 = s1 from rfl, k4, k5, if_true]
    simp only [h1, atI2, k5, if_true]
    simp only [fInt1, show (0 : Int) < 2147483587 from by decide, if_true, show (s1 * 45413 + 3 * (c + 1) + 1) % 2147483587 = b1 from rfl, h1]
    simp [ixN1, set_set, mRet, h2, atI1, fDivI, cDiv, fII, hn.1, fModI, mOp, fIxL, mVar, mC, mCB, mCons, mNil, fInt1]
end K01

set_option Elab.async false
set_option linter.all false
set_option maxRecDepth 100000
set_option maxHeartbeats 4000000
namespace K01
open PySem L2 Sv
def menuW : List W := [.non, .bl true, .bl false, .int 0, .int 1, .int (-1), .int 2, .int 1000000000000000000000000000000000000000, .str "", .str "a", .str "kinds a b", .str "kinds a b\na 0 0\nb 0 0",
  .ref 1, .ref 2, .ref 3, .ref 4, .ref 6, .ref 7, .ref 8, .ref 9, .ref 12, .ref 13, .ref 14]
def menuT : List O := [.tup [], .tup [.int 0], .lst [], .lst [.int 1], .lst [.non, .bl true, .bl false, .int 0, .int 1, .int (-1), .int 2, .int 1000000000000000000000000000000000000000, .str "", .str "a", .str "kinds a b", .str "kinds a b\na 0 0\nb 0 0", .ref 1, .ref 2, .ref 3, .ref 4],
  .dk [], .dk [(Sum.inr "a", .int 1)], .tup [.str "a", .non], .tup [.str "a", .str "b"], .tup [.int 0, .int 0], .tup [.int 0, .int 0], .tup [.ref 10, .ref 11], .lst [.str "a", .str "b"], .tup [.str "a", .str "b", .str "b", .str "a"],
  .lst [.ref 6, .ref 7, .ref 8, .ref 9, .ref 12, .ref 13, .ref 14], .lst menuW]
theorem any1 (o : O) : callM 2 m_anything [.ref 0] [o] = callM 2 m_any_of [.ref 0, .ref 16] (o :: menuT) := by
  simp [callM, m_anything, mSeq, mSet, mLst, mCons, mC, mUn, fNeg, mOp, fPowI, fII, cPow, mTup, mNil, mRet, mCall, mVar, fCat, lstAt, mDnew, mDisp1, menuT, menuW]
  generalize m_any_of _ _ = z
  rcases z with _ | ⟨u, B⟩
  · rfl
  · cases u <;> rfl
theorem any_of_ok {A : List O} {p q : Nat} {a b c : Int} {xs : List W} (hA : lstAt A p = some [.int a, .int b, .int c]) (hq : lstAt A q = some xs) (hpq : p ≠ q) (hx : 0 < xs.length ∧ xs.length < 1073741824) (hb : 0 ≤ b ∧ b < 2 ^ 63) :
    ∃ (r : Nat) (a' b' c' : Int) (J : List O) (x : W), r < xs.length ∧ xs[r]? = some x ∧ callM 2 m_any_of [.ref p, .ref q] A = some (x, A.set p (.lst [.int a', .int b', .int c']) ++ J) ∧ 0 ≤ b' ∧ b' < 2 ^ 63 := by
  obtain ⟨r, a', b', c', J, h, h0, h1, h2, h3⟩ := cast_ok hA hb (n := xs.length) (by omega)
  have hr : r.toNat < xs.length := by omega
  have hg : xs[r.toNat]? = some (xs[r.toNat]'hr) := List.getElem?_eq_getElem hr
  refine ⟨r.toNat, a', b', c', J, _, hr, hg, ?_, h2, h3⟩
  have hq2 : lstAt (A.set p (.lst [.int a', .int b', .int c']) ++ J) q = some xs := by
    refine lstAt_app ?_
    unfold lstAt at hq ⊢
    rw [List.getElem?_set_ne hpq]
    exact hq
  have hix : atI xs r = some (xs[r.toNat]'hr) := by
    unfold atI ixN
    rw [if_pos h0, if_pos h1]
    exact hg
  have hsq : seqAtO A q = some xs := by
    unfold seqAtO
    unfold lstAt at hq
    cases e : A[q]? with
    | none => rw [e] at hq; cases hq
    | some o =>
      rw [e] at hq
      cases o <;> first | exact hq | cases hq
  have s1 : mCons (mVar 0) (mCons (mCB fLen (mCons (mVar 1) mNil)) mNil) [some (.ref p), some (.ref q)] A = some ([.ref p, .int xs.length], A) := by
    simp [mCons, mVar, mCB, mNil, fLen, hsq]
  have s2 : mCall 4 m_cast (mCons (mVar 0) (mCons (mCB fLen (mCons (mVar 1) mNil)) mNil)) [some (.ref p), some (.ref q)] A = some (.int r, A.set p (.lst [.int a', .int b', .int c']) ++ J) := by
    unfold mCall
    rw [s1]
    exact h
  have s3 : mVar 1 [some (.ref p), some (.ref q)] A = some (.ref q, A) := rfl
  show (match mRet (mOp fIxL (mVar 1) (mCall 4 m_cast (mCons (mVar 0) (mCons (mCB fLen (mCons (mVar 1) mNil)) mNil)))) [some (.ref p), some (.ref q)] A with
    | some (.rt w, A') => some (w, A')
    | some (.nx _, A') => some (.non, A')
    | _ => none) = _
  unfold mRet mOp
  rw [s3]
  simp only [s2]
  simp [fIxL, hq2, hix]
set_option maxHeartbeats 4000000
/-- some thing off the menu, the pail anew -/
theorem anything_ok {a b c : Int} (hb : 0 ≤ b ∧ b < 2 ^ 63) : ∃ (r : Nat) (a' b' c' : Int) (J : List O) (x : W), r < 23 ∧ menuW[r]? = some x ∧
    callM 2 m_anything [.ref 0] [.lst [.int a, .int b, .int c]] = some (x, .lst [.int a', .int b', .int c'] :: (menuT ++ J)) ∧ 0 ≤ b' ∧ b' < 2 ^ 63 := by
  rw [any1]
  exact any_of_ok (A := O.lst [.int a, .int b, .int c] :: menuT) (p := 0) (q := 16) (xs := menuW) rfl rfl (by decide) (by decide) hb
/-! ### the twenty-three things, each in a heap of its own -/
def thing0 : Nat → W × List O
  | 12 => (.ref 0, [.tup []])
  | 13 => (.ref 0, [.tup [.int 0]])
  | 14 => (.ref 0, [.lst []])
  | 15 => (.ref 0, [.lst [.int 1]])
  | 16 => (.ref 0, [.dk []])
  | 17 => (.ref 0, [.dk [(Sum.inr "a", .int 1)]])
  | 18 => (.ref 0, [.tup [.str "a", .non]])
  | 19 => (.ref 0, [.tup [.str "a", .str "b"]])
  | 20 => (.ref 0, [.tup [.ref 1, .ref 2], .tup [.int 0, .int 0], .tup [.int 0, .int 0]])
  | 21 => (.ref 0, [.lst [.str "a", .str "b"]])
  | 22 => (.ref 0, [.tup [.str "a", .str "b", .str "b", .str "a"]])
  | r => (menuW.getD r .non, [])
/-- where the objects of a thing lie behind a draw -/
def thingS : Nat → List Nat
  | 12 => [1] | 13 => [2] | 14 => [3] | 15 => [4] | 16 => [6] | 17 => [7] | 18 => [8] | 19 => [9] | 20 => [12, 10, 11] | 21 => [13] | 22 => [14]
  | _ => []
def exS : List Nat := [0, 1, 2, 3, 4, 5, 6, 7, 8, 9, 11, 12, 13, 14, 15, 16, 17, 18, 21, 22, 23, 24, 25, 26, 27, 28, 29, 30, 33, 34, 35, 36, 37, 38, 39, 40, 43, 44, 45, 46, 47, 48, 49, 50, 51, 52, 55, 56, 57, 58, 59, 60, 62]
def enS : List Nat := [0, 1, 2, 3, 4, 5, 6, 7, 9, 10, 11, 12, 13, 14, 17, 18, 19, 20, 21, 22, 25, 26, 27, 28, 29, 30, 31, 32, 35, 36, 37, 38, 39, 40, 43, 44, 45, 46, 47, 48, 49, 50, 53, 54, 55, 56, 57, 58, 59, 62, 63, 64, 66]
def EH (w : W) : List O := [.exd [("given", w)], .exo 0 0, .exd [("given", w)], .exo 1 2, .exd [("given", w)], .exo 2 4, .exd [("given", w)], .exo 3 6, .exd [("given", w)], .exo 4 8, .exd [("given", w)], .exo 5 10, .exd [("given", w)], .exo 6 12, .exd [("given", w)], .exo 7 14, .exd [("given", w)], .exo 8 16, .exd [("given", w)], .exo 9 18, .exd [("given", w)], .exo 10 20, .exd [("given", w)], .exo 11 22, .exd [("index", w)], .exo 12 24, .exd [("index", w)], .exo 13 26, .exd [("index", w)], .exo 14 28, .exd [("index", w)], .exo 15 30, .exd [("index", w)], .exo 16 32, .exd [("index", w)], .exo 17 34, .exd [("given", w)], .exo 18 36, .exd [("index", w)], .exo 19 38, .exd [("given", w)], .exo 20 40, .exd [("given", w)], .exo 21 42, .exd [("given", w)], .exo 22 44, .exd [("given", w)], .exo 23 46, .exz 24, .exz 25, .exd [("index", w)], .exo 26 50, .lst [.ref 1, .ref 3, .ref 5, .ref 7, .ref 9, .ref 11, .ref 13, .ref 15, .ref 17, .ref 19, .ref 21, .ref 23, .ref 25, .ref 27, .ref 29, .ref 31, .ref 33, .ref 35, .ref 37, .ref 39, .ref 41, .ref 43, .ref 45, .ref 47, .ref 48, .ref 49, .ref 51]]
def shW (n : Nat) : W → W
  | .ref i => .ref (i + n)
  | w => w
def shO (n : Nat) : O → O
  | .lst xs => .lst (xs.map (shW n))
  | .tup xs => .tup (xs.map (shW n))
  | .dk kvs => .dk (kvs.map fun p => (p.1, shW n p.2))
  | o => o
def tw (r : Nat) : W := shW 53 (thing0 r).1
def CC (r : Nat) : List O := EH (tw r) ++ (thing0 r).2.map (shO 53)
def fitsP (m : MS) (s : List Nat) (r : Nat) : Bool :=
  let n := (thing0 r).2.length
  match callM 2 m [(thing0 r).1] (thing0 r).2 with
  | some (w, A) =>
    let sel := s.map (· + n) ++ List.range n
    decide (reW sel (.ref 52) = some w) && decide sel.Nodup && subOk A sel sel (CC r) && decide (reW sel (tw r) = some (thing0 r).1) && decide (A.take n = (thing0 r).2)
  | none => false
def fitsT (r : Nat) : Bool := decide (thingS r).Nodup && decide (reW (thingS r) (thing0 r).1 = menuW[r]?) && subOk (.tup [] :: menuT) (thingS r) (thingS r) (thing0 r).2 && (thingS r).all (fun j => decide (0 < j))
end K01

set_option Elab.async false
set_option linter.all false
set_option maxRecDepth 100000
set_option maxHeartbeats 16000000
namespace K01
open PySem L2 Sv
def rightR (r : Nat) : Bool := match callM 5 m_some_right [.ref 52, tw r] (CC r) with
  | some (.bl true, A) => decide (A.take (CC r).length = CC r)
  | _ => false
theorem fits_P : (List.range 23).all (fitsP m_placed exS) = true := by decide +kernel
theorem fits_N : (List.range 23).all (fitsP m_named enS) = true := by decide +kernel
theorem fits_T : (List.range 23).all fitsT = true := by decide +kernel
theorem right_0 : rightR 0 = true := by decide +kernel
theorem right_1 : rightR 1 = true := by decide +kernel
theorem right_2 : rightR 2 = true := by decide +kernel
theorem right_3 : rightR 3 = true := by decide +kernel
theorem right_4 : rightR 4 = true := by decide +kernel
theorem right_5 : rightR 5 = true := by decide +kernel
theorem right_6 : rightR 6 = true := by decide +kernel
theorem right_7 : rightR 7 = true := by decide +kernel
theorem right_8 : rightR 8 = true := by decide +kernel
theorem right_9 : rightR 9 = true := by decide +kernel
theorem right_10 : rightR 10 = true := by decide +kernel
theorem right_11 : rightR 11 = true := by decide +kernel
theorem right_12 : rightR 12 = true := by decide +kernel
theorem right_13 : rightR 13 = true := by decide +kernel
theorem right_14 : rightR 14 = true := by decide +kernel
theorem right_15 : rightR 15 = true := by decide +kernel
theorem right_16 : rightR 16 = true := by decide +kernel
theorem right_17 : rightR 17 = true := by decide +kernel
theorem right_18 : rightR 18 = true := by decide +kernel
theorem right_19 : rightR 19 = true := by decide +kernel
theorem right_20 : rightR 20 = true := by decide +kernel
theorem right_21 : rightR 21 = true := by decide +kernel
theorem right_22 : rightR 22 = true := by decide +kernel
theorem right_all (r : Nat) (h : r < 23) : rightR r = true := by
  have : r ∈ List.range 23 := List.mem_range.mpr h
  match r, h with
  | 0, _ => exact right_0
  | 1, _ => exact right_1
  | 2, _ => exact right_2
  | 3, _ => exact right_3
  | 4, _ => exact right_4
  | 5, _ => exact right_5
  | 6, _ => exact right_6
  | 7, _ => exact right_7
  | 8, _ => exact right_8
  | 9, _ => exact right_9
  | 10, _ => exact right_10
  | 11, _ => exact right_11
  | 12, _ => exact right_12
  | 13, _ => exact right_13
  | 14, _ => exact right_14
  | 15, _ => exact right_15
  | 16, _ => exact right_16
  | 17, _ => exact right_17
  | 18, _ => exact right_18
  | 19, _ => exact right_19
  | 20, _ => exact right_20
  | 21, _ => exact right_21
  | 22, _ => exact right_22
  | (n + 23), h => omega
end K01

set_option Elab.async false
set_option linter.all false
set_option maxRecDepth 100000
set_option maxHeartbeats 4000000
namespace Sv
open PySem L2
theorem Rep.subJ {κ : Kx} {ρ : List Addr} {A : List O} {H : Hp} (R : Rep κ ρ A H) {sel : List Nat} {B : List O} (hn : sel.Nodup) (h : subOk A sel sel B = true) : ∃ ρ', Rep κ ρ' B H ∧ (∀ p ∈ ρ', ∃ j ∈ sel, ρ[j]? = some p) ∧ ∀ w x v, reW sel w = some x → RelW κ ρ x v → RelW κ ρ' w v := by
  obtain ⟨ρ', R', hs, hw⟩ := R.sub hn h
  refine ⟨ρ', R', fun p hp => ?_, hw⟩
  obtain ⟨i, hi⟩ := List.getElem?_of_mem hp
  have hil := (List.getElem?_eq_some_iff.mp hi).1
  obtain ⟨hl, hat⟩ := subOk_at h
  have hib : i < B.length := by rw [← R'.len]; exact hil
  obtain ⟨j, u, h1, h2, h3⟩ := hat i _ (List.getElem?_eq_getElem hib)
  have hj : j < ρ.length := by rw [R.len]; exact (List.getElem?_eq_some_iff.mp h3).1
  have q : RelW κ ρ (.ref j) (.ref (ρ[j])) := ⟨_, List.getElem?_eq_getElem hj, rfl⟩
  obtain ⟨a, ha, e⟩ := hw (.ref i) (.ref j) _ (by show Option.map W.ref sel[i]? = _; rw [h1]; rfl) q
  rw [hi] at ha
  cases ha
  cases e
  exact ⟨j, List.mem_of_getElem? h1, List.getElem?_eq_getElem hj⟩
theorem subOk_head {o o' : O} {A J : List O} {sel0 : List Nat} : ∀ {sel : List Nat} {B : List O}, sel.all (fun j => decide (0 < j)) = true → subOk (o :: A) sel0 sel B = true → subOk (o' :: (A ++ J)) sel0 sel B = true
  | [], [], _, _ => rfl
  | [], _ :: _, _, h => by cases h
  | _ :: _, [], _, h => by cases h
  | j :: js, u :: us, h0, h => by
    unfold subOk at h ⊢
    rw [Bool.and_eq_true] at h ⊢
    simp only [List.all_cons, Bool.and_eq_true, decide_eq_true_eq] at h0
    refine ⟨?_, subOk_head (by simpa using h0.2) h.2⟩
    have h1 := h.1
    split at h1
    · rename_i x hx
      have e := of_decide_eq_true h1
      refine decide_eq_true ?_
      obtain ⟨i, rfl⟩ : ∃ i, j = i + 1 := ⟨j - 1, by omega⟩
      rw [List.getElem?_cons_succ] at e ⊢
      rw [List.getElem?_append_left (List.getElem?_eq_some_iff.mp e).1]
      exact e
    · cases h1
end Sv
namespace K01
open PySem L2 Sv
/-- the pail at p, in an outer heap H0 of which all else is kept -/
def Pail (κ : Kx) (H : Hp) (p : Addr) : Prop := ∃ a b c : Int, (0 ≤ b ∧ b < 2 ^ 63) ∧ Rep κ [p] [.lst [.int a, .int b, .int c]] H
structure Wd (κ : Kx) (H0 : Hp) (p : Addr) (H : Hp) : Prop where
  it : ∃ o, H0 p = some o
  pl : Pail κ H p
  kb : ∀ b o, H0 b = some o → b ≠ p → H b = some o
def Fresh (H0 : Hp) (ρ : List Addr) : Prop := ∀ q ∈ ρ, H0 q = none
def Thing (κ : Kx) (H0 : Hp) (r : Nat) (v : V) (H : Hp) : Prop := ∃ ρ, Fresh H0 ρ ∧ Rep κ ρ (thing0 r).2 H ∧ RelW κ ρ (thing0 r).1 v
def Made (κ : Kx) (H0 : Hp) (r : Nat) (u v : V) (H : Hp) : Prop := ∃ ρ, Fresh H0 ρ ∧ Rep κ ρ (CC r) H ∧ RelW κ ρ (.ref 52) u ∧ RelW κ ρ (tw r) v
section
variable {κ : Kx} {H0 H H' : Hp} {p : Addr} {ρ ρ' : List Addr}
theorem Pail.there (h : Pail κ H p) : ∃ o, H p = some o := by
  obtain ⟨a, b, c, _, R⟩ := h
  exact (R.ob 0 p _ rfl rfl).there
theorem Pail.keep (h : Pail κ H p) (e : H' p = H p) : Pail κ H' p := by
  obtain ⟨a, b, c, hb, R⟩ := h
  refine ⟨a, b, c, hb, rfl, by simp, fun i a' o ha ho => ?_⟩
  cases i with
  | zero =>
    have : a' = p := by simpa using ha.symm
    subst this
    exact (R.ob 0 a' o rfl ho).mono (.refl _) e
  | succ i => simp at ha
theorem Wd.go (W : Wd κ H0 p H) (F : Fresh H0 ρ) (G : Go ρ H ρ' H') : Wd κ H0 p H' ∧ Fresh H0 ρ' := by
  obtain ⟨o, ho⟩ := W.it
  have hp : p ∉ ρ := fun z => by have := F p z; rw [ho] at this; cases this
  obtain ⟨u, hu⟩ := W.pl.there
  refine ⟨⟨W.it, W.pl.keep ((G.kp p u hu hp).trans hu.symm), fun b x hb hne => G.kp b x (W.kb b x hb hne) fun z => by have := F b z; rw [hb] at this; cases this⟩, fun q hq => ?_⟩
  rcases G.new q hq with h | h
  · exact F q h
  · cases e : H0 q with
    | none => rfl
    | some x =>
      by_cases hqp : q = p
      · subst hqp
        rw [hu] at h
        cases h
      · rw [W.kb q x e hqp] at h
        cases h
theorem range_all {f : Nat → Bool} (h : (List.range 23).all f = true) {r : Nat} (hr : r < 23) : f r = true := List.all_eq_true.mp h r (List.mem_range.mpr hr)
theorem sp_anything (hT : ∀ r, r < 23 → fitsT r = true) {Q : VK} {E : XK} (W : Wd κ H0 p H) (k : ∀ (r : Nat) (v : V) (H' : Hp), r < 23 → Wd κ H0 p H' → Thing κ H0 r v H' → Q v H') : spM κ 1 2 m_anything [.ref p] H Q E := by
  obtain ⟨a, b, c, hb, R⟩ := W.pl
  obtain ⟨r, a', b', c', J, x, hr, hx, hc, hb'⟩ := anything_ok (a := a) (c := c) hb
  refine ⟨rfl, [p], _, [.ref 0], x, _, R, .cons ⟨p, rfl, rfl⟩ .nil, hc, fun ρ' H' v R' G rv => ?_⟩
  have h0 : ρ'[0]? = some p := G.pre 0 p rfl
  have ft := hT r hr
  unfold fitsT at ft
  simp only [Bool.and_eq_true, decide_eq_true_eq] at ft
  obtain ⟨⟨⟨f1, f2⟩, f3⟩, f4⟩ := ft
  have W' : Wd κ H0 p H' := by
    refine ⟨W.it, ⟨a', b', c', hb', rfl, by simp, fun i q o hq ho => ?_⟩, fun b x hb0 hne => G.kp b x (W.kb b x hb0 hne) (by simpa using hne)⟩
    cases i with
    | zero =>
      have : q = p := by simpa using hq.symm
      subst this
      have : o = .lst [.int a', .int b', .int c'] := by simpa using ho.symm
      subst this
      obtain ⟨vs, e, q2⟩ := R'.of (o := .lst [.int a', .int b', .int c']) h0 rfl
      refine ⟨vs, e, ?_⟩
      cases q2 with
      | cons r1 t => cases t with
        | cons r2 t => cases t with
          | cons r3 t => cases t; exact .cons r1 (.cons r2 (.cons r3 .nil))
    | succ i => simp at hq
  obtain ⟨ρt, Rt, hin, hw⟩ := R'.subJ f1 (subOk_head (o' := O.lst [.int a', .int b', .int c']) (J := J) f4 f3)
  refine k r v H' hr W' ⟨ρt, fun q hq => ?_, Rt, hw _ _ _ (f2.trans hx) rv⟩
  obtain ⟨j, hj, ej⟩ := hin q hq
  have hj0 : 0 < j := by simpa using List.all_eq_true.mp f4 j hj
  have hqp : q ≠ p := fun z => by
    subst z
    obtain ⟨l0, e0⟩ := List.getElem?_eq_some_iff.mp h0
    obtain ⟨l1, e1⟩ := List.getElem?_eq_some_iff.mp ej
    have := (List.getElem_inj R'.nd).mp (e0.trans e1.symm)
    omega
  rcases G.new q (List.mem_of_getElem? ej) with h | h
  · exact absurd (by simpa using h) hqp
  · cases e : H0 q with
    | none => rfl
    | some z =>
      rw [W.kb q z e hqp] at h
      cases h
theorem sp_made {m : MS} {s : List Nat} {r : Nat} (hf : fitsP m s r = true) {v : V} {Q : VK} {E : XK} (W : Wd κ H0 p H) (T : Thing κ H0 r v H)
    (k : ∀ (u : V) (H' : Hp), Wd κ H0 p H' → Made κ H0 r u v H' → Q u H') : spM κ 1 2 m [v] H Q E := by
  obtain ⟨ρ, F, R, rv⟩ := T
  unfold fitsP at hf
  dsimp only at hf
  split at hf
  · rename_i w A hc
    simp only [Bool.and_eq_true, decide_eq_true_eq] at hf
    obtain ⟨⟨⟨⟨f1, f2⟩, f3⟩, f4⟩, f5⟩ := hf
    refine ⟨rfl, ρ, _, [(thing0 r).1], w, A, R, .cons rv .nil, hc, fun ρ' H' u R' G ru => ?_⟩
    obtain ⟨W', F'⟩ := W.go F G
    obtain ⟨ρc, Rc, hin, hw⟩ := R'.sub f2 f3
    exact k u H' W' ⟨ρc, fun q hq => F' q (hin q hq), Rc, hw _ _ _ f1 ru, hw _ _ _ f4 (rv.mono G.pre)⟩
  · cases hf
def RightAll : Prop := ∀ r, r < 23 → ∃ J, callM 5 m_some_right [.ref 52, tw r] (CC r) = some (.bl true, CC r ++ J)
def fitsC (r : Nat) : Bool :=
  let sel := (List.range (thing0 r).2.length).map (· + 53)
  decide sel.Nodup && subOk (CC r) sel sel (thing0 r).2 && decide (reW sel (thing0 r).1 = some (tw r))
theorem fits_C : (List.range 23).all fitsC = true := by decide +kernel
theorem sp_right (hR : RightAll) {r : Nat} (hr : r < 23) {u v : V} {Q : VK} {E : XK} (W : Wd κ H0 p H) (M : Made κ H0 r u v H)
    (k : ∀ (H' : Hp), Wd κ H0 p H' → Thing κ H0 r v H' → Q (.bl true) H') : spM κ 2 5 m_some_right [u, v] H Q E := by
  obtain ⟨ρ, F, R, ru, rv⟩ := M
  obtain ⟨J, hc⟩ := hR r hr
  refine ⟨rfl, ρ, _, [.ref 52, tw r], .bl true, _, R, .cons ru (.cons rv .nil), hc, fun ρ' H' x R' G rx => ?_⟩
  cases rx
  obtain ⟨W', F'⟩ := W.go F G
  have R2 := R.gc G R'
  have fc := range_all fits_C hr
  unfold fitsC at fc
  dsimp only at fc
  simp only [Bool.and_eq_true, decide_eq_true_eq] at fc
  obtain ⟨⟨f1, f2⟩, f3⟩ := fc
  obtain ⟨ρt, Rt, hin, hw⟩ := R2.sub f1 f2
  exact k H' W' ⟨ρt, fun q hq => F q (hin q hq), Rt, hw _ _ _ f3 rv⟩
end
end K01

set_option Elab.async false
set_option linter.all false
set_option maxRecDepth 100000
set_option maxHeartbeats 16000000
namespace K01
open PySem L2 Sv
open PyProof.Rows (envOfC)
section
variable {κ : Kx} {P : Program} {w : World} {mg : Str → Option Value} {base : Heap}
abbrev s_right : Stmt := top 46
theorem sc_right : FnScope ["_law_pail", "_law_turn", "_law_thing"] ["_law_pail"] (defScope s_right) := ⟨rfl, rfl, rfl, by decide +kernel, rfl, by decide +kernel, by decide +kernel⟩
def spR (κ : Kx) : Sp := fun vs H Q _ => ∃ p, vs = [.ref p] ∧ Pail κ H p ∧ ∀ H', (∀ b o, H b = some o → b ≠ p → H' b = some o) → Q (.bl true) H'
structure Alls : Prop where
  right : RightAll
  placed : ∀ r, r < 23 → fitsP m_placed exS r = true
  named : ∀ r, r < 23 → fitsP m_named enS r = true
  thing : ∀ r, r < 23 → fitsT r = true
theorem ok_right (AL : Alls) {f : Addr} {fd : FuncData} (D : DefT κ.K mg "_law_right" s_right ["_law_pail"] f fd) (T : Txt P w κ mg base)
    {f1 : Addr} {fd1 : FuncData} (D1 : DefT κ.K mg "_law_anything" s_anything ["_law_pail"] f1 fd1) (K1 : FnOk P w κ.K mg base CX0 3 f1 fd1 ["_law_pail"] (spM κ 1 2 m_anything))
    {f2 : Addr} {fd2 : FuncData} (D2 : DefT κ.K mg "_law_placed" s_placed ["_law_thing"] f2 fd2) (K2 : FnOk P w κ.K mg base CX0 3 f2 fd2 ["_law_thing"] (spM κ 1 2 m_placed))
    {f3 : Addr} {fd3 : FuncData} (D3 : DefT κ.K mg "_law_named" s_named ["_law_thing"] f3 fd3) (K3 : FnOk P w κ.K mg base CX0 3 f3 fd3 ["_law_thing"] (spM κ 1 2 m_named))
    {f4 : Addr} {fd4 : FuncData} (D4 : DefT κ.K mg "_law_some_right" s_some_right ["_law_some", "_law_thing"] f4 fd4) (K4 : FnG P w κ.K mg base 2 f4 fd4 ["_law_some", "_law_thing"] (spM κ 2 5 m_some_right)) :
    FnG P w κ.K mg base 4 f fd ["_law_pail"] (spR κ) := by
  have nd := sc_right.nd
  refine okG (k := 3) D.F sc_right (fun vs H Q E h => by obtain ⟨p, rfl, _⟩ := h; rfl) fun cdv A outer s H vs Q E hr hG h => ?_
  let sc : Scope := defScope s_right
  refine ⟨_, (pss_cons (ps_for PassesOwn.never rfl (pi_range1 rfl T.n_range (pa_cons pe_int pa_nil)) (pg_name (i := 1) nd rfl (by first | exact Or.inl rfl | exact Or.inr rfl))
    (pss_cons (ps_set (i := 2) nd rfl (by first | exact Or.inl rfl | exact Or.inr rfl) (pe_call K1 (hr.mono (by decide)) (by rfl) D1.g D1.F.kp D1.b .nil pass0 (pa_cons (pv 0) pa_nil)))
      (pss_one (ps_if (PW.pt (pw_or (pt_not (pt_val (pe_callG K4 (hr.mono (by decide)) hG D4.g D4.F.kp D4.b (pa_cons (pe_call K2 (hr.mono (by decide)) (by rfl) D2.g D2.F.kp D2.b .nil pass0 (pa_cons (pv 2) pa_nil)) (pa_cons (pv 2) pa_nil)))))
        (pw_or1 (pt_not (pt_val (pe_callG K4 (hr.mono (by decide)) hG D4.g D4.F.kp D4.b (pa_cons (pe_call K3 (hr.mono (by decide)) (by rfl) D3.g D3.F.kp D3.b .nil pass0 (pa_cons (pv 2) pa_nil)) (pa_cons (pv 2) pa_nil))))))))
        (pss_one (ps_ret pe_bl)) pss_nil))))
    (pss_one (ps_ret pe_bl))), ?_⟩
  obtain ⟨p, rfl, hP, hk⟩ := h
  have W0 : Wd κ H p H := ⟨hP.there, hP, fun b o h _ => h⟩
  refine ⟨4, rfl, by decide, by decide, fun i m σ H1 => ∃ e1 e2, σ = [some (.ref p), e1, e2] ∧ Wd κ H p H1 ∧ i ≤ 4 ∧ m = 4 - i, ⟨4, _, _, rfl, W0, by decide, rfl⟩, ?_⟩
  rintro i m σ H1 ⟨e1, e2, rfl, W1, hi, rfl⟩
  by_cases hs : i = 4
  · subst hs
    refine .inl ⟨Nat.le_refl _, ?_⟩
    exact hk H1 W1.kb
  · refine .inr ⟨by show i < 4; omega, fun σ' H' => ∃ e1 e2, σ' = [some (.ref p), e1, e2] ∧ Wd κ H p H', fun σ' H' hN => ?_, fun x H' hx => ?_⟩
    · obtain ⟨g1, g2, rfl, W'⟩ := hN
      exact ⟨4 - (i + 1), by omega, g1, g2, rfl, W', by omega, rfl⟩
    · obtain ⟨rfl, rfl⟩ := hx
      refine ⟨.ref p, rfl, ?_⟩
      refine sp_anything (E := E0) AL.thing W1 fun r v H2 hr2 W2 T2 => ?_
      refine ⟨v, rfl, ?_⟩
      refine sp_made (E := E0) (AL.placed r hr2) W2 T2 fun u H3 W3 M3 => ?_
      refine ⟨v, rfl, ?_⟩
      refine sp_right (E := E0) AL.right hr2 W3 M3 fun H4 W4 T4 => ?_
      refine ⟨true, rfl, ?_⟩
      refine ⟨v, rfl, ?_⟩
      refine sp_made (E := E0) (AL.named r hr2) W4 T4 fun u H5 W5 M5 => ?_
      refine ⟨v, rfl, ?_⟩
      refine sp_right (E := E0) AL.right hr2 W5 M5 fun H6 W6 T6 => ?_
      refine ⟨true, rfl, ?_⟩
      exact ⟨_, _, rfl, W6⟩
end
end K01

set_option Elab.async false
set_option linter.all false
set_option maxRecDepth 100000
set_option maxHeartbeats 16000000
namespace K01
open PySem L2 Sv
open PyProof.Rows (envOfC)
section
variable {κ : Kx} {P : Program} {w : World} {mg : Str → Option Value} {base : Heap}
abbrev s_begun : Stmt := top 36
theorem sc_begun : FnScope ["_law_script", "_law_turn", "_law_own", "_law_state", "_law_cell"] ["_law_script", "_law_turn"] (defScope s_begun) := ⟨rfl, rfl, rfl, by decide +kernel, rfl, by decide +kernel, by decide +kernel⟩
def spB (κ : Kx) : Sp := fun vs H Q _ => ∃ (a : Addr) (t : Int) (ns : List Int), vs = [.ref a, .int t] ∧ (0 ≤ t ∧ t < 5) ∧ SqL κ.K H a (ns.map V.int) ∧ (∀ z ∈ ns, Builtin.Int.intBits z ≤ 1048576) ∧
  ∀ q H', H q = none → (∀ b o, H b = some o → H' b = some o) → Pail κ H' q → Q (.ref q) H'
theorem ok_begun {f : Addr} {fd : FuncData} (D : DefT κ.K mg "_law_begun" s_begun ["_law_script", "_law_turn"] f fd) (T : Txt P w κ mg base) :
    FnOk P w κ.K mg base CX0 1 f fd ["_law_script", "_law_turn"] (spB κ) := by
  have nd := sc_begun.nd
  refine D.F.ok sc_begun (fun vs H Q E h => by obtain ⟨a, t, ns, rfl, _⟩ := h; rfl) fun cdv A outer s H vs Q E hr h => ?_
  let sc : Scope := defScope s_begun
  refine ⟨_, (pss_cons (ps_set (i := 2) nd rfl (by first | exact Or.inl rfl | exact Or.inr rfl) (pe_ifExp (pt_cmpR op_lt (pv 1) (pe_callB call_len_seq (by rfl) T.n_len (by decide +kernel) (pa_cons (pv 0) pa_nil)) (nomark _)) (pe_ix ix_list (pv 0) (pv 1) (fun _ _ => rfl)) pe_int))
    (pss_cons (ps_set (i := 3) nd rfl (by first | exact Or.inl rfl | exact Or.inr rfl) (pe_op op_add pe_int (pe_op op_mul pe_int (pv 1))))
    (pss_cons (ps_for PassesOwn.never rfl (pi_list (pe_slice sl_list (pv 0) po_none (po_some pe_int))) (pg_name (i := 4) nd rfl (by first | exact Or.inl rfl | exact Or.inr rfl))
        (pss_one (ps_set (i := 3) nd rfl (by first | exact Or.inl rfl | exact Or.inr rfl) (pe_op op_mod (pe_callTy call_int1 (by rfl) T.n_int (by decide +kernel) (pa_cons (pe_op op_add (pe_op op_add (pe_op op_mul (pv 3) pe_int) (pe_op op_mul (pv 4) pe_int)) pe_int) pa_nil)) pe_int))))
    (pss_one (ps_ret (pe_lst (pa_cons (pe_ifExp (PW.pt (pw_or (pt_cmpR op_lt (pv 2) pe_int (nomark _)) (pw_or1 (pt_cmpR op_ge (pv 2) (pe_op op_pow pe_int pe_int) (nomark _))))) (pe_callB call_abs (by rfl) T.n_abs (by decide +kernel) (pa_cons (pv 2) pa_nil)) pe_int)
      (pa_cons (pe_op op_mod (pe_callTy call_int1 (by rfl) T.n_int (by decide +kernel) (pa_cons (pe_op op_add (pe_op op_add (pe_op op_mul (pv 3) pe_int) (pe_op op_mulX (pv 2) (pv 2))) (pe_op op_mul pe_int (pv 1))) pa_nil)) pe_int)
      (pa_cons pe_int pa_nil))))))))), ?_⟩
  obtain ⟨a, t, ns, rfl, ht, hs, hbits, hk⟩ := h
  obtain ⟨own, hown, hev⟩ : ∃ own : Int, Builtin.Int.intBits own ≤ 1048576 ∧ ∀ (o2 o3 o4 : Option V) (Q : VK), Q (.int own) H → (tIf (tTest (tOp (rI0 fun i j => .bl (decide (i < j))) (tVar 1) (tCB (fun xs H Q => ∃ p ys, xs = [.ref p] ∧ (SqL κ.K H p ys ∨ SqT κ.K H p ys) ∧ Q (.int ys.length) H) (tCons (tVar 0) tNil)))) (tOp (rIxL κ.K) (tVar 0) (tVar 1)) (tC (.int 0))) [some (.ref a), some (.int t), o2, o3, o4] H Q := by
    by_cases hc : t < (ns.map V.int).length
    · have hn : t.toNat < ns.length := by rw [List.length_map] at hc; omega
      refine ⟨ns[t.toNat], hbits _ (List.getElem_mem hn), fun o2 o3 o4 Q q => ?_⟩
      refine ⟨.int t, rfl, .ref a, rfl, a, _, rfl, .inl hs, t, _, rfl, rfl, _, rfl, ?_⟩
      show (if decide (t < (ns.map V.int).length) = true then _ else _)
      rw [if_pos (decide_eq_true hc)]
      refine ⟨.ref a, rfl, .int t, rfl, a, _, t, .int ns[t.toNat], rfl, rfl, hs, ?_, q⟩
      unfold L2.atI L2.ixN
      rw [if_pos ht.1, if_pos hc]
      show (ns.map V.int)[t.toNat]? = _
      rw [List.getElem?_map, List.getElem?_eq_getElem hn]
      rfl
    · refine ⟨0, by decide, fun o2 o3 o4 Q q => ?_⟩
      refine ⟨.int t, rfl, .ref a, rfl, a, _, rfl, .inl hs, t, _, rfl, rfl, _, rfl, ?_⟩
      show (if decide (t < (ns.map V.int).length) = true then _ else _)
      rw [if_neg (by rw [decide_eq_true_eq]; exact hc)]
      exact q
  refine hev none none none _ ?_
  refine ⟨.int t, rfl, 7727, t, rfl, rfl, .inl ⟨by decide, by decide⟩, 60013, 7727 * t, rfl, rfl, ?_⟩
  refine ⟨.ref a, rfl, 6, rfl, a, _, rfl, hs, fun l hl => ?_⟩
  generalize hcut : cutV (ns.map V.int) none (some 6) = cut
  have hints : ∀ v ∈ cut, ∃ z : Int, v = .int z := fun v hv => by
    rw [← hcut] at hv
    obtain ⟨z, _, e⟩ := List.mem_map.mp (List.mem_of_mem_drop (List.mem_of_mem_take hv))
    exact ⟨z, e.symm⟩
  let Hl : Hp := upd H l (.lst cut)
  have hSl : SqL κ.K Hl l cut := SqL.of upd_same
  refine ⟨l, rfl, ⟨cut, hSl⟩, ?_⟩
  refine ⟨fun i m σ H1 => ∃ (st : Int) (e4 : Option V), σ = [some (.ref a), some (.int t), some (.int own), some (.int st), e4] ∧ H1 = Hl ∧ (0 ≤ st ∧ st < 2147483629) ∧ i ≤ cut.length ∧ m = cut.length - i, ⟨cut.length, 60013 + 7727 * t, none, rfl, rfl, ⟨by omega, by omega⟩, Nat.zero_le _, rfl⟩, ?_⟩
  rintro i m σ H1 ⟨st, e4, rfl, rfl, hst, hi, rfl⟩
  by_cases hs2 : i = cut.length
  · refine .inl ⟨⟨cut, hSl, by omega⟩, ?_⟩
    obtain ⟨a', hev2⟩ : ∃ a' : Int, ∀ (Q : VK), Q (.int a') Hl → tIf (tOr (tTest (tOp (rI0 fun i j => V.bl (decide (i < j))) (tVar 2) (tC (V.int 0)))) (tTest (tOp (rI0 fun i j => V.bl (decide (j ≤ i))) (tVar 2) (tOp (rI CPow fun i j => V.int (i ^ j.toNat)) (tC (V.int 10)) (tC (V.int 18))))))
        (tCB (fun xs H Q => ∃ i, xs = [V.int i] ∧ Q (V.int (if i < 0 then -i else i)) H) (tCons (tVar 2) tNil)) (tC (V.int 0)) [some (.ref a), some (.int t), some (.int own), some (.int st), e4] Hl Q := by
      by_cases h1 : own < 0
      · refine ⟨if own < 0 then -own else own, fun Q q => ?_⟩
        refine ⟨.int own, rfl, own, 0, rfl, rfl, _, rfl, ?_⟩
        show (if decide (own < 0) = true then _ else _)
        rw [if_pos (decide_eq_true h1)]
        exact ⟨.int own, rfl, own, rfl, q⟩
      · by_cases h2 : (10 : Int) ^ (18 : Int).toNat ≤ own
        · refine ⟨if own < 0 then -own else own, fun Q q => ?_⟩
          refine ⟨.int own, rfl, own, 0, rfl, rfl, _, rfl, ?_⟩
          show (if decide (own < 0) = true then _ else _)
          rw [if_neg (by rw [decide_eq_true_eq]; exact h1)]
          refine ⟨.int own, rfl, 10, 18, rfl, rfl, ⟨by decide, by decide, by decide⟩, own, _, rfl, rfl, _, rfl, ?_⟩
          show (if decide ((10 : Int) ^ (18 : Int).toNat ≤ own) = true then _ else _)
          rw [if_pos (decide_eq_true h2)]
          exact ⟨.int own, rfl, own, rfl, q⟩
        · refine ⟨0, fun Q q => ?_⟩
          refine ⟨.int own, rfl, own, 0, rfl, rfl, _, rfl, ?_⟩
          show (if decide (own < 0) = true then _ else _)
          rw [if_neg (by rw [decide_eq_true_eq]; exact h1)]
          refine ⟨.int own, rfl, 10, 18, rfl, rfl, ⟨by decide, by decide, by decide⟩, own, _, rfl, rfl, _, rfl, ?_⟩
          show (if decide ((10 : Int) ^ (18 : Int).toNat ≤ own) = true then _ else _)
          rw [if_neg (by rw [decide_eq_true_eq]; exact h2)]
          exact q
    refine hev2 _ ?_
    have hX : CMulX own own := by
      show (Builtin.Int.intBits own : Int) + (Builtin.Int.intBits own : Int) ≤ 134217728
      have : (Builtin.Int.intBits own : Int) ≤ 1048576 := Int.ofNat_le.mpr hown
      omega
    refine ⟨.int st, rfl, st, 53, rfl, rfl, .inr ⟨by decide, by decide⟩, .int own, rfl, .int own, rfl, own, own, rfl, rfl, hX, _, _, rfl, rfl, .int t, rfl, 17, t, rfl, rfl, .inl ⟨by decide, by decide⟩, _, _, rfl, rfl,
      .inl ⟨_, rfl, _, 2147483629, rfl, rfl, (show (0 : Int) < 2147483629 by decide), ?_⟩⟩
    refine ⟨(show 3 ≤ sizeLine by decide), fun p hp => ?_⟩
    have hpl : p ≠ l := fun z => by
      subst z
      rw [show Hl p = some (.lst cut) from upd_same] at hp
      cases hp
    have hHp : H p = none := by
      rw [← hp]
      exact (upd_ne hpl).symm
    refine hk p _ hHp (fun b o hb => ?_) ⟨a', (st * 53 + own * own + 17 * t) % 2147483629, 0, ⟨Int.emod_nonneg _ (by decide), Int.lt_trans (Int.emod_lt_of_pos _ (show (0 : Int) < 2147483629 by decide)) (by decide)⟩, rfl, by simp, fun i q o hq ho => ?_⟩
    · rw [upd_ne (ne_of_none hb hHp), show Hl b = H b from upd_ne (ne_of_none hb hl)]
      exact hb
    · cases i with
      | zero =>
        have : q = p := by simpa using hq.symm
        subst this
        obtain rfl := Option.some.inj (show some (O.lst [.int a', .int ((st * 53 + own * own + 17 * t) % 2147483629), .int 0]) = some o from ho)
        exact ⟨_, upd_same, .cons rfl (.cons rfl (.cons rfl .nil))⟩
      | succ i => simp at hq
  · have hi2 : i < cut.length := by omega
    refine .inr ⟨⟨cut, cut[i], hSl, List.getElem?_eq_getElem hi2⟩, fun σ' H' => ∃ (st : Int) (e4 : Option V), σ' = [some (.ref a), some (.int t), some (.int own), some (.int st), e4] ∧ H' = Hl ∧ (0 ≤ st ∧ st < 2147483629), fun σ' H' hN => ?_, fun x H' hx => ?_⟩
    · obtain ⟨st', g, rfl, rfl, h'⟩ := hN
      exact ⟨cut.length - (i + 1), by omega, st', g, rfl, rfl, h', by omega, rfl⟩
    · obtain ⟨rfl, hx⟩ := hx
      have hx2 := hx cut (hSl)
      obtain ⟨z, rfl⟩ := hints x (List.mem_of_getElem? hx2)
      refine ⟨.int st, rfl, st, 30269, rfl, rfl, .inr ⟨by decide, by decide⟩, .int z, rfl, z, 7, rfl, rfl, .inr ⟨by decide, by decide⟩, _, _, rfl, rfl, _, 13, rfl, rfl, .inl ⟨_, rfl, _, 2147483629, rfl, rfl, (show (0 : Int) < 2147483629 by decide), ?_⟩⟩
      exact ⟨_, _, rfl, rfl, Int.emod_nonneg _ (by decide), Int.emod_lt_of_pos _ (by decide)⟩
end
end K01

set_option Elab.async false
set_option linter.all false
set_option maxRecDepth 100000
set_option maxHeartbeats 16000000
namespace K01
open PySem L2 Sv
open PyProof.Rows (envOfC)
theorem SqL.kept {K : PySem.W.Frag} {H H' : Hp} {a : Addr} {xs : List V} (h : SqL K H a xs) (k : ∀ b o, H b = some o → H' b = some o) : SqL K H' a xs := by
  rcases h with h | h
  · rcases h with h | ⟨o, h⟩
    · exact .inl (.inl (k _ _ h))
    · exact .inl (.inr ⟨o, k _ _ h⟩)
  · exact .inr h
section
variable {κ : Kx} {P : Program} {w : World} {mg : Str → Option Value} {base : Heap}
abbrev s_law : Stmt := top 47
theorem sc_law : FnScope ["_law_script", "_law_turn"] ["_law_script"] (defScope s_law) := ⟨rfl, rfl, rfl, by decide +kernel, rfl, by decide +kernel, by decide +kernel⟩
def spL (κ : Kx) : Sp := fun vs H Q _ => ∃ (a : Addr) (ns : List Int), vs = [.ref a] ∧ SqL κ.K H a (ns.map V.int) ∧ (∀ z ∈ ns, Builtin.Int.intBits z ≤ 1048576) ∧ ns.length ≤ 100000 ∧ ∀ H', Q (.bl true) H'
def mFirst : MT := mB (mOp (fEqD true) (mCB fRepr (mCons (mLst (mCons (mC (.int 4)) (mCons (mC (.int 1000000000000000000000000000000)) (mCons (mC (.int 12)) (mCons (mC (.int 6)) mNil))))) mNil)) (mCB fRepr (mCons (mLst (mCons (mC (.int 4)) (mCons (mOp fPowI (mC (.int 10)) (mC (.int 30))) (mCons (mC (.int 12)) (mCons (mC (.int 6)) mNil))))) mNil)))
def firstB : Bool := match mFirst [none, none] [] with
  | some (false, _) => true
  | _ => false
theorem first_ok : firstB = true := by decide +kernel
theorem ok_law (AL : Alls) {f : Addr} {fd : FuncData} (D : DefT κ.K mg "law" s_law ["_law_script"] f fd) (T : Txt P w κ mg base)
    {t1 t2 t3 t4 : Tok} (c1 : mg "MOST_KINDS" = some (.int 4 t1)) (c2 : mg "MOST_COUNT" = some (.int 1000000000000000000000000000000 t2)) (c3 : mg "MOST_FACTS" = some (.int 12 t3)) (c4 : mg "MOST_CHANGES" = some (.int 6 t4))
    {f1 : Addr} {fd1 : FuncData} (D1 : DefT κ.K mg "_law_begun" s_begun ["_law_script", "_law_turn"] f1 fd1) (K1 : FnOk P w κ.K mg base CX0 1 f1 fd1 ["_law_script", "_law_turn"] (spB κ))
    {f2 : Addr} {fd2 : FuncData} (D2 : DefT κ.K mg "_law_right" s_right ["_law_pail"] f2 fd2) (K2 : FnG P w κ.K mg base 4 f2 fd2 ["_law_pail"] (spR κ)) :
    FnG P w κ.K mg base 5 f fd ["_law_script"] (spL κ) := by
  have nd := sc_law.nd
  refine okG (k := 4) D.F sc_law (fun vs H Q E h => by obtain ⟨a, ns, rfl, _⟩ := h; rfl) fun cdv A outer s H vs Q E hr hG h => ?_
  let sc : Scope := defScope s_law
  refine ⟨_, (pss_cons (ps_if (pt_cmpR (op_neD hr.units) (pe_callB ((call_repr (hr.mono (Nat.zero_le _)) hG).or (call_reprK (hr.mono (Nat.zero_le _)) hG)) (by rfl) T.n_repr (by decide +kernel) (pa_cons (pe_lst (pa_cons (pe_glob rfl c1 (v := .int 4) ⟨_, rfl⟩) (pa_cons (pe_glob rfl c2 (v := .int 1000000000000000000000000000000) ⟨_, rfl⟩) (pa_cons (pe_glob rfl c3 (v := .int 12) ⟨_, rfl⟩) (pa_cons (pe_glob rfl c4 (v := .int 6) ⟨_, rfl⟩) pa_nil))))) pa_nil))
        (pe_callB ((call_repr (hr.mono (Nat.zero_le _)) hG).or (call_reprK (hr.mono (Nat.zero_le _)) hG)) (by rfl) T.n_repr (by decide +kernel) (pa_cons (pe_lst (pa_cons pe_int (pa_cons (pe_op op_pow pe_int pe_int) (pa_cons pe_int (pa_cons pe_int pa_nil))))) pa_nil)) (nomark _)) (pss_one (ps_ret pe_bl)) pss_nil)
    (pss_one (ps_ret (pe_callB (cr_all rfl) (by rfl) T.n_all (by decide +kernel) (pa_cons
      (pe_lc (own := [("_law_turn", 1)]) (g := gName 1) (tt := tYes) rfl nd (pi_range1 rfl T.n_range (pa_cons (pe_callB (call_max2 rfl) (by rfl) T.n_max (by decide +kernel) (pa_cons pe_int (pa_cons (pe_callB (call_min2 rfl) (by rfl) T.n_min (by decide +kernel) (pa_cons (pe_callB call_len_seq (by rfl) T.n_len (by decide +kernel) (pa_cons (pv 0) pa_nil)) (pa_cons pe_int pa_nil))) pa_nil))) pa_nil))
        (blkOk_by (own := [("_law_turn", 1)]) (N := ["_law_script", "_law_turn"]) (sc := sc) (by decide +kernel)) (fun _ _ _ _ _ => pg_name (i := 1) nd rfl (Or.inl rfl)) (fun _ _ _ _ _ => pts_nil)
        (fun _ _ _ _ _ => (pe_callG K2 (hr.mono (by decide)) hG D2.g D2.F.kp D2.b (pa_cons (pe_call K1 (hr.mono (by decide)) (by rfl) D1.g D1.F.kp D1.b .nil pass0 (pa_cons (pv 0) (pa_cons (pv 1) pa_nil))) pa_nil)))) pa_nil))))), ?_⟩
  obtain ⟨a, ns, rfl, hs, hbits, hlen, hk⟩ := h
  have sf : SimT κ (tTest (tOp (rNeD κ.K) (tCB (fun xs H Q => rRepr κ.K xs H Q ∨ rReprK xs H Q) (tCons (tLst (tCons (tC (V.int 4)) (tCons (tC (V.int 1000000000000000000000000000000)) (tCons (tC (V.int 12)) (tCons (tC (V.int 6)) tNil))))) tNil))
      (tCB (fun xs H Q => rRepr κ.K xs H Q ∨ rReprK xs H Q) (tCons (tLst (tCons (tC (V.int 4)) (tCons (tOp (rI CPow fun i j => V.int (i ^ j.toNat)) (tC (V.int 10)) (tC (V.int 30))) (tCons (tC (V.int 12)) (tCons (tC (V.int 6)) tNil))))) tNil)))) mFirst :=
    sim_test (sim_op (sim_cb (sim_cons (sim_lst (sim_cons (sim_c (w0 := .int 4) fun _ => rfl) (sim_cons (sim_c (w0 := .int 1000000000000000000000000000000) fun _ => rfl) (sim_cons (sim_c (w0 := .int 12) fun _ => rfl) (sim_cons (sim_c (w0 := .int 6) fun _ => rfl) sim_nil))))) sim_nil) sc_repr)
      (sim_cb (sim_cons (sim_lst (sim_cons (sim_c (w0 := .int 4) fun _ => rfl) (sim_cons (sim_op (sim_c (w0 := .int 10) fun _ => rfl) (sim_c (w0 := .int 30) fun _ => rfl) sr_powI) (sim_cons (sim_c (w0 := .int 12) fun _ => rfl) (sim_cons (sim_c (w0 := .int 6) fun _ => rfl) sim_nil))))) sim_nil) sc_repr) sr_neD)
  obtain ⟨A', hA⟩ : ∃ A', mFirst [none, none] [] = some (false, A') := by
    have h := first_ok
    unfold firstB at h
    split at h
    · exact ⟨_, by assumption⟩
    · cases h
  refine sf [] [] [none, none] _ H _ false A' ⟨rfl, .nil, fun i a o h => by simp at h⟩ ⟨rfl, fun i w q => ?_⟩ hA fun ρ' H1 R1 G1 => ?_
  · match i, q with
    | 0, q => simp at q
    | 1, q => simp at q
    | n + 2, q => simp at q
  have hs1 : SqL κ.K H1 a (ns.map V.int) := SqL.kept hs fun b o e => G1.kp b o e (by simp)
  refine ⟨.ref a, rfl, a, _, rfl, .inl hs1, _, 5, rfl, 2, _, rfl, _, rfl, ?_⟩
  generalize hm : (if (5 : Int) < ((ns.map V.int).length : Int) then (5 : Int) else ((ns.map V.int).length : Int)) = m0
  generalize hj : (if m0 > 2 then m0 else 2) = j
  have hj2 : 2 ≤ j ∧ j ≤ 5 := by
    have : m0 ≤ 5 := by
      rw [← hm]
      split <;> omega
    rw [← hj]
    split <;> omega
  refine ⟨by omega, by omega, fun Dl hD => ?_⟩
  refine ⟨fun i m H2 => ∃ bs : List Bool, i ≤ j.toNat ∧ m = j.toNat - i ∧ bs.length = i ∧ bs.all id = true ∧ H2 Dl = some (.lst (bs.map V.bl)) ∧ ∀ b o, H1 b = some o → H2 b = some o, ⟨j.toNat, [], Nat.zero_le _, rfl, rfl, rfl, upd_same, fun b o e => by rw [upd_ne (ne_of_none e hD)]; exact e⟩, ?_⟩
  rintro i m H2 ⟨bs, hi, rfl, hl, hall, hDl, hkp⟩
  by_cases hi2 : i = j.toNat
  · refine .inl ⟨by show j.toNat ≤ i; omega, Dl, bs, rfl, SqL.of hDl, ?_⟩
    rw [hall]
    exact hk H2
  · refine .inr ⟨by show i < j.toNat; omega, fun H2 => ∃ bs : List Bool, bs.length = i + 1 ∧ bs.all id = true ∧ H2 Dl = some (.lst (bs.map V.bl)) ∧ ∀ b o, H1 b = some o → H2 b = some o, fun H' hN => ?_, fun x H' hx => ?_⟩
    · obtain ⟨bs', h1, h2, h3, h4⟩ := hN
      exact ⟨j.toNat - (i + 1), by omega, bs', by omega, rfl, h1, h2, h3, h4⟩
    · obtain ⟨rfl, rfl⟩ := hx
      refine ⟨rfl, ?_⟩
      refine ⟨.ref a, rfl, .int (0 + i), rfl, a, 0 + i, ns, rfl, ⟨by omega, by omega⟩, SqL.kept hs1 hkp, hbits, fun q H3 hq hk3 hP => ?_⟩
      refine ⟨q, rfl, hP, fun H4 hk4 => ?_⟩
      have hDq : Dl ≠ q := ne_of_none hDl hq
      have hD4 : H4 Dl = some (.lst (bs.map V.bl)) := hk4 _ _ (hk3 _ _ hDl) hDq
      refine ⟨bs.map V.bl, hD4, ?_, bs ++ [true], by simp [hl], by simp [hall], ?_, fun b o e => ?_⟩
      · rw [List.length_map, hl]
        exact Nat.lt_of_lt_of_le (show i < 5 by omega) (by decide)
      · rw [upd_same, List.map_append]
        rfl
      · have e2 := hkp b o e
        rw [upd_ne (fun z => by subst z; rw [hD] at e; cases e)]
        exact hk4 _ _ (hk3 _ _ e2) (ne_of_none e2 hq)
end
end K01

set_option Elab.async false
set_option linter.all false
set_option maxRecDepth 100000
set_option maxHeartbeats 16000000
namespace K01
open PySem L2 Sv
open PyProof.Rows (envOfC)
/-! ### what the top has written of the classes -/
def bK (n : Nat) : String := if n < 18 then "ValueError" else if n < 20 then "LookupError" else "ArithmeticError"
def bN (n : Nat) : String := if n < 18 then "ValueError.__new__" else if n < 20 then "LookupError.__new__" else "ArithmeticError.__new__"
def bI (n : Nat) : String := if n < 18 then "ValueError.__init__" else if n < 20 then "LookupError.__init__" else "ArithmeticError.__init__"
def bM (n : Nat) : List Value := [.type (bK n), .type "Exception", .type "BaseException", .type "object"]
theorem b_base (n : Nat) : PySem.ExcBaseFacts (bK n) (bN n) (bI n) (bM n) := by
  unfold bM bK bN bI
  by_cases h1 : n < 18
  · simp only [if_pos h1]
    exact PySem.F.excBase_ValueError
  · by_cases h2 : n < 20
    · simp only [if_neg h1, if_pos h2]
      exact PySem.F.excBase_LookupError
    · simp only [if_neg h1, if_neg h2]
      exact PySem.F.excBase_ArithmeticError
theorem b_store (n : Nat) : PySem.StoreFacts (bK n) (bM n) "object.__setattr__" "object" := by
  unfold bM bK
  by_cases h1 : n < 18
  · simp only [if_pos h1]
    exact PySem.F.store_ValueError
  · by_cases h2 : n < 20
    · simp only [if_neg h1, if_pos h2]
      exact PySem.F.store_LookupError
    · simp only [if_neg h1, if_neg h2]
      exact PySem.F.store_ArithmeticError
open PySem.W in
def chkX (K : Frag) (C : Addr) (n : Nat) : Bool :=
  excInitIn K C (bM n) (bN n) && (excOver K C (bM n) && (hasDictIn K C && (findIn K (.ref C) "__setattr__" == some (some (.builtin "object.__setattr__")) && (keepIn K (.ref C) && (findIn K (.ref C) "__getattribute__" == some (some (.builtin "BaseException.__getattribute__")) && (findIn K (.ref C) "__getattr__" == some none && (subIn K (.ref C) (.type "BaseException") == some true
  && (findIn K (.ref C) "__class__" == some (some (.builtin "object.__class__")) && (specialIn K (.builtin "object.__class__") "__get__" == some (some (.builtin "getset_descriptor.__get__")) && (takesIn K (.builtin "object.__class__") == some true && mroIn K C (.type "object") == some true))))))))))
theorem xcb {K : PySem.W.Frag} {C : Addr} {n : Nat} (h : chkX K C n = true) : XcB K C (bK n) (bN n) (bI n) (bM n) := by
  unfold chkX at h
  simp only [Bool.and_eq_true, beq_iff_eq] at h
  obtain ⟨h1, h2, h3, h4, h5, h6, h7, h8, h9, h10, h11, h12⟩ := h
  exact ⟨h1, h2, h3, h4, h5, h6, h7, h8, h9, h10, h11, h12, b_base n, b_store n⟩
open PySem.W in
def chkF (K : Frag) (C : Addr) : Bool := fnames.all fun f => findIn K (.ref C) f == some none && takerIn K C f == some none
open PySem.W in
def chkO (K : Frag) (cl : List Addr) (C : Addr) (n : Nat) : Bool := (List.range 30).all fun m => match cl[m]? with
  | some D => kitOne K (.ref C) (.ref D) == some (subN n m)
  | none => false
open PySem.W in
def chkB (K : Frag) (C : Addr) (n : Nat) : Bool := ["ValueError", "LookupError", "ArithmeticError"].all fun s => kitOne K (.ref C) (.type s) == subB n s
def chk1 (K : PySem.W.Frag) (cl : List Addr) (n : Nat) : Bool := match cl[n]? with
  | some C => chkX K C n && (chkF K C && (chkO K cl C n && chkB K C n))
  | none => false
theorem chk_at {K : PySem.W.Frag} {cl : List Addr} {n : Nat} {C : Addr} (h : chk1 K cl n = true) (e : cl[n]? = some C) : chkX K C n = true ∧ chkF K C = true ∧ chkO K cl C n = true ∧ chkB K C n = true := by
  unfold chk1 at h
  rw [e] at h
  simpa only [Bool.and_eq_true] using h
theorem subB_in {n : Nat} {s : String} {b : Bool} (h : subB n s = some b) : s = "ValueError" ∨ s = "LookupError" ∨ s = "ArithmeticError" := by
  unfold subB at h
  split at h
  · exact .inl (by assumption)
  · split at h
    · exact .inr (.inl (by assumption))
    · split at h
      · exact .inr (.inr (by assumption))
      · cases h
theorem clsT_of {K : PySem.W.Frag} {cl : List Addr} (hl : cl.length = 30) (h : ∀ n, n < 27 → chk1 K cl n = true) : ClsT ⟨K, cl⟩ 27 subN subB fnames where
  xc := fun n C hn e => ⟨_, _, _, _, xcb (chk_at (h n hn) e).1⟩
  own := fun n m C D hn e d => by
    have q := (chk_at (h n hn) e).2.2.1
    unfold chkO at q
    have hm : m < 30 := by
      rw [← hl]
      exact (List.getElem?_eq_some_iff.mp (show cl[m]? = some D from d)).1
    have r := List.all_eq_true.mp q m (List.mem_range.mpr hm)
    rw [show cl[m]? = some D from d] at r
    exact beq_iff_eq.mp r
  bi := fun n C s b hn e hs => by
    have q := (chk_at (h n hn) e).2.2.2
    unfold chkB at q
    have hm : s ∈ ["ValueError", "LookupError", "ArithmeticError"] := by
      rcases subB_in hs with h | h | h <;> subst h <;> simp
    have r := List.all_eq_true.mp q s hm
    rw [hs] at r
    exact beq_iff_eq.mp r
  fld := fun n C f hn e hf => by
    have q := (chk_at (h n hn) e).2.1
    unfold chkF at q
    have r := List.all_eq_true.mp q f hf
    rw [Bool.and_eq_true] at r
    exact beq_iff_eq.mp r.1
theorem tkr_of {K : PySem.W.Frag} {C : Addr} {f : Str} (q : chkF K C = true) (hf : f ∈ fnames) : PySem.W.takerIn K C f = some none := by
  unfold chkF at q
  have r := List.all_eq_true.mp q f hf
  rw [Bool.and_eq_true] at r
  exact beq_iff_eq.mp r.2
/-! ### their __init__ -/
def iA (f : Str) (p1 p2 : Pos) : Arguments := { posonlyargs := [], args := [{ arg := "self", annotation := none, pos := p1 }, { arg := f, annotation := none, pos := p2 }], vararg := none, kwonlyargs := [], kw_defaults := [], kwarg := none, defaults := [] }
def iB (f : Str) (q1 q2 q3 q4 : Pos) : List Stmt := [.Assign [.Attribute (.Name "self" q1) f q2] (.Name f q3) q4]
def iS (f : Str) : Scope := { kind := .function, names := [("self", .local), (f, .local)], isGenerator := false, isCoroutine := false, more := [] }
structure IniT (st : Stmt) (f : Str) : Prop where
  a : ∃ p1 p2, defArgs st = iA f p1 p2
  b : ∃ q1 q2 q3 q4, defBody st = iB f q1 q2 q3 q4
  s : defScope st = iS f
theorem sc_given : FnScope ["self", "given"] ["self", "given"] (iS "given") := ⟨rfl, rfl, rfl, by decide +kernel, rfl, by decide +kernel, by decide +kernel⟩
theorem sc_index : FnScope ["self", "index"] ["self", "index"] (iS "index") := ⟨rfl, rfl, rfl, by decide +kernel, rfl, by decide +kernel, by decide +kernel⟩
section
variable {P : Program} {w : World} {mg : Str → Option Value} {base : Heap} {K : PySem.W.Frag}
theorem xmk {n : Nat} {C fI : Addr} {f x qual : Str} {st : Stmt} (hf : f = "given" ∨ f = "index") (hX : chkX K C n = true) (hF : chkF K C = true) (gx : mg x = some (.ref C)) (iC : PySem.W.findIn K (.ref C) "__init__" = some (some (.ref fI))) (hfn : PySem.W.isFn K (.ref fI) = true)
    (I : IniT st f) {oc kV dc pm cd ct : Value} {od an : Option Addr} {osl : Array (Option Value)} (l : K.lookup fI = some ⟨oc, od, .func (PySem.W.fnOf "__init__" qual (defArgs st) (defBody st) (defScope st) .none kV dc pm an cd ct), osl⟩)
    (c : PySem.W.codeIn K cd qual = true) (k : PySem.W.keepIn K (.ref fI) = true) : XMk P w K mg base x C f := by
  have F := fun_mk (st := st) l c k
  obtain ⟨p1, p2, ha⟩ := I.a
  obtain ⟨q1, q2, q3, q4, hb⟩ := I.b
  have hs := I.s
  rcases hf with rfl | rfl
  · have htk := tkr_of hF (f := "given") (List.mem_cons_self ..)
    refine ⟨⟨fI, _, _, _, _, _, xcb hX, iC, hfn, ok_ini F (xcb hX) htk (by rw [hs]; exact sc_given) hb (by decide) (by decide), fun s u v => ?_, fun s u v => ?_⟩, gx⟩ <;> rw [ha] <;> exact .of_eq rfl
  · have htk := tkr_of hF (f := "index") (List.mem_cons_of_mem _ (List.mem_cons_self ..))
    refine ⟨⟨fI, _, _, _, _, _, xcb hX, iC, hfn, ok_ini F (xcb hX) htk (by rw [hs]; exact sc_index) hb (by decide) (by decide), fun s u v => ?_, fun s u v => ?_⟩, gx⟩ <;> rw [ha] <;> exact .of_eq rfl
end
theorem ini_InvalidText : IniT (inClass (top 2) 0) "given" := ⟨⟨_, _, rfl⟩, ⟨_, _, _, _, rfl⟩, rfl⟩
theorem ini_InvalidName : IniT (inClass (top 3) 0) "given" := ⟨⟨_, _, rfl⟩, ⟨_, _, _, _, rfl⟩, rfl⟩
theorem ini_InvalidKind : IniT (inClass (top 4) 0) "given" := ⟨⟨_, _, rfl⟩, ⟨_, _, _, _, rfl⟩, rfl⟩
theorem ini_InvalidMove : IniT (inClass (top 5) 0) "given" := ⟨⟨_, _, rfl⟩, ⟨_, _, _, _, rfl⟩, rfl⟩
theorem ini_InvalidNumber : IniT (inClass (top 6) 0) "given" := ⟨⟨_, _, rfl⟩, ⟨_, _, _, _, rfl⟩, rfl⟩
theorem ini_InvalidGrowth : IniT (inClass (top 7) 0) "given" := ⟨⟨_, _, rfl⟩, ⟨_, _, _, _, rfl⟩, rfl⟩
theorem ini_InvalidFact : IniT (inClass (top 8) 0) "given" := ⟨⟨_, _, rfl⟩, ⟨_, _, _, _, rfl⟩, rfl⟩
theorem ini_InvalidOrder : IniT (inClass (top 9) 0) "given" := ⟨⟨_, _, rfl⟩, ⟨_, _, _, _, rfl⟩, rfl⟩
theorem ini_InvalidWish : IniT (inClass (top 10) 0) "given" := ⟨⟨_, _, rfl⟩, ⟨_, _, _, _, rfl⟩, rfl⟩
theorem ini_InvalidIndex : IniT (inClass (top 11) 0) "given" := ⟨⟨_, _, rfl⟩, ⟨_, _, _, _, rfl⟩, rfl⟩
theorem ini_NotYard : IniT (inClass (top 12) 0) "given" := ⟨⟨_, _, rfl⟩, ⟨_, _, _, _, rfl⟩, rfl⟩
theorem ini_NotFacts : IniT (inClass (top 13) 0) "given" := ⟨⟨_, _, rfl⟩, ⟨_, _, _, _, rfl⟩, rfl⟩
theorem ini_InvalidKinds : IniT (inClass (top 14) 0) "index" := ⟨⟨_, _, rfl⟩, ⟨_, _, _, _, rfl⟩, rfl⟩
theorem ini_InvalidRows : IniT (inClass (top 15) 0) "index" := ⟨⟨_, _, rfl⟩, ⟨_, _, _, _, rfl⟩, rfl⟩
theorem ini_InvalidFacts : IniT (inClass (top 16) 0) "index" := ⟨⟨_, _, rfl⟩, ⟨_, _, _, _, rfl⟩, rfl⟩
theorem ini_InvalidPlan : IniT (inClass (top 17) 0) "index" := ⟨⟨_, _, rfl⟩, ⟨_, _, _, _, rfl⟩, rfl⟩
theorem ini_InvalidChanges : IniT (inClass (top 18) 0) "index" := ⟨⟨_, _, rfl⟩, ⟨_, _, _, _, rfl⟩, rfl⟩
theorem ini_InvalidWishes : IniT (inClass (top 19) 0) "index" := ⟨⟨_, _, rfl⟩, ⟨_, _, _, _, rfl⟩, rfl⟩
theorem ini_UnknownName : IniT (inClass (top 21) 0) "given" := ⟨⟨_, _, rfl⟩, ⟨_, _, _, _, rfl⟩, rfl⟩
theorem ini_InUse : IniT (inClass (top 22) 0) "index" := ⟨⟨_, _, rfl⟩, ⟨_, _, _, _, rfl⟩, rfl⟩
theorem ini_Unbalanced : IniT (inClass (top 24) 0) "given" := ⟨⟨_, _, rfl⟩, ⟨_, _, _, _, rfl⟩, rfl⟩
theorem ini_NotThere : IniT (inClass (top 25) 0) "given" := ⟨⟨_, _, rfl⟩, ⟨_, _, _, _, rfl⟩, rfl⟩
theorem ini_OtherKinds : IniT (inClass (top 26) 0) "given" := ⟨⟨_, _, rfl⟩, ⟨_, _, _, _, rfl⟩, rfl⟩
theorem ini_TooGreat : IniT (inClass (top 27) 0) "given" := ⟨⟨_, _, rfl⟩, ⟨_, _, _, _, rfl⟩, rfl⟩
theorem ini_Broken : IniT (inClass (top 30) 0) "index" := ⟨⟨_, _, rfl⟩, ⟨_, _, _, _, rfl⟩, rfl⟩
end K01

set_option Elab.async false
set_option linter.all false
set_option maxRecDepth 100000
set_option maxHeartbeats 16000000
namespace K01
open PySem L2 Sv
open PyProof.Rows (envOfC)
def zNames : List Str := ["len", "int", "abs", "divmod", "isinstance", "range", "repr", "all", "max", "min", "ValueError", "LookupError", "ArithmeticError"]
def chkZ (K : PySem.W.Frag) : Bool := zNames.all fun x => PySem.W.nsIn K mainGlobals x == some none
theorem z_of {K : PySem.W.Frag} {h : Heap} {mg : Str → Option Value} (X : K.In h) (G : h.Ns mainGlobals mg) (z : chkZ K = true) {x : Str} (hx : x ∈ zNames) : mg x = none :=
  PySem.W.mg_none_of X G (beq_iff_eq.mp (List.all_eq_true.mp z x hx))
theorem all_mk {l : PySem.W.OpenLaw} {w : World} {K : PySem.W.Frag} {h : Heap} {mg : Str → Option Value} {fa : Addr} (AL : Alls) (X : K.In h) (G : h.Ns mainGlobals mg) (hfa : mg "law" = some (.ref fa))
    {C0 C1 C2 C3 C4 C5 C6 C7 C8 C9 C10 C11 C12 C13 C14 C15 C16 C17 C18 C19 C20 C21 C22 C23 C24 C25 C26 C27 C28 C29 : Addr}
    (aC0 : PySem.W.nsIn K mainGlobals "InvalidText" = some (some (.ref C0)))
    (aC1 : PySem.W.nsIn K mainGlobals "InvalidName" = some (some (.ref C1)))
    (aC2 : PySem.W.nsIn K mainGlobals "InvalidKind" = some (some (.ref C2)))
    (aC3 : PySem.W.nsIn K mainGlobals "InvalidMove" = some (some (.ref C3)))
    (aC4 : PySem.W.nsIn K mainGlobals "InvalidNumber" = some (some (.ref C4)))
    (aC5 : PySem.W.nsIn K mainGlobals "InvalidGrowth" = some (some (.ref C5)))
    (aC6 : PySem.W.nsIn K mainGlobals "InvalidFact" = some (some (.ref C6)))
    (aC7 : PySem.W.nsIn K mainGlobals "InvalidOrder" = some (some (.ref C7)))
    (aC8 : PySem.W.nsIn K mainGlobals "InvalidWish" = some (some (.ref C8)))
    (aC9 : PySem.W.nsIn K mainGlobals "InvalidIndex" = some (some (.ref C9)))
    (aC10 : PySem.W.nsIn K mainGlobals "NotYard" = some (some (.ref C10)))
    (aC11 : PySem.W.nsIn K mainGlobals "NotFacts" = some (some (.ref C11)))
    (aC12 : PySem.W.nsIn K mainGlobals "InvalidKinds" = some (some (.ref C12)))
    (aC13 : PySem.W.nsIn K mainGlobals "InvalidRows" = some (some (.ref C13)))
    (aC14 : PySem.W.nsIn K mainGlobals "InvalidFacts" = some (some (.ref C14)))
    (aC15 : PySem.W.nsIn K mainGlobals "InvalidPlan" = some (some (.ref C15)))
    (aC16 : PySem.W.nsIn K mainGlobals "InvalidChanges" = some (some (.ref C16)))
    (aC17 : PySem.W.nsIn K mainGlobals "InvalidWishes" = some (some (.ref C17)))
    (aC18 : PySem.W.nsIn K mainGlobals "UnknownName" = some (some (.ref C18)))
    (aC19 : PySem.W.nsIn K mainGlobals "InUse" = some (some (.ref C19)))
    (aC20 : PySem.W.nsIn K mainGlobals "Unbalanced" = some (some (.ref C20)))
    (aC21 : PySem.W.nsIn K mainGlobals "NotThere" = some (some (.ref C21)))
    (aC22 : PySem.W.nsIn K mainGlobals "OtherKinds" = some (some (.ref C22)))
    (aC23 : PySem.W.nsIn K mainGlobals "TooGreat" = some (some (.ref C23)))
    (aC24 : PySem.W.nsIn K mainGlobals "Impossible" = some (some (.ref C24)))
    (aC25 : PySem.W.nsIn K mainGlobals "NothingToUndo" = some (some (.ref C25)))
    (aC26 : PySem.W.nsIn K mainGlobals "Broken" = some (some (.ref C26)))
    (aC27 : PySem.W.nsIn K mainGlobals "WrongValue" = some (some (.ref C27)))
    (aC28 : PySem.W.nsIn K mainGlobals "WrongName" = some (some (.ref C28)))
    (aC29 : PySem.W.nsIn K mainGlobals "NotPossible" = some (some (.ref C29)))
    (hall : (List.range 27).all (chk1 K [C0, C1, C2, C3, C4, C5, C6, C7, C8, C9, C10, C11, C12, C13, C14, C15, C16, C17, C18, C19, C20, C21, C22, C23, C24, C25, C26, C27, C28, C29]) = true)
    {fI0 fI1 fI2 fI3 fI4 fI5 fI6 fI7 fI8 fI9 fI10 fI11 fI12 fI13 fI14 fI15 fI16 fI17 fI18 fI19 fI20 fI21 fI22 fI23 fI26 : Addr} {od0 an0 od1 an1 od2 an2 od3 an3 od4 an4 od5 an5 od6 an6 od7 an7 od8 an8 od9 an9 od10 an10 od11 an11 od12 an12 od13 an13 od14 an14 od15 an15 od16 an16 od17 an17 od18 an18 od19 an19 od20 an20 od21 an21 od22 an22 od23 an23 od26 an26 : Option Addr} {sl0 sl1 sl2 sl3 sl4 sl5 sl6 sl7 sl8 sl9 sl10 sl11 sl12 sl13 sl14 sl15 sl16 sl17 sl18 sl19 sl20 sl21 sl22 sl23 sl26 : Array (Option Value)} {oc0 kV0 dc0 pm0 cd0 ct0 oc1 kV1 dc1 pm1 cd1 ct1 oc2 kV2 dc2 pm2 cd2 ct2 oc3 kV3 dc3 pm3 cd3 ct3 oc4 kV4 dc4 pm4 cd4 ct4 oc5 kV5 dc5 pm5 cd5 ct5 oc6 kV6 dc6 pm6 cd6 ct6 oc7 kV7 dc7 pm7 cd7 ct7 oc8 kV8 dc8 pm8 cd8 ct8 oc9 kV9 dc9 pm9 cd9 ct9 oc10 kV10 dc10 pm10 cd10 ct10 oc11 kV11 dc11 pm11 cd11 ct11 oc12 kV12 dc12 pm12 cd12 ct12 oc13 kV13 dc13 pm13 cd13 ct13 oc14 kV14 dc14 pm14 cd14 ct14 oc15 kV15 dc15 pm15 cd15 ct15 oc16 kV16 dc16 pm16 cd16 ct16 oc17 kV17 dc17 pm17 cd17 ct17 oc18 kV18 dc18 pm18 cd18 ct18 oc19 kV19 dc19 pm19 cd19 ct19 oc20 kV20 dc20 pm20 cd20 ct20 oc21 kV21 dc21 pm21 cd21 ct21 oc22 kV22 dc22 pm22 cd22 ct22 oc23 kV23 dc23 pm23 cd23 ct23 oc26 kV26 dc26 pm26 cd26 ct26 : Value}
    (iC0 : PySem.W.findIn K (.ref C0) "__init__" = some (some (.ref fI0))) (iF0 : PySem.W.isFn K (.ref fI0) = true) (l0 : K.lookup fI0 = some ⟨oc0, od0, .func (PySem.W.fnOf "__init__" "InvalidText.__init__" (defArgs (inClass (top 2) 0)) (defBody (inClass (top 2) 0)) (defScope (inClass (top 2) 0)) .none kV0 dc0 pm0 an0 cd0 ct0), sl0⟩) (c0 : PySem.W.codeIn K cd0 "InvalidText.__init__" = true) (k0 : PySem.W.keepIn K (.ref fI0) = true)
    (iC1 : PySem.W.findIn K (.ref C1) "__init__" = some (some (.ref fI1))) (iF1 : PySem.W.isFn K (.ref fI1) = true) (l1 : K.lookup fI1 = some ⟨oc1, od1, .func (PySem.W.fnOf "__init__" "InvalidName.__init__" (defArgs (inClass (top 3) 0)) (defBody (inClass (top 3) 0)) (defScope (inClass (top 3) 0)) .none kV1 dc1 pm1 an1 cd1 ct1), sl1⟩) (c1 : PySem.W.codeIn K cd1 "InvalidName.__init__" = true) (k1 : PySem.W.keepIn K (.ref fI1) = true)
    (iC2 : PySem.W.findIn K (.ref C2) "__init__" = some (some (.ref fI2))) (iF2 : PySem.W.isFn K (.ref fI2) = true) (l2 : K.lookup fI2 = some ⟨oc2, od2, .func (PySem.W.fnOf "__init__" "InvalidKind.__init__" (defArgs (inClass (top 4) 0)) (defBody (inClass (top 4) 0)) (defScope (inClass (top 4) 0)) .none kV2 dc2 pm2 an2 cd2 ct2), sl2⟩) (c2 : PySem.W.codeIn K cd2 "InvalidKind.__init__" = true) (k2 : PySem.W.keepIn K (.ref fI2) = true)
    (iC3 : PySem.W.findIn K (.ref C3) "__init__" = some (some (.ref fI3))) (iF3 : PySem.W.isFn K (.ref fI3) = true) (l3 : K.lookup fI3 = some ⟨oc3, od3, .func (PySem.W.fnOf "__init__" "InvalidMove.__init__" (defArgs (inClass (top 5) 0)) (defBody (inClass (top 5) 0)) (defScope (inClass (top 5) 0)) .none kV3 dc3 pm3 an3 cd3 ct3), sl3⟩) (c3 : PySem.W.codeIn K cd3 "InvalidMove.__init__" = true) (k3 : PySem.W.keepIn K (.ref fI3) = true)
    (iC4 : PySem.W.findIn K (.ref C4) "__init__" = some (some (.ref fI4))) (iF4 : PySem.W.isFn K (.ref fI4) = true) (l4 : K.lookup fI4 = some ⟨oc4, od4, .func (PySem.W.fnOf "__init__" "InvalidNumber.__init__" (defArgs (inClass (top 6) 0)) (defBody (inClass (top 6) 0)) (defScope (inClass (top 6) 0)) .none kV4 dc4 pm4 an4 cd4 ct4), sl4⟩) (c4 : PySem.W.codeIn K cd4 "InvalidNumber.__init__" = true) (k4 : PySem.W.keepIn K (.ref fI4) = true)
    (iC5 : PySem.W.findIn K (.ref C5) "__init__" = some (some (.ref fI5))) (iF5 : PySem.W.isFn K (.ref fI5) = true) (l5 : K.lookup fI5 = some ⟨oc5, od5, .func (PySem.W.fnOf "__init__" "InvalidGrowth.__init__" (defArgs (inClass (top 7) 0)) (defBody (inClass (top 7) 0)) (defScope (inClass (top 7) 0)) .none kV5 dc5 pm5 an5 cd5 ct5), sl5⟩) (c5 : PySem.W.codeIn K cd5 "InvalidGrowth.__init__" = true) (k5 : PySem.W.keepIn K (.ref fI5) = true)
    (iC6 : PySem.W.findIn K (.ref C6) "__init__" = some (some (.ref fI6))) (iF6 : PySem.W.isFn K (.ref fI6) = true) (l6 : K.lookup fI6 = some ⟨oc6, od6, .func (PySem.W.fnOf "__init__" "InvalidFact.__init__" (defArgs (inClass (top 8) 0)) (defBody (inClass (top 8) 0)) (defScope (inClass (top 8) 0)) .none kV6 dc6 pm6 an6 cd6 ct6), sl6⟩) (c6 : PySem.W.codeIn K cd6 "InvalidFact.__init__" = true) (k6 : PySem.W.keepIn K (.ref fI6) = true)
    (iC7 : PySem.W.findIn K (.ref C7) "__init__" = some (some (.ref fI7))) (iF7 : PySem.W.isFn K (.ref fI7) = true) (l7 : K.lookup fI7 = some ⟨oc7, od7, .func (PySem.W.fnOf "__init__" "InvalidOrder.__init__" (defArgs (inClass (top 9) 0)) (defBody (inClass (top 9) 0)) (defScope (inClass (top 9) 0)) .none kV7 dc7 pm7 an7 cd7 ct7), sl7⟩) (c7 : PySem.W.codeIn K cd7 "InvalidOrder.__init__" = true) (k7 : PySem.W.keepIn K (.ref fI7) = true)
    (iC8 : PySem.W.findIn K (.ref C8) "__init__" = some (some (.ref fI8))) (iF8 : PySem.W.isFn K (.ref fI8) = true) (l8 : K.lookup fI8 = some ⟨oc8, od8, .func (PySem.W.fnOf "__init__" "InvalidWish.__init__" (defArgs (inClass (top 10) 0)) (defBody (inClass (top 10) 0)) (defScope (inClass (top 10) 0)) .none kV8 dc8 pm8 an8 cd8 ct8), sl8⟩) (c8 : PySem.W.codeIn K cd8 "InvalidWish.__init__" = true) (k8 : PySem.W.keepIn K (.ref fI8) = true)
    (iC9 : PySem.W.findIn K (.ref C9) "__init__" = some (some (.ref fI9))) (iF9 : PySem.W.isFn K (.ref fI9) = true) (l9 : K.lookup fI9 = some ⟨oc9, od9, .func (PySem.W.fnOf "__init__" "InvalidIndex.__init__" (defArgs (inClass (top 11) 0)) (defBody (inClass (top 11) 0)) (defScope (inClass (top 11) 0)) .none kV9 dc9 pm9 an9 cd9 ct9), sl9⟩) (c9 : PySem.W.codeIn K cd9 "InvalidIndex.__init__" = true) (k9 : PySem.W.keepIn K (.ref fI9) = true)
    (iC10 : PySem.W.findIn K (.ref C10) "__init__" = some (some (.ref fI10))) (iF10 : PySem.W.isFn K (.ref fI10) = true) (l10 : K.lookup fI10 = some ⟨oc10, od10, .func (PySem.W.fnOf "__init__" "NotYard.__init__" (defArgs (inClass (top 12) 0)) (defBody (inClass (top 12) 0)) (defScope (inClass (top 12) 0)) .none kV10 dc10 pm10 an10 cd10 ct10), sl10⟩) (c10 : PySem.W.codeIn K cd10 "NotYard.__init__" = true) (k10 : PySem.W.keepIn K (.ref fI10) = true)
    (iC11 : PySem.W.findIn K (.ref C11) "__init__" = some (some (.ref fI11))) (iF11 : PySem.W.isFn K (.ref fI11) = true) (l11 : K.lookup fI11 = some ⟨oc11, od11, .func (PySem.W.fnOf "__init__" "NotFacts.__init__" (defArgs (inClass (top 13) 0)) (defBody (inClass (top 13) 0)) (defScope (inClass (top 13) 0)) .none kV11 dc11 pm11 an11 cd11 ct11), sl11⟩) (c11 : PySem.W.codeIn K cd11 "NotFacts.__init__" = true) (k11 : PySem.W.keepIn K (.ref fI11) = true)
    (iC12 : PySem.W.findIn K (.ref C12) "__init__" = some (some (.ref fI12))) (iF12 : PySem.W.isFn K (.ref fI12) = true) (l12 : K.lookup fI12 = some ⟨oc12, od12, .func (PySem.W.fnOf "__init__" "InvalidKinds.__init__" (defArgs (inClass (top 14) 0)) (defBody (inClass (top 14) 0)) (defScope (inClass (top 14) 0)) .none kV12 dc12 pm12 an12 cd12 ct12), sl12⟩) (c12 : PySem.W.codeIn K cd12 "InvalidKinds.__init__" = true) (k12 : PySem.W.keepIn K (.ref fI12) = true)
    (iC13 : PySem.W.findIn K (.ref C13) "__init__" = some (some (.ref fI13))) (iF13 : PySem.W.isFn K (.ref fI13) = true) (l13 : K.lookup fI13 = some ⟨oc13, od13, .func (PySem.W.fnOf "__init__" "InvalidRows.__init__" (defArgs (inClass (top 15) 0)) (defBody (inClass (top 15) 0)) (defScope (inClass (top 15) 0)) .none kV13 dc13 pm13 an13 cd13 ct13), sl13⟩) (c13 : PySem.W.codeIn K cd13 "InvalidRows.__init__" = true) (k13 : PySem.W.keepIn K (.ref fI13) = true)
    (iC14 : PySem.W.findIn K (.ref C14) "__init__" = some (some (.ref fI14))) (iF14 : PySem.W.isFn K (.ref fI14) = true) (l14 : K.lookup fI14 = some ⟨oc14, od14, .func (PySem.W.fnOf "__init__" "InvalidFacts.__init__" (defArgs (inClass (top 16) 0)) (defBody (inClass (top 16) 0)) (defScope (inClass (top 16) 0)) .none kV14 dc14 pm14 an14 cd14 ct14), sl14⟩) (c14 : PySem.W.codeIn K cd14 "InvalidFacts.__init__" = true) (k14 : PySem.W.keepIn K (.ref fI14) = true)
    (iC15 : PySem.W.findIn K (.ref C15) "__init__" = some (some (.ref fI15))) (iF15 : PySem.W.isFn K (.ref fI15) = true) (l15 : K.lookup fI15 = some ⟨oc15, od15, .func (PySem.W.fnOf "__init__" "InvalidPlan.__init__" (defArgs (inClass (top 17) 0)) (defBody (inClass (top 17) 0)) (defScope (inClass (top 17) 0)) .none kV15 dc15 pm15 an15 cd15 ct15), sl15⟩) (c15 : PySem.W.codeIn K cd15 "InvalidPlan.__init__" = true) (k15 : PySem.W.keepIn K (.ref fI15) = true)
    (iC16 : PySem.W.findIn K (.ref C16) "__init__" = some (some (.ref fI16))) (iF16 : PySem.W.isFn K (.ref fI16) = true) (l16 : K.lookup fI16 = some ⟨oc16, od16, .func (PySem.W.fnOf "__init__" "InvalidChanges.__init__" (defArgs (inClass (top 18) 0)) (defBody (inClass (top 18) 0)) (defScope (inClass (top 18) 0)) .none kV16 dc16 pm16 an16 cd16 ct16), sl16⟩) (c16 : PySem.W.codeIn K cd16 "InvalidChanges.__init__" = true) (k16 : PySem.W.keepIn K (.ref fI16) = true)
    (iC17 : PySem.W.findIn K (.ref C17) "__init__" = some (some (.ref fI17))) (iF17 : PySem.W.isFn K (.ref fI17) = true) (l17 : K.lookup fI17 = some ⟨oc17, od17, .func (PySem.W.fnOf "__init__" "InvalidWishes.__init__" (defArgs (inClass (top 19) 0)) (defBody (inClass (top 19) 0)) (defScope (inClass (top 19) 0)) .none kV17 dc17 pm17 an17 cd17 ct17), sl17⟩) (c17 : PySem.W.codeIn K cd17 "InvalidWishes.__init__" = true) (k17 : PySem.W.keepIn K (.ref fI17) = true)
    (iC18 : PySem.W.findIn K (.ref C18) "__init__" = some (some (.ref fI18))) (iF18 : PySem.W.isFn K (.ref fI18) = true) (l18 : K.lookup fI18 = some ⟨oc18, od18, .func (PySem.W.fnOf "__init__" "UnknownName.__init__" (defArgs (inClass (top 21) 0)) (defBody (inClass (top 21) 0)) (defScope (inClass (top 21) 0)) .none kV18 dc18 pm18 an18 cd18 ct18), sl18⟩) (c18 : PySem.W.codeIn K cd18 "UnknownName.__init__" = true) (k18 : PySem.W.keepIn K (.ref fI18) = true)
    (iC19 : PySem.W.findIn K (.ref C19) "__init__" = some (some (.ref fI19))) (iF19 : PySem.W.isFn K (.ref fI19) = true) (l19 : K.lookup fI19 = some ⟨oc19, od19, .func (PySem.W.fnOf "__init__" "InUse.__init__" (defArgs (inClass (top 22) 0)) (defBody (inClass (top 22) 0)) (defScope (inClass (top 22) 0)) .none kV19 dc19 pm19 an19 cd19 ct19), sl19⟩) (c19 : PySem.W.codeIn K cd19 "InUse.__init__" = true) (k19 : PySem.W.keepIn K (.ref fI19) = true)
    (iC20 : PySem.W.findIn K (.ref C20) "__init__" = some (some (.ref fI20))) (iF20 : PySem.W.isFn K (.ref fI20) = true) (l20 : K.lookup fI20 = some ⟨oc20, od20, .func (PySem.W.fnOf "__init__" "Unbalanced.__init__" (defArgs (inClass (top 24) 0)) (defBody (inClass (top 24) 0)) (defScope (inClass (top 24) 0)) .none kV20 dc20 pm20 an20 cd20 ct20), sl20⟩) (c20 : PySem.W.codeIn K cd20 "Unbalanced.__init__" = true) (k20 : PySem.W.keepIn K (.ref fI20) = true)
    (iC21 : PySem.W.findIn K (.ref C21) "__init__" = some (some (.ref fI21))) (iF21 : PySem.W.isFn K (.ref fI21) = true) (l21 : K.lookup fI21 = some ⟨oc21, od21, .func (PySem.W.fnOf "__init__" "NotThere.__init__" (defArgs (inClass (top 25) 0)) (defBody (inClass (top 25) 0)) (defScope (inClass (top 25) 0)) .none kV21 dc21 pm21 an21 cd21 ct21), sl21⟩) (c21 : PySem.W.codeIn K cd21 "NotThere.__init__" = true) (k21 : PySem.W.keepIn K (.ref fI21) = true)
    (iC22 : PySem.W.findIn K (.ref C22) "__init__" = some (some (.ref fI22))) (iF22 : PySem.W.isFn K (.ref fI22) = true) (l22 : K.lookup fI22 = some ⟨oc22, od22, .func (PySem.W.fnOf "__init__" "OtherKinds.__init__" (defArgs (inClass (top 26) 0)) (defBody (inClass (top 26) 0)) (defScope (inClass (top 26) 0)) .none kV22 dc22 pm22 an22 cd22 ct22), sl22⟩) (c22 : PySem.W.codeIn K cd22 "OtherKinds.__init__" = true) (k22 : PySem.W.keepIn K (.ref fI22) = true)
    (iC23 : PySem.W.findIn K (.ref C23) "__init__" = some (some (.ref fI23))) (iF23 : PySem.W.isFn K (.ref fI23) = true) (l23 : K.lookup fI23 = some ⟨oc23, od23, .func (PySem.W.fnOf "__init__" "TooGreat.__init__" (defArgs (inClass (top 27) 0)) (defBody (inClass (top 27) 0)) (defScope (inClass (top 27) 0)) .none kV23 dc23 pm23 an23 cd23 ct23), sl23⟩) (c23 : PySem.W.codeIn K cd23 "TooGreat.__init__" = true) (k23 : PySem.W.keepIn K (.ref fI23) = true)
    (iC26 : PySem.W.findIn K (.ref C26) "__init__" = some (some (.ref fI26))) (iF26 : PySem.W.isFn K (.ref fI26) = true) (l26 : K.lookup fI26 = some ⟨oc26, od26, .func (PySem.W.fnOf "__init__" "Broken.__init__" (defArgs (inClass (top 30) 0)) (defBody (inClass (top 30) 0)) (defScope (inClass (top 30) 0)) .none kV26 dc26 pm26 an26 cd26 ct26), sl26⟩) (c26 : PySem.W.codeIn K cd26 "Broken.__init__" = true) (k26 : PySem.W.keepIn K (.ref fI26) = true)
    (iC24 : PySem.W.findIn K (.ref C24) "__init__" = some (some (.builtin "ArithmeticError.__init__")))
    (iC25 : PySem.W.findIn K (.ref C25) "__init__" = some (some (.builtin "ArithmeticError.__init__")))
    {f_begun f_cast f_any_of f_anything f_placed f_named f_flags f_bases f_held f_some_right f_right f_law : Addr} {od_begun an_begun od_cast an_cast od_any_of an_any_of od_anything an_anything od_placed an_placed od_named an_named od_flags an_flags od_bases an_bases od_held an_held od_some_right an_some_right od_right an_right od_law an_law : Option Addr} {sl_begun sl_cast sl_any_of sl_anything sl_placed sl_named sl_flags sl_bases sl_held sl_some_right sl_right sl_law : Array (Option Value)} {oc_begun kV_begun dc_begun pm_begun cd_begun ct_begun oc_cast kV_cast dc_cast pm_cast cd_cast ct_cast oc_any_of kV_any_of dc_any_of pm_any_of cd_any_of ct_any_of oc_anything kV_anything dc_anything pm_anything cd_anything ct_anything oc_placed kV_placed dc_placed pm_placed cd_placed ct_placed oc_named kV_named dc_named pm_named cd_named ct_named oc_flags kV_flags dc_flags pm_flags cd_flags ct_flags oc_bases kV_bases dc_bases pm_bases cd_bases ct_bases oc_held kV_held dc_held pm_held cd_held ct_held oc_some_right kV_some_right dc_some_right pm_some_right cd_some_right ct_some_right oc_right kV_right dc_right pm_right cd_right ct_right oc_law kV_law dc_law pm_law cd_law ct_law : Value}
    (a_begun : PySem.W.nsIn K mainGlobals "_law_begun" = some (some (.ref f_begun))) (l_begun : K.lookup f_begun = some ⟨oc_begun, od_begun, .func (PySem.W.fnOf "_law_begun" "_law_begun" (defArgs s_begun) (defBody s_begun) (defScope s_begun) .none kV_begun dc_begun pm_begun an_begun cd_begun ct_begun), sl_begun⟩) (c_begun : PySem.W.codeIn K cd_begun "_law_begun" = true) (k_begun : PySem.W.keepIn K (.ref f_begun) = true)
    (a_cast : PySem.W.nsIn K mainGlobals "_law_cast" = some (some (.ref f_cast))) (l_cast : K.lookup f_cast = some ⟨oc_cast, od_cast, .func (PySem.W.fnOf "_law_cast" "_law_cast" (defArgs s_cast) (defBody s_cast) (defScope s_cast) .none kV_cast dc_cast pm_cast an_cast cd_cast ct_cast), sl_cast⟩) (c_cast : PySem.W.codeIn K cd_cast "_law_cast" = true) (k_cast : PySem.W.keepIn K (.ref f_cast) = true)
    (a_any_of : PySem.W.nsIn K mainGlobals "_law_any_of" = some (some (.ref f_any_of))) (l_any_of : K.lookup f_any_of = some ⟨oc_any_of, od_any_of, .func (PySem.W.fnOf "_law_any_of" "_law_any_of" (defArgs s_any_of) (defBody s_any_of) (defScope s_any_of) .none kV_any_of dc_any_of pm_any_of an_any_of cd_any_of ct_any_of), sl_any_of⟩) (c_any_of : PySem.W.codeIn K cd_any_of "_law_any_of" = true) (k_any_of : PySem.W.keepIn K (.ref f_any_of) = true)
    (a_anything : PySem.W.nsIn K mainGlobals "_law_anything" = some (some (.ref f_anything))) (l_anything : K.lookup f_anything = some ⟨oc_anything, od_anything, .func (PySem.W.fnOf "_law_anything" "_law_anything" (defArgs s_anything) (defBody s_anything) (defScope s_anything) .none kV_anything dc_anything pm_anything an_anything cd_anything ct_anything), sl_anything⟩) (c_anything : PySem.W.codeIn K cd_anything "_law_anything" = true) (k_anything : PySem.W.keepIn K (.ref f_anything) = true)
    (a_placed : PySem.W.nsIn K mainGlobals "_law_placed" = some (some (.ref f_placed))) (l_placed : K.lookup f_placed = some ⟨oc_placed, od_placed, .func (PySem.W.fnOf "_law_placed" "_law_placed" (defArgs s_placed) (defBody s_placed) (defScope s_placed) .none kV_placed dc_placed pm_placed an_placed cd_placed ct_placed), sl_placed⟩) (c_placed : PySem.W.codeIn K cd_placed "_law_placed" = true) (k_placed : PySem.W.keepIn K (.ref f_placed) = true)
    (a_named : PySem.W.nsIn K mainGlobals "_law_named" = some (some (.ref f_named))) (l_named : K.lookup f_named = some ⟨oc_named, od_named, .func (PySem.W.fnOf "_law_named" "_law_named" (defArgs s_named) (defBody s_named) (defScope s_named) .none kV_named dc_named pm_named an_named cd_named ct_named), sl_named⟩) (c_named : PySem.W.codeIn K cd_named "_law_named" = true) (k_named : PySem.W.keepIn K (.ref f_named) = true)
    (a_flags : PySem.W.nsIn K mainGlobals "_law_flags" = some (some (.ref f_flags))) (l_flags : K.lookup f_flags = some ⟨oc_flags, od_flags, .func (PySem.W.fnOf "_law_flags" "_law_flags" (defArgs s_flags) (defBody s_flags) (defScope s_flags) .none kV_flags dc_flags pm_flags an_flags cd_flags ct_flags), sl_flags⟩) (c_flags : PySem.W.codeIn K cd_flags "_law_flags" = true) (k_flags : PySem.W.keepIn K (.ref f_flags) = true)
    (a_bases : PySem.W.nsIn K mainGlobals "_law_bases" = some (some (.ref f_bases))) (l_bases : K.lookup f_bases = some ⟨oc_bases, od_bases, .func (PySem.W.fnOf "_law_bases" "_law_bases" (defArgs s_bases) (defBody s_bases) (defScope s_bases) .none kV_bases dc_bases pm_bases an_bases cd_bases ct_bases), sl_bases⟩) (c_bases : PySem.W.codeIn K cd_bases "_law_bases" = true) (k_bases : PySem.W.keepIn K (.ref f_bases) = true)
    (a_held : PySem.W.nsIn K mainGlobals "_law_held" = some (some (.ref f_held))) (l_held : K.lookup f_held = some ⟨oc_held, od_held, .func (PySem.W.fnOf "_law_held" "_law_held" (defArgs s_held) (defBody s_held) (defScope s_held) .none kV_held dc_held pm_held an_held cd_held ct_held), sl_held⟩) (c_held : PySem.W.codeIn K cd_held "_law_held" = true) (k_held : PySem.W.keepIn K (.ref f_held) = true)
    (a_some_right : PySem.W.nsIn K mainGlobals "_law_some_right" = some (some (.ref f_some_right))) (l_some_right : K.lookup f_some_right = some ⟨oc_some_right, od_some_right, .func (PySem.W.fnOf "_law_some_right" "_law_some_right" (defArgs s_some_right) (defBody s_some_right) (defScope s_some_right) .none kV_some_right dc_some_right pm_some_right an_some_right cd_some_right ct_some_right), sl_some_right⟩) (c_some_right : PySem.W.codeIn K cd_some_right "_law_some_right" = true) (k_some_right : PySem.W.keepIn K (.ref f_some_right) = true)
    (a_right : PySem.W.nsIn K mainGlobals "_law_right" = some (some (.ref f_right))) (l_right : K.lookup f_right = some ⟨oc_right, od_right, .func (PySem.W.fnOf "_law_right" "_law_right" (defArgs s_right) (defBody s_right) (defScope s_right) .none kV_right dc_right pm_right an_right cd_right ct_right), sl_right⟩) (c_right : PySem.W.codeIn K cd_right "_law_right" = true) (k_right : PySem.W.keepIn K (.ref f_right) = true)
    (a_law : PySem.W.nsIn K mainGlobals "law" = some (some (.ref f_law))) (l_law : K.lookup f_law = some ⟨oc_law, od_law, .func (PySem.W.fnOf "law" "law" (defArgs s_law) (defBody s_law) (defScope s_law) .none kV_law dc_law pm_law an_law cd_law ct_law), sl_law⟩) (c_law : PySem.W.codeIn K cd_law "law" = true) (k_law : PySem.W.keepIn K (.ref f_law) = true)
    (z : chkZ K = true) {t1 t2 t3 t4 : Tok} (m1 : mg "MOST_KINDS" = some (.int 4 t1)) (m2 : mg "MOST_COUNT" = some (.int 1000000000000000000000000000000 t2)) (m3 : mg "MOST_FACTS" = some (.int 12 t3)) (m4 : mg "MOST_CHANGES" = some (.int 6 t4)) :
    ∃ fd : FuncData, (∀ (s : Shared) (v : Value), BindsTo s fd ⟨[v], []⟩ [("_law_script", v)]) ∧ ∀ base : Heap, K.In base → base.Ns mainGlobals mg → FnG l.prog w K mg base 5 fa fd ["_law_script"] (spL ⟨K, []⟩) := by
  have e := hfa.symm.trans (PySem.W.mg_of X G a_law)
  cases e
  have hn : ∀ n, n < 27 → chk1 K [C0, C1, C2, C3, C4, C5, C6, C7, C8, C9, C10, C11, C12, C13, C14, C15, C16, C17, C18, C19, C20, C21, C22, C23, C24, C25, C26, C27, C28, C29] n = true := fun n hn => List.all_eq_true.mp hall n (List.mem_range.mpr hn)
  have q0 := chk_at (hn 0 (by decide)) (C := C0) rfl
  have q1 := chk_at (hn 1 (by decide)) (C := C1) rfl
  have q2 := chk_at (hn 2 (by decide)) (C := C2) rfl
  have q3 := chk_at (hn 3 (by decide)) (C := C3) rfl
  have q4 := chk_at (hn 4 (by decide)) (C := C4) rfl
  have q5 := chk_at (hn 5 (by decide)) (C := C5) rfl
  have q6 := chk_at (hn 6 (by decide)) (C := C6) rfl
  have q7 := chk_at (hn 7 (by decide)) (C := C7) rfl
  have q8 := chk_at (hn 8 (by decide)) (C := C8) rfl
  have q9 := chk_at (hn 9 (by decide)) (C := C9) rfl
  have q10 := chk_at (hn 10 (by decide)) (C := C10) rfl
  have q11 := chk_at (hn 11 (by decide)) (C := C11) rfl
  have q12 := chk_at (hn 12 (by decide)) (C := C12) rfl
  have q13 := chk_at (hn 13 (by decide)) (C := C13) rfl
  have q14 := chk_at (hn 14 (by decide)) (C := C14) rfl
  have q15 := chk_at (hn 15 (by decide)) (C := C15) rfl
  have q16 := chk_at (hn 16 (by decide)) (C := C16) rfl
  have q17 := chk_at (hn 17 (by decide)) (C := C17) rfl
  have q18 := chk_at (hn 18 (by decide)) (C := C18) rfl
  have q19 := chk_at (hn 19 (by decide)) (C := C19) rfl
  have q20 := chk_at (hn 20 (by decide)) (C := C20) rfl
  have q21 := chk_at (hn 21 (by decide)) (C := C21) rfl
  have q22 := chk_at (hn 22 (by decide)) (C := C22) rfl
  have q23 := chk_at (hn 23 (by decide)) (C := C23) rfl
  have q24 := chk_at (hn 24 (by decide)) (C := C24) rfl
  have q25 := chk_at (hn 25 (by decide)) (C := C25) rfl
  have q26 := chk_at (hn 26 (by decide)) (C := C26) rfl
  have F_begun := fun_mk (st := s_begun) l_begun c_begun k_begun
  have D_begun : DefT K mg "_law_begun" s_begun ["_law_script", "_law_turn"] f_begun _ := ⟨F_begun, F_begun.binds (ps := ["_law_script", "_law_turn"]) fun _ _ _ _ _ _ us hl => match us, hl with | [_, _], _ => rfl, PySem.W.mg_of X G a_begun⟩
  have F_cast := fun_mk (st := s_cast) l_cast c_cast k_cast
  have D_cast : DefT K mg "_law_cast" s_cast ["_law_pail", "_law_many"] f_cast _ := ⟨F_cast, F_cast.binds (ps := ["_law_pail", "_law_many"]) fun _ _ _ _ _ _ us hl => match us, hl with | [_, _], _ => rfl, PySem.W.mg_of X G a_cast⟩
  have F_any_of := fun_mk (st := s_any_of) l_any_of c_any_of k_any_of
  have D_any_of : DefT K mg "_law_any_of" s_any_of ["_law_pail", "_law_some"] f_any_of _ := ⟨F_any_of, F_any_of.binds (ps := ["_law_pail", "_law_some"]) fun _ _ _ _ _ _ us hl => match us, hl with | [_, _], _ => rfl, PySem.W.mg_of X G a_any_of⟩
  have F_anything := fun_mk (st := s_anything) l_anything c_anything k_anything
  have D_anything : DefT K mg "_law_anything" s_anything ["_law_pail"] f_anything _ := ⟨F_anything, F_anything.binds (ps := ["_law_pail"]) fun _ _ _ _ _ _ us hl => match us, hl with | [_], _ => rfl, PySem.W.mg_of X G a_anything⟩
  have F_placed := fun_mk (st := s_placed) l_placed c_placed k_placed
  have D_placed : DefT K mg "_law_placed" s_placed ["_law_thing"] f_placed _ := ⟨F_placed, F_placed.binds (ps := ["_law_thing"]) fun _ _ _ _ _ _ us hl => match us, hl with | [_], _ => rfl, PySem.W.mg_of X G a_placed⟩
  have F_named := fun_mk (st := s_named) l_named c_named k_named
  have D_named : DefT K mg "_law_named" s_named ["_law_thing"] f_named _ := ⟨F_named, F_named.binds (ps := ["_law_thing"]) fun _ _ _ _ _ _ us hl => match us, hl with | [_], _ => rfl, PySem.W.mg_of X G a_named⟩
  have F_flags := fun_mk (st := s_flags) l_flags c_flags k_flags
  have D_flags : DefT K mg "_law_flags" s_flags ["_law_e"] f_flags _ := ⟨F_flags, F_flags.binds (ps := ["_law_e"]) fun _ _ _ _ _ _ us hl => match us, hl with | [_], _ => rfl, PySem.W.mg_of X G a_flags⟩
  have F_bases := fun_mk (st := s_bases) l_bases c_bases k_bases
  have D_bases : DefT K mg "_law_bases" s_bases ["_law_e"] f_bases _ := ⟨F_bases, F_bases.binds (ps := ["_law_e"]) fun _ _ _ _ _ _ us hl => match us, hl with | [_], _ => rfl, PySem.W.mg_of X G a_bases⟩
  have F_held := fun_mk (st := s_held) l_held c_held k_held
  have D_held : DefT K mg "_law_held" s_held ["_law_e", "_law_at"] f_held _ := ⟨F_held, F_held.binds (ps := ["_law_e", "_law_at"]) fun _ _ _ _ _ _ us hl => match us, hl with | [_, _], _ => rfl, PySem.W.mg_of X G a_held⟩
  have F_some_right := fun_mk (st := s_some_right) l_some_right c_some_right k_some_right
  have D_some_right : DefT K mg "_law_some_right" s_some_right ["_law_some", "_law_thing"] f_some_right _ := ⟨F_some_right, F_some_right.binds (ps := ["_law_some", "_law_thing"]) fun _ _ _ _ _ _ us hl => match us, hl with | [_, _], _ => rfl, PySem.W.mg_of X G a_some_right⟩
  have F_right := fun_mk (st := s_right) l_right c_right k_right
  have D_right : DefT K mg "_law_right" s_right ["_law_pail"] f_right _ := ⟨F_right, F_right.binds (ps := ["_law_pail"]) fun _ _ _ _ _ _ us hl => match us, hl with | [_], _ => rfl, PySem.W.mg_of X G a_right⟩
  have F_law := fun_mk (st := s_law) l_law c_law k_law
  have D_law : DefT K mg "law" s_law ["_law_script"] fa _ := ⟨F_law, F_law.binds (ps := ["_law_script"]) fun _ _ _ _ _ _ us hl => match us, hl with | [_], _ => rfl, PySem.W.mg_of X G a_law⟩
  refine ⟨PySem.W.fnOf "law" "law" (defArgs s_law) (defBody s_law) (defScope s_law) .none kV_law dc_law pm_law an_law cd_law ct_law, fun s v => .of_eq rfl, fun base _ _ => ?_⟩
  have T : Txt l.prog w ⟨K, [C0, C1, C2, C3, C4, C5, C6, C7, C8, C9, C10, C11, C12, C13, C14, C15, C16, C17, C18, C19, C20, C21, C22, C23, C24, C25, C26, C27, C28, C29]⟩ mg base := by
    refine ⟨?xm, ?xz, ?gc, clsT_of rfl hn, z_of X G z (by decide), z_of X G z (by decide), z_of X G z (by decide), z_of X G z (by decide), z_of X G z (by decide), z_of X G z (by decide), z_of X G z (by decide), z_of X G z (by decide), z_of X G z (by decide), z_of X G z (by decide), z_of X G z (by decide), z_of X G z (by decide), z_of X G z (by decide)⟩
    case xm =>
      intro n x f e
      match n, e with
      | 0, e =>
        cases Option.some.inj (show some (("InvalidText" : Str), some ("given" : Str)) = some (x, some f) from e)
        exact ⟨C0, rfl, PySem.W.mg_of X G aC0, xmk (n := 0) (.inl rfl) q0.1 q0.2.1 (PySem.W.mg_of X G aC0) iC0 iF0 ini_InvalidText l0 c0 k0⟩
      | 1, e =>
        cases Option.some.inj (show some (("InvalidName" : Str), some ("given" : Str)) = some (x, some f) from e)
        exact ⟨C1, rfl, PySem.W.mg_of X G aC1, xmk (n := 1) (.inl rfl) q1.1 q1.2.1 (PySem.W.mg_of X G aC1) iC1 iF1 ini_InvalidName l1 c1 k1⟩
      | 2, e =>
        cases Option.some.inj (show some (("InvalidKind" : Str), some ("given" : Str)) = some (x, some f) from e)
        exact ⟨C2, rfl, PySem.W.mg_of X G aC2, xmk (n := 2) (.inl rfl) q2.1 q2.2.1 (PySem.W.mg_of X G aC2) iC2 iF2 ini_InvalidKind l2 c2 k2⟩
      | 3, e =>
        cases Option.some.inj (show some (("InvalidMove" : Str), some ("given" : Str)) = some (x, some f) from e)
        exact ⟨C3, rfl, PySem.W.mg_of X G aC3, xmk (n := 3) (.inl rfl) q3.1 q3.2.1 (PySem.W.mg_of X G aC3) iC3 iF3 ini_InvalidMove l3 c3 k3⟩
      | 4, e =>
        cases Option.some.inj (show some (("InvalidNumber" : Str), some ("given" : Str)) = some (x, some f) from e)
        exact ⟨C4, rfl, PySem.W.mg_of X G aC4, xmk (n := 4) (.inl rfl) q4.1 q4.2.1 (PySem.W.mg_of X G aC4) iC4 iF4 ini_InvalidNumber l4 c4 k4⟩
      | 5, e =>
        cases Option.some.inj (show some (("InvalidGrowth" : Str), some ("given" : Str)) = some (x, some f) from e)
        exact ⟨C5, rfl, PySem.W.mg_of X G aC5, xmk (n := 5) (.inl rfl) q5.1 q5.2.1 (PySem.W.mg_of X G aC5) iC5 iF5 ini_InvalidGrowth l5 c5 k5⟩
      | 6, e =>
        cases Option.some.inj (show some (("InvalidFact" : Str), some ("given" : Str)) = some (x, some f) from e)
        exact ⟨C6, rfl, PySem.W.mg_of X G aC6, xmk (n := 6) (.inl rfl) q6.1 q6.2.1 (PySem.W.mg_of X G aC6) iC6 iF6 ini_InvalidFact l6 c6 k6⟩
      | 7, e =>
        cases Option.some.inj (show some (("InvalidOrder" : Str), some ("given" : Str)) = some (x, some f) from e)
        exact ⟨C7, rfl, PySem.W.mg_of X G aC7, xmk (n := 7) (.inl rfl) q7.1 q7.2.1 (PySem.W.mg_of X G aC7) iC7 iF7 ini_InvalidOrder l7 c7 k7⟩
      | 8, e =>
        cases Option.some.inj (show some (("InvalidWish" : Str), some ("given" : Str)) = some (x, some f) from e)
        exact ⟨C8, rfl, PySem.W.mg_of X G aC8, xmk (n := 8) (.inl rfl) q8.1 q8.2.1 (PySem.W.mg_of X G aC8) iC8 iF8 ini_InvalidWish l8 c8 k8⟩
      | 9, e =>
        cases Option.some.inj (show some (("InvalidIndex" : Str), some ("given" : Str)) = some (x, some f) from e)
        exact ⟨C9, rfl, PySem.W.mg_of X G aC9, xmk (n := 9) (.inl rfl) q9.1 q9.2.1 (PySem.W.mg_of X G aC9) iC9 iF9 ini_InvalidIndex l9 c9 k9⟩
      | 10, e =>
        cases Option.some.inj (show some (("NotYard" : Str), some ("given" : Str)) = some (x, some f) from e)
        exact ⟨C10, rfl, PySem.W.mg_of X G aC10, xmk (n := 10) (.inl rfl) q10.1 q10.2.1 (PySem.W.mg_of X G aC10) iC10 iF10 ini_NotYard l10 c10 k10⟩
      | 11, e =>
        cases Option.some.inj (show some (("NotFacts" : Str), some ("given" : Str)) = some (x, some f) from e)
        exact ⟨C11, rfl, PySem.W.mg_of X G aC11, xmk (n := 11) (.inl rfl) q11.1 q11.2.1 (PySem.W.mg_of X G aC11) iC11 iF11 ini_NotFacts l11 c11 k11⟩
      | 12, e =>
        cases Option.some.inj (show some (("InvalidKinds" : Str), some ("index" : Str)) = some (x, some f) from e)
        exact ⟨C12, rfl, PySem.W.mg_of X G aC12, xmk (n := 12) (.inr rfl) q12.1 q12.2.1 (PySem.W.mg_of X G aC12) iC12 iF12 ini_InvalidKinds l12 c12 k12⟩
      | 13, e =>
        cases Option.some.inj (show some (("InvalidRows" : Str), some ("index" : Str)) = some (x, some f) from e)
        exact ⟨C13, rfl, PySem.W.mg_of X G aC13, xmk (n := 13) (.inr rfl) q13.1 q13.2.1 (PySem.W.mg_of X G aC13) iC13 iF13 ini_InvalidRows l13 c13 k13⟩
      | 14, e =>
        cases Option.some.inj (show some (("InvalidFacts" : Str), some ("index" : Str)) = some (x, some f) from e)
        exact ⟨C14, rfl, PySem.W.mg_of X G aC14, xmk (n := 14) (.inr rfl) q14.1 q14.2.1 (PySem.W.mg_of X G aC14) iC14 iF14 ini_InvalidFacts l14 c14 k14⟩
      | 15, e =>
        cases Option.some.inj (show some (("InvalidPlan" : Str), some ("index" : Str)) = some (x, some f) from e)
        exact ⟨C15, rfl, PySem.W.mg_of X G aC15, xmk (n := 15) (.inr rfl) q15.1 q15.2.1 (PySem.W.mg_of X G aC15) iC15 iF15 ini_InvalidPlan l15 c15 k15⟩
      | 16, e =>
        cases Option.some.inj (show some (("InvalidChanges" : Str), some ("index" : Str)) = some (x, some f) from e)
        exact ⟨C16, rfl, PySem.W.mg_of X G aC16, xmk (n := 16) (.inr rfl) q16.1 q16.2.1 (PySem.W.mg_of X G aC16) iC16 iF16 ini_InvalidChanges l16 c16 k16⟩
      | 17, e =>
        cases Option.some.inj (show some (("InvalidWishes" : Str), some ("index" : Str)) = some (x, some f) from e)
        exact ⟨C17, rfl, PySem.W.mg_of X G aC17, xmk (n := 17) (.inr rfl) q17.1 q17.2.1 (PySem.W.mg_of X G aC17) iC17 iF17 ini_InvalidWishes l17 c17 k17⟩
      | 18, e =>
        cases Option.some.inj (show some (("UnknownName" : Str), some ("given" : Str)) = some (x, some f) from e)
        exact ⟨C18, rfl, PySem.W.mg_of X G aC18, xmk (n := 18) (.inl rfl) q18.1 q18.2.1 (PySem.W.mg_of X G aC18) iC18 iF18 ini_UnknownName l18 c18 k18⟩
      | 19, e =>
        cases Option.some.inj (show some (("InUse" : Str), some ("index" : Str)) = some (x, some f) from e)
        exact ⟨C19, rfl, PySem.W.mg_of X G aC19, xmk (n := 19) (.inr rfl) q19.1 q19.2.1 (PySem.W.mg_of X G aC19) iC19 iF19 ini_InUse l19 c19 k19⟩
      | 20, e =>
        cases Option.some.inj (show some (("Unbalanced" : Str), some ("given" : Str)) = some (x, some f) from e)
        exact ⟨C20, rfl, PySem.W.mg_of X G aC20, xmk (n := 20) (.inl rfl) q20.1 q20.2.1 (PySem.W.mg_of X G aC20) iC20 iF20 ini_Unbalanced l20 c20 k20⟩
      | 21, e =>
        cases Option.some.inj (show some (("NotThere" : Str), some ("given" : Str)) = some (x, some f) from e)
        exact ⟨C21, rfl, PySem.W.mg_of X G aC21, xmk (n := 21) (.inl rfl) q21.1 q21.2.1 (PySem.W.mg_of X G aC21) iC21 iF21 ini_NotThere l21 c21 k21⟩
      | 22, e =>
        cases Option.some.inj (show some (("OtherKinds" : Str), some ("given" : Str)) = some (x, some f) from e)
        exact ⟨C22, rfl, PySem.W.mg_of X G aC22, xmk (n := 22) (.inl rfl) q22.1 q22.2.1 (PySem.W.mg_of X G aC22) iC22 iF22 ini_OtherKinds l22 c22 k22⟩
      | 23, e =>
        cases Option.some.inj (show some (("TooGreat" : Str), some ("given" : Str)) = some (x, some f) from e)
        exact ⟨C23, rfl, PySem.W.mg_of X G aC23, xmk (n := 23) (.inl rfl) q23.1 q23.2.1 (PySem.W.mg_of X G aC23) iC23 iF23 ini_TooGreat l23 c23 k23⟩
      | 24, e => cases Option.some.inj (show some (("Impossible" : Str), (none : Option Str)) = some (x, some f) from e)
      | 25, e => cases Option.some.inj (show some (("NothingToUndo" : Str), (none : Option Str)) = some (x, some f) from e)
      | 26, e =>
        cases Option.some.inj (show some (("Broken" : Str), some ("index" : Str)) = some (x, some f) from e)
        exact ⟨C26, rfl, PySem.W.mg_of X G aC26, xmk (n := 26) (.inr rfl) q26.1 q26.2.1 (PySem.W.mg_of X G aC26) iC26 iF26 ini_Broken l26 c26 k26⟩
      | n + 27, e => exact absurd (List.getElem?_eq_some_iff.mp e).1 (by show ¬ n + 27 < 27; omega)
    case xz =>
      intro n x e
      match n, e with
      | 0, e => cases Option.some.inj (show some (("InvalidText" : Str), some ("given" : Str)) = some (x, (none : Option Str)) from e)
      | 1, e => cases Option.some.inj (show some (("InvalidName" : Str), some ("given" : Str)) = some (x, (none : Option Str)) from e)
      | 2, e => cases Option.some.inj (show some (("InvalidKind" : Str), some ("given" : Str)) = some (x, (none : Option Str)) from e)
      | 3, e => cases Option.some.inj (show some (("InvalidMove" : Str), some ("given" : Str)) = some (x, (none : Option Str)) from e)
      | 4, e => cases Option.some.inj (show some (("InvalidNumber" : Str), some ("given" : Str)) = some (x, (none : Option Str)) from e)
      | 5, e => cases Option.some.inj (show some (("InvalidGrowth" : Str), some ("given" : Str)) = some (x, (none : Option Str)) from e)
      | 6, e => cases Option.some.inj (show some (("InvalidFact" : Str), some ("given" : Str)) = some (x, (none : Option Str)) from e)
      | 7, e => cases Option.some.inj (show some (("InvalidOrder" : Str), some ("given" : Str)) = some (x, (none : Option Str)) from e)
      | 8, e => cases Option.some.inj (show some (("InvalidWish" : Str), some ("given" : Str)) = some (x, (none : Option Str)) from e)
      | 9, e => cases Option.some.inj (show some (("InvalidIndex" : Str), some ("given" : Str)) = some (x, (none : Option Str)) from e)
      | 10, e => cases Option.some.inj (show some (("NotYard" : Str), some ("given" : Str)) = some (x, (none : Option Str)) from e)
      | 11, e => cases Option.some.inj (show some (("NotFacts" : Str), some ("given" : Str)) = some (x, (none : Option Str)) from e)
      | 12, e => cases Option.some.inj (show some (("InvalidKinds" : Str), some ("index" : Str)) = some (x, (none : Option Str)) from e)
      | 13, e => cases Option.some.inj (show some (("InvalidRows" : Str), some ("index" : Str)) = some (x, (none : Option Str)) from e)
      | 14, e => cases Option.some.inj (show some (("InvalidFacts" : Str), some ("index" : Str)) = some (x, (none : Option Str)) from e)
      | 15, e => cases Option.some.inj (show some (("InvalidPlan" : Str), some ("index" : Str)) = some (x, (none : Option Str)) from e)
      | 16, e => cases Option.some.inj (show some (("InvalidChanges" : Str), some ("index" : Str)) = some (x, (none : Option Str)) from e)
      | 17, e => cases Option.some.inj (show some (("InvalidWishes" : Str), some ("index" : Str)) = some (x, (none : Option Str)) from e)
      | 18, e => cases Option.some.inj (show some (("UnknownName" : Str), some ("given" : Str)) = some (x, (none : Option Str)) from e)
      | 19, e => cases Option.some.inj (show some (("InUse" : Str), some ("index" : Str)) = some (x, (none : Option Str)) from e)
      | 20, e => cases Option.some.inj (show some (("Unbalanced" : Str), some ("given" : Str)) = some (x, (none : Option Str)) from e)
      | 21, e => cases Option.some.inj (show some (("NotThere" : Str), some ("given" : Str)) = some (x, (none : Option Str)) from e)
      | 22, e => cases Option.some.inj (show some (("OtherKinds" : Str), some ("given" : Str)) = some (x, (none : Option Str)) from e)
      | 23, e => cases Option.some.inj (show some (("TooGreat" : Str), some ("given" : Str)) = some (x, (none : Option Str)) from e)
      | 24, e =>
        cases Option.some.inj (show some (("Impossible" : Str), (none : Option Str)) = some (x, none) from e)
        exact ⟨C24, rfl, PySem.W.mg_of X G aC24, ⟨_, _, _, _, xcb (n := 24) q24.1, iC24⟩, PySem.W.mg_of X G aC24⟩
      | 25, e =>
        cases Option.some.inj (show some (("NothingToUndo" : Str), (none : Option Str)) = some (x, none) from e)
        exact ⟨C25, rfl, PySem.W.mg_of X G aC25, ⟨_, _, _, _, xcb (n := 25) q25.1, iC25⟩, PySem.W.mg_of X G aC25⟩
      | 26, e => cases Option.some.inj (show some (("Broken" : Str), some ("index" : Str)) = some (x, (none : Option Str)) from e)
      | n + 27, e => exact absurd (List.getElem?_eq_some_iff.mp e).1 (by show ¬ n + 27 < 27; omega)
    case gc =>
      intro n x e
      match n, e with
      | 0, e =>
        cases Option.some.inj (show some ("InvalidText" : Str) = some x from e)
        exact ⟨C0, rfl, PySem.W.mg_of X G aC0⟩
      | 1, e =>
        cases Option.some.inj (show some ("InvalidName" : Str) = some x from e)
        exact ⟨C1, rfl, PySem.W.mg_of X G aC1⟩
      | 2, e =>
        cases Option.some.inj (show some ("InvalidKind" : Str) = some x from e)
        exact ⟨C2, rfl, PySem.W.mg_of X G aC2⟩
      | 3, e =>
        cases Option.some.inj (show some ("InvalidMove" : Str) = some x from e)
        exact ⟨C3, rfl, PySem.W.mg_of X G aC3⟩
      | 4, e =>
        cases Option.some.inj (show some ("InvalidNumber" : Str) = some x from e)
        exact ⟨C4, rfl, PySem.W.mg_of X G aC4⟩
      | 5, e =>
        cases Option.some.inj (show some ("InvalidGrowth" : Str) = some x from e)
        exact ⟨C5, rfl, PySem.W.mg_of X G aC5⟩
      | 6, e =>
        cases Option.some.inj (show some ("InvalidFact" : Str) = some x from e)
        exact ⟨C6, rfl, PySem.W.mg_of X G aC6⟩
      | 7, e =>
        cases Option.some.inj (show some ("InvalidOrder" : Str) = some x from e)
        exact ⟨C7, rfl, PySem.W.mg_of X G aC7⟩
      | 8, e =>
        cases Option.some.inj (show some ("InvalidWish" : Str) = some x from e)
        exact ⟨C8, rfl, PySem.W.mg_of X G aC8⟩
      | 9, e =>
        cases Option.some.inj (show some ("InvalidIndex" : Str) = some x from e)
        exact ⟨C9, rfl, PySem.W.mg_of X G aC9⟩
      | 10, e =>
        cases Option.some.inj (show some ("NotYard" : Str) = some x from e)
        exact ⟨C10, rfl, PySem.W.mg_of X G aC10⟩
      | 11, e =>
        cases Option.some.inj (show some ("NotFacts" : Str) = some x from e)
        exact ⟨C11, rfl, PySem.W.mg_of X G aC11⟩
      | 12, e =>
        cases Option.some.inj (show some ("InvalidKinds" : Str) = some x from e)
        exact ⟨C12, rfl, PySem.W.mg_of X G aC12⟩
      | 13, e =>
        cases Option.some.inj (show some ("InvalidRows" : Str) = some x from e)
        exact ⟨C13, rfl, PySem.W.mg_of X G aC13⟩
      | 14, e =>
        cases Option.some.inj (show some ("InvalidFacts" : Str) = some x from e)
        exact ⟨C14, rfl, PySem.W.mg_of X G aC14⟩
      | 15, e =>
        cases Option.some.inj (show some ("InvalidPlan" : Str) = some x from e)
        exact ⟨C15, rfl, PySem.W.mg_of X G aC15⟩
      | 16, e =>
        cases Option.some.inj (show some ("InvalidChanges" : Str) = some x from e)
        exact ⟨C16, rfl, PySem.W.mg_of X G aC16⟩
      | 17, e =>
        cases Option.some.inj (show some ("InvalidWishes" : Str) = some x from e)
        exact ⟨C17, rfl, PySem.W.mg_of X G aC17⟩
      | 18, e =>
        cases Option.some.inj (show some ("UnknownName" : Str) = some x from e)
        exact ⟨C18, rfl, PySem.W.mg_of X G aC18⟩
      | 19, e =>
        cases Option.some.inj (show some ("InUse" : Str) = some x from e)
        exact ⟨C19, rfl, PySem.W.mg_of X G aC19⟩
      | 20, e =>
        cases Option.some.inj (show some ("Unbalanced" : Str) = some x from e)
        exact ⟨C20, rfl, PySem.W.mg_of X G aC20⟩
      | 21, e =>
        cases Option.some.inj (show some ("NotThere" : Str) = some x from e)
        exact ⟨C21, rfl, PySem.W.mg_of X G aC21⟩
      | 22, e =>
        cases Option.some.inj (show some ("OtherKinds" : Str) = some x from e)
        exact ⟨C22, rfl, PySem.W.mg_of X G aC22⟩
      | 23, e =>
        cases Option.some.inj (show some ("TooGreat" : Str) = some x from e)
        exact ⟨C23, rfl, PySem.W.mg_of X G aC23⟩
      | 24, e =>
        cases Option.some.inj (show some ("Impossible" : Str) = some x from e)
        exact ⟨C24, rfl, PySem.W.mg_of X G aC24⟩
      | 25, e =>
        cases Option.some.inj (show some ("NothingToUndo" : Str) = some x from e)
        exact ⟨C25, rfl, PySem.W.mg_of X G aC25⟩
      | 26, e =>
        cases Option.some.inj (show some ("Broken" : Str) = some x from e)
        exact ⟨C26, rfl, PySem.W.mg_of X G aC26⟩
      | 27, e =>
        cases Option.some.inj (show some ("WrongValue" : Str) = some x from e)
        exact ⟨C27, rfl, PySem.W.mg_of X G aC27⟩
      | 28, e =>
        cases Option.some.inj (show some ("WrongName" : Str) = some x from e)
        exact ⟨C28, rfl, PySem.W.mg_of X G aC28⟩
      | 29, e =>
        cases Option.some.inj (show some ("NotPossible" : Str) = some x from e)
        exact ⟨C29, rfl, PySem.W.mg_of X G aC29⟩
      | n + 30, e => exact absurd (List.getElem?_eq_some_iff.mp e).1 (by show ¬ n + 30 < 30; omega)
  have K_cast := ok_cast D_cast T
  have K_any_of := ok_any_of D_any_of T D_cast K_cast
  have K_anything := ok_anything D_anything T D_any_of K_any_of
  have K_placed := ok_placed D_placed T
  have K_named := ok_named D_named T
  have K_flags := ok_flags D_flags T
  have K_bases := ok_bases D_bases T
  have K_held := ok_held D_held T
  have K_some := ok_some_right D_some_right T D_flags K_flags D_bases K_bases D_held K_held
  have K_right := ok_right AL D_right T D_anything K_anything D_placed K_placed D_named K_named D_some_right K_some
  have K_begun := ok_begun D_begun T
  exact ok_law AL D_law T m1 m2 m3 m4 D_begun K_begun D_right K_right
theorem walk {l : PySem.W.OpenLaw} {q : Program} {loose : List Str} {XP : (Str → Option Value) → Heap → Prop} {YP : World → Heap → Prop} {d : DefRec} {K : Params → PySem.W.Frag} (hn : l.most = some 63) (hdf : d.params.defaults = [])
    (hY : ∀ (w : World) (h : Heap), YP w h → (K w.params).In h)
    (F : ∀ (w : World) (s₀ : Shared) (mg mb : Str → Option Value) (fa : Addr) (h : Heap), PySem.W.Ground q loose [] XP w s₀ mg mb h → (K w.params).In h → h.Ns mainGlobals mg → mg d.name = some (.ref fa) →
      ∃ fd : FuncData, (∀ (s : Shared) (u : Value), BindsTo s fd ⟨[u], []⟩ [("_law_script", u)]) ∧ ∀ base : Heap, (K w.params).In base → base.Ns mainGlobals mg → FnG l.prog w (K w.params) mg base 5 fa fd ["_law_script"] (spL ⟨K w.params, []⟩)) :
    PySem.W.WalkO q loose XP YP l.row.toRowW d [] (fun f vs => PySem.call f vs) :=
  L2.walk_ofG (n := 63) (k := 5) (x := "_law_script") (sp := fun w => spL ⟨K w.params, []⟩) hn (by decide) hdf ⟨rfl, by decide, by decide⟩ hY F fun w H a ns hl hb hO hS => ⟨a, ns, rfl, hS, hb, Nat.le_trans hl (by decide), fun _ => rfl⟩
theorem const_int {P : Program} {loose : List Str} {mean : ExcName → Option Value} {mg mb : Str → Option Value} {h : Heap} (T : PyProof.Rows.Top P loose mean mg mb h) {x : Str} {i : Int} (e : PyProof.Rows.valOf P x = some (.int i)) : ∃ t, mg x = some (.int i t) := by
  obtain ⟨v, h1, h2⟩ := T.const x _ e
  obtain ⟨t, rfl, _⟩ := PyProof.Rows.reads_int_inv (h2 h)
  exact ⟨t, h1⟩
end K01

set_option Elab.async false
set_option linter.all false
set_option maxRecDepth 100000
set_option maxHeartbeats 4000000
namespace K01
open PySem L2 Sv
theorem right_J {r : Nat} (h : rightR r = true) : ∃ J, callM 5 m_some_right [.ref 52, tw r] (CC r) = some (.bl true, CC r ++ J) := by
  unfold rightR at h
  split at h
  · rename_i A hA
    have e := of_decide_eq_true h
    refine ⟨A.drop (CC r).length, ?_⟩
    rw [hA]
    have e2 : CC r ++ A.drop (CC r).length = A := by
      calc CC r ++ A.drop (CC r).length = A.take (CC r).length ++ A.drop (CC r).length := by rw [e]
        _ = A := List.take_append_drop ..
    rw [e2]
  · cases h
theorem alls : Alls := ⟨fun r h => right_J (right_all r h), fun r h => range_all fits_P h, fun r h => range_all fits_N h, fun r h => range_all fits_T h⟩
end K01

open PySem PySem.W PyProof.Rows
set_option Elab.async false
set_option linter.all false
set_option maxRecDepth 100000 in
set_option maxHeartbeats 0 in
theorem PySem.Challenge.cw_swapkinds_k01_limits_and_errors_holds : PySem.Challenge.rw_swapkinds_k01_limits_and_errors.Holds := by
  w_on; o_law; k_head; (case hw => w_witness2)
  k_fill
  have AL : K01.Alls := K01.alls
  refine K01.walk (l := PySem.Challenge.rw_swapkinds_k01_limits_and_errors) rfl rfl (fun w h Y => PySem.W.kIn_of Y) ?F
  case F =>
    intro w s₀ mg mb fa h Gr KX G hmg
    obtain ⟨v2, e2, r2⟩ := Gr.X.2.val (("MOST_COUNT" : Str), WData.int 1000000000000000000000000000000) (by simp)
    obtain ⟨t2, rfl, _⟩ := readsW_int_inv r2
    obtain ⟨t1, e1⟩ := K01.const_int Gr.T (x := "MOST_KINDS") (i := 4) (by first | rfl | decide +kernel | kernel_rfl)
    obtain ⟨t3, e3⟩ := K01.const_int Gr.T (x := "MOST_FACTS") (i := 12) (by first | rfl | decide +kernel | kernel_rfl)
    obtain ⟨t4, e4⟩ := K01.const_int Gr.T (x := "MOST_CHANGES") (i := 6) (by first | rfl | decide +kernel | kernel_rfl)
    refine' K01.all_mk AL KX G hmg ?aC0 ?aC1 ?aC2 ?aC3 ?aC4 ?aC5 ?aC6 ?aC7 ?aC8 ?aC9 ?aC10 ?aC11 ?aC12 ?aC13 ?aC14 ?aC15 ?aC16 ?aC17 ?aC18 ?aC19 ?aC20 ?aC21 ?aC22 ?aC23 ?aC24 ?aC25 ?aC26 ?aC27 ?aC28 ?aC29 ?hall ?iC0 ?iF0 ?l0 ?c0 ?k0 ?iC1 ?iF1 ?l1 ?c1 ?k1 ?iC2 ?iF2 ?l2 ?c2 ?k2 ?iC3 ?iF3 ?l3 ?c3 ?k3 ?iC4 ?iF4 ?l4 ?c4 ?k4 ?iC5 ?iF5 ?l5 ?c5 ?k5 ?iC6 ?iF6 ?l6 ?c6 ?k6 ?iC7 ?iF7 ?l7 ?c7 ?k7 ?iC8 ?iF8 ?l8 ?c8 ?k8 ?iC9 ?iF9 ?l9 ?c9 ?k9 ?iC10 ?iF10 ?l10 ?c10 ?k10 ?iC11 ?iF11 ?l11 ?c11 ?k11 ?iC12 ?iF12 ?l12 ?c12 ?k12 ?iC13 ?iF13 ?l13 ?c13 ?k13 ?iC14 ?iF14 ?l14 ?c14 ?k14 ?iC15 ?iF15 ?l15 ?c15 ?k15 ?iC16 ?iF16 ?l16 ?c16 ?k16 ?iC17 ?iF17 ?l17 ?c17 ?k17 ?iC18 ?iF18 ?l18 ?c18 ?k18 ?iC19 ?iF19 ?l19 ?c19 ?k19 ?iC20 ?iF20 ?l20 ?c20 ?k20 ?iC21 ?iF21 ?l21 ?c21 ?k21 ?iC22 ?iF22 ?l22 ?c22 ?k22 ?iC23 ?iF23 ?l23 ?c23 ?k23 ?iC26 ?iF26 ?l26 ?c26 ?k26 ?iC24 ?iC25 ?a_begun ?l_begun ?c_begun ?k_begun ?a_cast ?l_cast ?c_cast ?k_cast ?a_any_of ?l_any_of ?c_any_of ?k_any_of ?a_anything ?l_anything ?c_anything ?k_anything ?a_placed ?l_placed ?c_placed ?k_placed ?a_named ?l_named ?c_named ?k_named ?a_flags ?l_flags ?c_flags ?k_flags ?a_bases ?l_bases ?c_bases ?k_bases ?a_held ?l_held ?c_held ?k_held ?a_some_right ?l_some_right ?c_some_right ?k_some_right ?a_right ?l_right ?c_right ?k_right ?a_law ?l_law ?c_law ?k_law ?z e1 e2 e3 e4
    (case aC0 => k_is)
    (case aC1 => k_is)
    (case aC2 => k_is)
    (case aC3 => k_is)
    (case aC4 => k_is)
    (case aC5 => k_is)
    (case aC6 => k_is)
    (case aC7 => k_is)
    (case aC8 => k_is)
    (case aC9 => k_is)
    (case aC10 => k_is)
    (case aC11 => k_is)
    (case aC12 => k_is)
    (case aC13 => k_is)
    (case aC14 => k_is)
    (case aC15 => k_is)
    (case aC16 => k_is)
    (case aC17 => k_is)
    (case aC18 => k_is)
    (case aC19 => k_is)
    (case aC20 => k_is)
    (case aC21 => k_is)
    (case aC22 => k_is)
    (case aC23 => k_is)
    (case aC24 => k_is)
    (case aC25 => k_is)
    (case aC26 => k_is)
    (case aC27 => k_is)
    (case aC28 => k_is)
    (case aC29 => k_is)
    (case hall => kernel_rfl)
    (case iC0 => k_is)
    (case iF0 => k_is)
    (case l0 => k_is)
    (case c0 => k_is)
    (case k0 => k_is)
    (case iC1 => k_is)
    (case iF1 => k_is)
    (case l1 => k_is)
    (case c1 => k_is)
    (case k1 => k_is)
    (case iC2 => k_is)
    (case iF2 => k_is)
    (case l2 => k_is)
    (case c2 => k_is)
    (case k2 => k_is)
    (case iC3 => k_is)
    (case iF3 => k_is)
    (case l3 => k_is)
    (case c3 => k_is)
    (case k3 => k_is)
    (case iC4 => k_is)
    (case iF4 => k_is)
    (case l4 => k_is)
    (case c4 => k_is)
    (case k4 => k_is)
    (case iC5 => k_is)
    (case iF5 => k_is)
    (case l5 => k_is)
    (case c5 => k_is)
    (case k5 => k_is)
    (case iC6 => k_is)
    (case iF6 => k_is)
    (case l6 => k_is)
    (case c6 => k_is)
    (case k6 => k_is)
    (case iC7 => k_is)
    (case iF7 => k_is)
    (case l7 => k_is)
    (case c7 => k_is)
    (case k7 => k_is)
    (case iC8 => k_is)
    (case iF8 => k_is)
    (case l8 => k_is)
    (case c8 => k_is)
    (case k8 => k_is)
    (case iC9 => k_is)
    (case iF9 => k_is)
    (case l9 => k_is)
    (case c9 => k_is)
    (case k9 => k_is)
    (case iC10 => k_is)
    (case iF10 => k_is)
    (case l10 => k_is)
    (case c10 => k_is)
    (case k10 => k_is)
    (case iC11 => k_is)
    (case iF11 => k_is)
    (case l11 => k_is)
    (case c11 => k_is)
    (case k11 => k_is)
    (case iC12 => k_is)
    (case iF12 => k_is)
    (case l12 => k_is)
    (case c12 => k_is)
    (case k12 => k_is)
    (case iC13 => k_is)
    (case iF13 => k_is)
    (case l13 => k_is)
    (case c13 => k_is)
    (case k13 => k_is)
    (case iC14 => k_is)
    (case iF14 => k_is)
    (case l14 => k_is)
    (case c14 => k_is)
    (case k14 => k_is)
    (case iC15 => k_is)
    (case iF15 => k_is)
    (case l15 => k_is)
    (case c15 => k_is)
    (case k15 => k_is)
    (case iC16 => k_is)
    (case iF16 => k_is)
    (case l16 => k_is)
    (case c16 => k_is)
    (case k16 => k_is)
    (case iC17 => k_is)
    (case iF17 => k_is)
    (case l17 => k_is)
    (case c17 => k_is)
    (case k17 => k_is)
    (case iC18 => k_is)
    (case iF18 => k_is)
    (case l18 => k_is)
    (case c18 => k_is)
    (case k18 => k_is)
    (case iC19 => k_is)
    (case iF19 => k_is)
    (case l19 => k_is)
    (case c19 => k_is)
    (case k19 => k_is)
    (case iC20 => k_is)
    (case iF20 => k_is)
    (case l20 => k_is)
    (case c20 => k_is)
    (case k20 => k_is)
    (case iC21 => k_is)
    (case iF21 => k_is)
    (case l21 => k_is)
    (case c21 => k_is)
    (case k21 => k_is)
    (case iC22 => k_is)
    (case iF22 => k_is)
    (case l22 => k_is)
    (case c22 => k_is)
    (case k22 => k_is)
    (case iC23 => k_is)
    (case iF23 => k_is)
    (case l23 => k_is)
    (case c23 => k_is)
    (case k23 => k_is)
    (case iC26 => k_is)
    (case iF26 => k_is)
    (case l26 => k_is)
    (case c26 => k_is)
    (case k26 => k_is)
    (case iC24 => k_is)
    (case iC25 => k_is)
    (case a_begun => k_is)
    (case l_begun => k_is)
    (case c_begun => k_is)
    (case k_begun => k_is)
    (case a_cast => k_is)
    (case l_cast => k_is)
    (case c_cast => k_is)
    (case k_cast => k_is)
    (case a_any_of => k_is)
    (case l_any_of => k_is)
    (case c_any_of => k_is)
    (case k_any_of => k_is)
    (case a_anything => k_is)
    (case l_anything => k_is)
    (case c_anything => k_is)
    (case k_anything => k_is)
    (case a_placed => k_is)
    (case l_placed => k_is)
    (case c_placed => k_is)
    (case k_placed => k_is)
    (case a_named => k_is)
    (case l_named => k_is)
    (case c_named => k_is)
    (case k_named => k_is)
    (case a_flags => k_is)
    (case l_flags => k_is)
    (case c_flags => k_is)
    (case k_flags => k_is)
    (case a_bases => k_is)
    (case l_bases => k_is)
    (case c_bases => k_is)
    (case k_bases => k_is)
    (case a_held => k_is)
    (case l_held => k_is)
    (case c_held => k_is)
    (case k_held => k_is)
    (case a_some_right => k_is)
    (case l_some_right => k_is)
    (case c_some_right => k_is)
    (case k_some_right => k_is)
    (case a_right => k_is)
    (case l_right => k_is)
    (case c_right => k_is)
    (case k_right => k_is)
    (case a_law => k_is)
    (case l_law => k_is)
    (case c_law => k_is)
    (case k_law => k_is)
    (case z => kernel_rfl)
