/- The plain machine (VamStore): part of a proof by a machine of plain values that is proved right. -/
import Derived.Test.YtnkmhgojbinhkabVamOps
namespace Vam
set_option linter.unusedVariables false
set_option linter.unusedSimpArgs false
open Go
variable {P : Program} {φ : Phi} {H H' : CH} {w : World}

/-! ## Writing -/

theorem putV_zero (x l v vs : V) : putV (.cons x l) 0 (.cons v vs) = opt none (fun r => some (.cons v r)) (putV l 0 vs) := rfl
theorem putV_zero_nil (x l : V) : putV (.cons x l) 0 .nil = some (.cons x l) := rfl
theorem putV_succ (x l vs : V) (n : Nat) : putV (.cons x l) (n + 1) vs = opt none (fun r => some (.cons x r)) (putV l n vs) := rfl
theorem putV_nil (n : Nat) (vs : V) : putV .nil n vs = natC (onList none (some .nil) (fun _ _ => none) vs) (fun _ => none) n := rfl

/-- the list behind a write -/
def putL (l : List Value) (n : Nat) (vs : List Value) : List Value := l.take n ++ vs ++ l.drop (n + vs.length)

theorem putV_rel : ∀ {l : V} {xs : List Value} {n : Nat} {vs r : V} {ys : List Value}, LR φ l xs → LR φ vs ys → putV l n vs = some r →
    n + ys.length ≤ xs.length ∧ LR φ r (putL xs n ys) ∧ lenL r = lenL l := by
  intro l
  induction l with
  | nil =>
    intro xs n vs r ys hl hv hr
    rw [LR.inv_nil hl]
    rw [putV_nil] at hr
    cases n with
    | succ n => cases hr
    | zero =>
      cases hv with
      | nil => cases hr; exact ⟨by simp, by simpa [putL] using RR.nil, rfl⟩
      | cons _ _ _ _ _ _ => cases hr
  | cons x l _ ih =>
    intro xs n vs r ys hl hv hr
    obtain ⟨v, xs', rfl, hx, hl'⟩ := LR.inv_cons hl
    cases n with
    | zero =>
      cases hv with
      | nil => rw [putV_zero_nil] at hr; cases hr; exact ⟨by simp, by simpa [putL] using hl, rfl⟩
      | cons y vs' u ys' hy hv' =>
        rw [putV_zero] at hr
        obtain ⟨r', h1, h2⟩ := opt_ok (no := none) hr (by simp)
        cases h2
        obtain ⟨h3, h4, h5⟩ := ih hl' hv' h1
        refine ⟨by simp at h3 ⊢; omega, ?_, by simp [lenL, h5]⟩
        have e : putL (v :: xs') 0 (u :: ys') = u :: putL xs' 0 ys' := by simp [putL]
        rw [e]; exact .cons _ _ _ _ hy h4
    | succ n =>
      rw [putV_succ] at hr
      obtain ⟨r', h1, h2⟩ := opt_ok (no := none) hr (by simp)
      cases h2
      obtain ⟨h3, h4, h5⟩ := ih hl' hv h1
      refine ⟨by simp; omega, ?_, by simp [lenL, h5]⟩
      have e : putL (v :: xs') (n + 1) ys = v :: putL xs' n ys := by simp [putL, Nat.add_right_comm]
      rw [e]; exact .cons _ _ _ _ hx h4
  | _ => intro xs n vs r ys hl _ _; cases hl

/-- storing cells one by one: what it leaves of the block -/
def putArr (arr : Array Value) (n : Nat) : List Value → Array Value
  | [] => arr
  | v :: vs => putArr (arr.setIfInBounds n v) (n + 1) vs
theorem putArr_size (vs : List Value) : ∀ (arr : Array Value) (n : Nat), (putArr arr n vs).size = arr.size := by
  induction vs with
  | nil => intro arr n; rfl
  | cons v vs ih => intro arr n; simp [putArr, ih]
theorem putArr_get (vs : List Value) : ∀ (arr : Array Value) (n i : Nat), n + vs.length ≤ arr.size →
    (putArr arr n vs)[i]? = if n ≤ i ∧ i < n + vs.length then vs[i - n]? else arr[i]? := by
  induction vs with
  | nil => intro arr n i _; simp [putArr]; omega
  | cons v vs ih =>
    intro arr n i h
    simp only [putArr, List.length_cons] at h ⊢
    rw [ih _ _ _ (by simp; omega)]
    by_cases h1 : n + 1 ≤ i ∧ i < n + 1 + vs.length
    · rw [if_pos h1, if_pos (by omega), show i - n = (i - (n + 1)) + 1 by omega]; simp
    · rw [if_neg h1]
      by_cases h2 : i = n
      · subst h2
        rw [if_pos (by omega)]
        simp [Array.getElem?_setIfInBounds]; omega
      · rw [if_neg (by omega), Array.getElem?_setIfInBounds_ne (by omega)]

theorem heap_setCell {r off : Nat} {v : Value} {arr : Array Value} {el : TypeId} {fr : Nat × Nat} (h : w.heap[r]? = some (.cells arr el fr)) :
    (w.setCell ⟨r, off, none⟩ v) = { w with heap := w.heap.setIfInBounds r (.cells (arr.setIfInBounds off v) el fr) } := by
  obtain ⟨hr, hh⟩ := Array.getElem?_eq_some_iff.1 h
  unfold World.setCell
  congr 1
  apply Array.ext_getElem?
  intro i
  rw [Array.getElem?_modify, Array.getElem?_setIfInBounds]
  by_cases e : r = i
  · subst e; simp [hr, hh]
  · simp [e]

theorem run_storeCells (a : Addr) (r o : Nat) (el : TypeId) : ∀ (vs : List Value) (i : Nat) (w : World) (arr : Array Value),
    (∀ j, a.add j = ⟨r, o + j, none⟩) → w.heap[r]? = some (.cells arr el (0, 0)) → (∀ v ∈ vs, v.oneCell' = true) → o + i + vs.length ≤ arr.size →
    (storeCells a vs i).run P w = .ok () { w with heap := w.heap.setIfInBounds r (.cells (putArr arr (o + i) vs) el (0, 0)) } := by
  intro vs
  induction vs with
  | nil =>
    intro i w arr _ h _ _
    obtain ⟨hr, hh⟩ := Array.getElem?_eq_some_iff.1 h
    have : w.heap.setIfInBounds r (.cells arr el (0, 0)) = w.heap := by
      apply Array.ext_getElem?
      intro j
      rw [Array.getElem?_setIfInBounds]
      by_cases e : r = j
      · subst e; simp [hr, hh]
      · simp [e]
    simp [storeCells, putArr, this]
  | cons v vs ih =>
    intro i w arr ha h h1 hl
    obtain ⟨hr, hh⟩ := Array.getElem?_eq_some_iff.1 h
    simp only [List.length_cons] at hl
    have hc : w.cell? ⟨r, o + i, none⟩ = some arr[o + i] := by rw [cell?_eq h]; simp
    have hf : w.frozen? ⟨r, o + i, none⟩ = false := by simp [World.frozen?, h]
    have hs : (store (a.add i) v).run P w = .ok () (w.setCell ⟨r, o + i, none⟩ v) := by
      rw [run_store P w _ _ _ (h1 v (by simp)), ha i, hc]
      simp [hf]
    simp only [storeCells, Sem.run_bind, hs, Result.andThen_ok]
    rw [heap_setCell h]
    rw [ih (i + 1) _ (arr.setIfInBounds (o + i) v) ha (by simp [hr]) (fun u hu => h1 u (by simp [hu])) (by simp; omega)]
    simp only [putArr]
    congr 2
    apply Array.ext_getElem?
    intro j
    rw [Array.getElem?_setIfInBounds, Array.getElem?_setIfInBounds, Array.getElem?_setIfInBounds]
    by_cases e : r = j
    · subst e; simp [hr, Nat.add_assoc]
    · simp [e]

theorem allOne_rel {l : V} {xs : List Value} (hl : LR φ l xs) (h : allOne l = true) : ∀ v ∈ xs, v.oneCell' = true := by
  induction l generalizing xs with
  | nil => rw [LR.inv_nil hl]; simp
  | cons x l _ ih =>
    obtain ⟨v, xs', rfl, hx, hl'⟩ := LR.inv_cons hl
    change cond (oneC x) (allOne l) false = true at h
    obtain ⟨h1, h2⟩ := cond_ok h (by simp)
    intro u hu
    rcases List.mem_cons.1 hu with rfl | hu
    · cases hx <;> first | rfl | (cases h1)
    · exact ih hl' h2 u hu
  | _ => cases hl
end Vam
