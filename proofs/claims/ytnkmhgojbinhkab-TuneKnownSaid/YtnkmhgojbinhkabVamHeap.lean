/- The plain machine (VamHeap): part of a proof by a machine of plain values that is proved right. -/
import Derived.Test.YtnkmhgojbinhkabVamEval
namespace Vam
set_option linter.unusedVariables false
set_option linter.unusedSimpArgs false
open Go

/-! ## Rows, names and the heap: what is read behind a write -/

theorem D.num_lt (d : D) : d.num < 16 := by cases d <;> decide
theorem D.num_inj {a b : D} (h : a.num = b.num) : a = b := by cases a <;> cases b <;> first | rfl | (exact absurd h (by decide))
noncomputable instance : DecidableEq D := fun a b => if h : a.num = b.num then isTrue (D.num_inj h) else isFalse (fun e => h (e ▸ rfl))
noncomputable instance : DecidableEq Id := fun a b => Classical.propDecidable (a = b)

theorem RowV.get_set (x : V) (d d' : D) (t : RowV) : RowV.get d (RowV.set d' x t) = if d = d' then x else RowV.get d t := by
  cases t <;> cases d <;> cases d' <;> rfl
theorem RowW.get_set (x : RowV) (d d' : D) (t : RowW) : RowW.get d (RowW.set d' x t) = if d = d' then x else RowW.get d t := by
  cases t <;> cases d <;> cases d' <;> rfl
theorem Tr1.get_set (x : (Option Blk)) (d d' : D) (t : Tr1) : Tr1.get d (Tr1.set d' x t) = if d = d' then x else Tr1.get d t := by
  cases t <;> cases d <;> cases d' <;> rfl
theorem Tr2.get_set (x : Tr1) (d d' : D) (t : Tr2) : Tr2.get d (Tr2.set d' x t) = if d = d' then x else Tr2.get d t := by
  cases t <;> cases d <;> cases d' <;> rfl
theorem Tr3.get_set (x : Tr2) (d d' : D) (t : Tr3) : Tr3.get d (Tr3.set d' x t) = if d = d' then x else Tr3.get d t := by
  cases t <;> cases d <;> cases d' <;> rfl
theorem Tr4.get_set (x : Tr3) (d d' : D) (t : Tr4) : Tr4.get d (Tr4.set d' x t) = if d = d' then x else Tr4.get d t := by
  cases t <;> cases d <;> cases d' <;> rfl
theorem Tr.get_set (x : Tr4) (d d' : D) (t : Tr) : Tr.get d (Tr.set d' x t) = if d = d' then x else Tr.get d t := by
  cases t <;> cases d <;> cases d' <;> rfl

def Id.wf : Id → Prop
  | .mk num a b c d e => num = (((a.num * 16 + b.num) * 16 + c.num) * 16 + d.num) * 16 + e.num
  | .over => False

theorem Id.wf_inj {x y : Id} (hx : x.wf) (hy : y.wf) (h : x.num = y.num) : x = y := by
  cases x with
  | over => exact hx.elim
  | mk n a b c d e =>
    cases y with
    | over => exact hy.elim
    | mk m a' b' c' d' e' =>
      simp only [Id.wf] at hx hy
      change n = m at h
      subst h
      have := a.num_lt; have := b.num_lt; have := c.num_lt; have := d.num_lt; have := e.num_lt
      have := a'.num_lt; have := b'.num_lt; have := c'.num_lt; have := d'.num_lt; have := e'.num_lt
      rw [D.num_inj (a := a) (b := a') (by omega), D.num_inj (a := b) (b := b') (by omega), D.num_inj (a := c) (b := c') (by omega), D.num_inj (a := d) (b := d') (by omega), D.num_inj (a := e) (b := e') (by omega)]

theorem D.next_cases {α : Type} (over : α) (f : D → α) (d : D) : (d = .d15 ∧ D.next over f d = over) ∨ (∃ d', d'.num = d.num + 1 ∧ D.next over f d = f d') := by
  cases d <;> first | (left; exact ⟨rfl, rfl⟩) | (right; exact ⟨_, rfl, rfl⟩)

theorem Id.next_wf {n : Id} (h : n.wf) : n.next = .over ∨ (n.next.wf ∧ n.next.num = n.num + 1) := by
  cases n with
  | over => exact h.elim
  | mk k a b c d e =>
    simp only [Id.wf] at h
    have H : ∀ (r : Id), (Id.mk k a b c d e).next = r → (r = .over ∨ (r.wf ∧ r.num = k + 1)) := by
      intro r hr
      change D.next _ _ e = r at hr
      rcases D.next_cases (D.next (D.next (D.next (D.next Id.over (fun a => .mk (Nat.succ k) a .d0 .d0 .d0 .d0) a) (fun b => .mk (Nat.succ k) a b .d0 .d0 .d0) b) (fun c => .mk (Nat.succ k) a b c .d0 .d0) c) (fun d => .mk (Nat.succ k) a b c d .d0) d) (fun e => .mk (Nat.succ k) a b c d e) e with ⟨he, h1⟩ | ⟨e', he, h1⟩
      · rw [h1] at hr
        rcases D.next_cases (D.next (D.next (D.next Id.over (fun a => .mk (Nat.succ k) a .d0 .d0 .d0 .d0) a) (fun b => .mk (Nat.succ k) a b .d0 .d0 .d0) b) (fun c => .mk (Nat.succ k) a b c .d0 .d0) c) (fun d => .mk (Nat.succ k) a b c d .d0) d with ⟨hd, h2⟩ | ⟨d', hd, h2⟩
        · rw [h2] at hr
          rcases D.next_cases (D.next (D.next Id.over (fun a => .mk (Nat.succ k) a .d0 .d0 .d0 .d0) a) (fun b => .mk (Nat.succ k) a b .d0 .d0 .d0) b) (fun c => .mk (Nat.succ k) a b c .d0 .d0) c with ⟨hc, h3⟩ | ⟨c', hc, h3⟩
          · rw [h3] at hr
            rcases D.next_cases (D.next Id.over (fun a => .mk (Nat.succ k) a .d0 .d0 .d0 .d0) a) (fun b => .mk (Nat.succ k) a b .d0 .d0 .d0) b with ⟨hb, h4⟩ | ⟨b', hb, h4⟩
            · rw [h4] at hr
              rcases D.next_cases Id.over (fun a => .mk (Nat.succ k) a .d0 .d0 .d0 .d0) a with ⟨ha, h5⟩ | ⟨a', ha, h5⟩
              · rw [h5] at hr; exact .inl hr.symm
              · rw [h5] at hr; subst hr hb hc hd he
                exact .inr ⟨by simp only [Id.wf, D.num] at *; omega, rfl⟩
            · rw [h4] at hr; subst hr hc hd he
              exact .inr ⟨by simp only [Id.wf, D.num] at *; omega, rfl⟩
          · rw [h3] at hr; subst hr hd he
            exact .inr ⟨by simp only [Id.wf, D.num] at *; omega, rfl⟩
        · rw [h2] at hr; subst hr he
          exact .inr ⟨by simp only [Id.wf, D.num] at *; omega, rfl⟩
      · rw [h1] at hr; subst hr
        exact .inr ⟨by simp only [Id.wf] at *; omega, rfl⟩
    exact H _ rfl

theorem Tr.at_put (x : Option Blk) (t : Tr) (a b c d e a' b' c' d' e' : D) :
    Tr.at (Tr.put x t a' b' c' d' e') a b c d e = if a = a' ∧ b = b' ∧ c = c' ∧ d = d' ∧ e = e' then x else Tr.at t a b c d e := by
  simp only [Tr.at, Tr.put, Tr.put1, Tr.put2, Tr.put3, Tr.put4, Tr.get_set, Tr4.get_set, Tr3.get_set, Tr2.get_set, Tr1.get_set]
  by_cases ha : a = a'
  · subst ha
    simp only [if_true, Tr4.get_set, Tr3.get_set, Tr2.get_set, Tr1.get_set]
    by_cases hb : b = b'
    · subst hb
      simp only [if_true, Tr3.get_set, Tr2.get_set, Tr1.get_set]
      by_cases hc : c = c'
      · subst hc
        simp only [if_true, Tr2.get_set, Tr1.get_set]
        by_cases hd : d = d'
        · subst hd
          simp only [if_true, Tr1.get_set]
          by_cases he : e = e' <;> simp [he]
        · simp [hd]
      · simp [hc]
    · simp [hb]
  · simp [ha]

/-- before the name of the next block -/
def Before (b n : Id) : Prop := match n with
  | .mk k .. => b.num < k
  | .over => True
def Id.okN (n : Id) : Prop := n = .over ∨ n.wf

theorem Before.next {b n : Id} (hn : n.wf) (h : Before b n) : Before b n.next := by
  rcases Id.next_wf hn with h1 | ⟨h1, h2⟩
  · rw [h1]; trivial
  · cases hx : n.next with
    | over => trivial
    | mk k a b' c d e =>
      rw [hx] at h2
      cases n with
      | over => exact hn.elim
      | mk m _ _ _ _ _ =>
        change b.num < m at h
        change k = m + 1 at h2
        show b.num < k
        omega
theorem Before.self {n : Id} (hn : n.wf) : Before n n.next := by
  rcases Id.next_wf hn with h1 | ⟨h1, h2⟩
  · rw [h1]; trivial
  · cases hx : n.next with
    | over => trivial
    | mk k a b' c d e =>
      rw [hx] at h2
      change k = n.num + 1 at h2
      show n.num < k
      omega
theorem not_before_self {n : Id} (hn : n.wf) : ¬ Before n n := by
  cases n with
  | over => exact hn.elim
  | mk m _ _ _ _ _ => exact Nat.lt_irrefl _
theorem Id.okN_next {n : Id} (hn : n.wf) : n.next.okN := by
  rcases Id.next_wf hn with h1 | ⟨h1, _⟩
  · exact .inl h1
  · exact .inr h1

theorem CH.get_mk (n : Id) (f : Nat) (t : Tr) (k : Nat) (a b c d e : D) : CH.get (.mk n f t) (.mk k a b c d e) = Tr.at t a b c d e := rfl
theorem CH.get_over (H : CH) : H.get .over = none := by cases H; rfl

/-- what a change of a block is -/
theorem CH.set_some {H H' : CH} {i : Id} {x : Blk} (h : H.set i x = some H') (hi : i.wf) :
    H'.n = H.n ∧ H'.fz = H.fz ∧ H.fz ≤ i.num ∧ ∀ j : Id, j.wf → H'.get j = if j = i then some x else H.get j := by
  cases H with
  | mk n f t =>
    cases i with
    | over => exact hi.elim
    | mk k a b c d e =>
      change cond (Nat.ble f k) _ none = some H' at h
      cases hb : Nat.ble f k with
      | false => rw [hb] at h; exact absurd h (by simp [cond])
      | true =>
        rw [hb] at h
        simp only [cond, Option.some.injEq] at h
        subst h
        refine ⟨rfl, rfl, Nat.le_of_ble_eq_true hb, ?_⟩
        intro j hj
        cases j with
        | over => exact hj.elim
        | mk k' a' b' c' d' e' =>
          rw [CH.get_mk, CH.get_mk, Tr.at_put]
          by_cases hh : a' = a ∧ b' = b ∧ c' = c ∧ d' = d ∧ e' = e
          · obtain ⟨rfl, rfl, rfl, rfl, rfl⟩ := hh
            have : (Id.mk k' a' b' c' d' e') = Id.mk k a' b' c' d' e' := Id.wf_inj hj hi (by simp only [Id.wf] at hi hj; show k' = k; omega)
            simp [this]
          · rw [if_neg hh, if_neg]
            intro he
            simp only [Id.mk.injEq] at he
            exact hh he.2

/-- what a new block is -/
theorem alloc_eq {α : Type} {no : α} {H : CH} {x : Blk} {k : Id → CH → α} {r : α} (h : alloc no H x k = r) (hr : r ≠ no) (hn : H.n.okN) :
    ∃ H' : CH, k H.n H' = r ∧ H.n.wf ∧ H'.n = H.n.next ∧ H'.fz = H.fz ∧ ∀ j : Id, j.wf → H'.get j = if j = H.n then some x else H.get j := by
  cases H with
  | mk n f t =>
    cases n with
    | over => exact absurd h.symm hr
    | mk m a b c d e =>
      have hw : (Id.mk m a b c d e).wf := by
        rcases hn with h1 | h1
        · cases h1
        · exact h1
      refine ⟨.mk (Id.next (.mk m a b c d e)) f (Tr.put (some x) t a b c d e), h, hw, rfl, rfl, ?_⟩
      intro j hj
      show _ = if j = Id.mk m a b c d e then _ else _
      cases j with
      | over => exact hj.elim
      | mk k' a' b' c' d' e' =>
        rw [CH.get_mk, CH.get_mk, Tr.at_put]
        by_cases hh : a' = a ∧ b' = b ∧ c' = c ∧ d' = d ∧ e' = e
        · obtain ⟨rfl, rfl, rfl, rfl, rfl⟩ := hh
          have : (Id.mk k' a' b' c' d' e') = Id.mk m a' b' c' d' e' := Id.wf_inj hj hw (by simp only [Id.wf] at hw hj; show k' = m; omega)
          simp [this]
        · rw [if_neg hh, if_neg]
          intro he
          simp only [Id.mk.injEq] at he
          exact hh he.2
end Vam
