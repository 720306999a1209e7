/- The plain machine (VamMem): part of a proof by a machine of plain values that is proved right. -/
import Derived.Test.YtnkmhgojbinhkabVamRel
namespace Vam
set_option linter.unusedVariables false
set_option linter.unusedSimpArgs false
open Go
variable {P : Program}

noncomputable def Phi.with (φ : Phi) (b : Id) (k : Loc) : Phi := fun c => if c = b then some k else φ c
theorem Phi.with_self (φ : Phi) (b : Id) (k : Loc) : φ.with b k b = some k := by simp [Phi.with]
theorem Phi.with_ne {φ : Phi} {b c : Id} (k : Loc) (h : c ≠ b) : φ.with b k c = φ c := by simp [Phi.with, h]
theorem Phi.le_with {φ : Phi} {b : Id} (k : Loc) (h : φ b = none) : φ.le (φ.with b k) := by
  intro c l hc
  by_cases e : c = b
  · subst e; rw [h] at hc; cases hc
  · rw [Phi.with_ne k e]; exact hc

theorem Rel.none_at_n {φ : Phi} {H : CH} {w : World} (h : Rel P φ H w) (hn : H.n.wf) : φ H.n = none := by
  cases hx : φ H.n with
  | none => rfl
  | some k => exact absurd (h.wf _ _ hx).2.1 (not_before_self hn)

theorem World.heap_push (w : World) (o : Obj) (r : Nat) : (w.heap.push o)[r]? = if r = w.heap.size then some o else w.heap[r]? := by
  rw [Array.getElem?_push]

/-- A NEW BLOCK. -/
theorem Rel.alloc {φ : Phi} {H H' : CH} {w : World} (h : Rel P φ H w) (hn : H.n.wf) {x : Blk} {o : Obj} {m : Nat}
    (e1 : H'.n = H.n.next) (e2 : H'.fz = H.fz) (e3 : ∀ j : Id, j.wf → H'.get j = if j = H.n then some x else H.get j)
    (hx : BlkR P (φ.with H.n ⟨w.heap.size, 0, m⟩) x ⟨w.heap.size, 0, m⟩ (some o)) (ho : PlainObj o := by first | exact rfl | trivial) :
    Rel P (φ.with H.n ⟨w.heap.size, 0, m⟩) H' { w with heap := w.heap.push o } ∧
    Ext φ H w (φ.with H.n ⟨w.heap.size, 0, m⟩) H' { w with heap := w.heap.push o } := by
  have hnone := h.none_at_n hn
  have hle := Phi.le_with (⟨w.heap.size, 0, m⟩ : Loc) hnone
  have hget : ∀ b k, φ b = some k → H'.get b = H.get b := by
    intro b k hb
    have hw := h.wf b k hb
    rw [e3 b hw.1, if_neg]
    intro e; rw [e, hnone] at hb; cases hb
  have hold : ∀ r, r < w.heap.size → (w.heap.push o)[r]? = w.heap[r]? := fun r hr => by rw [World.heap_push, if_neg (by omega)]
  have hnew : (w.heap.push o)[w.heap.size]? = some o := by rw [World.heap_push, if_pos rfl]
  constructor
  · refine ⟨?_, ?_, ?_, ?_⟩
    · rw [e1]; exact Id.okN_next hn
    · intro b k hb
      by_cases e : b = H.n
      · subst e
        rw [Phi.with_self] at hb; cases hb
        exact ⟨hn, by rw [e1]; exact Before.self hn, by simp⟩
      · rw [Phi.with_ne _ e] at hb
        obtain ⟨h1, h2, h3⟩ := h.wf b k hb
        exact ⟨h1, by rw [e1]; exact Before.next hn h2, by simp; omega⟩
    · intro b k hb
      by_cases e : b = H.n
      · subst e
        rw [Phi.with_self] at hb; cases hb
        exact ⟨x, by rw [e3 _ hn, if_pos rfl], by rw [hnew]; exact hx⟩
      · rw [Phi.with_ne _ e] at hb
        obtain ⟨y, h1, h2⟩ := h.blk b k hb
        exact ⟨y, (hget b k hb).trans h1, by rw [hold _ (h.wf b k hb).2.2]; exact h2.mono hle⟩
    · intro b c l k y z hb hc hne hr hy hz
      by_cases e : b = H.n
      · subst e
        rw [Phi.with_self] at hb; cases hb
        rw [Phi.with_ne _ (Ne.symm hne)] at hc
        have := (h.wf c k hc).2.2
        change w.heap.size = k.r at hr
        omega
      · rw [Phi.with_ne _ e] at hb
        by_cases e' : c = H.n
        · subst e'
          rw [Phi.with_self] at hc; cases hc
          have := (h.wf b l hb).2.2
          change l.r = w.heap.size at hr
          omega
        · rw [Phi.with_ne _ e'] at hc
          exact h.sep b c l k y z hb hc hne hr ((hget b l hb).symm.trans hy) ((hget c k hc).symm.trans hz)
  · refine ⟨hle, e2, ?_, ?_, ?_, ?_, ?_, ?_, by simp, rfl, rfl, rfl, frozen_push w ho⟩
    · intro b k hb hb0
      by_cases e : b = H.n
      · subst e; exact not_before_self hn
      · rw [Phi.with_ne _ e, hb0] at hb; cases hb
    · intro b hb; rw [e1]; exact Before.next hn hb
    · intro b k hb hb0
      by_cases e : b = H.n
      · subst e; rw [Phi.with_self] at hb; cases hb; exact .inl (Nat.le_refl _)
      · rw [Phi.with_ne _ e, hb0] at hb; cases hb
    · intro r hr _; exact hold r hr
    · rintro b hb hbw hw ⟨h1, y, h2, h3⟩
      have hne : b ≠ H.n := by rintro rfl; exact not_before_self hn hb
      rw [e3 b hbw, if_neg hne] at h2
      exact hw ⟨by rw [← e2]; exact h1, y, h2, h3⟩
    · intro b hb hbw _
      have hne : b ≠ H.n := by rintro rfl; exact not_before_self hn hb
      rw [e3 b hbw, if_neg hne]

/-- WHAT IS READ. -/
theorem lenV_eq (l : V) (n : Nat) : lenV l n = lenL l + n := by
  unfold lenV recList
  induction l generalizing n with
  | cons x l _ ih =>
    have := ih (Nat.succ n)
    simp only [lenL] at *
    rw [show lenL l + 1 + n = lenL l + Nat.succ n by omega, ← this]
  | _ => simp [lenL]

theorem LR.inv_cons {φ : Phi} {x l : V} {vs : List Value} (h : LR φ (.cons x l) vs) : ∃ v vs', vs = v :: vs' ∧ VR φ x v ∧ LR φ l vs' := by
  cases h with
  | cons _ _ v vs' h1 h2 => exact ⟨v, vs', rfl, h1, h2⟩
theorem LR.inv_nil {φ : Phi} {vs : List Value} (h : LR φ .nil vs) : vs = [] := by cases h; rfl

theorem LR.len {φ : Phi} {l : V} {vs : List Value} (h : LR φ l vs) : lenL l = vs.length := by
  induction l generalizing vs with
  | nil => rw [h.inv_nil]; rfl
  | cons x l _ ih =>
    obtain ⟨v, vs', rfl, _, hl⟩ := h.inv_cons
    simp [lenL, ih hl]
  | _ => cases h

theorem nthV_zero (x l : V) : nthV (.cons x l) 0 = some x := rfl
theorem nthV_succ (x l : V) (n : Nat) : nthV (.cons x l) (n + 1) = nthV l n := rfl
theorem nthV_nil (n : Nat) : nthV .nil n = none := rfl
theorem LR.nth {φ : Phi} {l : V} {vs : List Value} (h : LR φ l vs) {n : Nat} {x : V} (hx : nthV l n = some x) : ∃ v, vs[n]? = some v ∧ VR φ x v := by
  induction l generalizing vs n with
  | nil => rw [nthV_nil] at hx; cases hx
  | cons y l _ ih =>
    obtain ⟨v, vs', rfl, h1, hl⟩ := h.inv_cons
    cases n with
    | zero => rw [nthV_zero] at hx; cases hx; exact ⟨v, rfl, h1⟩
    | succ n => obtain ⟨v', h1, h2⟩ := ih hl (n := n) hx; exact ⟨v', by simpa using h1, h2⟩
  | _ => cases h

theorem LR.drop {φ : Phi} {l : V} {vs : List Value} (h : LR φ l vs) (n : Nat) : LR φ (dropV l n) (vs.drop n) := by
  induction l generalizing vs n with
  | nil => rw [h.inv_nil]; simpa [dropV, recList] using (RR.nil : RR φ .nil (.l []))
  | cons y l _ ih =>
    obtain ⟨v, vs', rfl, h1, hl⟩ := h.inv_cons
    cases n with
    | zero => exact .cons y l v vs' h1 hl
    | succ n => exact ih hl n
  | _ => cases h

theorem takeV_zero (l : V) : takeV 0 l = some .nil := rfl
theorem takeV_succ (n : Nat) (l : V) : takeV (n + 1) l = onList none none (fun x l => opt none (fun r => some (.cons x r)) (takeV n l)) l := rfl

theorem LR.take {φ : Phi} : ∀ (n : Nat) {l : V} {vs : List Value} {r : V}, LR φ l vs → takeV n l = some r → n ≤ vs.length ∧ LR φ r (vs.take n) ∧ lenL r = n := by
  intro n
  induction n with
  | zero =>
    intro l vs r _ hr
    rw [takeV_zero] at hr; cases hr
    exact ⟨Nat.zero_le _, by simpa using RR.nil, rfl⟩
  | succ n ih =>
    intro l vs r h hr
    rw [takeV_succ] at hr
    cases h with
    | nil => exact absurd hr (by simp [onList])
    | cons x l v vs' hx hl =>
      change opt none (fun r => some (.cons x r)) (takeV n l) = some r at hr
      cases ht : takeV n l with
      | none => rw [ht] at hr; exact absurd hr (by simp [opt])
      | some r' =>
        rw [ht] at hr
        have : V.cons x r' = r := by simpa [opt] using hr
        subst this
        obtain ⟨h1, h2, h3⟩ := ih hl ht
        exact ⟨by simp; omega, by simpa using RR.cons x r' v _ hx h2, by simp [lenL, h3]⟩

theorem onCells_some {α : Type} {f : V → TypeId → Nat → List Id → Option α} {b : Option Blk} {r : α} (h : onCells none f b = some r) :
    (∃ cs e st sh, b = some (.cells cs e st sh) ∧ st ≠ 2 ∧ f cs e st sh = some r) ∨ (∃ cs, b = some (.arg cs) ∧ f cs 0 1 [] = some r) := by
  cases b with
  | none => exact absurd h (by simp [onCells])
  | some x =>
    cases x with
    | cells cs e st sh =>
      left
      change cond (Nat.beq st 2) none (f cs e st sh) = some r at h
      cases hb : Nat.beq st 2 with
      | true => rw [hb] at h; exact absurd h (by simp [cond])
      | false =>
        rw [hb] at h
        exact ⟨cs, e, st, sh, rfl, by rintro rfl; exact absurd hb (by decide), h⟩
    | arg cs => exact .inr ⟨cs, rfl, h⟩
    | map _ _ => exact absurd h (by simp [onCells])
    | loop _ _ _ _ _ _ _ _ => exact absurd h (by simp [onCells])
    | dfr _ => exact absurd h (by simp [onCells])

/-- the cells that a plain block that can be read has in the real heap -/
theorem Rel.cells {φ : Phi} {H : CH} {w : World} (h : Rel P φ H w) {b : Id} {k : Loc} (hb : φ b = some k) {α : Type}
    {f : V → TypeId → Nat → List Id → Option α} {r : α} (hr : onCells none f (H.get b) = some r) :
    ∃ cs e st sh arr el fr, f cs e st sh = some r ∧ w.heap[k.r]? = some (.cells arr el fr) ∧ CellsAt φ cs k arr := by
  obtain ⟨x, hx, hbl⟩ := h.blk b k hb
  rcases onCells_some hr with ⟨cs, e, st, sh, h1, h2, h3⟩ | ⟨cs, h1, h3⟩
  · rw [hx] at h1; cases h1
    rcases hbl with hbl | ⟨⟨arr, el, h4, h5⟩, _⟩
    · exact absurd hbl h2
    · exact ⟨cs, e, st, sh, arr, el, _, h3, h4, h5⟩
  · rw [hx] at h1; cases h1
    obtain ⟨arr, el, fr, h4, h5⟩ := hbl
    exact ⟨cs, 0, 1, [], arr, el, fr, h3, h4, h5⟩

theorem cell?_eq {w : World} {r off : Nat} {arr : Array Value} {el : TypeId} {fr : Nat × Nat} (h : w.heap[r]? = some (.cells arr el fr)) :
    w.cell? ⟨r, off, none⟩ = arr[off]? := by
  simp [World.cell?, h]

/-- LOADING CELLS ONE BY ONE. -/
theorem run_loadCellsFrom {w : World} (a : Addr) : ∀ (n i : Nat) (acc : Array Value) (vs : List Value), vs.length = n →
    (∀ j v, vs[j]? = some v → w.cell? (a.add (i + j)) = some v) → (loadCellsFrom a i n acc).run P w = .ok (acc ++ vs.toArray) w := by
  intro n
  induction n with
  | zero =>
    intro i acc vs hl _
    have : vs = [] := List.length_eq_zero_iff.1 hl
    subst this
    simp [loadCellsFrom, Sem.run, pure]
  | succ n ih =>
    intro i acc vs hl hc
    cases vs with
    | nil => simp at hl
    | cons v vs =>
      have h0 : w.cell? (a.add i) = some v := by simpa using hc 0 v rfl
      have := ih (i + 1) (acc.push v) vs (by simpa using hl) (fun j u hj => by
        have := hc (j + 1) u (by simpa using hj)
        rwa [show i + (j + 1) = i + 1 + j by omega] at this)
      show Sem.run P (Sem.bind (load (a.add i)) fun v => loadCellsFrom a (i + 1) n (acc.push v)) w = _
      simp only [load, Sem.bind, Sem.run, h0]
      rw [this]
      simp
end Vam
