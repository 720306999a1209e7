/- The plain machine (VamDraw3): part of a proof by a machine of plain values that is proved right. -/
import Derived.Test.YtnkmhgojbinhkabVamDraw2
namespace Vam
set_option linter.unusedVariables false
set_option linter.unusedSimpArgs false
open Go
variable {P : Program} {φ : Phi} {H H' K : CH} {w : World} {v : V} {E : Ev}

/-! ## A block at a name that was laid aside -/

theorem Rel.put (h : Rel P φ H w) {i : Id} (hn : i.wf) (hb : Before i H.n) (hnone : φ i = none) {x : Blk} {o : Obj} {m : Nat}
    (e1 : H'.n = H.n) (e3 : ∀ j : Id, j.wf → H'.get j = if j = i then some x else H.get j)
    (hx : BlkR P (φ.with i ⟨w.heap.size, 0, m⟩) x ⟨w.heap.size, 0, m⟩ (some o)) : Rel P (φ.with i ⟨w.heap.size, 0, m⟩) H' { w with heap := w.heap.push o } := by
  have hle := Phi.le_with (⟨w.heap.size, 0, m⟩ : Loc) hnone
  have hget : ∀ b k, φ b = some k → H'.get b = H.get b := by
    intro b k hb
    have hw := h.wf b k hb
    rw [e3 b hw.1, if_neg]
    intro e; rw [e, hnone] at hb; cases hb
  have hold : ∀ r, r < w.heap.size → (w.heap.push o)[r]? = w.heap[r]? := fun r hr => by rw [World.heap_push, if_neg (by omega)]
  have hnew : (w.heap.push o)[w.heap.size]? = some o := by rw [World.heap_push, if_pos rfl]
  refine ⟨?_, ?_, ?_, ?_⟩
  · rw [e1]; exact h.nok
  · intro b k hb'
    by_cases e : b = i
    · subst e
      rw [Phi.with_self] at hb'; cases hb'
      exact ⟨hn, by rw [e1]; exact hb, by simp⟩
    · rw [Phi.with_ne _ e] at hb'
      obtain ⟨h1, h2, h3⟩ := h.wf b k hb'
      exact ⟨h1, by rw [e1]; exact h2, by simp; omega⟩
  · intro b k hb'
    by_cases e : b = i
    · subst e
      rw [Phi.with_self] at hb'; cases hb'
      exact ⟨x, by rw [e3 _ hn, if_pos rfl], by rw [hnew]; exact hx⟩
    · rw [Phi.with_ne _ e] at hb'
      obtain ⟨y, h1, h2⟩ := h.blk b k hb'
      exact ⟨y, (hget b k hb').trans h1, by rw [hold _ (h.wf b k hb').2.2]; exact h2.mono hle⟩
  · intro b c l k y z hb' hc hne hr hy hz
    by_cases e : b = i
    · subst e
      rw [Phi.with_self] at hb'; cases hb'
      rw [Phi.with_ne _ (Ne.symm hne)] at hc
      have := (h.wf c k hc).2.2
      change w.heap.size = k.r at hr
      omega
    · rw [Phi.with_ne _ e] at hb'
      by_cases e' : c = i
      · subst e'
        rw [Phi.with_self] at hc; cases hc
        have := (h.wf b l hb').2.2
        change l.r = w.heap.size at hr
        omega
      · rw [Phi.with_ne _ e'] at hc
        exact h.sep b c l k y z hb' hc hne hr ((hget b l hb').symm.trans hy) ((hget c k hc).symm.trans hz)

theorem Ext.put {φ₀ : Phi} {H₀ : CH} {w₀ : World} (h : Ext φ₀ H₀ w₀ φ H w) {i : Id} (hnb : ¬ Before i H₀.n) (hnone : φ i = none) {x : Blk} {o : Obj} {m : Nat}
    (e1 : H'.n = H.n) (e2 : H'.fz = H.fz) (e3 : ∀ j : Id, j.wf → H'.get j = if j = i then some x else H.get j) (ho : PlainObj o := by first | exact rfl | trivial) :
    Ext φ₀ H₀ w₀ (φ.with i ⟨w.heap.size, 0, m⟩) H' { w with heap := w.heap.push o } := by
  refine ⟨Phi.le_trans h.le (Phi.le_with _ hnone), e2.trans h.fz, ?_, ?_, ?_, ?_, ?_, ?_, ?_, h.os, h.tape, h.output, ?_⟩
  · intro b k hb hb0
    by_cases e : b = i
    · subst e; exact hnb
    · rw [Phi.with_ne _ e] at hb; exact h.newId b k hb hb0
  · intro b hb; rw [e1]; exact h.before b hb
  · intro b k hb hb0
    by_cases e : b = i
    · subst e; rw [Phi.with_self] at hb; cases hb; exact .inl h.size
    · rw [Phi.with_ne _ e] at hb; exact h.newLoc b k hb hb0
  · intro r hr hall
    rw [← h.frame r hr hall]
    have := h.size
    show (w.heap.push o)[r]? = _
    rw [World.heap_push, if_neg (by omega)]
  · rintro b hb hbw hw ⟨h1, y, h2, h3⟩
    have hne : b ≠ i := by rintro rfl; exact hnb hb
    rw [e3 b hbw, if_neg hne] at h2
    exact h.ro b hb hbw hw ⟨by rw [← e2]; exact h1, y, h2, h3⟩
  · intro b hb hbw hf
    have hne : b ≠ i := by rintro rfl; exact hnb hb
    rw [e3 b hbw, if_neg hne]; exact h.keep b hb hbw hf
  · have := h.size; simp; omega
  · intro a; exact (frozen_push w ho a).trans (h.fro a)

/-! ## Operations in a frozen heap -/

theorem freeze_n (H : CH) : H.freeze.n = H.n := by cases H; rfl
theorem freeze_get (H : CH) (b : Id) : H.freeze.get b = H.get b := by cases H; rfl
theorem freeze_fz (H : CH) : H.freeze.fz = H.n.top := by cases H; rfl
theorem thaw_n (f : Nat) (H : CH) : (H.thaw f).n = H.n := by cases H; rfl
theorem thaw_get (f : Nat) (H : CH) (b : Id) : (H.thaw f).get b = H.get b := by cases H; rfl
theorem thaw_fz (f : Nat) (H : CH) : (H.thaw f).fz = f := by cases H; rfl

/-- only the names and the blocks matter -/
theorem Rel.like (h : Rel P φ H w) (hn : K.n = H.n) (hg : ∀ b k, φ b = some k → K.get b = H.get b) : Rel P φ K w := by
  refine ⟨by rw [hn]; exact h.nok, fun b k hb => by rw [hn]; exact h.wf b k hb, fun b k hb => by rw [hg b k hb]; exact h.blk b k hb, ?_⟩
  intro b c l k x y hb hc hne hr hx hy
  rw [hg b l hb] at hx; rw [hg c k hc] at hy
  exact h.sep b c l k x y hb hc hne hr hx hy

theorem freeze_rel (h : Rel P φ H w) : Rel P φ H.freeze w := h.like (freeze_n H) (fun b _ _ => freeze_get H b)
theorem thaw_rel (h : Rel P φ H w) (f : Nat) : Rel P φ (H.thaw f) w := h.like (thaw_n f H) (fun b _ _ => thaw_get f H b)

theorem Id.num_lt_top {b n : Id} (hb : b.wf) (h : Before b n) : b.num < n.top := by
  cases n with
  | mk k _ _ _ _ _ => exact h
  | over =>
    cases b with
    | over => exact hb.elim
    | mk m a b c d e =>
      have := a.num_lt; have := b.num_lt; have := c.num_lt; have := d.num_lt; have := e.num_lt
      simp only [Id.wf] at hb
      show m < 1048576
      omega

theorem quiet_ext (h : Rel P φ H w) {φ' : Phi} {w' : World} {H₁ : CH} (k : Ext φ H.freeze w φ' H₁ w') : Ext φ H w φ' (H₁.thaw H.fz) w' ∧ ∀ b, b.wf → Before b H.n → H₁.get b = H.get b := by
  have hk : ∀ b, b.wf → Before b H.n → H₁.get b = H.get b := by
    intro b hb hbn
    have := k.keep b (by rw [freeze_n]; exact hbn) hb (by rw [freeze_fz]; exact Id.num_lt_top hb hbn)
    rw [this, freeze_get]
  have hno : ∀ b, b.wf → Before b H.n → ¬ WrAt H.freeze b := by
    rintro b hb hbn ⟨h1, _⟩
    rw [freeze_fz] at h1
    have := Id.num_lt_top hb hbn
    omega
  refine ⟨⟨k.le, thaw_fz _ _, ?_, ?_, ?_, ?_, ?_, ?_, k.size, k.os, k.tape, k.output, k.fro⟩, hk⟩
  · intro b l hb hb0; have := k.newId b l hb hb0; rw [freeze_n] at this; exact this
  · intro b hb; rw [thaw_n]; exact k.before b (by rw [freeze_n]; exact hb)
  · intro b l hb hb0
    rcases k.newLoc b l hb hb0 with h1 | ⟨c, m, hc, _, hw⟩
    · exact .inl h1
    · exact absurd hw (hno c (h.wf c m hc).1 (h.wf c m hc).2.1)
  · intro r hr _
    exact k.frame r hr (fun b l hb _ => hno b (h.wf b l hb).1 (h.wf b l hb).2.1)
  · rintro b hb hbw hw ⟨h1, x, h2, h3⟩
    rw [thaw_fz] at h1; rw [thaw_get, hk b hbw hb] at h2
    exact hw ⟨h1, x, h2, h3⟩
  · intro b hb hbw _; rw [thaw_get]; exact hk b hbw hb

theorem quiet_ok {tm : TT} {o : Op} (h : quietOp P E tm H o = .ok v H') : ∃ H₁, evOp P E tm H.freeze o = .ok v H₁ ∧ H' = H₁.thaw H.fz := by
  unfold quietOp at h
  cases q : evOp P E tm H.freeze o with
  | no => rw [q] at h; cases h
  | ok x H₁ => rw [q] at h; cases h; exact ⟨H₁, rfl, rfl⟩

/-! ## Slices that are laid at a name -/

theorem named_n (i : Id) (H : CH) : (H.named i).n = i := by cases H; rfl
theorem named_get (i : Id) (H : CH) (b : Id) : (H.named i).get b = H.get b := by cases H; rfl
theorem named_fz (i : Id) (H : CH) : (H.named i).fz = H.fz := by cases H; rfl

theorem lay_ok {tm : TT} {o : Op} {i : Id} (h : layOp P E i tm H o = .ok v H') : ∃ J, evOp P E tm (H.named i) o = .ok v J ∧ H' = J.named H.n := by
  unfold layOp at h
  cases q : evOp P E tm (H.named i) o with
  | no => rw [q] at h; cases h
  | ok x J => rw [q] at h; cases h; exact ⟨J, rfl, rfl⟩

/-- what a literal's slice is, wherever it is laid: its cells, and the real run -/
theorem buildSlice_parts {t : TypeId} {n : Nat} {ps : List (Nat × V)} {J : CH} (hn : H.n.wf) (hr : oBuildSlice P t n ps H = .ok v J) :
    ∃ l e, v = .slice H.n 0 n (capX n) (P.cellsOf e) ∧ J.n = H.n.next ∧ J.fz = H.fz ∧ (∀ j : Id, j.wf → J.get j = if j = H.n then some (.cells l e 0 []) else H.get j) ∧
      (∀ K : CH, oBuildSlice P t n ps K = alloc .no K (.cells l e 0 []) (fun m H => .ok (.slice m 0 n (capX n) (P.cellsOf e)) H)) ∧
      ∀ (φ : Phi) (w : World) (qs : List (Nat × Value)), PartsR φ ps qs → ∃ cs : Array Value, (Instr.buildSlice t n qs.toArray).run P w = .ok (.slice (some ⟨w.heap.size, 0, none⟩) n n) { w with heap := w.heap.push (.cells cs e) } ∧ LR φ l cs.toList := by
  have hr0 := hr
  unfold oBuildSlice at hr
  split at hr
  · rename_i e ht
    split at hr
    · cases hr
    · rename_i z hz
      split at hr
      · rename_i hb1 hb2
        split at hr
        · rename_i l hl
          obtain ⟨H₁, e1, e2, e3, e4, e5⟩ := alloc_eq hr R.ok_ne (.inr hn)
          cases e1
          refine ⟨l, e, rfl, e3, e4, e5, ?_, ?_⟩
          · intro K
            unfold oBuildSlice
            simp only [ht, hz, hb1, hb2, hl]
          · intro φ w qs hp
            obtain ⟨g1, g2⟩ := tyOf_slice ht
            have hs := sizeOf_run (sized_iff g2).1 w
            obtain ⟨zv, h4, h5⟩ := run_zero hz w
            have hlen : zv.cells.size = P.cellsOf e := by
              have := beq_eq hb1
              rw [lenV_eq, LR.len (h5 φ)] at this; simpa using this
            have hle : n * P.cellsOf e ≤ 4096 := Nat.le_of_ble_eq_true hb2
            by_cases h0 : n * P.cellsOf e = 0
            · have hz0 : LR φ (repL z n) (#[] : Array Value).toList := by
                have h6 := LR.rep (h5 φ) n
                have : (List.replicate n zv.cells.toList).flatten = [] := by
                  apply List.length_eq_zero_iff.1; simp [hlen, h0]
                rw [this] at h6; exact h6
              obtain ⟨cs, k1, k2⟩ := fill_rel _ hp hz0 hl
              refine ⟨cs, ?_, k2⟩
              simp only [Instr.buildSlice, Sem.run_bind, run_underlying g1, Result.andThen_ok, hs, h0]
              simp [k1, newRow, show Array.range 0 = (#[] : Array Nat) from rfl]
            · have hpos : 0 < zv.cells.size := by rw [hlen]; exact Nat.pos_of_ne_zero fun e => h0 (by rw [e]; simp)
              have hz0 : LR φ (repL z n) ((Array.range (n * P.cellsOf e)).map (zv.cells[· % zv.cells.size]!)).toList := by
                have h6 := LR.rep (h5 φ) n
                rw [← range_cells _ _ (.inl hpos), hlen] at h6; rw [hlen]; exact h6
              obtain ⟨cs, k1, k2⟩ := fill_rel _ hp hz0 hl
              refine ⟨cs, ?_, k2⟩
              have hle2 : ¬ (n * P.cellsOf e > 2 ^ 24) := by omega
              simp only [Instr.buildSlice, Sem.run_bind, run_underlying g1, Result.andThen_ok, hs]
              rw [if_neg hle2]
              simp [h0, h4, k1, newRow]
        · cases hr
      · cases hr
  · cases hr
end Vam
