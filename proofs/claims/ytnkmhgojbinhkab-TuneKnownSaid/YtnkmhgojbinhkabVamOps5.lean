/- The plain machine (VamOps5): part of a proof by a machine of plain values that is proved right. -/
import Derived.Test.YtnkmhgojbinhkabVamOps4
namespace Vam
set_option linter.unusedVariables false
set_option linter.unusedSimpArgs false
open Go
variable {P : Program} {φ : Phi} {H H' : CH} {w : World} {v : V}

theorem appV_cons (x l m : V) : appV (.cons x l) m = .cons x (appV l m) := rfl
theorem appV_nil (m : V) : appV .nil m = m := rfl
theorem LR.app {l m : V} {xs ys : List Value} (hl : LR φ l xs) (hm : LR φ m ys) : LR φ (appV l m) (xs ++ ys) := by
  induction l generalizing xs with
  | nil => rw [LR.inv_nil hl, appV_nil]; exact hm
  | cons x l _ ih =>
    obtain ⟨v, xs', rfl, h1, h2⟩ := LR.inv_cons hl
    rw [appV_cons]; exact .cons _ _ _ _ h1 (ih h2)
  | _ => cases hl

theorem repL_zero (z : V) : repL z 0 = .nil := rfl
theorem repL_succ (z : V) (n : Nat) : repL z (n + 1) = appV z (repL z n) := rfl
theorem LR.rep {z : V} {zs : List Value} (h : LR φ z zs) : ∀ n, LR φ (repL z n) (List.replicate n zs).flatten := by
  intro n
  induction n with
  | zero => exact .nil
  | succ n ih => rw [repL_succ, List.replicate_succ, List.flatten_cons]; exact LR.app h ih

theorem flatten_get (zs : List Value) (s : Nat) (hs : zs.length = s) : ∀ (n i : Nat), i < n * s → (List.replicate n zs).flatten[i]? = zs[i % s]? := by
  intro n
  induction n with
  | zero => intro i h; omega
  | succ n ih =>
    intro i h
    rw [List.replicate_succ, List.flatten_cons]
    by_cases h1 : i < s
    · rw [List.getElem?_append_left (by omega), Nat.mod_eq_of_lt h1]
    · rw [List.getElem?_append_right (by omega), hs]
      have h2 : (n + 1) * s = n * s + s := by rw [Nat.add_mul, Nat.one_mul]
      rw [ih (i - s) (by omega), ← Nat.mod_eq_sub_mod (by omega)]

/-- the cells of so many zero values, as the model makes them -/
theorem range_cells (zs : Array Value) (n : Nat) (h : 0 < zs.size ∨ n = 0) :
    ((Array.range (n * zs.size)).map (zs[· % zs.size]!)).toList = (List.replicate n zs.toList).flatten := by
  apply List.ext_getElem?
  intro i
  have hl : (List.replicate n zs.toList).flatten.length = n * zs.size := by simp
  by_cases hi : i < n * zs.size
  · rw [flatten_get zs.toList zs.size (by simp) n i hi]
    have hpos : 0 < zs.size := by rcases h with h | h; exact h; subst h; omega
    have hm : i % zs.size < zs.size := Nat.mod_lt _ hpos
    simp [hi, hm]
  · rw [List.getElem?_eq_none (by simp; omega), List.getElem?_eq_none (by omega)]

theorem sim_buildSlice (h : Rel P φ H w) {t : TypeId} {n : Nat} {ps : List (Nat × V)} {qs : List (Nat × Value)} (hp : PartsR φ ps qs) (hr : oBuildSlice P t n ps H = .ok v H') :
    Sim P φ H w (do pure (.value (← Instr.buildSlice t n qs.toArray))) v H' := by
  unfold oBuildSlice at hr
  split at hr
  · rename_i e ht
    split at hr
    · cases hr
    · rename_i z hz
      split at hr
      · rename_i hb1 hb2
        split at hr
        · rename_i l hl
          obtain ⟨g1, g2⟩ := tyOf_slice ht
          have hs := sizeOf_run (sized_iff g2).1 w
          obtain ⟨zv, h4, h5⟩ := run_zero hz w
          have hlen : zv.cells.size = P.cellsOf e := by
            have := beq_eq hb1
            rw [lenV_eq, LR.len (h5 φ)] at this; simpa using this
          have hle : n * P.cellsOf e ≤ 4096 := Nat.le_of_ble_eq_true hb2
          obtain ⟨H₁, e1, e2, e3, e4, e5⟩ := alloc_eq hr R.ok_ne h.nok
          cases e1
          -- the cells
          obtain ⟨cs, c1, c2⟩ : ∃ cs : Array Value, (Instr.buildSlice t n qs.toArray).run P w = .ok (.slice (some ⟨w.heap.size, 0, none⟩) n n) { w with heap := w.heap.push (.cells cs e) } ∧ LR φ l cs.toList := by
            by_cases h0 : n * P.cellsOf e = 0
            · have hz0 : LR φ (repL z n) (#[] : Array Value).toList := by
                have h6 := LR.rep (h5 φ) n
                have : (List.replicate n zv.cells.toList).flatten = [] := by
                  apply List.length_eq_zero_iff.1; simp [hlen, h0]
                rw [this] at h6; exact h6
              obtain ⟨cs, k1, k2⟩ := fill_rel _ hp hz0 hl
              refine ⟨cs, ?_, k2⟩
              simp only [Instr.buildSlice, Sem.run_bind, run_underlying g1, Result.andThen_ok, hs, h0]
              simp [k1, newRow, show Array.range 0 = (#[] : Array Nat) from rfl]
            · have hpos : 0 < zv.cells.size := by rw [hlen]; exact Nat.pos_of_ne_zero fun e => h0 (by rw [e]; simp)
              have hz0 : LR φ (repL z n) ((Array.range (n * P.cellsOf e)).map (zv.cells[· % zv.cells.size]!)).toList := by
                have h6 := LR.rep (h5 φ) n
                rw [← range_cells _ _ (.inl hpos), hlen] at h6; rw [hlen]; exact h6
              obtain ⟨cs, k1, k2⟩ := fill_rel _ hp hz0 hl
              refine ⟨cs, ?_, k2⟩
              have hle2 : ¬ (n * P.cellsOf e > 2 ^ 24) := by omega
              simp only [Instr.buildSlice, Sem.run_bind, run_underlying g1, Result.andThen_ok, hs]
              rw [if_neg hle2]
              simp [h0, h4, k1, newRow]
          have hnone := h.none_at_n e2
          have hle' := Phi.le_with (⟨w.heap.size, 0, cs.size⟩ : Loc) hnone
          obtain ⟨r1, r2⟩ := h.alloc (m := cs.size) (o := .cells cs e) e2 e3 e4 e5 (by
            refine .inr ⟨⟨cs, e, rfl, by simp, ?_, cs.toList, c2.mono hle', fun i v hv => by simpa using hv⟩, by simp⟩
            rw [LR.len c2]; simp)
          exact ⟨_, _, .slice (some ⟨w.heap.size, 0, none⟩) n n, .inl (by simp [c1]), r1, r2, .slice _ 0 n _ _ n _ (Phi.with_self _ _ _) ⟨by rw [capN_X]; omega, fun _ => by rw [capN_X], fun e => by rw [capE_X] at e; cases e⟩⟩
        · cases hr
      · cases hr
  · cases hr

theorem sim_makeMap (h : Rel P φ H w) {t : TypeId} {r : Option V} {rv : Option Value} (hp : OptR φ r rv) (ht : ∃ k e, P.underlying t = some (.map k e)) (hr : oMakeMap r H = .ok v H') :
    Sim P φ H w (do pure (.value (← Instr.makeMap t rv))) v H' := by
  obtain ⟨h1, h2⟩ := cond_ok hr R.ok_ne
  obtain ⟨H₁, e1, e2, e3, e4, e5⟩ := alloc_eq h2 R.ok_ne h.nok
  cases e1
  obtain ⟨r1, r2⟩ := h.alloc (m := 0) (o := .map #[] 0) e2 e3 e4 e5 ⟨#[], 0, rfl, .nil⟩
  obtain ⟨k, e, g1⟩ := ht
  refine ⟨_, _, _, .inl ?_, r1, r2, .map _ _ (Phi.with_self _ _ _)⟩
  cases hp with
  | none => simp [Instr.makeMap]
  | some x xv hx =>
    obtain ⟨kk, n, rfl, _⟩ := onInt_ok (no := false) (show onInt false (fun _ _ => true) x = true from h1) (by simp)
    cases hx
    simp [Instr.makeMap, run_underlying g1, asInt, asIntOf]

theorem sim_makeSlice (h : Rel P φ H w) {t : TypeId} {x y : V} {xv yv : Value} (hx : VR φ x xv) (hy : VR φ y yv) (hr : oMakeSlice P t x y H = .ok v H') :
    Sim P φ H w (do pure (.value (← Instr.makeSlice t xv yv))) v H' := by
  unfold oMakeSlice at hr
  split at hr
  · rename_i e ht
    obtain ⟨k1, l, rfl, h1⟩ := natOf_ok hr R.ok_ne
    obtain ⟨k2, c, rfl, h2⟩ := natOf_ok h1 R.ok_ne
    split at h2
    · rename_i hb1 hb2 hz
      rename_i z
      split at h2
      · rename_i hb3
        obtain ⟨g1, g2⟩ := tyOf_slice ht
        obtain ⟨i, hi⟩ := (sized_iff g2).1
        have hs := sizeOf_run (sized_iff g2).1 w
        obtain ⟨zv, h4, h5⟩ := run_zero hz w
        have hlen : zv.cells.size = P.cellsOf e := by
          have := beq_eq hb3
          rw [lenV_eq, LR.len (h5 φ)] at this; simpa using this
        have hle : l ≤ c := Nat.le_of_ble_eq_true hb1
        have hmax : c * (P.bytesOf e + P.cellsOf e + 1) ≤ 16777216 := Nat.le_of_ble_eq_true hb2
        have hc : c ≤ 16777216 := Nat.le_trans (Nat.le_mul_of_pos_right c (by omega)) hmax
        have hcb : c * P.bytesOf e ≤ 16777216 := Nat.le_trans (Nat.mul_le_mul_left c (by omega)) hmax
        have hby : i.bytes = P.bytesOf e := by simp [Program.bytesOf, hi]
        cases hx; cases hy
        have w1 : IntKind.i64.wrap (l : Int) = l := IntWalk.i64_in _ (by omega)
        have w2 : IntKind.i64.wrap (c : Int) = c := IntWalk.i64_in _ (by omega)
        obtain ⟨H₁, e1, e2, e3, e4, e5⟩ := alloc_eq h2 R.ok_ne h.nok
        cases e1
        obtain ⟨cs, c1, c2⟩ : ∃ cs : Array Value, (Instr.makeSlice t (.int k1 l) (.int k2 c)).run P w = .ok (.slice (some ⟨w.heap.size, 0, none⟩) l c) { w with heap := w.heap.push (.cells cs e) } ∧ LR φ (repL z c) cs.toList := by
          have n1 : ¬ ((c : Int) < 0) := by omega
          have n2 : ¬ (281474976710656 < (i.bytes : Int) * (c : Int)) := by
            rw [hby, Int.mul_comm]
            have h9 : ((c * P.bytesOf e : Nat) : Int) ≤ ((16777216 : Nat) : Int) := Int.ofNat_le.2 hcb
            rw [Int.natCast_mul] at h9
            intro h10
            have h11 := Int.lt_of_lt_of_le h10 h9
            exact absurd h11 (by decide)
          have n3 : ¬ ((l : Int) < 0) := by omega
          have n4 : ¬ ((l : Int) > (c : Int)) := by omega
          by_cases h0 : c * P.cellsOf e = 0
          · refine ⟨#[], ?_, ?_⟩
            · simp [Instr.makeSlice, run_underlying g1, asInt, asIntOf, run_typeInfo w hi, w1, w2, n1, n2, n3, n4, hs, h0, newRow, show Array.range 0 = (#[] : Array Nat) from rfl]
            · have h6 := LR.rep (h5 φ) c
              have : (List.replicate c zv.cells.toList).flatten = [] := by
                apply List.length_eq_zero_iff.1; simp [hlen, h0]
              rw [this] at h6; exact h6
          · have hpos : 0 < zv.cells.size := by rw [hlen]; exact Nat.pos_of_ne_zero fun e => h0 (by rw [e]; simp)
            refine ⟨(Array.range (c * P.cellsOf e)).map (zv.cells[· % zv.cells.size]!), ?_, ?_⟩
            · simp [Instr.makeSlice, run_underlying g1, asInt, asIntOf, run_typeInfo w hi, w1, w2, n1, n2, n3, n4, hs, h0, h4, newRow]
            · have h6 := LR.rep (h5 φ) c
              rw [← range_cells _ _ (.inl hpos), hlen] at h6; rw [hlen]; exact h6
        have hnone := h.none_at_n e2
        have hle' := Phi.le_with (⟨w.heap.size, 0, cs.size⟩ : Loc) hnone
        obtain ⟨r1, r2⟩ := h.alloc (m := cs.size) (o := .cells cs e) e2 e3 e4 e5 (by
          refine .inr ⟨⟨cs, e, rfl, by simp, ?_, cs.toList, c2.mono hle', fun i v hv => by simpa using hv⟩, by simp⟩
          rw [LR.len c2]; simp)
        exact ⟨_, _, .slice (some ⟨w.heap.size, 0, none⟩) l c, .inl (by simp [c1]), r1, r2, .slice _ 0 l _ _ c _ (Phi.with_self _ _ _) ⟨by rw [capN_X]; exact hle, fun _ => by rw [capN_X], fun e => by rw [capE_X] at e; cases e⟩⟩
      · cases h2
    · cases h2
  · cases hr
end Vam
