import Derived.Test.YthhbfbmfhldbaaaDoorVamI
import Derived.OpenShut
import Derived.ChangeSame
namespace Vam
set_option linter.unusedVariables false
set_option linter.unusedSimpArgs false
open Go
def cellsS (ps : List (Int × Int)) : List V := ps.flatMap fun p => [.int .i64 p.1, .int .i64 p.2]
def vals (ps : List (Int × Int)) : List Value := ps.flatMap fun p => [.int .i64 p.1, .int .i64 p.2]
def datS (ps : List (Int × Int)) : DataW Unit := .agg (ps.map fun p => .agg [.lit (.int .i64 p.1), .lit (.int .i64 p.2)])
theorem vals_rel (φ : Phi) (ps : List (Int × Int)) : LR φ (ofList (cellsS ps)) (vals ps) := by
  induction ps with
  | nil => exact .nil
  | cons p ps ih => exact .cons _ _ _ _ (.int _ _) (.cons _ _ _ _ (.int _ _) ih)
theorem vals_get : ∀ (ps : List (Int × Int)) (j : Nat) (p : Int × Int), ps[j]? = some p → (vals ps)[2 * j]? = some (.int .i64 p.1) ∧ (vals ps)[2 * j + 1]? = some (.int .i64 p.2) := by
  intro ps
  induction ps with
  | nil => intro j p h; simp at h
  | cons q ps ih =>
    intro j p h
    cases j with
    | zero => simp at h; subst h; exact ⟨rfl, rfl⟩
    | succ j =>
      have h : ps[j]? = some p := by simpa using h
      obtain ⟨h1, h2⟩ := ih j p h
      refine ⟨?_, ?_⟩
      · rw [show 2 * (j + 1) = 2 * j + 1 + 1 by omega]; exact h1
      · rw [show 2 * (j + 1) + 1 = 2 * j + 1 + 1 + 1 by omega]; exact h2
theorem vals_len (ps : List (Int × Int)) : (vals ps).length = 2 * ps.length := by
  induction ps with
  | nil => rfl
  | cons p ps ih => show (vals ps).length + 1 + 1 = _; rw [ih]; simp; omega
theorem trod_lit {H : Type} {enc : TypeId × Value → H} {P : Program} {w : World} {base : Nat} {spare : Nat → Bool} {held : Bool} {m : Nat} {ti : TypeId} {cs : List Value} {n : Int} {y : DataW H × List MemPlace}
    (h3 : P.underlying ti = some (.int .i64)) (h : DataW.trod enc P w base spare held m ti cs = some y) (hy : y.1 = .lit (.int .i64 n)) : cs = [.int .i64 n] := by
  obtain ⟨k, e1, e2, _⟩ := DataW.trod_int h3 (x := y) h
  rw [e2] at hy
  have hk : k = n := by simpa using hy
  rw [e1, hk]
theorem ginv_spans {P : Program} {w : World} {name : String} {g n : Nat} {t e ti : TypeId} {f0 f1 : Field} {ps : List (Int × Int)}
    (hgt : ∀ g' cs, gtab g' = some cs → g' = g ∧ cs = ofList (cellsS ps)) (hg : P.globalNamed name = some g) (ht : (P.globals[g]?).map (·.type) = some t) (h1 : P.underlying t = some (.array n e)) (h2 : P.underlying e = some (.struct #[f0, f1]))
    (k0 : f0.type = ti) (k1 : f1.type = ti) (o0 : f0.offset = 0) (o1 : f1.offset = 1) (h3 : P.underlying ti = some (.int .i64)) (c1 : P.cellsOf e = 2) (c2 : P.cellsOf ti = 1) (c3 : P.cellsOf t = 2 * n) (hn : ps.length = n)
    (hl : laidMet P [(name, datS ps)] w) : GInv (fun _ => none) H0 w := by
  intro g' cs hc
  obtain ⟨rfl, rfl⟩ := hgt g' cs hc
  obtain ⟨qs, ⟨g1, t1, cs1, f1', p1, q1, hg1, ht1, hv1, hd1, _, _⟩, _⟩ := hl
  obtain rfl := Option.some.inj (hg.symm.trans hg1)
  obtain rfl := Option.some.inj (ht.symm.trans ht1)
  obtain ⟨xs, m, rfl, hx, hlen, hxn, hel⟩ := DataW.trod_array h1 hd1
  have hheap : ∃ el fr, w.heap[g']? = some (.cells cs1 el fr) := by
    simp only [World.var?, hg, Option.bind_some] at hv1
    split at hv1
    · rename_i hh; cases hv1; exact ⟨_, _, hh⟩
    · cases hv1
  obtain ⟨el, fr, hh⟩ := hheap
  have hx1 : ps.map (fun p => (DataW.agg [.lit (.int .i64 p.1), .lit (.int .i64 p.2)] : DataW Unit)) = xs.map (·.1) := by
    have := congrArg Prod.fst hx
    simpa [datS] using this
  have key : ∀ (j : Nat) (p : Int × Int), ps[j]? = some p → cs1.toList[2 * j]? = some (.int .i64 p.1) ∧ cs1.toList[2 * j + 1]? = some (.int .i64 p.2) := by
    intro j p hp
    have hj : j < n := by rw [← hn]; exact (List.getElem?_eq_some_iff.1 hp).1
    have hxj := hel j hj
    have hq : (xs.map (·.1))[j]? = some (DataW.agg [.lit (.int .i64 p.1), .lit (.int .i64 p.2)]) := by
      rw [← hx1, List.getElem?_map, hp]; rfl
    rw [List.getElem?_map] at hq
    cases hy : xs[j]? with
    | none => rw [hy] at hq; cases hq
    | some y =>
      rw [hy] at hq hxj
      have hq : y.1 = DataW.agg [.lit (.int .i64 p.1), .lit (.int .i64 p.2)] := by simpa using hq
      obtain ⟨y0, y1, m', e1, e2, e3, e4⟩ := Go.ChangeShapes.trod_struct2 h2 hxj
      rw [e1] at hq
      have hq : y0.1 = .lit (.int .i64 p.1) ∧ y1.1 = .lit (.int .i64 p.2) := by simpa using hq
      rw [k0, o0] at e3
      rw [k1, o1] at e4
      have r0 := trod_lit h3 e3 hq.1
      have r1 := trod_lit h3 e4 hq.2
      rw [c1, c2] at r0 r1
      have a0 := congrArg (·[0]?) r0
      have a1 := congrArg (·[0]?) r1
      simp only [List.drop_zero, List.getElem?_take, List.getElem?_drop, List.getElem?_cons_zero] at a0 a1
      simp at a0 a1
      rw [Nat.mul_comm] at a0 a1
      exact ⟨by simpa using a0, by simpa using a1⟩
  have hsz : cs1.size = 2 * n := by rw [← c3, ← hlen]; simp
  have hcl : lenL (ofList (cellsS ps)) = 2 * n := by
    have : ∀ ps : List (Int × Int), lenL (ofList (cellsS ps)) = 2 * ps.length := by
      intro ps
      induction ps with
      | nil => rfl
      | cons p ps ih => show lenL (.cons _ (.cons _ (ofList (cellsS ps)))) = _; simp [lenL, ih]; omega
    rw [this, hn]
  refine ⟨(Array.getElem?_eq_some_iff.1 hh).1, ⟨cs1, el, fr, hh, ?_, ?_, vals ps, vals_rel _ ps, fun i v hv => ?_⟩, fun b k x hb => by cases hb⟩
  · show 0 + lenL (ofList (cellsS ps)) ≤ cs1.size
    rw [hcl, hsz]; omega
  · exact Nat.le_refl _
  · show cs1[0 + i]? = some v
    rw [Nat.zero_add, ← Array.getElem?_toList]
    have hi : i < 2 * ps.length := by rw [← vals_len]; exact (List.getElem?_eq_some_iff.1 hv).1
    obtain ⟨p, hp⟩ : ∃ p, ps[i / 2]? = some p := ⟨ps[i / 2], List.getElem?_eq_getElem (by omega)⟩
    obtain ⟨v0, v1⟩ := vals_get ps _ p hp
    obtain ⟨w0, w1⟩ := key _ p hp
    rcases Nat.mod_two_eq_zero_or_one i with h | h
    · have e : 2 * (i / 2) = i := by omega
      rw [e] at v0 w0; rw [w0, ← v0, hv]
    · have e : 2 * (i / 2) + 1 = i := by omega
      rw [e] at v1 w1; rw [w1, ← v1, hv]
end Vam
