/- The plain machine (VamRange): part of a proof by a machine of plain values that is proved right. -/
import Derived.Test.YtnkmhgojbinhkabVamCall
namespace Vam
set_option linter.unusedVariables false
set_option linter.unusedSimpArgs false
open Go
variable {P : Program} {φ : Phi} {H H' : CH} {w : World} {v : V} {E : Ev}

theorem onFuncOnly_ok {α : Type} {no r : α} {f : Nat → V → V → α} {v : V} (h : onFunc no f (fun _ => no) v = r) (hr : r ≠ no) : ∃ g a b, v = .func g a b ∧ f g a b = r := by
  cases v <;> first | exact ⟨_, _, _, rfl, h⟩ | exact absurd h.symm hr

/-- THE LOOP ITSELF, its block for deferred calls laid. -/
theorem range1_sound (hC : SoundCall P E) (hD : SoundCode P E) (h : Rel P φ H w) {tm : TT} {a : Act} (htm : TmR φ tm a.tmps) {ds : List Id} (hds : DfR φ ds a.defers) {ro : Option Id} {r : Option Nat} (hro : RoR φ ro r)
    {f : Operand} {ps : Array Tmp} {x y : Code} (hok : okCode P a.tmps.size (.rangeFunc f ps x y) = true) {dblk : Id} {kd : Loc} (hd : φ dblk = some kd) {fn : FuncId} {ex : Ex} {tm' : TT} {ds' : List Id}
    (hr : cRange1 E (evalO tm f) ps x y dblk tm ds ro fn H = .ok ex tm' ds' H') (gn : FuncId) :
    ∃ (l : Nat) (w₁ : World) (d : Deferred) (g : FuncId) (args : Array Value),
      (newObj (.loop { state := .ready, pending := none, fn := gn, tmps := a.tmps, params := ps, assign := x, body := y, defers := kd.r })).run P w = .ok l w₁ ∧
      (resolve a.eval (rangeCall f l) 0).run P w₁ = .ok d w₁ ∧ (invoke d.target d.args).run P w₁ = .ok (.enter g args) w₁ ∧
      CallsIn Fence.wide 0 P g args w₁ (rangePost (wideAt r) 0 P l (After P φ H w ex tm' ds' H' a.tmps.size) a) := by
  obtain ⟨⟨⟨ok1, ok2⟩, ok3⟩, ok4⟩ : ((okO a.tmps.size f = true ∧ ps.toList.all (fun t => Nat.blt t a.tmps.size) = true) ∧ okCode P a.tmps.size x = true) ∧ okCode P a.tmps.size y = true := by
    have : (okO a.tmps.size f && ps.toList.all (fun t => Nat.blt t a.tmps.size) && okCode P a.tmps.size x && okCode P a.tmps.size y) = true := hok
    simpa only [Bool.and_eq_true] using this
  obtain ⟨H₁, e1, e2, e3, e4, e5⟩ := alloc_eq hr RC.ok_ne h.nok
  have hnone := h.none_at_n e2
  have hle := Phi.le_with (⟨w.heap.size, 0, 0⟩ : Loc) hnone
  obtain ⟨r1, r2⟩ := Rel.alloc (o := .loop { state := .ready, pending := none, fn := gn, tmps := a.tmps, params := ps, assign := x, body := y, defers := kd.r }) (m := 0) h e2 e3 e4 e5
    ⟨a.tmps, kd, gn, hle _ _ hd, by simp, htm.mono hle, ok3, ok4, fun t ht => blt_lt (List.all_eq_true.1 ok2 t ht), fun c hc => by cases hc⟩
  generalize hφ : φ.with H.n ⟨w.heap.size, 0, 0⟩ = φ₁ at *
  have hl : φ₁ H.n = some ⟨w.heap.size, 0, 0⟩ := by rw [← hφ]; exact Phi.with_self φ H.n _
  -- the function
  have hf := evalO_rel htm ok1
  unfold endLoop at e1
  split at e1
  · cases e1
  · rename_i u H₂ hcall
    obtain ⟨g, first, cap, e6, hcall⟩ := onFuncOnly_ok hcall R.ok_ne
    rw [e6] at hf
    generalize hv : a.eval f = fv at hf
    cases hf with
    | func _ _ _ A B hA hB =>
      have hargs : LR φ₁ (appV first (appV (.cons (.yield H.n) .nil) cap)) (A.toList ++ ([Value.func (.yield w.heap.size) #[] #[]] ++ B.toList)) :=
        LR.app (hA.mono hle) (LR.app (.cons _ _ _ _ (.yield _ _ hl) .nil) (hB.mono hle))
      obtain ⟨t1, t2⟩ := hC r1 hargs hcall
      have e7 : (A.toList ++ ([Value.func (.yield w.heap.size) #[] #[]] ++ B.toList)).toArray = A ++ #[Value.func (.yield w.heap.size) #[] #[]] ++ B := by
        apply Array.ext'; simp
      rw [e7] at t2
      refine ⟨w.heap.size, _, { target := .fn (.func g) B, args := A ++ #[Value.func (.yield w.heap.size) #[] #[]] }, g, A ++ #[Value.func (.yield w.heap.size) #[] #[]] ++ B, rfl, ?_, ?_, t2.mono ?_⟩
      · have hy : a.eval (.const (.func (.yield w.heap.size) #[] #[])) = .func (.yield w.heap.size) #[] #[] := rfl
        simp [resolve, hv, Deferred.ofValue, hy]
      · simp only [invoke]; exact run_callFunc t1
      · rintro e w₃ ⟨xv, φ₂, rfl, b1, b2, b3⟩
        split at e1
        · rename_i st pe fn' tm₂ ps₂ x₂ y₂ d₂ hg
          have hl2 := b2.le _ _ hl
          have hext : Ext φ H w φ₂ H₂ w₃ := r2.trans h b2
          have hpe := (getLoop_run b1 hl2 hg).choose_spec.choose_spec.choose_spec.2.2.2.2.2.2.2
          split at e1
          · cases e1
          · rename_i hst
            split at e1
            · obtain ⟨H₃, hs, e8⟩ := opt_ok e1 RC.ok_ne
              cases e8
              obtain ⟨w₄, g1, g2, g3⟩ := endLoop_rel b1 hl2 (fun hb => hst hb) hg hs
              exact ⟨none, w₄, g1, rfl, φ₂, g2, hext.trans h g3, htm.mono hext.le, rfl, hds.mono hext.le⟩
            · rename_i c
              obtain ⟨H₃, hs, e8⟩ := opt_ok e1 RC.ok_ne
              obtain ⟨w₄, g1, g2, g3⟩ := endLoop_rel b1 hl2 (fun hb => hst hb) hg hs
              refine ⟨some c, w₄, g1, ?_⟩
              refine Go.wpIn_mono (hD g2 (htm.mono hext.le) (hds.mono hext.le) (hro.mono hext.le) (hpe c rfl _) e8) (fun e a' w' q => ?_)
              exact After.base h (hext.trans h g3) q
        · cases e1

/-- A RANGE OVER A FUNCTION. -/
theorem range_sound (hC : SoundCall P E) (hD : SoundCode P E) (h : Rel P φ H w) {tm : TT} {a : Act} (htm : TmR φ tm a.tmps) {ds : List Id} (hds : DfR φ ds a.defers) {ro : Option Id} {r : Option Nat} (hro : RoR φ ro r)
    {f : Operand} {ps : Array Tmp} {x y : Code} (hok : okCode P a.tmps.size (.rangeFunc f ps x y) = true) {fn : FuncId} {ex : Ex} {tm' : TT} {ds' : List Id}
    (hr : cRange E (evalO tm f) ps x y tm ds ro fn H = .ok ex tm' ds' H') : (Code.rangeFunc f ps x y).wpIn (wideAt r) 0 P (After P φ H w ex tm' ds' H' a.tmps.size) a w := by
  refine wpIn_rangeFunc (fun gn _ => ?_)
  cases ro with
  | some l =>
    obtain ⟨k, hl, rfl⟩ := hro
    unfold cRange at hr
    simp only at hr
    split at hr
    · rename_i s pe fn' tm₀ ps₀ x₀ y₀ d hg
      obtain ⟨tmps, kd, fn'', h1, h2, h3, _⟩ := getLoop_run h hl hg
      obtain ⟨l', w₁, d', g, args, q1, q2, q3, q4⟩ := range1_sound hC hD h htm hds (ro := some l) (r := some k.r) ⟨k, hl, rfl⟩ hok h1 hr gn
      refine ⟨l', [], w₁, d', w₁, g, args, w₁, ?_, q2, fun _ _ => trivial, q3, fun hd => (by cases hd), callsAt (some k.r) q4⟩
      simpa [Instr.enterLoop, h3] using q1
    · cases hr
  | none =>
    obtain rfl : r = none := hro
    obtain ⟨H₁, e1, e2, e3, e4, e5⟩ := alloc_eq (show alloc RC.no H (.dfr false) (fun n H => cRange1 E (evalO tm f) ps x y n tm (n :: ds) none fn H) = .ok ex tm' ds' H' from hr) RC.ok_ne h.nok
    have hle := Phi.le_with (⟨w.heap.size, 0, 0⟩ : Loc) (h.none_at_n e2)
    obtain ⟨r1, r2⟩ := Rel.alloc (o := .deferred (some [])) (m := 0) h e2 e3 e4 e5 rfl
    have hself := Phi.with_self φ H.n ⟨w.heap.size, 0, 0⟩
    have hds1 : DfR (φ.with H.n ⟨w.heap.size, 0, 0⟩) (H.n :: ds) ({ target := .collected w.heap.size, args := #[] } :: a.defers) := .cons _ _ _ _ hself (hds.mono hle)
    obtain ⟨l', w₁, d', g, args, q1, q2, q3, q4⟩ := range1_sound (a := { a with defers := { target := .collected w.heap.size, args := #[] } :: a.defers }) hC hD r1 (htm.mono hle) hds1 (ro := none) (r := none) rfl hok hself e1 gn
    refine ⟨l', [{ target := .collected w.heap.size, args := #[] }], w₁, d', w₁, g, args, w₁, ?_, q2, fun _ _ => trivial, q3, fun hd => (by cases hd), callsAt none (q4.mono ?_)⟩
    · simp at q1
      simp [Instr.enterLoop]
      exact ⟨q1.1, q1.2⟩
    · intro e w₃ hp
      cases e with
      | returned u =>
        obtain ⟨jump, w₄, g1, g2⟩ := hp
        refine ⟨jump, w₄, g1, ?_⟩
        cases jump with
        | none => exact After.base h r2 g2
        | some c => exact Go.wpIn_mono g2 (fun e a' w' q => After.base h r2 q)
      | panicked ch => exact After.base h r2 hp
      | outgrown =>
        obtain ⟨a₀, w₀, q⟩ := hp
        exact ⟨a₀, w₀, After.base h r2 q⟩
end Vam
