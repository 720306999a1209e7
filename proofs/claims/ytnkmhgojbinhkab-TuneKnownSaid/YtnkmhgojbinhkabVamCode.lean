/- The plain machine (VamCode): part of a proof by a machine of plain values that is proved right. -/
import Derived.Test.YtnkmhgojbinhkabVamOps6
import Derived.Scope
namespace Vam
set_option linter.unusedVariables false
set_option linter.unusedSimpArgs false
open Go
variable {P : Program} {φ : Phi} {H H' : CH} {w : World} {v : V} {E : Ev}

section
variable {b : Frame} {a : Act} {k : List Item} {cs : List Frame} {w : World} {Q : Exit → Act → World → Prop} {F : Fence} {n : Nat}
theorem stepR_scope {c : Code} : step P (lone (b.atR a (.code (.scope c) :: k)) cs w) = .next (lone (b.atR a (.code c :: .inScope c :: k)) cs w) :=
  step_lone_go (by simp [stepG, stepG.exec, Frame.atR])
theorem stepR_inScope {c : Code} : step P (lone (b.atR a (.inScope c :: k)) cs w) = .next (lone (b.atR a k) cs w) :=
  step_lone_go (by simp [stepG, stepG.exec, Frame.atR])
theorem wpIn_scope {c : Code} (h : c.wpIn F n P (Exit.noGoto Q) a w) : (Code.scope c).wpIn F n P Q a w := by
  intro b k cs hro hb hr
  have h0 : (lone (b.atR a (.code (.scope c) :: k)) cs w).fenced P F := fenced_calm hb hr rfl
  obtain ⟨e, a₁, w₁, hq, harr⟩ := h b (.inScope c :: k) cs hro hb hr
  cases e with
  | normal => exact ⟨.normal, a₁, w₁, hq, .head h0 stepR_scope (StepsIn.trans harr (.one (fenced_calm hb hr rfl) stepR_inScope))⟩
  | exit id => exact ⟨.exit id, a₁, w₁, hq, fun k' hk => .head h0 stepR_scope (harr.1 k' (by simp [exitTo, hk])), fun hn hk => by
      obtain ⟨k₁, hk₁, hs⟩ := harr.2 hn (by simp [exitTo, hk])
      exact ⟨k₁, hk₁, .head h0 stepR_scope hs⟩⟩
  | goto l => exact hq.elim
  | ret => exact ⟨_, a₁, w₁, hq, .of_steps (.one h0 stepR_scope) harr⟩
  | panic ch => exact ⟨_, a₁, w₁, hq, .of_steps (.one h0 stepR_scope) harr⟩
  | outgrown => exact ⟨_, a₁, w₁, hq, .of_steps (.one h0 stepR_scope) harr⟩
end

theorem After.base {φ₁ : Phi} {H₁ : CH} {w₁ : World} {ex : Ex} {tm : TT} {ds : List Id} {n : Nat} (h : Rel P φ H w) (k : Ext φ H w φ₁ H₁ w₁) {e : Exit} {a' : Act} {w' : World}
    (ha : After P φ₁ H₁ w₁ ex tm ds H' n e a' w') : After P φ H w ex tm ds H' n e a' w' := by
  obtain ⟨h1, φ', h2, h3, h4⟩ := ha
  exact ⟨h1, φ', h2, k.trans h h3, h4⟩

/-- a region whose order is open -/
def SoundDraw (P : Program) (E : Ev) : Prop := ∀ {id : Nat} {ops : Array Oper} {tm tm' : TT} {ds : List Id} {H H' : CH} {φ : Phi} {w : World} {a : Act} {r : Option Nat},
  Rel P φ H w → TmR φ tm a.tmps → DfR φ ds a.defers → ops.toList.all (okOper a.tmps.size) = true → okDraw P ops.toList = true →
  drawRegion P E ops.toList tm H = .ok tm' H' →
  (Code.region id ops true).wpIn (wideAt r) 0 P (After P φ H w .normal tm' ds H' a.tmps.size) a w

/-- loops: as many rounds as there was fuel -/
def SoundLoop (P : Program) (E : Ev) (m : Nat) : Prop := ∀ {c : Code} {tm : TT} {ds : List Id} {ro : Option Id} {fn : FuncId} {H : CH} {ex : Ex} {tm' : TT} {ds' : List Id} {H' : CH} {φ : Phi} {w : World} {a : Act} {r : Option Nat},
  Rel P φ H w → TmR φ tm a.tmps → DfR φ ds a.defers → RoR φ ro r → okCode P a.tmps.size c = true → E.code (.loop c) tm ds ro fn H = .ok ex tm' ds' H' →
  Code.roundsIn (wideAt r) 0 P c (After P φ H w ex tm' ds' H' a.tmps.size) m a w

theorem RC.inv {α : Type} {no : α} {f : Ex → TT → List Id → CH → α} {r : RC} {x : α} (h : RC.rec (motive := fun _ => α) no f r = x) (hx : x ≠ no) : ∃ e tm ds H, r = .ok e tm ds H ∧ f e tm ds H = x := by
  cases r with
  | no => exact absurd h.symm hx
  | ok e tm ds H => exact ⟨e, tm, ds, H, rfl, h⟩
theorem RC.ok_ne {e : Ex} {tm : TT} {ds : List Id} {H : CH} : RC.ok e tm ds H ≠ RC.no := by intro h; cases h

theorem cRegion_ok {ds ds' : List Id} {r : RO} {ex : Ex} {tm' : TT} (h : cRegion ds r = .ok ex tm' ds' H') : r = .ok tm' H' ∧ ex = .normal ∧ ds' = ds := by
  cases r with
  | no => cases h
  | ok tm H => cases h; exact ⟨rfl, rfl, rfl⟩

theorem roundsIn_mono {F : Fence} {n : Nat} {c : Code} {Q Q' : Exit → Act → World → Prop} (hq : ∀ e a w, Q e a w → Q' e a w) : ∀ {m : Nat} {a : Act} {w : World}, Code.roundsIn F n P c Q m a w → Code.roundsIn F n P c Q' m a w := by
  intro m
  induction m with
  | zero => intro a w h; exact h.elim
  | succ m ih =>
    intro a w h
    refine Go.wpIn_mono h (fun e a w q => ?_)
    cases e <;> first | exact ih q | exact hq _ _ _ q

/-- what a sequence is -/
theorem seq_after {c₂ : Code} {tm₁ : TT} {ds₁ : List Id} {ro : Option Id} {fn : FuncId} {H₁ : CH} {ex₁ ex : Ex} {tm' : TT} {ds' : List Id} {n : Nat} {K : Act → World → Prop}
    (h : Rel P φ H w) (hr : cThen E c₂ ro fn ex₁ tm₁ ds₁ H₁ = .ok ex tm' ds' H') {e : Exit} {a₁ : Act} {w₁ : World} (ha : After P φ H w ex₁ tm₁ ds₁ H₁ n e a₁ w₁)
    (hK : ∀ φ₁, Rel P φ₁ H₁ w₁ → Ext φ H w φ₁ H₁ w₁ → TmR φ₁ tm₁ a₁.tmps → a₁.tmps.size = n → DfR φ₁ ds₁ a₁.defers → E.code c₂ tm₁ ds₁ ro fn H₁ = .ok ex tm' ds' H' → K a₁ w₁) :
    Exit.then K (After P φ H w ex tm' ds' H' n) e a₁ w₁ := by
  obtain ⟨rfl, φ₁, b1, b2, b3, b4, b5⟩ := ha
  cases ex₁ with
  | normal => exact hK φ₁ b1 b2 b3 b4 b5 hr
  | exit i => cases (show RC.ok (.exit i) tm₁ ds₁ H₁ = .ok ex tm' ds' H' from hr); exact ⟨rfl, φ₁, b1, b2, b3, b4, b5⟩
  | goto i => cases (show RC.ok (.goto i) tm₁ ds₁ H₁ = .ok ex tm' ds' H' from hr); exact ⟨rfl, φ₁, b1, b2, b3, b4, b5⟩
  | ret => cases (show RC.ok .ret tm₁ ds₁ H₁ = .ok ex tm' ds' H' from hr); exact ⟨rfl, φ₁, b1, b2, b3, b4, b5⟩

/-- ONE MORE ROUND OF A LOOP. -/
theorem step_loop {m : Nat} (hD : SoundCode P E) (hL : SoundLoop P E m) : SoundLoop P (stepEv P E) (m + 1) := by
  intro c tm ds ro fn H ex tm' ds' H' φ w a r h htm hds hro hok hr
  have hr : cSeq E (.loop c) ro fn (E.code c tm ds ro fn H) = .ok ex tm' ds' H' := hr
  obtain ⟨ex₁, tm₁, ds₁, H₁, h1, h2⟩ := RC.inv hr RC.ok_ne
  refine Go.wpIn_mono (hD h htm hds hro hok h1) (fun e a₁ w₁ ha => ?_)
  refine seq_after h h2 ha (fun φ₁ b1 b2 b3 b4 b5 b6 => ?_)
  have := hL b1 b3 b5 (hro.mono b2.le) (by rw [b4]; exact hok) b6
  refine roundsIn_mono (fun e a w q => ?_) this
  rw [b4] at q
  exact After.base h b2 q

/-- ONE STEP OF CODE, but for ranges over functions. -/
theorem step_code {m : Nat} (hC : SoundCall P E) (hD : SoundCode P E) (hL : SoundLoop P E m) (hW : SoundDraw P E)
    (hR : ∀ {f : Operand} {ps : Array Tmp} {x y : Code} {tm : TT} {ds : List Id} {ro : Option Id} {fn : FuncId} {H : CH} {ex : Ex} {tm' : TT} {ds' : List Id} {H' : CH} {φ : Phi} {w : World} {a : Act} {r : Option Nat},
      Rel P φ H w → TmR φ tm a.tmps → DfR φ ds a.defers → RoR φ ro r → okCode P a.tmps.size (.rangeFunc f ps x y) = true → cRange E (evalO tm f) ps x y tm ds ro fn H = .ok ex tm' ds' H' →
      (Code.rangeFunc f ps x y).wpIn (wideAt r) 0 P (After P φ H w ex tm' ds' H' a.tmps.size) a w) : SoundCode P (stepEv P E) := by
  intro c tm ds ro fn H ex tm' ds' H' φ w a r h htm hds hro hok hr
  have stay : ∀ {ex' : Ex}, RC.ok ex' tm ds H = .ok ex tm' ds' H' → After P φ H w ex tm' ds' H' a.tmps.size (exOf ex') a w := by
    intro ex' e; cases e; exact ⟨rfl, φ, h, .refl _ _ _, htm, rfl, hds⟩
  have hr : stepCode P E c tm ds ro fn H = .ok ex tm' ds' H' := hr
  cases c with
  | skip => exact wpIn_skip (stay hr)
  | label l => exact wpIn_label (stay hr)
  | exit i => exact wpIn_exit (stay hr)
  | goto i => exact wpIn_goto (stay hr)
  | ret => exact wpIn_ret (stay hr)
  | refuse s => cases hr
  | region id ops q =>
    obtain ⟨hok1, hok2⟩ := Bool.and_eq_true_iff.1 (show (ops.toList.all (okOper a.tmps.size) && (!q || okDraw P ops.toList)) = true from hok)
    cases q with
    | true =>
      obtain ⟨h1, rfl, rfl⟩ := cRegion_ok (show cRegion ds (drawRegion P E ops.toList tm H) = .ok ex tm' ds' H' from hr)
      exact hW h htm hds hok1 (by simpa using hok2) h1
    | false =>
      obtain ⟨h1, rfl, rfl⟩ := cRegion_ok (show cRegion ds (evOps P E ops.toList ops.toList tm H) = .ok ex tm' ds' H' from hr)
      refine wpIn_region ?_
      have := ops_sound hC hD (Q := After P φ H w .normal tm' ds' H' a.tmps.size) (r := r) ops.toList 0 rfl hok1 h htm h1 (fun a' w' φ' q1 q2 q3 q4 q5 => ⟨rfl, φ', q1, q2, q3, q4, by rw [q5]; exact hds.mono q2.le⟩)
      simpa using this
  | seq x y =>
    obtain ⟨hok1, hok2⟩ := Bool.and_eq_true_iff.1 (show (okCode P a.tmps.size x && okCode P a.tmps.size y) = true from hok)
    obtain ⟨ex₁, tm₁, ds₁, H₁, h1, h2⟩ := RC.inv (show cSeq E y ro fn (E.code x tm ds ro fn H) = .ok ex tm' ds' H' from hr) RC.ok_ne
    refine wpIn_seq (Go.wpIn_mono (hD h htm hds hro hok1 h1) (fun e a₁ w₁ ha => ?_))
    refine seq_after h h2 ha (fun φ₁ b1 b2 b3 b4 b5 b6 => ?_)
    refine Go.wpIn_mono (hD b1 b3 b5 (hro.mono b2.le) (by rw [b4]; exact hok2) b6) (fun e a w q => ?_)
    rw [b4] at q
    exact After.base h b2 q
  | cond x y z =>
    obtain ⟨hok1, hok2⟩ := Bool.and_eq_true_iff.1 (show (okO a.tmps.size x && okCode P a.tmps.size y && okCode P a.tmps.size z) = true from hok)
    obtain ⟨hok3, hok4⟩ := Bool.and_eq_true_iff.1 hok1
    have hx := evalO_rel htm hok3
    obtain ⟨b, e1, h1⟩ := onBool_ok (show onBool .no (fun t => E.code (cond t y z) tm ds ro fn H) (evalO tm x) = .ok ex tm' ds' H' from hr) RC.ok_ne
    rw [e1] at hx
    have hb : a.eval x = .bool b := by
      generalize a.eval x = xv at hx
      cases hx; rfl
    refine wpIn_cond hb ?_
    cases b with
    | true => exact hD h htm hds hro hok4 h1
    | false => exact hD h htm hds hro hok2 h1
  | block id x =>
    obtain ⟨ex₁, tm₁, ds₁, H₁, h1, h2⟩ := RC.inv (show cBlock id (E.code x tm ds ro fn H) = .ok ex tm' ds' H' from hr) RC.ok_ne
    refine wpIn_block (Go.wpIn_mono (hD h htm hds hro (show okCode P a.tmps.size x = true from hok) h1) ?_)
    rintro e a₁ w₁ ⟨rfl, φ₁, b1, b2, b3, b4, b5⟩
    cases ex₁ with
    | normal => cases (show RC.ok .normal tm₁ ds₁ H₁ = .ok ex tm' ds' H' from h2); exact ⟨rfl, φ₁, b1, b2, b3, b4, b5⟩
    | exit i =>
      have h2 : RC.ok (cond (Nat.beq i id) .normal (.exit i)) tm₁ ds₁ H₁ = .ok ex tm' ds' H' := h2
      show (if i = id then After P φ H w ex tm' ds' H' a.tmps.size .normal a₁ w₁ else After P φ H w ex tm' ds' H' a.tmps.size (.exit i) a₁ w₁)
      by_cases hi : i = id
      · subst hi
        rw [if_pos rfl]
        rw [show Nat.beq i i = true from Nat.beq_refl i] at h2
        cases h2; exact ⟨rfl, φ₁, b1, b2, b3, b4, b5⟩
      · rw [if_neg hi]
        rw [show Nat.beq i id = false by rw [nbeq_eq]; exact decide_eq_false hi] at h2
        cases h2; exact ⟨rfl, φ₁, b1, b2, b3, b4, b5⟩
    | goto i => cases (show RC.ok (.goto i) tm₁ ds₁ H₁ = .ok ex tm' ds' H' from h2); exact ⟨rfl, φ₁, b1, b2, b3, b4, b5⟩
    | ret => cases (show RC.ok .ret tm₁ ds₁ H₁ = .ok ex tm' ds' H' from h2); exact ⟨rfl, φ₁, b1, b2, b3, b4, b5⟩
  | loop x => exact wpIn_loop_rounds (m + 1) (step_loop hD hL h htm hds hro (show okCode P a.tmps.size x = true from hok) hr)
  | rangeFunc f ps x y => exact hR h htm hds hro hok hr
  | scope x =>
    obtain ⟨ex₁, tm₁, ds₁, H₁, h1, h2⟩ := RC.inv (show cScope (E.code x tm ds ro fn H) = .ok ex tm' ds' H' from hr) RC.ok_ne
    refine wpIn_scope (Go.wpIn_mono (hD h htm hds hro (show okCode P a.tmps.size x = true from hok) h1) ?_)
    rintro e a₁ w₁ ⟨rfl, φ₁, b1, b2, b3, b4, b5⟩
    cases ex₁ with
    | normal => cases (show RC.ok .normal tm₁ ds₁ H₁ = .ok ex tm' ds' H' from h2); exact ⟨rfl, φ₁, b1, b2, b3, b4, b5⟩
    | exit i => cases (show RC.ok (.exit i) tm₁ ds₁ H₁ = .ok ex tm' ds' H' from h2); exact ⟨rfl, φ₁, b1, b2, b3, b4, b5⟩
    | goto i => cases h2
    | ret => cases (show RC.ok .ret tm₁ ds₁ H₁ = .ok ex tm' ds' H' from h2); exact ⟨rfl, φ₁, b1, b2, b3, b4, b5⟩
end Vam
