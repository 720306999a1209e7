/- The plain machine (VamOrc): part of a proof by a machine of plain values that is proved right. -/
import Derived.Test.YtnkmhgojbinhkabVamDraw10
namespace Vam
set_option linter.unusedVariables false
set_option linter.unusedSimpArgs false
open Go
variable {P : Program} {φ : Phi} {H H' K : CH} {w : World} {v : V} {E : Ev}

/-! ## Calls that are known to answer true -/

noncomputable section
def stepCallO (P : Program) (orc : FuncId → Bool) (E : Ev) (f : FuncId) (args : V) (H : CH) : R := cond (orc f) (onList .no (.ok (.bool true) H) (fun _ _ => .no) args) (stepCall P E f args H)
def stepEvO (P : Program) (orc : FuncId → Bool) (E : Ev) : Ev := ⟨stepCode P E, stepCallO P orc E⟩
def runEvO (P : Program) (orc : FuncId → Bool) (n : Nat) : Ev := Nat.rec (motive := fun _ => Ev) ⟨fun _ _ _ _ _ _ => .no, fun _ _ _ => .no⟩ (fun _ e => stepEvO P orc e) n
end

/-- what is known of calls -/
def KnownTrue (P : Program) (orc : FuncId → Bool) : Prop := ∀ f, orc f = true → ∃ E H', SoundCall P E ∧ E.call f .nil H0 = .ok (.bool true) H'

/-- a call that names nothing that was there -/
theorem back_start {w' : World} {e : Ending} (h : Rel P φ H w) (hb : Back P (fun _ => none) H0 w (.bool true) H' e w') : Back P φ H w (.bool true) H e w' := by
  obtain ⟨x, φ', rfl, h1, h2, h3⟩ := hb
  cases h3
  have hs : ∀ r, r < w.heap.size → w'.heap[r]? = w.heap[r]? := fun r hr => h2.frame r hr (fun b k hb => by cases hb)
  refine ⟨_, φ, rfl, ⟨h.nok, fun b k hb => ⟨(h.wf b k hb).1, (h.wf b k hb).2.1, Nat.lt_of_lt_of_le (h.wf b k hb).2.2 h2.size⟩, fun b k hb => ?_, h.sep⟩, ?_, .bool true⟩
  · obtain ⟨y, h4, h5⟩ := h.blk b k hb
    exact ⟨y, h4, by rw [hs _ (h.wf b k hb).2.2]; exact h5⟩
  · exact ⟨Phi.le_refl _, rfl, fun b k h1 h2 => by (rw [h2] at h1; cases h1), fun _ h => h, fun b k h1 h2 => by (rw [h2] at h1; cases h1), fun r hr _ => hs r hr, fun _ _ _ h => h, fun _ _ _ _ => rfl, h2.size, h2.os, h2.tape, h2.output, h2.fro⟩

theorem soundO (hm : P.follows .mixedOrders = true) {orc : FuncId → Bool} (ho : KnownTrue P orc) (n : Nat) : SoundCall P (runEvO P orc n) ∧ SoundCode P (runEvO P orc n) := by
  have hP : ∀ E, SoundCode P E → SoundPure P E := fun _ h => pure_sound h
  have cong : ∀ E, CongPure P (stepEvO P orc E) := by
    intro E f args vs φ H K J w v hp h hl ha hr hf
    have hr : stepCallO P orc E f args H = .ok v J := hr
    show J = H ∧ stepCallO P orc E f args K = .ok v K
    unfold stepCallO at hr ⊢
    cases hc : orc f with
    | false => rw [hc] at hr; exact cong_step P E hp h hl ha hr hf
    | true =>
      rw [hc] at hr
      rcases onList_ok (show onList R.no (R.ok (.bool true) H) (fun _ _ => R.no) args = R.ok v J from hr) R.ok_ne with ⟨rfl, h1⟩ | ⟨_, _, _, h1⟩
      · cases h1; exact ⟨rfl, rfl⟩
      · cases h1
  have congn : ∀ n, CongPure P (runEvO P orc n) := by
    intro n
    cases n with
    | zero => intro f args vs φ H K J w v _ _ _ _ hr; cases (show R.no = .ok v J from hr)
    | succ n => exact cong (runEvO P orc n)
  have : ∀ n, SoundCall P (runEvO P orc n) ∧ SoundCode P (runEvO P orc n) ∧ SoundLoop P (runEvO P orc n) n := by
    intro n
    induction n with
    | zero =>
      refine ⟨?_, ?_, ?_⟩
      · intro f args vs φ H w v H' _ _ hr; cases (show R.no = .ok v H' from hr)
      · intro c tm ds ro fn H ex tm' ds' H' φ w a r _ _ _ _ _ hr; cases (show RC.no = .ok ex tm' ds' H' from hr)
      · intro c tm ds ro fn H ex tm' ds' H' φ w a r _ _ _ _ _ hr; cases (show RC.no = .ok ex tm' ds' H' from hr)
    | succ n ih =>
      obtain ⟨hC, hD, hL⟩ := ih
      have hcode : (runEvO P orc (n + 1)).code = (stepEv P (runEvO P orc n)).code := rfl
      have hD' : SoundCode P (stepEv P (runEvO P orc n)) := step_code hC hD hL (draw_sound hm hC hD (congn n)) (fun h1 h2 h3 h4 h5 h6 => range_sound hC hD h1 h2 h3 h4 h5 h6)
      have hL' : SoundLoop P (stepEv P (runEvO P orc n)) (n + 1) := step_loop hD hL
      refine ⟨?_, fun h1 h2 h3 h4 h5 h6 => hD' h1 h2 h3 h4 h5 h6, fun h1 h2 h3 h4 h5 h6 => hL' h1 h2 h3 h4 h5 h6⟩
      intro f args vs φ H w v H' h ha hr
      have hr : stepCallO P orc (runEvO P orc n) f args H = .ok v H' := hr
      unfold stepCallO at hr
      cases hc : orc f with
      | true =>
        rw [hc] at hr
        rcases onList_ok (show onList R.no (R.ok (.bool true) H) (fun _ _ => R.no) args = R.ok v H' from hr) R.ok_ne with ⟨rfl, h1⟩ | ⟨_, _, _, h1⟩
        · cases h1
          obtain rfl := LR.inv_nil ha
          obtain ⟨E, J, hS, hrun⟩ := ho f hc
          obtain ⟨t1, t2⟩ := hS (rel_start P w) (vs := []) .nil hrun
          exact ⟨t1, t2.mono (fun e w' hb => back_start h hb)⟩
        · cases h1
      | false =>
        rw [hc] at hr
        obtain ⟨br, hb, hr1⟩ := opt_ok (show opt R.no (cond (pureFn P f) (pureCall P (runEvO P orc n) f args H) (plainCall P (runEvO P orc n) f args H)) (bodyOf P f) = .ok v H' from hr) R.ok_ne
        cases hp : pureFn P f with
        | true => rw [hp] at hr1; exact hP _ hD h ha hb hp hr1
        | false => rw [hp] at hr1; exact plain_sound hD h ha hb hr1
  exact ⟨(this n).1, (this n).2.1⟩

/-- A CALL WITHOUT ARGUMENTS THAT ANSWERS TRUE, others being known to. -/
theorem calls_orc_true (hm : P.follows .mixedOrders = true) {orc : FuncId → Bool} (ho : KnownTrue P orc) (n : Nat) {f : FuncId} {H' : CH} (hr : (runEvO P orc n).call f .nil H0 = .ok (.bool true) H') (w : World) :
    Calls P f #[] w fun e w' => e = .returned (.bool true) ∧ Go.RowKit.Grown w w' := calls_true (soundO hm ho n).1 hr w
end Vam
