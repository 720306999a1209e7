/- The plain machine (VamOps6): part of a proof by a machine of plain values that is proved right. -/
import Derived.Test.YtnkmhgojbinhkabVamReg
namespace Vam
set_option linter.unusedVariables false
set_option linter.unusedSimpArgs false
open Go
variable {P : Program} {φ : Phi} {H H' : CH} {w : World} {v : V} {E : Ev}

theorem nthO_get {α : Type} (l : List α) (i : Nat) : nthO l i = l[i]? := by
  induction l generalizing i with
  | nil => rfl
  | cons x l ih =>
    cases i with
    | zero => rfl
    | succ i => rw [List.getElem?_cons_succ, ← ih]; rfl

def boolIn : Value → Option Bool
  | .bool b => some b
  | _ => none
theorem onBool_some (x : V) {xv : Value} (hx : VR φ x xv) : onBool none (fun b => some b) x = boolIn xv := by
  cases hx <;> rfl

theorem yielded_eq {ops : Array Oper} {tm : TT} {tmps : Array Value} (htm : TmR φ tm tmps) (hok : ops.toList.all (okOper tmps.size) = true) (j : Nat) : yieldedL ops.toList tm j = yielded ops tmps j := by
  unfold yieldedL yielded
  rw [nthO_get, Array.getElem?_toList]
  cases ho : ops[j]? with
  | none => rfl
  | some o =>
    have ho' : okOper tmps.size o = true := List.all_eq_true.1 hok o (by simpa using Array.mem_of_getElem? ho)
    show opt none (fun d => onBool none (fun b => some b) (tm.get d)) o.dst = _
    cases hd : o.dst with
    | none => simp [hd, opt]
    | some d =>
      have hlt : d < tmps.size := by
        have := (Bool.and_eq_true_iff.1 ho').1
        rw [hd] at this; exact blt_lt this
      show onBool none (fun b => some b) (tm.get d) = _
      rw [onBool_some _ (htm.2 d hlt)]
      have hget : tmps[d]? = some (tmps.getD d Go.undef) := by
        rw [Array.getElem?_eq_getElem hlt]; simp [Array.getD, hlt]
      simp only [Option.bind_some, hd, hget]
      generalize tmps.getD d Go.undef = x
      cases x <;> rfl

theorem bEq_eq (a b : Bool) : bEq a b = (a == b) := by cases a <;> cases b <;> rfl

theorem wantB_eq {ops : Array Oper} {tm : TT} {tmps : Array Value} (htm : TmR φ tm tmps) (hok : ops.toList.all (okOper tmps.size) = true) (o : Oper) (g : Nat × Bool) (hg : o.guard = some g) :
    Region.wanted o (yielded ops tmps) = wantB ops.toList tm g := by
  obtain ⟨j, want⟩ := g
  unfold Region.wanted wantB
  rw [hg, yielded_eq htm hok]
  show (yielded ops tmps j == some want) = opt false (fun b => bEq b want) (yielded ops tmps j)
  cases yielded ops tmps j with
  | none => rfl
  | some b => show (some b == some want) = bEq b want; rw [bEq_eq]; rfl

theorem opsGo_ok {dst : Option Nat} {op : Op} {tm tm' : TT} {ih : KO} (h : opsGo P E dst op tm H ih = .ok tm' H') :
    ∃ v H₁, evOp P E tm H op = .ok v H₁ ∧ ih (setT tm dst v) H₁ = .ok tm' H' := by
  unfold opsGo at h
  cases hc : evOp P E tm H op with
  | no => rw [hc] at h; cases h
  | ok v H₁ => rw [hc] at h; exact ⟨v, H₁, rfl, h⟩

/-- OPERATIONS IN THEIR ORDER. -/
theorem ops_sound (hC : SoundCall P E) (hD : SoundCode P E) {ops : Array Oper} {Q : Exit → Act → World → Prop} {r : Option Nat} : ∀ (l : List Oper) (i : Nat), ops.toList.drop i = l →
    ∀ {tm tm' : TT} {H H' : CH} {φ : Phi} {w : World} {a : Act}, ops.toList.all (okOper a.tmps.size) = true → Rel P φ H w → TmR φ tm a.tmps → evOps P E ops.toList l tm H = .ok tm' H' →
    (∀ a' w' φ', Rel P φ' H' w' → Ext φ H w φ' H' w' → TmR φ' tm' a'.tmps → a'.tmps.size = a.tmps.size → a'.defers = a.defers → Q .normal a' w') →
    wpOpsIn (wideAt r) 0 P ops Q ((List.range ops.size).drop i) a w := by
  intro l
  induction l with
  | nil =>
    intro i hi tm tm' H H' φ w a hok h htm hr hq
    cases (show RO.ok tm H = .ok tm' H' from hr)
    have hlen : ops.size ≤ i := by have := List.drop_eq_nil_iff.1 hi; simpa using this
    rw [List.drop_eq_nil_of_le (by simpa using hlen)]
    exact hq a w φ h (.refl _ _ _) htm rfl rfl
  | cons o l ih =>
    intro i hi tm tm' H H' φ w a hok h htm hr hq
    have hlt : i < ops.size := by
      rcases Nat.lt_or_ge i ops.size with h1 | h1
      · exact h1
      · rw [List.drop_eq_nil_of_le (by simpa using h1)] at hi; cases hi
    have hlt' : i < ops.toList.length := by simpa using hlt
    rw [List.drop_eq_getElem_cons hlt'] at hi
    injection hi with hi1 hi2
    have ho : ops[i]? = some o := by rw [Array.getElem?_eq_getElem hlt, ← hi1]; simp
    rw [List.drop_eq_getElem_cons (by simpa using hlt), wpOpsIn_cons]
    simp only [List.getElem_range]
    unfold wpOpIn
    simp only [ho]
    have hoko : okOper a.tmps.size o = true := List.all_eq_true.1 hok o (by rw [← hi1]; exact List.getElem_mem _)
    have hdst : okDst a.tmps.size o.dst = true := (Bool.and_eq_true_iff.1 hoko).1
    have skip : evOps P E ops.toList l (setT tm o.dst undef) H = .ok tm' H' → wpOpsIn (wideAt r) 0 P ops Q ((List.range ops.size).drop (i + 1)) (a.put o.dst Go.undef) w := by
      intro hr'
      obtain ⟨p1, p2, p3⟩ := htm.put hdst (vr_undef φ)
      exact ih (i + 1) hi2 (by rw [p2]; exact hok) h p1 hr' (fun a' w' φ' q1 q2 q3 q4 q5 => hq a' w' φ' q1 q2 q3 (q4.trans p2) (q5.trans p3))
    have go : opsGo P E o.dst o.op tm H (evOps P E ops.toList l) = .ok tm' H' → o.wpIn (wideAt r) 0 P a w (wpOpsIn (wideAt r) 0 P ops Q ((List.range ops.size).drop (i + 1))) Q := by
      intro hr'
      obtain ⟨v, H₁, g1, g2⟩ := opsGo_ok hr'
      refine op_wp hC hD h htm hoko g1 (fun φ' w' x k1 k2 k3 => ?_)
      obtain ⟨p1, p2, p3⟩ := (htm.mono k2.le).put hdst k3
      exact ih (i + 1) hi2 (by rw [p2]; exact hok) k1 p1 g2 (fun a' w'' φ'' q1 q2 q3 q4 q5 => hq a' w'' φ'' q1 (k2.trans h q2) q3 (q4.trans p2) (q5.trans p3))
    cases hg : o.guard with
    | none =>
      have hr' : opsGo P E o.dst o.op tm H (evOps P E ops.toList l) = .ok tm' H' := by
        have e : evOps P E ops.toList (o :: l) tm H = opsStep P E ops.toList (evOps P E ops.toList l) tm H o.dst o.op o.type o.pos o.after o.guard := rfl
        rw [e, hg] at hr; exact hr
      rw [if_pos (by simp [Region.wanted, hg])]
      exact go hr'
    | some g =>
      have hr' : opsIf P E o.dst o.op tm H (evOps P E ops.toList l) (wantB ops.toList tm g) = .ok tm' H' := by
        have e : evOps P E ops.toList (o :: l) tm H = opsStep P E ops.toList (evOps P E ops.toList l) tm H o.dst o.op o.type o.pos o.after o.guard := rfl
        rw [e, hg] at hr; exact hr
      rw [wantB_eq htm hok o g hg]
      cases hb : wantB ops.toList tm g with
      | true => rw [hb] at hr'; rw [if_pos rfl]; exact go hr'
      | false => rw [hb] at hr'; rw [if_neg (by simp)]; exact ⟨fun _ _ => trivial, skip hr'⟩
end Vam
