/- The plain machine (VamExec): part of a proof by a machine of plain values that is proved right. -/
import Derived.Test.YtnkmhgojbinhkabVamApp2
namespace Vam
set_option linter.unusedVariables false
set_option linter.unusedSimpArgs false
open Go
variable {P : Program} {φ : Phi} {H H' : CH} {w : World} {v : V}

theorem toArr {l : List Value} {A : Array Value} (h : A.toList = l) : A = l.toArray := by rw [← h]

theorem parts_map (a : Act) (ps : Array (Nat × Operand)) : (ps.map fun (i, x) => (i, a.eval x)) = (ps.toList.map fun p => (p.1, a.eval p.2)).toArray := by
  apply Array.ext'; simp

/-- WHAT AN OPERATION THAT IS NO CALL DOES. -/
theorem sim_exec {E : Ev} (h : Rel P φ H w) {tm : TT} {a : Act} (htm : TmR φ tm a.tmps) {o : Oper} (hok : okOper a.tmps.size o = true) (hnc : ∀ c, o.op ≠ .call c)
    (hr : evOp P E tm H o.op = .ok v H') : Sim P φ H w (execOp a.eval o) v H' := by
  obtain ⟨_, hall⟩ := Bool.and_eq_true_iff.1 hok
  have hop : ∀ x ∈ o.op.operands, VR φ (evalO tm x) (a.eval x) := fun x hx => evalO_rel htm (List.all_eq_true.1 hall x (by simpa using hx))
  have hopt : ∀ x : Option Operand, (∀ y, x = some y → y ∈ o.op.operands) → OptR φ (evalOpt tm x) (x.map a.eval) := by
    intro x hx
    cases x with
    | none => exact .none
    | some y => exact .some _ _ (hop y (hx y rfl))
  cases ho : o.op with
  | move x | assign x =>
    rw [ho] at hr
    cases (show R.ok (evalO tm x) H = .ok v H' from hr)
    exact ⟨φ, w, _, .inl (by simp [execOp, ho]), h, .refl _ _ _, hop x (by simp [ho, Op.operands])⟩
  | pick c x y =>
    rw [ho] at hr
    have := sim_pick h (hop c (by simp [ho, Op.operands])) (hop x (by simp [ho, Op.operands])) (hop y (by simp [ho, Op.operands])) hr
    simpa only [execOp, ho] using this
  | alloc e =>
    rw [ho] at hr
    have := sim_alloc h hr
    simpa only [execOp, ho] using this
  | box e x =>
    rw [ho] at hr
    have := sim_box h (hop x (by simp [ho, Op.operands])) hr
    simpa only [execOp, ho] using this
  | build t ps =>
    rw [ho] at hr
    have hp : PartsR φ (evalParts tm ps.toList) (ps.toList.map fun p => (p.1, a.eval p.2)) := evalParts_rel htm (by
      rw [ho] at hall; simpa [Op.operands, List.all_eq_true, Function.comp_def] using hall)
    have := sim_build h hp hr
    simpa only [execOp, ho, parts_map] using this
  | buildSlice t n ps =>
    rw [ho] at hr
    have hp : PartsR φ (evalParts tm ps.toList) (ps.toList.map fun p => (p.1, a.eval p.2)) := evalParts_rel htm (by
      rw [ho] at hall; simpa [Op.operands, List.all_eq_true, Function.comp_def] using hall)
    have := sim_buildSlice h hp hr
    simpa only [execOp, ho, parts_map] using this
  | insert t m k x | mapUpdate t m k x =>
    rw [ho] at hr
    have := sim_mapUpdate h (hop m (by simp [ho, Op.operands])) (hop k (by simp [ho, Op.operands])) (hop x (by simp [ho, Op.operands])) hr
    simpa only [execOp, ho] using this
  | load t x =>
    rw [ho] at hr
    have := sim_load h (hop x (by simp [ho, Op.operands])) hr
    simpa only [execOp, ho] using this
  | store t x y =>
    rw [ho] at hr
    have := sim_store h (hop x (by simp [ho, Op.operands])) (hop y (by simp [ho, Op.operands])) hr
    simpa only [execOp, ho] using this
  | nilCheck x => exact sim_nilCheck h ho (hop x (by simp [ho, Op.operands])) (by rw [ho] at hr; exact hr)
  | binOp op t x y u =>
    rw [ho] at hr
    have := sim_binOp (xo := x) (yo := y) h (hop x (by simp [ho, Op.operands])) (hop y (by simp [ho, Op.operands])) hr
    simpa only [execOp, ho] using this
  | unOp op t x =>
    rw [ho] at hr
    have := sim_unOp h (hop x (by simp [ho, Op.operands])) hr
    simpa only [execOp, ho] using this
  | convert s d x =>
    rw [ho] at hr
    have := sim_convert h (hop x (by simp [ho, Op.operands])) hr
    simpa only [execOp, ho] using this
  | makeFunc fn xs ys =>
    rw [ho] at hr hall
    have h1 : xs.toList.all (okO a.tmps.size) = true := by
      rw [List.all_eq_true]; intro x hx; exact List.all_eq_true.1 hall x (by simp only [Op.operands, Array.toList_append, List.mem_append]; exact .inl hx)
    have h2 : ys.toList.all (okO a.tmps.size) = true := by
      rw [List.all_eq_true]; intro x hx; exact List.all_eq_true.1 hall x (by simp only [Op.operands, Array.toList_append, List.mem_append]; exact .inr hx)
    have := sim_makeFunc h htm (xs := xs) (ys := ys) h1 h2 hr
    simpa only [execOp, ho] using this
  | makeMap t r =>
    rw [ho] at hr
    cases ht : tyOf P t with
    | map k e =>
      have hr : Ty.rec (motive := fun _ => R) (fun _ => .no) (fun _ _ => .no) (fun _ => .no) (fun _ _ => oMakeMap (evalOpt tm r) H) .no (fun _ => .no) .no .no .no .no (tyOf P t) = .ok v H' := hr
      rw [ht] at hr
      have := sim_makeMap h (hopt r (fun y hy => by subst hy; simp [ho, Op.operands])) ⟨k, e, (tyOf_map ht).1⟩ hr
      simpa only [execOp, ho] using this
    | _ =>
      have hr : Ty.rec (motive := fun _ => R) (fun _ => .no) (fun _ _ => .no) (fun _ => .no) (fun _ _ => oMakeMap (evalOpt tm r) H) .no (fun _ => .no) .no .no .no .no (tyOf P t) = .ok v H' := hr
      rw [ht] at hr; cases hr
  | makeSlice t l c =>
    rw [ho] at hr
    have := sim_makeSlice h (hop l (by simp [ho, Op.operands])) (hop c (by simp [ho, Op.operands])) hr
    simpa only [execOp, ho] using this
  | slice t x lo hi mx =>
    rw [ho] at hr
    have := sim_slice h (hop x (by simp [ho, Op.operands])) (hopt lo (fun y hy => by subst hy; simp [ho, Op.operands])) (hopt hi (fun y hy => by subst hy; simp [ho, Op.operands])) (hopt mx (fun y hy => by subst hy; simp [ho, Op.operands])) hr
    simpa only [execOp, ho] using this
  | fieldAddr t x f =>
    rw [ho] at hr
    have := sim_fieldAddr h (hop x (by simp [ho, Op.operands])) hr
    simpa only [execOp, ho] using this
  | field t x f =>
    rw [ho] at hr
    have := sim_field h (hop x (by simp [ho, Op.operands])) hr
    simpa only [execOp, ho] using this
  | indexAddr t x ix =>
    rw [ho] at hr
    have := sim_indexAddr h (hop x (by simp [ho, Op.operands])) (hop ix (by simp [ho, Op.operands])) hr
    simpa only [execOp, ho] using this
  | index t x ix =>
    rw [ho] at hr
    have := sim_index h (hop x (by simp [ho, Op.operands])) (hop ix (by simp [ho, Op.operands])) hr
    simpa only [execOp, ho] using this
  | lookup t x ix ok =>
    rw [ho] at hr
    have := sim_lookup h (hop x (by simp [ho, Op.operands])) (hop ix (by simp [ho, Op.operands])) hr
    simpa only [execOp, ho] using this
  | extract t i =>
    rw [ho] at hr
    have := sim_extract h (hop t (by simp [ho, Op.operands])) hr
    simpa only [execOp, ho] using this
  | call c => exact absurd ho (hnc c)
  | _ => rw [ho] at hr; cases hr
end Vam
