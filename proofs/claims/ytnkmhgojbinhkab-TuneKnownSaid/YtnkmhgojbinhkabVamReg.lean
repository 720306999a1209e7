/- The plain machine (VamReg): part of a proof by a machine of plain values that is proved right. -/
import Derived.Test.YtnkmhgojbinhkabVamRound
namespace Vam
set_option linter.unusedVariables false
set_option linter.unusedSimpArgs false
open Go
variable {P : Program} {φ : Phi} {H H' : CH} {w : World} {v : V} {E : Ev}

theorem TmR.put {tm : TT} {a : Act} (h : TmR φ tm a.tmps) {d : Option Tmp} {x : V} {xv : Value} (hd : okDst a.tmps.size d = true) (hx : VR φ x xv) :
    TmR φ (setT tm d x) (a.put d xv).tmps ∧ (a.put d xv).tmps.size = a.tmps.size ∧ (a.put d xv).defers = a.defers := by
  cases d with
  | none => exact ⟨h, rfl, rfl⟩
  | some d => exact ⟨h.set (blt_lt hd) hx, by simp [Act.put], rfl⟩

theorem semAt_call {o : Oper} {c : Call} (ho : o.op = .call c) (r : Option Nat) (a : Act) : o.semAt r a.eval = execOp a.eval o :=
  Oper.semAt_eq r a.eval o (fun d hd => by rw [ho] at hd; cases hd)

/-- ONE OPERATION. -/
theorem op_wp (hC : SoundCall P E) (hD : SoundCode P E) (h : Rel P φ H w) {tm : TT} {a : Act} (htm : TmR φ tm a.tmps) {o : Oper} (hok : okOper a.tmps.size o = true) (hr : evOp P E tm H o.op = .ok v H')
    {next : Act → World → Prop} {Q : Exit → Act → World → Prop} {r : Option Nat}
    (hnext : ∀ φ' w' x, Rel P φ' H' w' → Ext φ H w φ' H' w' → VR φ' v x → next (a.put o.dst x) w') : o.wpIn (wideAt r) 0 P a w next Q := by
  by_cases hc : ∃ c, o.op = .call c
  · obtain ⟨c, ho⟩ := hc
    obtain ⟨_, hall⟩ := Bool.and_eq_true_iff.1 hok
    rw [ho] at hr hall
    have hs := semAt_call ho r a
    obtain ⟨callee, args, ts⟩ := c
    have hr : evCallee P E tm args.toList ts.toList H callee = .ok v H' := hr
    have hmap : ∀ A : Array Operand, (A.toList.map a.eval).toArray = A.map a.eval := fun A => by apply Array.ext'; simp
    cases callee with
    | builtin b =>
      have hargs : LR φ (evalL tm args.toList) (args.toList.map a.eval) := evalL_rel htm (by
        rw [List.all_eq_true]; intro x hx; exact List.all_eq_true.1 hall x (by simpa [Op.operands, Call.operands] using hx))
      have := sim_builtin (ts := ts) (ty := o.type) (cn := args.map fun | .const _ => true | _ => false) h hargs (show oBuiltin P b ts.toList (evalL tm args.toList) H = .ok v H' from hr)
      refine wp_of_sim this ?_ hnext
      rw [hs, hmap]
      simp only [execOp, ho, resolve, invoke, Sem.run_bind, Sem.run_pure, Result.andThen_ok]
      rfl
    | value f =>
      have hargs : LR φ (evalL tm args.toList) (args.toList.map a.eval) := evalL_rel htm (by
        rw [List.all_eq_true]; intro x hx; exact List.all_eq_true.1 hall x (by simp [Op.operands, Call.operands]; exact .inr (by simpa using hx)))
      cases f with
      | const _ => cases hr
      | global _ => cases hr
      | func g =>
        obtain ⟨h1, h2⟩ := hC h hargs (show E.call g (evalL tm args.toList) H = .ok v H' from hr)
        refine wp_of_enter (f := g) (args := (args.toList.map a.eval).toArray) ?_ h2 hnext
        rw [hs, hmap]
        simp only [execOp, ho, resolve, Act.eval, Deferred.ofValue, invoke, Sem.run_bind, Sem.run_pure, Result.andThen_ok, Array.empty_append, Array.append_empty]
        exact run_callFunc h1
      | tmp t =>
        have ht : VR φ (tm.get t) (a.eval (.tmp t)) := htm.2 t (blt_lt (List.all_eq_true.1 hall (.tmp t) (by simp [Op.operands, Call.operands])))
        rcases onFunc_ok (show onFunc .no (callFn E (evalL tm args.toList) H) (doRound E (evalL tm args.toList) H) (tm.get t) = .ok v H' from hr) R.ok_ne with ⟨g, x, y, e1, h1⟩ | ⟨l, e1, h1⟩
        · rw [e1] at ht
          generalize hv : a.eval (.tmp t) = fv at ht
          cases ht with
          | func _ _ _ A B hA hB =>
            obtain ⟨h2, h3⟩ := hC h (LR.app hA (LR.app hargs hB)) h1
            refine wp_of_enter (f := g) (args := (A.toList ++ (args.toList.map a.eval ++ B.toList)).toArray) ?_ h3 hnext
            have e2 : (A.toList ++ (args.toList.map a.eval ++ B.toList)).toArray = A ++ args.map a.eval ++ B := by
              apply Array.ext'; simp
            rw [hs, e2]
            simp only [execOp, ho, resolve, hv, Deferred.ofValue, invoke, Sem.run_bind, Sem.run_pure, Result.andThen_ok]
            exact run_callFunc h2
        · rw [e1] at ht
          generalize hv : a.eval (.tmp t) = fv at ht
          cases ht with
          | yield _ k hk =>
            obtain ⟨fn, tmps, x, y, h2, h3⟩ := round_sound hD h hk hargs h1
            refine wp_of_round ?_ h3 hnext
            rw [hs]
            rw [hmap] at h2
            simp only [execOp, ho, resolve, hv, Deferred.ofValue, invoke, Sem.run_bind, Sem.run_pure, Result.andThen_ok, Array.empty_append]
            exact h2
    | invoke _ _ => cases hr
  · have hs := sim_exec h htm hok (fun c hc' => hc ⟨c, hc'⟩) hr
    refine wp_of_sim hs ?_ hnext
    rw [Oper.semAt_eq r a.eval o]
    intro d hd
    rw [hd] at hr; cases hr
end Vam
