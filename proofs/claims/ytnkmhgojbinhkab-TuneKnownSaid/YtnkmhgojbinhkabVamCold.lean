/- The plain machine (VamCold): part of a proof by a machine of plain values that is proved right. -/
import Derived.Test.YtnkmhgojbinhkabVamOut
namespace Vam
set_option linter.unusedVariables false
set_option linter.unusedSimpArgs false
open Go
variable {P : Program} {φ : Phi} {H H' : CH} {w : World} {v : V} {E : Ev}

theorem pure1_cold {o : Option V} (h : pure1 H o = .ok v H') : H' = H ∧ ∀ K, pure1 K o = .ok v K := by
  obtain ⟨rfl, rfl⟩ := pure1_ok h
  exact ⟨rfl, fun K => rfl⟩

theorem idx_cold {n : Nat} {ix : V} {f : CH → Nat → R} (hf : ∀ {i v H'}, f H i = .ok v H' → H' = H ∧ ∀ K, f K i = .ok v K) (h : idx .no n (f H) ix = .ok v H') : H' = H ∧ ∀ K, idx .no n (f K) ix = .ok v K := by
  unfold idx at *
  obtain ⟨k, m, rfl, h1⟩ := natOf_ok h R.ok_ne
  obtain ⟨h2, h3⟩ := cond_ok h1 R.ok_ne
  obtain ⟨h4, h5⟩ := hf h3
  refine ⟨h4, fun K => ?_⟩
  have : natOf R.no (fun i => cond (Nat.ble (Nat.succ i) n) (f K i) .no) (.int k (.ofNat m)) = cond (Nat.ble (Nat.succ m) n) (f K m) .no := rfl
  first
    | (rw [this, h2]; exact h5 K)
    | (show cond (Nat.ble (Nat.succ m) n) (f K m) .no = _; rw [h2]; exact h5 K)

/-- AN OPERATION THAT NEITHER READS MEMORY NOR MAKES ANY: the heap does not matter to it. -/
theorem evOp_cold {tm : TT} {o : Op} (hc : heapy o = false) (hr : evOp P E tm H o = R.ok v H') : H' = H ∧ ∀ K, evOp P E tm K o = R.ok v K := by
  cases o with
  | move x | assign x => cases (show R.ok (evalO tm x) H = R.ok v H' from hr); exact ⟨rfl, fun K => rfl⟩
  | pick c x y =>
    obtain ⟨b, e, h1⟩ := onBool_ok (show onBool R.no (fun t => R.ok (cond t (evalO tm x) (evalO tm y)) H) (evalO tm c) = R.ok v H' from hr) R.ok_ne
    cases h1
    refine ⟨rfl, fun K => ?_⟩
    show onBool R.no (fun t => R.ok (cond t (evalO tm x) (evalO tm y)) K) (evalO tm c) = _
    rw [e]; rfl
  | build t ps =>
    obtain ⟨z, e1, h1⟩ := opt_ok (show oBuild P t (evalParts tm ps.toList) H = R.ok v H' from hr) R.ok_ne
    obtain ⟨pl, e2, h2⟩ := opt_ok h1 R.ok_ne
    obtain ⟨l, e3, h3⟩ := opt_ok h2 R.ok_ne
    cases h3
    refine ⟨rfl, fun K => ?_⟩
    show oBuild P t (evalParts tm ps.toList) K = _
    unfold oBuild; rw [e1]
    show opt R.no (fun pl => opt R.no (fun l => R.ok (.agg l) K) (fillL pl (evalParts tm ps.toList) z)) (placeOf P t) = _
    rw [e2]
    show opt R.no (fun l => R.ok (.agg l) K) (fillL pl (evalParts tm ps.toList) z) = _
    rw [e3]; rfl
  | nilCheck x =>
    have hr : oNilCheck (evalO tm x) H = R.ok v H' := hr
    have go : ∀ K, evOp P E tm K (.nilCheck x) = oNilCheck (evalO tm x) K := fun K => rfl
    cases hx : evalO tm x with
    | ptr b n => rw [hx] at hr; cases hr; exact ⟨rfl, fun K => by rw [go, hx]; rfl⟩
    | func f a b => rw [hx] at hr; cases hr; exact ⟨rfl, fun K => by rw [go, hx]; rfl⟩
    | _ => rw [hx] at hr; cases hr
  | binOp op t x y u => exact pure1_cold (o := binV P t op (evalO tm x) (evalO tm y)) hr
  | unOp op t x => exact pure1_cold (o := unV op (evalO tm x)) hr
  | convert s d x =>
    obtain ⟨h1, h2⟩ := cond_ok (show oConvert P s d (evalO tm x) H = R.ok v H' from hr) R.ok_ne
    have go : ∀ K, evOp P E tm K (.convert s d x) = oConvert P s d (evalO tm x) K := fun K => rfl
    unfold oConvert at go
    cases ht : tyOf P d with
    | int k =>
      rw [ht] at h2
      obtain ⟨kk, n, e, h3⟩ := onInt_ok h2 R.ok_ne
      cases h3
      exact ⟨rfl, fun K => by rw [go, h1, ht, e]; rfl⟩
    | string =>
      rw [ht] at h2
      obtain ⟨s', e, h3⟩ := onStr_ok h2 R.ok_ne
      cases h3
      exact ⟨rfl, fun K => by rw [go, h1, ht, e]; rfl⟩
    | _ => rw [ht] at h2; cases h2
  | makeFunc fn xs ys =>
    cases fn with
    | func f => cases (show R.ok (.func f (evalL tm xs.toList) (evalL tm ys.toList)) H = R.ok v H' from hr); exact ⟨rfl, fun K => rfl⟩
    | _ => cases hr
  | slice t x lo hi mx => exact pure1_cold (o := sliceV P t (evalO tm x) (evalOpt tm lo) (evalOpt tm hi) (evalOpt tm mx)) hr
  | fieldAddr t x f =>
    obtain ⟨od, e1, h1⟩ := opt_ok (show oFieldAddr (evalO tm x) H (fieldOf P t f) = R.ok v H' from hr) R.ok_ne
    obtain ⟨b, n, e2, h2⟩ := onPtr_ok h1 R.ok_ne
    cases h2
    refine ⟨rfl, fun K => ?_⟩
    show oFieldAddr (evalO tm x) K (fieldOf P t f) = _
    rw [e1, e2]; rfl
  | field t x f =>
    obtain ⟨od, e1, h1⟩ := opt_ok (show oField P (evalO tm x) H (fieldOf P t f) = R.ok v H' from hr) R.ok_ne
    obtain ⟨l, e2, h2⟩ := onAgg_ok h1 R.ok_ne
    obtain ⟨h3, h4⟩ := pure1_cold h2
    refine ⟨h3, fun K => ?_⟩
    show oField P (evalO tm x) K (fieldOf P t f) = _
    rw [e1, e2]; exact h4 K
  | indexAddr t x ix =>
    have hr : oIndexAddr P t (evalO tm x) (evalO tm ix) H = R.ok v H' := hr
    have go : ∀ K, evOp P E tm K (.indexAddr t x ix) = oIndexAddr P t (evalO tm x) (evalO tm ix) K := fun K => rfl
    unfold oIndexAddr at hr go
    cases ht : tyOf P t with
    | array n e =>
      rw [ht] at hr go
      obtain ⟨b, off, e2, h2⟩ := onPtr_ok hr R.ok_ne
      obtain ⟨h3, h4⟩ := idx_cold (f := fun H i => R.ok (.ptr b (Nat.add off (Nat.mul i (P.cellsOf e)))) H) (fun h => by cases h; exact ⟨rfl, fun K => rfl⟩) h2
      exact ⟨h3, fun K => by rw [go, e2]; exact h4 K⟩
    | slice e =>
      rw [ht] at hr go
      rcases onSlice_ok hr R.ok_ne with ⟨b, off, l, c, s, e2, h2⟩ | ⟨_, h2⟩
      · obtain ⟨h3, h4⟩ := idx_cold (f := fun H i => R.ok (.ptr b (Nat.add off (Nat.mul i (P.cellsOf e)))) H) (fun h => by cases h; exact ⟨rfl, fun K => rfl⟩) h2
        exact ⟨h3, fun K => by rw [go, e2]; exact h4 K⟩
      · cases h2
    | _ => rw [ht] at hr; cases hr
  | index t x ix =>
    have hr : oIndex P t (evalO tm x) (evalO tm ix) H = R.ok v H' := hr
    have go : ∀ K, evOp P E tm K (.index t x ix) = oIndex P t (evalO tm x) (evalO tm ix) K := fun K => rfl
    unfold oIndex at hr go
    cases ht : tyOf P t with
    | array n e =>
      rw [ht] at hr go
      obtain ⟨l, e2, h2⟩ := onAgg_ok hr R.ok_ne
      obtain ⟨h3, h4⟩ := idx_cold (f := fun H i => pure1 H (partV P e l (Nat.mul i (P.cellsOf e)))) (fun h => pure1_cold h) h2
      exact ⟨h3, fun K => by rw [go, e2]; exact h4 K⟩
    | string =>
      rw [ht] at hr go
      obtain ⟨l, e2, h2⟩ := onStr_ok hr R.ok_ne
      obtain ⟨h3, h4⟩ := idx_cold (f := fun H i => opt R.no (fun b => R.ok (.int .u8 (.ofNat b)) H) (nthO l i)) (fun {i v H'} h => by
        obtain ⟨b, e3, h5⟩ := opt_ok h R.ok_ne
        cases h5
        exact ⟨rfl, fun K => by show opt R.no (fun b => R.ok (.int .u8 (.ofNat b)) K) (nthO l i) = _; rw [e3]; rfl⟩) h2
      exact ⟨h3, fun K => by rw [go, e2]; exact h4 K⟩
    | _ => rw [ht] at hr; cases hr
  | extract t i =>
    obtain ⟨l, e2, h2⟩ := onTup_ok (show oExtract H i (evalO tm t) = R.ok v H' from hr) R.ok_ne
    obtain ⟨h3, h4⟩ := pure1_cold h2
    refine ⟨h3, fun K => ?_⟩
    show oExtract K i (evalO tm t) = _
    rw [e2]; exact h4 K
  | _ => cases hc

end Vam
