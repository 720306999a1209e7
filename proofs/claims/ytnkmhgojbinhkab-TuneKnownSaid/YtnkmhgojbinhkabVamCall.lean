/- The plain machine (VamCall): part of a proof by a machine of plain values that is proved right. -/
import Derived.Test.YtnkmhgojbinhkabVamCode
namespace Vam
set_option linter.unusedVariables false
set_option linter.unusedSimpArgs false
open Go
variable {P : Program} {φ : Phi} {H H' : CH} {w : World} {v : V} {E : Ev}

theorem TT.ofV_cons (x l : V) (i : Nat) (t : TT) : TT.ofV (.cons x l) i t = TT.ofV l (i + 1) (TT.set x t i) := rfl
theorem TT.ofV_nil (i : Nat) (t : TT) : TT.ofV .nil i t = t := rfl

/-- the frame of a call -/
theorem ofV_rel : ∀ {vs : List Value} {args : V} {n i : Nat} {tm : TT} {pre : List Value}, LR φ args vs → pre.length = i → i + vs.length ≤ n →
    TmR φ tm (pre ++ List.replicate (n - i) Go.undef).toArray → TmR φ (TT.ofV args i tm) (pre ++ vs ++ List.replicate (n - (i + vs.length)) Go.undef).toArray := by
  intro vs
  induction vs with
  | nil =>
    intro args n i tm pre ha hi hle ht
    cases ha
    simpa [TT.ofV_nil] using ht
  | cons x vs ih =>
    intro args n i tm pre ha hi hle ht
    cases ha with
    | cons y l _ _ h1 h2 =>
      rw [TT.ofV_cons]
      simp only [List.length_cons] at hle
      have hset := ht.set (d := i) (x := y) (v := x) (by simp; omega) h1
      have e : (pre ++ List.replicate (n - i) Go.undef).toArray.setIfInBounds i x = (pre ++ [x] ++ List.replicate (n - (i + 1)) Go.undef).toArray := by
        rw [show n - i = (n - (i + 1)) + 1 by omega, List.replicate_succ]
        subst hi
        apply Array.ext'
        simp
      rw [e] at hset
      have := ih (pre := pre ++ [x]) (i := i + 1) (n := n) h2 (by simp [hi]) (by omega) hset
      have e2 : pre ++ [x] ++ vs ++ List.replicate (n - (i + 1 + vs.length)) Go.undef = pre ++ (x :: vs) ++ List.replicate (n - (i + (x :: vs).length)) Go.undef := by
        simp [Nat.add_assoc, Nat.add_comm 1]
      rw [e2] at this
      exact this

theorem frame_rel {args : V} {vs : List Value} {n : Nat} (ha : LR φ args vs) (hle : vs.length ≤ n) (hn : n ≤ 1024) : TmR φ (TT.ofV args 0 .leaf) (vs.toArray ++ Array.replicate (n - vs.toArray.size) Go.undef) := by
  have h0 : TmR φ .leaf (([] : List Value) ++ List.replicate (n - 0) Go.undef).toArray := by
    refine ⟨by simpa using hn, fun i hi => ?_⟩
    rw [TT.get_leaf]
    have : (([] : List Value) ++ List.replicate (n - 0) Go.undef).toArray.getD i Go.undef = Go.undef := by
      have hi' : i < n := by simpa using hi
      simp only [List.nil_append, Nat.sub_zero, Array.getD_eq_getD_getElem?]
      simp [hi']
    rw [this]; exact vr_undef φ
  have := ofV_rel (i := 0) (pre := []) (n := n) ha rfl (by omega) h0
  have e : ([] ++ vs ++ List.replicate (n - (0 + vs.length)) Go.undef).toArray = vs.toArray ++ Array.replicate (n - vs.toArray.size) Go.undef := by
    apply Array.ext'; simp
  rw [e] at this
  exact this

/-! ## Results -/

def resOf (tmps : Array Value) : ResultVar → Sem Value
  | .tmp t => pure (tmps.getD t Go.undef)
  | .cell a t => do loadVar t (← asAddr (tmps.getD a Go.undef))

theorem resultsL_cons (tm : TT) (H : CH) (r : ResultVar) (l : List ResultVar) : resultsL P tm H (r :: l) = opt none (fun v => opt none (fun l => some (.cons v l)) (resultsL P tm H l)) (result1 P tm H r) := rfl

theorem result1_rel (h : Rel P φ H w) {tm : TT} {tmps : Array Value} (htm : TmR φ tm tmps) {r : ResultVar} (hok : okRes tmps.size r = true) (hr : result1 P tm H r = some v) :
    ∃ x, (resOf tmps r).run P w = .ok x w ∧ VR φ v x := by
  cases r with
  | tmp t =>
    cases (show some (tm.get t) = some v from hr)
    exact ⟨_, rfl, htm.2 t (blt_lt hok)⟩
  | cell a t =>
    have hx := htm.2 a (blt_lt hok)
    obtain ⟨b, o, e1, h1⟩ := onPtr_ok (no := none) (show onPtr none (loadV P t H) (tm.get a) = some v from hr) (by simp)
    rw [e1] at hx
    generalize hv : tmps.getD a Go.undef = xv at hx
    cases hx with
    | ptr _ _ k hk =>
      obtain ⟨u, h3, h4⟩ := loadV_rel h hk h1
      exact ⟨u, by simp [resOf, hv, asAddr, h3], h4⟩

theorem resultsL_rel (h : Rel P φ H w) {tm : TT} {tmps : Array Value} (htm : TmR φ tm tmps) : ∀ {l : List ResultVar} {vs : V}, l.all (okRes tmps.size) = true → resultsL P tm H l = some vs →
    ∃ xs : List Value, (l.mapM (resOf tmps)).run P w = .ok xs w ∧ LR φ vs xs := by
  intro l
  induction l with
  | nil => intro vs _ hr; cases (show some V.nil = some vs from hr); exact ⟨[], by simp, .nil⟩
  | cons r l ih =>
    intro vs hok hr
    obtain ⟨hok1, hok2⟩ := Bool.and_eq_true_iff.1 (show (okRes tmps.size r && l.all (okRes tmps.size)) = true from hok)
    rw [resultsL_cons] at hr
    obtain ⟨v, h1, h2⟩ := opt_ok (no := none) hr (by simp)
    obtain ⟨vs', h3, h4⟩ := opt_ok (no := none) h2 (by simp)
    cases h4
    obtain ⟨x, g1, g2⟩ := result1_rel h htm hok1 h1
    obtain ⟨xs, g3, g4⟩ := ih hok2 h3
    exact ⟨x :: xs, by simp [List.mapM_cons, g1, g3], .cons _ _ _ _ g2 g4⟩

theorem results_rel (h : Rel P φ H w) {fn : Func} {tm : TT} {tmps : Array Value} (htm : TmR φ tm tmps) (hok : fn.results.toList.all (okRes tmps.size) = true) (hr : resultsV P fn.results.toList tm H = some v) :
    ∃ x, (results fn tmps).run P w = .ok x w ∧ VR φ v x := by
  obtain ⟨vs, h1, h2⟩ := opt_ok (no := none) hr (by simp)
  obtain ⟨xs, h3, h4⟩ := resultsL_rel h htm hok h1
  have hm : (fn.results.mapM (resOf tmps)).run P w = .ok xs.toArray w := by
    rw [Array.mapM_eq_mapM_toList]; simp [h3]
  have hres : (results fn tmps).run P w = .ok (if h : xs.toArray.size = 1 then xs.toArray[0] else .tuple xs.toArray) w := by
    have e : results fn tmps = (do
      let vs ← fn.results.mapM (resOf tmps)
      pure (if h : vs.size = 1 then vs[0] else .tuple vs)) := by
      unfold results
      have : (fun r : ResultVar => (match r with | .tmp t => pure (tmps.getD t Go.undef) | .cell a t => do loadVar t (← asAddr (tmps.getD a Go.undef)) : Sem Value)) = resOf tmps := by
        funext r; cases r <;> rfl
      rw [← this]
      rfl
    rw [e]; simp [hm]
  refine ⟨_, hres, ?_⟩
  rcases onList_ok (no := none) h2 (by simp) with ⟨rfl, h5⟩ | ⟨x, l, rfl, h5⟩
  · cases h5
    obtain rfl := LR.inv_nil h4
    exact vr_undef φ
  · obtain ⟨xv, xs', rfl, h6, h7⟩ := LR.inv_cons h4
    rcases onList_ok (no := none) h5 (by simp) with ⟨rfl, h8⟩ | ⟨_, _, rfl, h8⟩
    · cases h8
      obtain rfl := LR.inv_nil h7
      simpa using h6
    · cases h8
      obtain ⟨yv, ys, rfl, h9, h10⟩ := LR.inv_cons h7
      rw [dif_neg (by simp)]
      exact .tup _ _ (by simpa using h4)

/-! ## On the way out -/

theorem runDefers_cons (b : Id) (ds : List Id) (H : CH) : runDefers (b :: ds) H = onDfr none (fun t => cond t none (opt none (runDefers ds) (H.set b (.dfr true)))) (H.get b) := rfl

theorem leaves_rel {fn : Func} {tmps : Array Value} {R : Ending → World → Prop} : ∀ {ds : List Id} {dl : List Deferred} {H H' : CH} {w : World}, DfR φ ds dl → Rel P φ H w → runDefers ds H = some H' →
    (∀ w', Rel P φ H' w' → Ext φ H w φ H' w' → ∃ v, (results fn tmps).run P w' = .ok v w' ∧ R (.returned v) w') → LeavesInM Fence.wide 0 P fn tmps R dl .returning w := by
  intro ds
  induction ds with
  | nil =>
    intro dl H H' w hd h hr hq
    cases hd
    cases (show some H = some H' from hr)
    obtain ⟨v, h1, h2⟩ := hq w h (.refl _ _ _)
    exact ⟨v, h1, h2⟩
  | cons b ds ih =>
    intro dl H H' w hd h hr hq
    cases hd with
    | cons _ k _ l hk hl =>
      rw [runDefers_cons] at hr
      obtain ⟨x, hx, hbl⟩ := h.blk b k hk
      rw [hx] at hr
      cases x with
      | dfr t =>
        obtain ⟨ht, h1⟩ := cond_ok' (no := none) (show cond t none (opt none (runDefers ds) (H.set b (.dfr true))) = some H' from hr) (by simp)
        subst ht
        obtain ⟨H₁, h2, h3⟩ := opt_ok (no := none) h1 (by simp)
        have hbl : w.heap[k.r]? = some (.deferred (some [])) := hbl
        obtain ⟨q1, q2⟩ := Rel.setObj (y := .dfr true) (o := .deferred none) h hk hx trivial trivial h2 rfl
        refine ⟨by simp, .inl ⟨k.r, _, rfl, ?_, ih hl q1 h3 (fun w' g1 g2 => hq w' g1 (q2.trans h g2))⟩⟩
        have hgo : (getObj k.r).run P w = .ok (.deferred (some [])) w := by simp [getObj, Sem.run, hbl]
        simp only [Instr.takeDeferred, Sem.run_bind, hgo, Result.andThen_ok, setObj_run (P := P) (o' := .deferred none) hbl (by simp), Sem.run_pure]
      | _ => cases hr

theorem bodyOf_some {f : FuncId} {n : Nat} {c : Code} {rs : List ResultVar} (h : bodyOf P f = some (n, c, rs)) : ∃ fn, P.funcs[f]? = some fn ∧ fn.body = some c ∧ fn.ntmps = n ∧ fn.results.toList = rs ∧
    n ≤ 1024 ∧ rs.all (okRes n) = true ∧ (fn.name == "runtime.NumGoroutine") = false ∧ okCode P n c = true := by
  unfold bodyOf at h
  split at h
  · cases h
  · rename_i fn hf
    split at h
    · cases h
    · rename_i b hb
      split at h
      · rename_i hok
        cases h
        unfold okFn at hok
        rw [hb] at hok
        simp only [Bool.and_eq_true, Bool.not_eq_true'] at hok
        obtain ⟨⟨⟨h1, h2⟩, h3⟩, h4⟩ := hok
        exact ⟨fn, hf, hb, rfl, rfl, Nat.le_of_ble_eq_true h1, h2, h3, h4⟩
      · cases h

/-- A CALL. -/
theorem plain_sound (hD : SoundCode P E) (h : Rel P φ H w) {f : FuncId} {args : V} {vs : List Value} (ha : LR φ args vs) {br : Nat × Code × List ResultVar} (hb : bodyOf P f = some br)
    (hr : plainCall P E f args H br = .ok v H') : Texted P f ∧ CallsIn Fence.wide 0 P f vs.toArray w (Back P φ H w v H') := by
  obtain ⟨n, c, rs⟩ := br
  obtain ⟨fn, h1, h2, h3, h4, h5, h6, h7, h8⟩ := bodyOf_some hb
  refine ⟨⟨fn, c, h1, h2, h7⟩, ?_⟩
  obtain ⟨hle, hr⟩ := cond_ok (show cond (Nat.ble (lenV args 0) n) (finishCall P rs (E.code c (TT.ofV args 0 .leaf) [] none f H)) R.no = .ok v H' from hr) R.ok_ne
  have hle : vs.length ≤ n := by
    have := Nat.le_of_ble_eq_true hle
    rw [lenV_eq, LR.len ha] at this; simpa using this
  obtain ⟨ex, tm₁, ds₁, H₁, g1, g2⟩ := RC.inv hr R.ok_ne
  have hfr := frame_rel ha hle h5
  rw [← h3] at hfr
  have hsz : (vs.toArray ++ Array.replicate (fn.ntmps - vs.toArray.size) Go.undef).size = n := by simp; omega
  refine callsIn_of_wp_marks h1 h2 trivial (Go.wpIn_mono (hD (a := { tmps := vs.toArray ++ Array.replicate (fn.ntmps - vs.toArray.size) Go.undef, defers := [] }) (r := none) h hfr .nil (show RoR φ none none from rfl) (by show okCode P (vs.toArray ++ Array.replicate (fn.ntmps - vs.toArray.size) Go.undef).size c = true; rw [hsz]; exact h8) g1) ?_)
  rintro e a₁ w₁ ⟨rfl, φ₁, b1, b2, b3, b4, b5⟩
  have fin : finish2 P rs tm₁ ds₁ H₁ = .ok v H' → LeavesInM Fence.wide 0 P fn a₁.tmps (Back P φ H w v H') a₁.defers .returning w₁ := by
    intro hf
    obtain ⟨H₂, k1, k2⟩ := opt_ok hf R.ok_ne
    obtain ⟨k3, rfl⟩ := pure1_ok k2
    refine leaves_rel b5 b1 k1 (fun w' q1 q2 => ?_)
    have hsz1 : a₁.tmps.size = n := b4.trans hsz
    obtain ⟨x, m1, m2⟩ := results_rel q1 (fn := fn) b3 (by rw [h4, hsz1]; exact h6) (by rw [h4]; exact k3)
    exact ⟨x, m1, x, φ₁, rfl, q1, b2.trans h q2, m2⟩
  cases ex with
  | normal => exact fin g2
  | ret => exact fin g2
  | exit i => cases g2
  | goto i => cases g2
end Vam
