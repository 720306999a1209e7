/- The plain machine (VamDraw10): part of a proof by a machine of plain values that is proved right. -/
import Derived.Test.YtnkmhgojbinhkabVamDraw9
namespace Vam
set_option linter.unusedVariables false
set_option linter.unusedSimpArgs false
open Go
variable {P : Program} {φ : Phi} {H H' K : CH} {w : World} {v : V} {E : Ev}

theorem apartB_ok : ∀ {ps : List (Nat × Nat)} {r : RO} {tm' : TT}, apartB ps r = .ok tm' H' → r = .ok tm' H' ∧ ∀ p ∈ ps, apart1 tm' H' p = true := by
  intro ps r tm' h
  cases r with
  | no => cases h
  | ok tm J =>
    have h : List.rec (motive := fun _ => RO) (.ok tm J) (fun p _ ih => cond (apart1 tm J p) ih .no) ps = .ok tm' H' := h
    have key : ∀ ps : List (Nat × Nat), List.rec (motive := fun _ => RO) (.ok tm J) (fun p _ ih => cond (apart1 tm J p) ih .no) ps = .ok tm' H' → RO.ok tm J = .ok tm' H' ∧ ∀ p ∈ ps, apart1 tm J p = true := by
      intro ps
      induction ps with
      | nil => intro h; exact ⟨h, fun p hp => by cases hp⟩
      | cons p ps ih =>
        intro h
        obtain ⟨h1, h2⟩ := cond_ok (no := RO.no) (show cond (apart1 tm J p) _ RO.no = .ok tm' H' from h) (by intro e; cases e)
        obtain ⟨h3, h4⟩ := ih h2
        exact ⟨h3, fun q hq => by rcases List.mem_cons.1 hq with rfl | hq; exact h1; exact h4 q hq⟩
    obtain ⟨h1, h2⟩ := key ps h
    cases h1
    exact ⟨rfl, h2⟩

theorem its_range (F : List (Oper × Md)) : its F (List.range F.length) = F := by
  apply List.ext_getElem
  · simp [its]
  · intro i h1 h2
    simp [its, h2]

/-- A REGION WHOSE ORDER IS OPEN. -/
theorem draw_sound (hm : P.follows .mixedOrders = true) (hC : SoundCall P E) (hD : SoundCode P E) (hG : CongPure P E) : SoundDraw P E := by
  intro id ops tm tm' ds H H' φ w a r h htm hds hall hdraw hr
  have hr : RS.rec (motive := fun _ => RO) .no (fun l H => apartB (distinct ops.toList) (evDraw P E ops.toList l tm H)) (resv P (drawn P ops.toList) H) = .ok tm' H' := hr
  cases hres : resv P (drawn P ops.toList) H with
  | no => rw [hres] at hr; cases hr
  | ok F H₁ =>
    rw [hres] at hr
    obtain ⟨hrun, hap⟩ := apartB_ok (show apartB (distinct ops.toList) (evDraw P E ops.toList F tm H₁) = .ok tm' H' from hr)
    have hI := resv_ok _ h.nok hres
    have hdr := drawOk hdraw
    have hlenF : F.length = ops.size := by rw [hI.rr.len]; simp [drawn]
    have hat : ∀ k o, ops[k]? = some o → ∃ d, F.getD k dflt = (o, d) ∧ MdOf (modeOf P ops.toList k o) d := by
      intro k o ho
      have hk : (drawn P ops.toList)[k]? = some (o, modeOf P ops.toList k o) := by
        unfold drawn
        rw [List.getElem?_map, List.getElem?_zipIdx]
        simp [ho]
      obtain ⟨d, h1, h2⟩ := hI.rr.get hk
      exact ⟨d, by rw [List.getD_eq_getElem?_getD, h1]; rfl, h2⟩
    have hR : Reg P ops F := by
      refine ⟨hdr, hat, hlenF, ?_⟩
      have key : ∀ i j, i < ops.size → j < ops.size → i < j → ∀ a b, Named (F.getD i dflt) a → Named (F.getD j dflt) b → a ≠ b := by
        intro i j hi hj hij a b ha hb
        have hi' : i < F.length := by omega
        have hj' : j < F.length := by omega
        rw [List.getD_eq_getElem?_getD, List.getElem?_eq_getElem hi'] at ha
        rw [List.getD_eq_getElem?_getD, List.getElem?_eq_getElem hj'] at hb
        exact List.pairwise_iff_getElem.1 hI.apart i j hi' hj' hij a b ha hb
      intro i j hi hj hij a b ha hb
      rcases Nat.lt_or_gt_of_ne hij with h1 | h1
      · exact key i j hi hj h1 a b ha hb
      · exact (key j i hj hi h1 b a hb ha).symm
    have hfin : Apart ops.toList tm' H' := by
      intro i j oi oj p hij hi hj hno hp
      refine hap p ?_
      unfold distinct
      rw [List.mem_flatMap]
      refine ⟨(oj, j), List.mem_zipIdx_iff_getElem?.2 hj, ?_⟩
      rw [List.mem_filterMap]
      refine ⟨(oi, i), List.mem_zipIdx_iff_getElem?.2 (by rw [List.getElem?_take, if_pos hij]; exact hi), ?_⟩
      simp only [hno]
      exact hp
    have hrel : Rel P φ H₁ { w with drawn := w.drawn + 1 } := by
      have h2 : Rel P φ H₁ w := h.like' hI.nok hI.bef (fun b k hb => hI.get b (h.wf b k hb).1 (h.wf b k hb).2.1)
      exact ⟨h2.nok, h2.wf, h2.blk, h2.sep⟩
    have hwr : ∀ b, b.wf → Before b H.n → WrAt H₁ b → WrAt H b := by
      rintro b hb hbn ⟨h1, x, h2, h3⟩
      rw [hI.get b hb hbn] at h2
      exact ⟨by rw [← hI.fz]; exact h1, x, h2, h3⟩
    have hext : Ext φ H w φ H₁ { w with drawn := w.drawn + 1 } :=
      ⟨Phi.le_refl _, hI.fz, fun b k h1 h2 => by (rw [h2] at h1; cases h1), hI.bef, fun b k h1 h2 => by (rw [h2] at h1; cases h1), fun _ _ _ => rfl, fun b hb hbw hw hw' => hw (hwr b hbw hb hw'), fun b hb hbw _ => hI.get b hbw hb, Nat.le_refl _, rfl, rfl, rfl, fun _ => rfl⟩
    have hmemF : ∀ p ∈ F, ∃ k, ∃ o, ops[k]? = some o ∧ F.getD k dflt = p := by
      intro p hp
      obtain ⟨k, hk, hkp⟩ := List.mem_iff_getElem.1 hp
      have hk' : k < ops.size := by omega
      exact ⟨k, ops[k], by simp [hk'], by rw [List.getD_eq_getElem?_getD, List.getElem?_eq_getElem hk, hkp]; rfl⟩
    have hInv : DInv P φ H w F φ H₁ { w with drawn := w.drawn + 1 } := by
      refine ⟨hrel, hext, ?_, hI.pre, ?_, ?_⟩
      · intro p hp i hi
        obtain ⟨q1, q2, q3⟩ := hI.ids p hp i hi
        refine ⟨q1, q2, q3, ?_⟩
        cases hx : φ i with
        | none => rfl
        | some k => exact absurd (h.wf i k hx).2.1 q3
      · intro p hp i hi
        obtain ⟨k, o, ho, rfl⟩ := hmemF p hp
        obtain ⟨d, e1, e2⟩ := hat k o ho
        rw [e1] at hi ⊢
        cases (show d = .lay i from hi)
        have hmode : modeOf P ops.toList k o = .lay := by
          generalize modeOf P ops.toList k o = x at e2
          cases e2; rfl
        exact mode_lay hmode
      · intro p hp ld hld
        obtain ⟨k, o, ho, rfl⟩ := hmemF p hp
        obtain ⟨d, e1, e2⟩ := hat k o ho
        rw [e1] at hld ⊢
        cases (show d = .read ld from hld)
        have hmode : modeOf P ops.toList k o = .read ld := by
          generalize modeOf P ops.toList k o = x at e2
          cases e2; rfl
        exact mode_read hmode
    refine wpIn_region_any hm ?_
    have hits : its F (List.range ops.size) = F := by rw [← hlenF]; exact its_range F
    have hget : ∀ k, (Array.replicate ops.size false).getD k true = if k < ops.size then false else true := by
      intro k
      rw [Array.getD_eq_getD_getElem?, Array.getElem?_replicate]
      split <;> rfl
    refine any_sound hC hD hG hR h hfin (n := a.tmps.size) (df := a.defers) ?_ ops.size (List.range ops.size) (by simp) ⟨List.pairwise_lt_range, fun k hk => by simpa using hk⟩ (by simp) ?_ ?_ (by rw [hits]; exact hInv) htm rfl rfl hall (by rw [hits]; exact hrun)
    · intro a' φ' w' q1 q2 q3 q4 q5
      exact ⟨rfl, φ', q1, q2, q3, q4, by rw [q5]; exact hds.mono q2.le⟩
    · intro k
      rw [hget]
      by_cases hk : k < ops.size <;> simp [hk]
    · intro k o ho hl
      exfalso
      have hk : k < ops.size := (Array.getElem?_eq_some_iff.1 ho).1
      rw [hget, if_pos hk] at hl
      cases hl

/-- THE PLAIN MACHINE IS RIGHT. -/
theorem sound (hm : P.follows .mixedOrders = true) (n : Nat) : SoundCall P (runEv P n) ∧ SoundCode P (runEv P n) := by
  have hP : ∀ E, SoundCode P E → SoundPure P E := fun _ h => pure_sound h
  have : ∀ n, SoundCall P (runEv P n) ∧ SoundCode P (runEv P n) ∧ SoundLoop P (runEv P n) n := by
    intro n
    induction n with
    | zero =>
      refine ⟨?_, ?_, ?_⟩
      · intro f args vs φ H w v H' _ _ hr; cases (show R.no = .ok v H' from hr)
      · intro c tm ds ro fn H ex tm' ds' H' φ w a r _ _ _ _ _ hr; cases (show RC.no = .ok ex tm' ds' H' from hr)
      · intro c tm ds ro fn H ex tm' ds' H' φ w a r _ _ _ _ _ hr; cases (show RC.no = .ok ex tm' ds' H' from hr)
    | succ n ih =>
      obtain ⟨hC, hD, hL⟩ := ih
      have e : runEv P (n + 1) = stepEv P (runEv P n) := rfl
      rw [e]
      refine ⟨?_, step_code hC hD hL (draw_sound hm hC hD (cong_run P n)) (fun h1 h2 h3 h4 h5 h6 => range_sound hC hD h1 h2 h3 h4 h5 h6), step_loop hD hL⟩
      intro f args vs φ H w v H' h ha hr
      obtain ⟨br, hb, hr1⟩ := opt_ok (show opt R.no (cond (pureFn P f) (pureCall P (runEv P n) f args H) (plainCall P (runEv P n) f args H)) (bodyOf P f) = .ok v H' from hr) R.ok_ne
      cases hp : pureFn P f with
      | true => rw [hp] at hr1; exact hP _ hD h ha hb hp hr1
      | false => rw [hp] at hr1; exact plain_sound hD h ha hb hr1
  exact ⟨(this n).1, (this n).2.1⟩

/-- A CALL WITHOUT ARGUMENTS THAT ANSWERS TRUE. -/
theorem calls_run_true (hm : P.follows .mixedOrders = true) (n : Nat) {f : FuncId} {H' : CH} (hr : (runEv P n).call f .nil H0 = .ok (.bool true) H') (w : World) :
    Calls P f #[] w fun e w' => e = .returned (.bool true) ∧ Go.RowKit.Grown w w' := calls_true (sound hm n).1 hr w
#print axioms calls_run_true
end Vam
