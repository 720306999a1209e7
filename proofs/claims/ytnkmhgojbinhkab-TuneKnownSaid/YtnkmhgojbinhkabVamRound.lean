/- The plain machine (VamRound): part of a proof by a machine of plain values that is proved right. -/
import Derived.Test.YtnkmhgojbinhkabVamSound
namespace Vam
set_option linter.unusedVariables false
set_option linter.unusedSimpArgs false
open Go
variable {P : Program} {φ : Phi} {H H' : CH} {w : World} {v : V} {E : Ev}

theorem setLoop_rel (h : Rel P φ H w) {l : Id} {k : Loc} (hl : φ l = some k) {s s' : LoopState} {pe pe' : Option Code} {fn : FuncId} {tm : TT} {ps : List Nat} {x y : Code} {d : Id}
    (hg : H.get l = some (.loop s pe fn tm ps x y d)) (hs : H.set l (.loop s' pe' fn tm ps x y d) = some H') (hpe : ∀ c, pe' = some c → ∀ n, okCode P n c = true) :
    ∃ (r : Loop) (w' : World), (Instr.getLoop k.r).run P w = .ok r w ∧ r.state = s ∧ r.pending = pe ∧ (setObj k.r (.loop { r with state := s', pending := pe' })).run P w = .ok () w' ∧
      Rel P φ H' w' ∧ Ext φ H w φ H' w' := by
  obtain ⟨tmps, kd, fn', h1, h2, h3, h4, h5, h6, h7, h8⟩ := getLoop_run h hl hg
  obtain ⟨q1, q2⟩ := Rel.setObj (y := .loop s' pe' fn tm ps x y d) (o := .loop { state := s', pending := pe', fn := fn', tmps, params := ps.toArray, assign := x, body := y, defers := kd.r }) h hl hg trivial trivial hs
    ⟨tmps, kd, fn', h1, rfl, h4, h5, h6, h7, hpe⟩
  exact ⟨_, _, h3, rfl, rfl, setObj_run h2 (by simp), q1, q2⟩

theorem beginRound_rel (h : Rel P φ H w) {l : Id} {k : Loc} (hl : φ l = some k) {pe : Option Code} {fn : FuncId} {tm : TT} {ps : List Nat} {x y : Code} {d : Id}
    (hg : H.get l = some (.loop .ready pe fn tm ps x y d)) (hs : H.set l (.loop .busy pe fn tm ps x y d) = some H') :
    ∃ w', (Instr.beginRound k.r).run P w = .ok () w' ∧ Rel P φ H' w' ∧ Ext φ H w φ H' w' := by
  obtain ⟨r, w', h1, h2, h3, h4, h5, h6⟩ := setLoop_rel h hl hg hs (getLoop_run h hl hg).choose_spec.choose_spec.choose_spec.2.2.2.2.2.2.2
  refine ⟨w', ?_, h5, h6⟩
  have e : ({ r with state := .busy, pending := pe } : Loop) = { r with state := .busy } := by rw [← h3]
  rw [e] at h4
  simp [Instr.beginRound, h1, h4, h2]

theorem endRound_rel (h : Rel P φ H w) {l : Id} {k : Loc} (hl : φ l = some k) {s : LoopState} {pe : Option Code} {fn : FuncId} {tm : TT} {ps : List Nat} {x y : Code} {d : Id} {j : Option Code}
    (hg : H.get l = some (.loop s pe fn tm ps x y d)) (hs : H.set l (.loop (if j.isNone then .ready else .done) j fn tm ps x y d) = some H') (hj : ∀ c, j = some c → ∀ n, okCode P n c = true) :
    ∃ w', (Instr.endRound k.r j).run P w = .ok (.bool j.isNone) w' ∧ Rel P φ H' w' ∧ Ext φ H w φ H' w' := by
  obtain ⟨r, w', h1, h2, h3, h4, h5, h6⟩ := setLoop_rel h hl hg hs hj
  refine ⟨w', ?_, h5, h6⟩
  simp only [Instr.endRound, Sem.run_bind, h1, Result.andThen_ok]
  rw [h4]; rfl

theorem endLoop_rel (h : Rel P φ H w) {l : Id} {k : Loc} (hl : φ l = some k) {s : LoopState} {pe : Option Code} {fn : FuncId} {tm : TT} {ps : List Nat} {x y : Code} {d : Id} (hb : s ≠ .busy)
    (hg : H.get l = some (.loop s pe fn tm ps x y d)) (hs : H.set l (.loop .exhausted pe fn tm ps x y d) = some H') :
    ∃ w', (Instr.endLoop k.r).run P w = .ok pe w' ∧ Rel P φ H' w' ∧ Ext φ H w φ H' w' := by
  obtain ⟨r, w', h1, h2, h3, h4, h5, h6⟩ := setLoop_rel h hl hg hs (getLoop_run h hl hg).choose_spec.choose_spec.choose_spec.2.2.2.2.2.2.2
  refine ⟨w', ?_, h5, h6⟩
  subst h3
  have hne : r.state ≠ .busy := by rw [h2]; exact hb
  simp [Instr.endLoop, h1, h4, hne]

/-- ONE ROUND. -/
theorem round_sound (hD : SoundCode P E) (h : Rel P φ H w) {l : Id} {k : Loc} (hl : φ l = some k) {args : V} {vs : List Value} (hargs : LR φ args vs) (hr : doRound E args H l = .ok v H') :
    ∃ fn tmps x y, (Instr.yield k.r vs.toArray).run P w = .ok (.round k.r fn tmps x y) w ∧ RoundIn Fence.wide 0 P k.r fn tmps x y w (Back P φ H w v H') := by
  obtain ⟨s, pe, fn, tm, ps, x, y, d, hg, hr1⟩ := onLoop_ok hr R.ok_ne
  obtain ⟨tm', hset, hr2⟩ := opt_ok hr1 R.ok_ne
  obtain ⟨tmps, kd, fn', h1, h2, h3, h4, h5, h6, h7, h8⟩ := getLoop_run h hl hg
  obtain ⟨q1, q2, q3⟩ := setParams_rel hargs h4 h7 hset
  have hsz : vs.toArray.size = ps.toArray.size := by simp [q1]
  refine ⟨fn', (ps.toArray.zip vs.toArray).foldl (fun tmps (t, a) => tmps.setIfInBounds t a) tmps, x, y, ?_, ?_⟩
  · simp only [Instr.yield, Sem.run_bind, h3, Result.andThen_ok, hsz, ne_eq, not_true, if_false, Sem.run_pure]
  · have hz : (ps.toArray.zip vs.toArray).foldl (fun tmps (t, a) => tmps.setIfInBounds t a) tmps = (ps.zip vs).foldl (fun tmps (t, a) => tmps.setIfInBounds t a) tmps := by
      simp
    rw [hz]
    generalize (ps.zip vs).foldl (fun tmps (t, a) => tmps.setIfInBounds t a) tmps = tmps' at *
    refine roundIn_of_wpIn trivial ?_
    unfold beginRound at hr2
    split at hr2
    · cases hr2
    · rename_i ex tm1 ds1 H1 hc
      split at hr2
      · split at hr2
        · rename_i s1 pe1 fn1 tm1' ps1 x1 y1 d1 hg1
          split at hr2
          · obtain ⟨H2, hs2, hr3⟩ := opt_ok hr2 R.ok_ne
            have := hD (a := { tmps := tmps', defers := [] }) (r := some k.r) h q2 .nil (show RoR φ (some l) (some k.r) from ⟨k, hl, rfl⟩) (by rw [q3]; exact h5) hc
            refine wpIn_mono this ?_
            rintro e a1 w1 ⟨rfl, φ1, b1, b2, b3, b4, b5⟩
            have hl1 := b2.le _ _ hl
            obtain ⟨w2, c1, c2, c3⟩ := beginRound_rel b1 hl1 hg1 hs2
            refine ⟨w2, c1, ?_⟩
            unfold endRound at hr3
            split at hr3
            · cases hr3
            · rename_i ex3 tm3 ds3 H3 hc3
              split at hr3
              · cases hr3
              · split at hr3
                · rename_i s3 pe3 fn3 tm3' ps3 x3 y3 d3 hg3
                  have hbody := hD (a := a1) (r := some k.r) c2 b3 (by exact b5) (show RoR φ1 (some l) (some k.r) from ⟨k, hl1, rfl⟩) (by rw [b4]; show okCode P tmps'.size y = true; rw [q3]; exact h6) hc3
                  refine wpIn_mono hbody ?_
                  rintro e a3 w3 ⟨rfl, φ3, f1, f2, f3, f4, f5⟩
                  have hl3 := f2.le _ _ hl1
                  have hext : Ext φ H w φ3 H3 w3 := (b2.trans h (c3.trans b1 f2))
                  cases ex3 with
                  | normal =>
                    obtain ⟨H4, hs4, hr4⟩ := opt_ok (show opt R.no (R.ok (.bool true)) (H3.set l (.loop .ready none fn3 tm3' ps3 x3 y3 d3)) = .ok v H' from hr3) R.ok_ne
                    cases hr4
                    obtain ⟨w4, g1, g2, g3⟩ := endRound_rel (j := none) f1 hl3 hg3 hs4 (by simp)
                    exact ⟨_, w4, g1, _, φ3, rfl, g2, hext.trans h g3, .bool _⟩
                  | ret =>
                    obtain ⟨H4, hs4, hr4⟩ := opt_ok (show opt R.no (R.ok (.bool false)) (H3.set l (.loop .done (some .ret) fn3 tm3' ps3 x3 y3 d3)) = .ok v H' from hr3) R.ok_ne
                    cases hr4
                    obtain ⟨w4, g1, g2, g3⟩ := endRound_rel (j := some .ret) f1 hl3 hg3 hs4 (by intro c hc n; cases hc; rfl)
                    exact ⟨_, w4, g1, _, φ3, rfl, g2, hext.trans h g3, .bool _⟩
                  | exit i =>
                    obtain ⟨H4, hs4, hr4⟩ := opt_ok (show opt R.no (R.ok (.bool false)) (H3.set l (.loop .done (some (.exit i)) fn3 tm3' ps3 x3 y3 d3)) = .ok v H' from hr3) R.ok_ne
                    cases hr4
                    obtain ⟨w4, g1, g2, g3⟩ := endRound_rel (j := some (.exit i)) f1 hl3 hg3 hs4 (by intro c hc n; cases hc; rfl)
                    exact ⟨_, w4, g1, _, φ3, rfl, g2, hext.trans h g3, .bool _⟩
                  | goto i =>
                    obtain ⟨H4, hs4, hr4⟩ := opt_ok (show opt R.no (R.ok (.bool false)) (H3.set l (.loop .done (some (.goto i)) fn3 tm3' ps3 x3 y3 d3)) = .ok v H' from hr3) R.ok_ne
                    cases hr4
                    obtain ⟨w4, g1, g2, g3⟩ := endRound_rel (j := some (.goto i)) f1 hl3 hg3 hs4 (by intro c hc n; cases hc; rfl)
                    exact ⟨_, w4, g1, _, φ3, rfl, g2, hext.trans h g3, .bool _⟩
                · cases hr3
          · cases hr2
        · cases hr2
      · cases hr2
end Vam
