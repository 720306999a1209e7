/- rasp's functions and the law's, by the logic of trees: what each gives back for all that it may be given. -/
import Derived.Test.YtdahbimllmapkaaVamRaspMore2
namespace Go.Proofs.Ytdahbimllmapkaa.raspMore
open Vam
set_option linter.unusedVariables false
set_option linter.unusedSimpArgs false
set_option linter.constructorNameAsVariable false
variable {is : FuncId → Bool} {orc : Known}
def tvT (rec : Int → Int → Int) (w : Bool) (off metal : Int) (t : Tri) : Int := if metal < t.c then 32 else cntL w (hitL rec off metal t (widM t)) + 1
theorem hit_bd {rec : Int → Int → Int} (hb : ∀ o m, 0 ≤ rec o m ∧ rec o m ≤ 31) (off metal : Int) (t : Tri) (n : Nat) : ∀ x ∈ hitL rec off metal t n, 0 ≤ x ∧ x ≤ 31 := fun x hx => by
  unfold hitL at hx
  obtain ⟨j, _, rfl⟩ := List.mem_map.1 hx
  exact hb _ _
theorem step_tv {rec : Int → Int → Int} (hb : ∀ o m, 0 ≤ rec o m ∧ rec o m ≤ 31) {w : Bool} {off metal : Int} {tk : Int × Int} {i : Nat} {t : Tri} (hk : tk.2 ≤ 31) : (stepT rec w off metal tk i t).2 = min tk.2 (tvT rec w off metal t) := by
  have hx := hit_bd hb off metal t (widM t)
  have hc := cnt_b (w := w) hx
  unfold stepT tvT
  by_cases h1 : metal < t.c
  · rw [if_pos h1, if_pos h1]; omega
  · rw [if_neg h1, if_neg h1]
    cases w with
    | true =>
      by_cases h2 : (hitL rec off metal t (widM t)).any (fun x => decide (x = 31)) = true
      · have h3 : cntL true (hitL rec off metal t (widM t)) = 31 := by
          obtain ⟨x, hm, h4⟩ := List.any_eq_true.1 h2
          have h4 := of_decide_eq_true h4
          have := foldmax_mem _ 0 x hm
          show List.foldl _ 0 _ = _
          have h5 : List.foldl (fun a b => max a b) 0 (hitL rec off metal t (widM t)) ≤ 31 := hc.2
          omega
        simp only [h2, Bool.and_self, if_true, h3]; omega
      · have h2 : (hitL rec off metal t (widM t)).any (fun x => decide (x = 31)) = false := by rw [← Bool.not_eq_true]; exact h2
        simp only [h2, Bool.and_false]
        by_cases h3 : cntL true (hitL rec off metal t (widM t)) + 1 < tk.2
        · simp [h3]; omega
        · simp [h3]; omega
    | false =>
      by_cases h3 : cntL false (hitL rec off metal t (widM t)) + 1 < tk.2
      · simp [h3]; omega
      · simp [h3]; omega
theorem take_tv {rec : Int → Int → Int} (hb : ∀ o m, 0 ≤ rec o m ∧ rec o m ≤ 31) {w : Bool} {T : List Tri} {off metal : Int} : ∀ i, i ≤ T.length → (takeT T rec w off metal i).2 ≤ 31 ∧ (∀ j t, j < i → T[j]? = some t → (takeT T rec w off metal i).2 ≤ tvT rec w off metal t) ∧ ((takeT T rec w off metal i).2 = 31 ∨ ∃ t ∈ T, (takeT T rec w off metal i).2 = tvT rec w off metal t) := by
  intro i
  induction i with
  | zero => intro _; exact ⟨Int.le_refl 31, fun j t h => absurd h (Nat.not_lt_zero j), .inl rfl⟩
  | succ i ih =>
    intro hi
    obtain ⟨h1, h2, h3⟩ := ih (by omega)
    obtain ⟨t, ht⟩ : ∃ t, T[i]? = some t := ⟨T[i], List.getElem?_eq_getElem (by omega)⟩
    have e : (takeT T rec w off metal (i + 1)).2 = min (takeT T rec w off metal i).2 (tvT rec w off metal t) := by
      show (match T[i]? with | some t => stepT rec w off metal (takeT T rec w off metal i) i t | none => takeT T rec w off metal i).2 = _
      rw [ht]; exact step_tv hb h1
    rw [e]
    refine ⟨by omega, fun j u hj hu => ?_, ?_⟩
    · by_cases e2 : j = i
      · subst e2; rw [ht] at hu; cases hu; omega
      · have := h2 j u (by omega) hu; omega
    · rcases h3 with h3 | ⟨u, hu, h3⟩
      · by_cases h4 : tvT rec w off metal t < 31
        · exact .inr ⟨t, List.mem_of_getElem? ht, by omega⟩
        · exact .inl (by omega)
      · by_cases h4 : tvT rec w off metal t < tvT rec w off metal u
        · exact .inr ⟨t, List.mem_of_getElem? ht, by omega⟩
        · exact .inr ⟨u, hu, by omega⟩
theorem take_le {rec rec' : Int → Int → Int} (hb : ∀ o m, 0 ≤ rec o m ∧ rec o m ≤ 31) (hb' : ∀ o m, 0 ≤ rec' o m ∧ rec' o m ≤ 31) {w w' : Bool} {T T' : List Tri} {off metal metal' : Int} (h : ∀ t ∈ T, ∃ t' ∈ T', tvT rec' w' off metal' t' ≤ tvT rec w off metal t) : (takeT T' rec' w' off metal' T'.length).2 ≤ (takeT T rec w off metal T.length).2 := by
  obtain ⟨_, _, h3⟩ := take_tv hb (w := w) (T := T) (off := off) (metal := metal) T.length (Nat.le_refl _)
  obtain ⟨h1, h2, _⟩ := take_tv hb' (w := w') (T := T') (off := off) (metal := metal') T'.length (Nat.le_refl _)
  rcases h3 with h3 | ⟨t, ht, h3⟩
  · omega
  · obtain ⟨t', ht', h4⟩ := h t ht
    obtain ⟨j, hj⟩ := List.mem_iff_getElem?.1 ht'
    have := h2 j t' (by have := (List.getElem?_eq_some_iff.1 hj).1; omega) hj
    omega
theorem tv_le32 {rec : Int → Int → Int} (hb : ∀ o m, 0 ≤ rec o m ∧ rec o m ≤ 31) (w : Bool) (off metal : Int) (t : Tri) : tvT rec w off metal t ≤ 32 := by
  have hc := cnt_b (w := w) (hit_bd hb off metal t (widM t))
  unfold tvT; split <;> omega
structure Easier (s s' : Shop) (w : Bool) : Prop where
  fine : ∀ off, fineB s off = true → fineB s' off = true
  tool : ∀ t ∈ s.tools, ∃ t' ∈ s'.tools, t.a ≤ t'.a ∧ t'.a ≤ t'.b ∧ t'.b ≤ t.b ∧ t'.c ≤ t.c ∧ (w = false → t'.a = t.a ∧ t'.b = t.b)
theorem cho_easier {s s' : Shop} (hs : SOk s) (hs' : SOk s') {w : Bool} (h : Easier s s' w) : ∀ (n : Nat) (off m m' : Int), 0 ≤ m → m < n → m ≤ m' → (cho s' w off m').2 ≤ (cho s w off m).2 := by
  intro n
  induction n with
  | zero => intro off m m' h0 h1; omega
  | succ n ih =>
    intro off m m' h0 h1 h2
    have b1 : ∀ o m, 0 ≤ (cho s w o m).2 ∧ (cho s w o m).2 ≤ 31 := fun o m => ⟨(cho_b s w o m).1, (cho_b s w o m).2.1⟩
    have b2 : ∀ o m, 0 ≤ (cho s' w o m).2 ∧ (cho s' w o m).2 ≤ 31 := fun o m => ⟨(cho_b s' w o m).1, (cho_b s' w o m).2.1⟩
    by_cases hf : fineB s' off = true
    · rw [cho_fine hs' (by omega) hf]; exact (b1 _ _).1
    · have hf1 : ¬ fineB s off = true := fun e => hf (h.fine off e)
      rw [cho_eq hs h0, cho_eq hs' (by omega : 0 ≤ m'), if_neg hf, if_neg hf1]
      by_cases ho : offB off = true
      · rw [if_pos ho, if_pos ho]
        refine take_le b1 b2 fun t ht => ?_
        obtain ⟨t', ht', r1, r2, r3, r4, r5⟩ := h.tool t ht
        refine ⟨t', ht', ?_⟩
        by_cases hm : m < t.c
        · have := tv_le32 b2 w off m' t'
          rw [show tvT (fun o m => (cho s w o m).2) w off m t = 32 from if_pos hm]; exact this
        · rw [show tvT (fun o m => (cho s w o m).2) w off m t = _ from if_neg hm, show tvT (fun o m => (cho s' w o m).2) w off m' t' = _ from if_neg (by omega)]
          have hcs := hs.tools t ht
          have key : ∀ d, t'.a ≤ d → d ≤ t'.b → (cho s' w (off + d) (m' - t'.c)).2 ≤ (cho s w (off + d) (m - t.c)).2 := fun d _ _ => ih _ _ _ (by omega) (by omega) (by omega)
          cases w with
          | true =>
            refine Int.add_le_add_right (foldmax_le _ _ _ (foldmax_ge _ 0) fun x hx => ?_) 1
            obtain ⟨d, d1, d2, rfl⟩ := hit_iff.1 hx
            exact Int.le_trans (key d d1 d2) (foldmax_mem _ 0 _ (hit_iff.2 ⟨d, by omega, by omega, rfl⟩))
          | false =>
            obtain ⟨e1, e2⟩ := r5 rfl
            refine Int.add_le_add_right ?_ 1
            show List.foldl _ 31 _ ≤ List.foldl _ 31 _
            rcases foldmin_mem (hitL (fun o m => (cho s false o m).2) off m t (widM t)) 31 with e | e
            · rw [e]; exact foldmin_le _ 31
            · obtain ⟨d, d1, d2, e3⟩ := hit_iff.1 e
              rw [← e3]
              exact Int.le_trans (foldmin_mem_le' _ 31 _ (hit_iff.2 ⟨d, by omega, by omega, rfl⟩)) (key d (by omega) (by omega))
      · rw [if_neg ho, if_neg ho]; exact Int.le_refl _
theorem cho_more {s : Shop} (hs : SOk s) {w : Bool} {off m m' : Int} (h0 : 0 ≤ m) (h : m ≤ m') : (cho s w off m').2 ≤ (cho s w off m).2 :=
  cho_easier hs hs ⟨fun _ h => h, fun t ht => ⟨t, ht, by omega, (hs.tools t ht).2.1, by omega, by omega, fun _ => ⟨rfl, rfl⟩⟩⟩ (m.toNat + 1) off m m' h0 (by omega) h
theorem cho_best {s : Shop} (hs : SOk s) : ∀ (n : Nat) (off m : Int), 0 ≤ m → m < n → (cho s false off m).2 ≤ (cho s true off m).2 := by
  intro n
  induction n with
  | zero => intro off m h0 h1; omega
  | succ n ih =>
    intro off m h0 h1
    have b1 : ∀ o m, 0 ≤ (cho s true o m).2 ∧ (cho s true o m).2 ≤ 31 := fun o m => ⟨(cho_b s true o m).1, (cho_b s true o m).2.1⟩
    have b2 : ∀ o m, 0 ≤ (cho s false o m).2 ∧ (cho s false o m).2 ≤ 31 := fun o m => ⟨(cho_b s false o m).1, (cho_b s false o m).2.1⟩
    rw [cho_eq hs h0, cho_eq hs h0]
    by_cases hf : fineB s off = true
    · rw [if_pos hf, if_pos hf]; exact Int.le_refl _
    · rw [if_neg hf, if_neg hf]
      by_cases ho : offB off = true
      · rw [if_pos ho, if_pos ho]
        refine take_le b1 b2 fun t ht => ⟨t, ht, ?_⟩
        by_cases hm : m < t.c
        · have := tv_le32 b2 false off m t
          rw [show tvT (fun o m => (cho s true o m).2) true off m t = 32 from if_pos hm]; exact this
        · rw [show tvT (fun o m => (cho s true o m).2) true off m t = _ from if_neg hm, show tvT (fun o m => (cho s false o m).2) false off m t = _ from if_neg hm]
          have hcs := hs.tools t ht
          refine Int.add_le_add_right ?_ 1
          show List.foldl _ 31 _ ≤ List.foldl _ 0 _
          refine Int.le_trans (foldmin_mem_le' _ 31 _ (hit_iff.2 ⟨t.a, Int.le_refl _, by omega, rfl⟩)) (Int.le_trans (ih _ _ (by omega) (by omega)) (foldmax_mem _ 0 _ (hit_iff.2 ⟨t.a, Int.le_refl _, by omega, rfl⟩)))
      · rw [if_neg ho, if_neg ho]; exact Int.le_refl _
end Go.Proofs.Ytdahbimllmapkaa.raspMore
