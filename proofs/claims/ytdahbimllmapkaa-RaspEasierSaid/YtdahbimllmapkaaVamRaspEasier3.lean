/- rasp's functions and the law's, by the logic of trees: what each gives back for all that it may be given. -/
import Derived.Test.YtdahbimllmapkaaVamRaspEasier2
namespace Go.Proofs.Ytdahbimllmapkaa.raspEasier
open Vam
set_option linter.unusedVariables false
set_option linter.unusedSimpArgs false
set_option linter.constructorNameAsVariable false
variable {is : FuncId → Bool} {orc : Known}
def tvT (rec : Int → Int → Int) (w : Bool) (off metal : Int) (t : Tri) : Int := if metal < t.c then 32 else cntL w (hitL rec off metal t (widM t)) + 1
theorem hit_bd {rec : Int → Int → Int} (hb : ∀ o m, 0 ≤ rec o m ∧ rec o m ≤ 31) (off metal : Int) (t : Tri) (n : Nat) : ∀ x ∈ hitL rec off metal t n, 0 ≤ x ∧ x ≤ 31 := fun x hx => by
  unfold hitL at hx
  obtain ⟨j, _, rfl⟩ := List.mem_map.1 hx
  exact hb _ _
theorem step_tv {rec : Int → Int → Int} (hb : ∀ o m, 0 ≤ rec o m ∧ rec o m ≤ 31) {w : Bool} {off metal : Int} {tk : Int × Int} {i : Nat} {t : Tri} (hk : tk.2 ≤ 31) : (stepT rec w off metal tk i t).2 = min tk.2 (tvT rec w off metal t) := by
  have hx := hit_bd hb off metal t (widM t)
  have hc := cnt_b (w := w) hx
  unfold stepT tvT
  by_cases h1 : metal < t.c
  · rw [if_pos h1, if_pos h1]; omega
  · rw [if_neg h1, if_neg h1]
    cases w with
    | true =>
      by_cases h2 : (hitL rec off metal t (widM t)).any (fun x => decide (x = 31)) = true
      · have h3 : cntL true (hitL rec off metal t (widM t)) = 31 := by
          obtain ⟨x, hm, h4⟩ := List.any_eq_true.1 h2
          have h4 := of_decide_eq_true h4
          have := foldmax_mem _ 0 x hm
          show List.foldl _ 0 _ = _
          have h5 : List.foldl (fun a b => max a b) 0 (hitL rec off metal t (widM t)) ≤ 31 := hc.2
          omega
        simp only [h2, Bool.and_self, if_true, h3]; omega
      · have h2 : (hitL rec off metal t (widM t)).any (fun x => decide (x = 31)) = false := by rw [← Bool.not_eq_true]; exact h2
        simp only [h2, Bool.and_false]
        by_cases h3 : cntL true (hitL rec off metal t (widM t)) + 1 < tk.2
        · simp [h3]; omega
        · simp [h3]; omega
    | false =>
      by_cases h3 : cntL false (hitL rec off metal t (widM t)) + 1 < tk.2
      · simp [h3]; omega
      · simp [h3]; omega
theorem take_tv {rec : Int → Int → Int} (hb : ∀ o m, 0 ≤ rec o m ∧ rec o m ≤ 31) {w : Bool} {T : List Tri} {off metal : Int} : ∀ i, i ≤ T.length → (takeT T rec w off metal i).2 ≤ 31 ∧ (∀ j t, j < i → T[j]? = some t → (takeT T rec w off metal i).2 ≤ tvT rec w off metal t) ∧ ((takeT T rec w off metal i).2 = 31 ∨ ∃ t ∈ T, (takeT T rec w off metal i).2 = tvT rec w off metal t) := by
  intro i
  induction i with
  | zero => intro _; exact ⟨Int.le_refl 31, fun j t h => absurd h (Nat.not_lt_zero j), .inl rfl⟩
  | succ i ih =>
    intro hi
    obtain ⟨h1, h2, h3⟩ := ih (by omega)
    obtain ⟨t, ht⟩ : ∃ t, T[i]? = some t := ⟨T[i], List.getElem?_eq_getElem (by omega)⟩
    have e : (takeT T rec w off metal (i + 1)).2 = min (takeT T rec w off metal i).2 (tvT rec w off metal t) := by
      show (match T[i]? with | some t => stepT rec w off metal (takeT T rec w off metal i) i t | none => takeT T rec w off metal i).2 = _
      rw [ht]; exact step_tv hb h1
    rw [e]
    refine ⟨by omega, fun j u hj hu => ?_, ?_⟩
    · by_cases e2 : j = i
      · subst e2; rw [ht] at hu; cases hu; omega
      · have := h2 j u (by omega) hu; omega
    · rcases h3 with h3 | ⟨u, hu, h3⟩
      · by_cases h4 : tvT rec w off metal t < 31
        · exact .inr ⟨t, List.mem_of_getElem? ht, by omega⟩
        · exact .inl (by omega)
      · by_cases h4 : tvT rec w off metal t < tvT rec w off metal u
        · exact .inr ⟨t, List.mem_of_getElem? ht, by omega⟩
        · exact .inr ⟨u, hu, by omega⟩
theorem take_le {rec rec' : Int → Int → Int} (hb : ∀ o m, 0 ≤ rec o m ∧ rec o m ≤ 31) (hb' : ∀ o m, 0 ≤ rec' o m ∧ rec' o m ≤ 31) {w w' : Bool} {T T' : List Tri} {off metal metal' : Int} (h : ∀ t ∈ T, ∃ t' ∈ T', tvT rec' w' off metal' t' ≤ tvT rec w off metal t) : (takeT T' rec' w' off metal' T'.length).2 ≤ (takeT T rec w off metal T.length).2 := by
  obtain ⟨_, _, h3⟩ := take_tv hb (w := w) (T := T) (off := off) (metal := metal) T.length (Nat.le_refl _)
  obtain ⟨h1, h2, _⟩ := take_tv hb' (w := w') (T := T') (off := off) (metal := metal') T'.length (Nat.le_refl _)
  rcases h3 with h3 | ⟨t, ht, h3⟩
  · omega
  · obtain ⟨t', ht', h4⟩ := h t ht
    obtain ⟨j, hj⟩ := List.mem_iff_getElem?.1 ht'
    have := h2 j t' (by have := (List.getElem?_eq_some_iff.1 hj).1; omega) hj
    omega
theorem tv_le32 {rec : Int → Int → Int} (hb : ∀ o m, 0 ≤ rec o m ∧ rec o m ≤ 31) (w : Bool) (off metal : Int) (t : Tri) : tvT rec w off metal t ≤ 32 := by
  have hc := cnt_b (w := w) (hit_bd hb off metal t (widM t))
  unfold tvT; split <;> omega
structure Easier (s s' : Shop) (w : Bool) : Prop where
  fine : ∀ off, fineB s off = true → fineB s' off = true
  tool : ∀ t ∈ s.tools, ∃ t' ∈ s'.tools, t.a ≤ t'.a ∧ t'.a ≤ t'.b ∧ t'.b ≤ t.b ∧ t'.c ≤ t.c ∧ (w = false → t'.a = t.a ∧ t'.b = t.b)
theorem cho_easier {s s' : Shop} (hs : SOk s) (hs' : SOk s') {w : Bool} (h : Easier s s' w) : ∀ (n : Nat) (off m m' : Int), 0 ≤ m → m < n → m ≤ m' → (cho s' w off m').2 ≤ (cho s w off m).2 := by
  intro n
  induction n with
  | zero => intro off m m' h0 h1; omega
  | succ n ih =>
    intro off m m' h0 h1 h2
    have b1 : ∀ o m, 0 ≤ (cho s w o m).2 ∧ (cho s w o m).2 ≤ 31 := fun o m => ⟨(cho_b s w o m).1, (cho_b s w o m).2.1⟩
    have b2 : ∀ o m, 0 ≤ (cho s' w o m).2 ∧ (cho s' w o m).2 ≤ 31 := fun o m => ⟨(cho_b s' w o m).1, (cho_b s' w o m).2.1⟩
    by_cases hf : fineB s' off = true
    · rw [cho_fine hs' (by omega) hf]; exact (b1 _ _).1
    · have hf1 : ¬ fineB s off = true := fun e => hf (h.fine off e)
      rw [cho_eq hs h0, cho_eq hs' (by omega : 0 ≤ m'), if_neg hf, if_neg hf1]
      by_cases ho : offB off = true
      · rw [if_pos ho, if_pos ho]
        refine take_le b1 b2 fun t ht => ?_
        obtain ⟨t', ht', r1, r2, r3, r4, r5⟩ := h.tool t ht
        refine ⟨t', ht', ?_⟩
        by_cases hm : m < t.c
        · have := tv_le32 b2 w off m' t'
          rw [show tvT (fun o m => (cho s w o m).2) w off m t = 32 from if_pos hm]; exact this
        · rw [show tvT (fun o m => (cho s w o m).2) w off m t = _ from if_neg hm, show tvT (fun o m => (cho s' w o m).2) w off m' t' = _ from if_neg (by omega)]
          have hcs := hs.tools t ht
          have key : ∀ d, t'.a ≤ d → d ≤ t'.b → (cho s' w (off + d) (m' - t'.c)).2 ≤ (cho s w (off + d) (m - t.c)).2 := fun d _ _ => ih _ _ _ (by omega) (by omega) (by omega)
          cases w with
          | true =>
            refine Int.add_le_add_right (foldmax_le _ _ _ (foldmax_ge _ 0) fun x hx => ?_) 1
            obtain ⟨d, d1, d2, rfl⟩ := hit_iff.1 hx
            exact Int.le_trans (key d d1 d2) (foldmax_mem _ 0 _ (hit_iff.2 ⟨d, by omega, by omega, rfl⟩))
          | false =>
            obtain ⟨e1, e2⟩ := r5 rfl
            refine Int.add_le_add_right ?_ 1
            show List.foldl _ 31 _ ≤ List.foldl _ 31 _
            rcases foldmin_mem (hitL (fun o m => (cho s false o m).2) off m t (widM t)) 31 with e | e
            · rw [e]; exact foldmin_le _ 31
            · obtain ⟨d, d1, d2, e3⟩ := hit_iff.1 e
              rw [← e3]
              exact Int.le_trans (foldmin_mem_le' _ 31 _ (hit_iff.2 ⟨d, by omega, by omega, rfl⟩)) (key d (by omega) (by omega))
      · rw [if_neg ho, if_neg ho]; exact Int.le_refl _
theorem ty60 : tyOf Try.prog 60 = .array 3 3 := by kernel_rfl
noncomputable def b9 : Code := (Try.f9.body).getD .skip
theorem body9 : bodyOf Try.prog 9 = some (159, b9, [.tmp 6]) := by kernel_rfl
theorem pure9 : pureFn Try.prog 9 = false := by kernel_rfl
def triF (l : List Tri) : List U := l.flatMap fun q => [.int .i64 q.a, .int .i64 q.b, .int .i64 q.c]
theorem triF_flat (l : List Tri) : flatU (trisU l) = triF l := by
  induction l with
  | nil => rfl
  | cons q l ih => show [U.int .i64 q.a, .int .i64 q.b, .int .i64 q.c] ++ flatU (trisU l) = _; rw [ih]; rfl
theorem triF_dg (l : List Tri) : (triF l).map dg = triF l := by
  induction l with
  | nil => rfl
  | cons q l ih => show [U.int .i64 q.a, .int .i64 q.b, .int .i64 q.c] ++ (triF l).map dg = _; rw [ih]; rfl
theorem triF_len (l : List Tri) : (triF l).length = l.length * 3 := by
  induction l with
  | nil => rfl
  | cons q l ih => show (triF l).length + 1 + 1 + 1 = _; rw [ih]; simp; omega
theorem triF_set (l : List Tri) : ∀ (i : Nat) (q : Tri), i < l.length → (triF l).take (i * 3) ++ [.int .i64 q.a, .int .i64 q.b, .int .i64 q.c] ++ (triF l).drop (i * 3 + 3) = triF (l.set i q) := by
  induction l with
  | nil => intro i q h; exact absurd h (Nat.not_lt_zero _)
  | cons x l ih =>
    intro i q h
    cases i with
    | zero => rfl
    | succ i =>
      have := ih i q (by simpa using h)
      show (U.int .i64 x.a :: U.int .i64 x.b :: U.int .i64 x.c :: triF l).take ((i + 1) * 3) ++ _ ++ (U.int .i64 x.a :: U.int .i64 x.b :: U.int .i64 x.c :: triF l).drop ((i + 1) * 3 + 3) = U.int .i64 x.a :: U.int .i64 x.b :: U.int .i64 x.c :: triF (l.set i q)
      rw [← this, show (i + 1) * 3 = i * 3 + 1 + 1 + 1 by omega]; rfl
theorem triF_one (l : List Tri) : (triF l).all oneU = true := by
  induction l with
  | nil => rfl
  | cons q l ih => exact ih
theorem trisU_one (l : List Tri) : (flatU (trisU l)).all oneU = true := by rw [triF_flat]; exact triF_one l
theorem mem_set {α : Type} {l : List α} {i : Nat} {x y : α} (h : y ∈ l.set i x) : y ∈ l ∨ y = x := by
  obtain ⟨j, hj⟩ := List.mem_iff_getElem?.1 h
  by_cases e : i = j
  · subst e
    rw [List.getElem?_set] at hj
    simp at hj
    exact .inr hj.2.symm
  · rw [List.getElem?_set_ne e] at hj
    exact .inl (List.mem_of_getElem? hj)
theorem set_ok {s : Shop} (hk : SOk s) {i : Nat} {q : Tri} (hq : -30 ≤ q.a ∧ q.a ≤ q.b ∧ q.b ≤ 30 ∧ 1 ≤ q.c ∧ q.c ≤ 10) : SOk ⟨s.tools.set i q, s.flo, s.fhi, s.keys⟩ := by
  refine ⟨by show 1 ≤ (s.tools.set i q).length ∧ (s.tools.set i q).length ≤ 4; rw [List.length_set]; exact hk.nt, hk.fine, hk.nk, fun t ht => ?_, hk.keys⟩
  rcases mem_set ht with h | rfl
  · exact hk.tools t h
  · exact hq
theorem set_easier {s : Shop} (hk : SOk s) {i : Nat} {t q : Tri} {w : Bool} (ht : s.tools[i]? = some t) (h : t.a ≤ q.a ∧ q.a ≤ q.b ∧ q.b ≤ t.b ∧ q.c ≤ t.c ∧ (w = false → q.a = t.a ∧ q.b = t.b)) : Easier s ⟨s.tools.set i q, s.flo, s.fhi, s.keys⟩ w := by
  refine ⟨fun _ h => h, fun u hu => ?_⟩
  obtain ⟨j, hj⟩ := List.mem_iff_getElem?.1 hu
  by_cases e : i = j
  · subst e
    rw [ht] at hj; cases hj
    refine ⟨q, List.mem_of_getElem? (i := i) (by show (s.tools.set i q)[i]? = _; rw [List.getElem?_set_self (List.getElem?_eq_some_iff.1 ht).1]), h⟩
  · refine ⟨u, List.mem_of_getElem? (i := j) (by show (s.tools.set i q)[j]? = _; rw [List.getElem?_set_ne e]; exact hj), by omega, (hk.tools u hu).2.1, by omega, by omega, fun _ => ⟨rfl, rfl⟩⟩
theorem fine_ok {s : Shop} (hk : SOk s) {x y : Int} (hx : 0 ≤ x) (hy : 0 ≤ y) : SOk ⟨s.tools, max (-60) (s.flo - x), min 60 (s.fhi + y), s.keys⟩ := by
  have := hk.fine
  exact ⟨hk.nt, by show -60 ≤ max (-60) (s.flo - x) ∧ max (-60) (s.flo - x) ≤ min 60 (s.fhi + y) ∧ min 60 (s.fhi + y) ≤ 60; omega, hk.nk, hk.tools, hk.keys⟩
theorem fine_easier {s : Shop} (hk : SOk s) {x y : Int} (hx : 0 ≤ x) (hy : 0 ≤ y) {w : Bool} : Easier s ⟨s.tools, max (-60) (s.flo - x), min 60 (s.fhi + y), s.keys⟩ w := by
  have := hk.fine
  refine ⟨fun off h => ?_, fun u hu => ⟨u, hu, by omega, (hk.tools u hu).2.1, by omega, by omega, fun _ => ⟨rfl, rfl⟩⟩⟩
  unfold fineB at h ⊢
  simp at h ⊢
  omega
set_option maxHeartbeats 8000000 in
theorem ret9 (hi : Off is) (s : Shop) (a b m0 m1 m2 : Int) (r20 : RetP Try.prog is orc 20 [] (.bool true)) : RetP Try.prog is orc 9 [s.u, .agg [.int .i64 a, .int .i64 b], .agg [.int .i64 m0, .int .i64 m1, .int .i64 m2]] (.bool true) := by
  have hd3 : ∀ u ∈ [s.u, .agg [.int .i64 a, .int .i64 b], .agg [.int .i64 m0, .int .i64 m1, .int .i64 m2]], Dat 8 u := dat_l3 (dat_shop s 5) (dat_span _ _ _) (.agg _ _ (dat_l3 (.int _ _ _) (.int _ _ _) (.int _ _ _)))
  refine ret_of_shared body9 pure9 rfl rfl (fun u hu => ⟨(hd3 u hu).nb, (hd3 u hu).own⟩) (Dat.bool 8 true).nb ?_
  by_cases hv : checkR s.tools s.keys s.flo s.fhi = 0
  · have hk := ok_chk hv
    have hf := hk.fine
    have hnt := hk.nt
    have hb12 : 0 ≤ m1 % 12 ∧ m1 % 12 < 12 := by omega
    have hc12 : 0 ≤ m2 % 12 ∧ m2 % 12 < 12 := by omega
    have q40a := ret40 (orc := orc) hi m1 12 (by omega) (by omega)
    have q40b := ret40 (orc := orc) hi m2 12 (by omega) (by omega)
    have hk2 := fine_ok hk hb12.1 hc12.1
    have he2 := fine_easier hk hb12.1 hc12.1 (w := true)
    have q40c := ret40 (orc := orc) hi m0 s.tools.length (by omega) (by omega)
    have hkk : 0 ≤ m0 % (s.tools.length : Int) ∧ m0 % (s.tools.length : Int) < s.tools.length := ⟨Int.emod_nonneg _ (by omega), Int.emod_lt_of_pos _ (by omega)⟩
    generalize m1 % 12 = x at hb12 q40a hk2 he2
    generalize m2 % 12 = y at hc12 q40b hk2 he2
    generalize m0 % (s.tools.length : Int) = k at hkk q40c
    obtain ⟨j, rfl⟩ : ∃ j : Nat, k = j := ⟨k.toNat, by omega⟩
    obtain ⟨t, hq⟩ : ∃ t, s.tools[j]? = some t := ⟨s.tools[j], List.getElem?_eq_getElem (by omega)⟩
    have hjl : j < s.tools.length := by omega
    have hb := hk.tools t (List.mem_of_getElem? hq)
    have hdl := draw_b (a := t.a) (b := t.b) m1 hb.2.1
    have q36a := ret36 (orc := orc) hi t.a t.b m1 (by omega)
    generalize drawI t.a t.b m1 = lo at hdl q36a
    have hdu := draw_b (a := lo) (b := t.b) m2 (by omega)
    have q36b := ret36 (orc := orc) hi lo t.b m2 (by omega)
    generalize drawI lo t.b m2 = up at hdu q36b
    have hk1 := set_ok hk (i := j) (q := ⟨lo, up, t.c⟩) (by show -30 ≤ lo ∧ lo ≤ up ∧ up ≤ 30 ∧ 1 ≤ t.c ∧ t.c ≤ 10; omega)
    have he1 := set_easier hk (q := ⟨lo, up, t.c⟩) (w := true) hq (by show t.a ≤ lo ∧ lo ≤ up ∧ up ≤ t.b ∧ t.c ≤ t.c ∧ (true = false → _); exact ⟨by omega, by omega, by omega, by omega, fun h => by cases h⟩)
    have hset : (triF s.tools).take (0 + ((j : Int)).toNat * 3) ++ [.int .i64 lo, .int .i64 up, .int .i64 t.c] ++ (triF s.tools).drop (0 + ((j : Int)).toNat * 3 + 3) = triF (s.tools.set j ⟨lo, up, t.c⟩) := by
      rw [Int.toNat_natCast, Nat.zero_add]; exact triF_set s.tools j ⟨lo, up, t.c⟩ hjl
    have hfl := triF_len s.tools
    have hmb : 0 ≤ b % 31 ∧ b % 31 ≤ 30 := by omega
    have l1 := cho_easier hk hk2 he2 31 (a % 121 - 60) (b % 31) (b % 31) hmb.1 (by omega) (Int.le_refl _)
    have l2 := cho_easier hk hk1 he1 31 (a % 121 - 60) (b % 31) (b % 31) hmb.1 (by omega) (Int.le_refl _)
    have c0 := cho_b s true (a % 121 - 60) (b % 31)
    have q14 := ret14g (orc := orc) hi hk (st_off a) (st_met b)
    have q14x := ret14g (orc := orc) hi hk2 (st_off a) (st_met b)
    have q14y := ret14g (orc := orc) hi hk1 (st_off a) (st_met b)
    generalize cho s true (a % 121 - 60) (b % 31) = c at c0 q14 l1 l2
    generalize cho ⟨s.tools, max (-60) (s.flo - x), min 60 (s.fhi + y), s.keys⟩ true (a % 121 - 60) (b % 31) = cx at q14x l1
    generalize cho ⟨s.tools.set j ⟨lo, up, t.c⟩, s.flo, s.fhi, s.keys⟩ true (a % 121 - 60) (b % 31) = cy at q14y l2
    refine k_seq (k_region ?_)
    refine o_box rfl rfl ?_
    refine o_box rfl rfl ?_
    refine o_box rfl rfl ?_
    refine o_assign rfl ?_
    refine o_nil ?_
    refine k_gen [(3, U.box 0 0), (4, U.box 1 0), (5, U.box 2 0)] ([SB.box [U.lst Kd.ro 3 (trisU (Shop.tools s)), .int .i64 (Shop.flo s), .int .i64 (Shop.fhi s), U.lst Kd.ro 3 (trisU (Shop.keys s))], SB.box [.int .i64 a, .int .i64 b], SB.box [.int .i64 m0, .int .i64 m1, .int .i64 m2]]) (.cons rfl (.cons rfl (.cons rfl (.nil rfl)))) rfl fun fr => ?_
    refine k_seq ?_
    refine k_seq (k_region ?_)
    refine o_loadN rfl rfl rfl sh27 rfl ?_
    refine o_call rfl (ret32 hi hk) (.lrefl _) ?_
    refine o_not rfl rfl ?_
    refine o_nil ?_
    refine k_cF rfl rfl ?_
    refine k_skip ?_
    refine k_seq (k_region ?_)
    refine o_loadN rfl rfl rfl sh28 rfl ?_
    refine o_call rfl (ret33 hi ..) (.lrefl _) ?_
    refine o_move rfl ?_
    refine o_extract rfl rfl rfl ?_
    refine o_extract rfl rfl rfl ?_
    refine o_assign rfl ?_
    refine o_assign rfl ?_
    refine o_nil ?_
    refine k_seq (k_region ?_)
    refine o_loadN rfl rfl rfl sh27 rfl ?_
    refine o_move rfl ?_
    refine o_move rfl ?_
    refine o_call rfl (q14) (.lrefl _) ?_
    refine o_move rfl ?_
    refine o_extract rfl rfl rfl ?_
    refine o_extract rfl rfl rfl ?_
    refine o_extract rfl rfl rfl ?_
    refine o_assign rfl ?_
    refine o_assign rfl ?_
    refine o_assign rfl ?_
    refine o_nil ?_
    refine k_gen [(3, U.box 0 0), (5, U.box 2 0), (7, .int .i64 (a % (121 : Int) - (60 : Int))), (8, .int .i64 (b % (31 : Int))), (10, .int .i64 (nxn c)), (11, .int .i64 (nxe c))] ([SB.box [U.lst Kd.ro 3 (trisU (Shop.tools s)), .int .i64 (Shop.flo s), .int .i64 (Shop.fhi s), U.lst Kd.ro 3 (trisU (Shop.keys s))], SB.box [.int .i64 a, .int .i64 b], SB.box [.int .i64 m0, .int .i64 m1, .int .i64 m2]]) (.cons rfl (.cons rfl (.cons rfl (.cons rfl (.cons rfl (.cons rfl (.nil rfl))))))) rfl fun fr => ?_
    refine k_seq ?_
    refine k_drawA [.read true, .read true, .pre, .pre, .plain, .plain] [(3, 12)] (by kernel_rfl) (by kernel_rfl) (by kernel_rfl) ?_
    refine d_load rfl (o_loadN rfl rfl rfl sh27 rfl (o_nil rfl)) ?_
    refine d_load rfl (o_loadN rfl rfl rfl sh27 rfl (o_nil rfl)) ?_
    refine d_pre rfl ze27 ?_
    refine d_pre rfl ze27 ?_
    refine d_plain (o_storeN rfl rfl sh27 rfl rfl rfl rfl rfl (o_nil rfl)) ?_
    refine d_plain (o_storeN rfl rfl sh27 rfl rfl rfl rfl rfl (o_nil rfl)) ?_
    refine d_nil ⟨fun p hp => by simp only [List.mem_cons, List.not_mem_nil, or_false] at hp; rcases hp with rfl <;> exact ⟨_, _, _, _, _, rfl, rfl, Nat.ne_of_beq_eq_false rfl, rfl⟩, ?_⟩
    refine k_gen [(3, U.box 0 0), (5, U.box 2 0), (7, .int .i64 (a % (121 : Int) - (60 : Int))), (8, .int .i64 (b % (31 : Int))), (10, .int .i64 (nxn c)), (11, .int .i64 (nxe c)), (12, U.box 3 0), (13, U.box 4 0)] ([SB.box [U.lst Kd.ro 3 (trisU (Shop.tools s)), .int .i64 (Shop.flo s), .int .i64 (Shop.fhi s), U.lst Kd.ro 3 (trisU (Shop.keys s))], SB.box [.int .i64 a, .int .i64 b], SB.box [.int .i64 m0, .int .i64 m1, .int .i64 m2], SB.box [U.lst Kd.ro 3 (trisU (Shop.tools s)), .int .i64 (Shop.flo s), .int .i64 (Shop.fhi s), U.lst Kd.ro 3 (trisU (Shop.keys s))], SB.box [U.lst Kd.ro 3 (trisU (Shop.tools s)), .int .i64 (Shop.flo s), .int .i64 (Shop.fhi s), U.lst Kd.ro 3 (trisU (Shop.keys s))]]) (.cons rfl (.cons rfl (.cons rfl (.cons rfl (.cons rfl (.cons rfl (.cons rfl (.cons rfl (.nil rfl))))))))) rfl fun fr => ?_
    refine k_seq (k_region ?_)
    refine o_idxA rfl ty60 rfl rfl (by omega) (by omega) cl3 ?_
    refine o_load1 rfl rfl rfl sh3 rfl ?_
    refine o_call rfl (q40a) (.lrefl _) ?_
    refine o_assign rfl ?_
    refine o_nil ?_
    refine k_seq ?_
    refine k_draw [.plain, .plain, .read true, .plain, .plain, .read true, .plain, .plain, .read true, .plain, .read true, .read false, .plain, .read true, .plain, .plain, .plain] (by kernel_rfl) (by kernel_rfl) (by kernel_rfl) ?_
    refine d_plain (o_faddr rfl rfl fld27_1 (o_nil rfl)) ?_
    refine d_plain (o_faddr rfl rfl fld24_0 (o_nil rfl)) ?_
    refine d_load rfl (o_load1 rfl rfl rfl sh3 rfl (o_nil rfl)) ?_
    refine d_plain (o_move rfl (o_nil rfl)) ?_
    refine d_plain (o_sub rfl rfl rfl (by unfold I64; omega) (o_nil rfl)) ?_
    refine d_load rfl (o_max rfl rfl rfl (o_nil rfl)) ?_
    refine d_plain (o_faddr rfl rfl fld27_1 (o_nil rfl)) ?_
    refine d_plain (o_faddr rfl rfl fld24_1 (o_nil rfl)) ?_
    refine d_load rfl (o_load1 rfl rfl rfl sh3 rfl (o_nil rfl)) ?_
    refine d_genA [(3, U.box 0 0), (5, U.box 2 0), (7, .int .i64 (a % (121 : Int) - (60 : Int))), (8, .int .i64 (b % (31 : Int))), (10, .int .i64 (nxn c)), (11, .int .i64 (nxe c)), (12, U.box 3 0), (13, U.box 4 0), (51, .int .i64 (Max.max (-60 : Int) (Shop.flo s - x))), (54, .int .i64 (Shop.fhi s))] [] ([SB.box [U.lst Kd.ro 3 (trisU (Shop.tools s)), .int .i64 (Shop.flo s), .int .i64 (Shop.fhi s), U.lst Kd.ro 3 (trisU (Shop.keys s))], SB.box [.int .i64 a, .int .i64 b], SB.box [.int .i64 m0, .int .i64 m1, .int .i64 m2], SB.box [U.lst Kd.ro 3 (trisU (Shop.tools s)), .int .i64 (Shop.flo s), .int .i64 (Shop.fhi s), U.lst Kd.ro 3 (trisU (Shop.keys s))], SB.box [U.lst Kd.ro 3 (trisU (Shop.tools s)), .int .i64 (Shop.flo s), .int .i64 (Shop.fhi s), U.lst Kd.ro 3 (trisU (Shop.keys s))]]) (.cons rfl (.cons rfl (.cons rfl (.cons rfl (.cons rfl (.cons rfl (.cons rfl (.cons rfl (.cons rfl (.cons rfl (.nil rfl))))))))))) rfl rfl fun fr => ?_
    refine d_plain (o_idxA rfl ty60 rfl rfl (by omega) (by omega) cl3 (o_nil rfl)) ?_
    refine d_load rfl (o_load1 rfl rfl rfl sh3 rfl (o_nil rfl)) ?_
    refine d_callR rfl (q40b) (.int _ _) (.lrefl _) ?_
    refine d_plain (o_add rfl rfl rfl (by unfold I64; omega) (o_nil rfl)) ?_
    refine d_load rfl (o_min rfl rfl rfl (o_nil rfl)) ?_
    refine d_plain (o_call rfl (ret39 hi ..) (.lrefl _) (o_nil rfl)) ?_
    refine d_plain (o_faddr rfl rfl fld27_1 (o_nil rfl)) ?_
    refine d_plain (o_storeN rfl rfl sh24 rfl rfl rfl rfl rfl (o_nil rfl)) ?_
    refine d_nil ?_
    refine k_gen [(3, U.box 0 0), (5, U.box 2 0), (7, .int .i64 (a % (121 : Int) - (60 : Int))), (8, .int .i64 (b % (31 : Int))), (10, .int .i64 (nxn c)), (11, .int .i64 (nxe c)), (12, U.box 3 0), (13, U.box 4 0)] ([SB.box [U.lst Kd.ro 3 (trisU (Shop.tools s)), .int .i64 (Shop.flo s), .int .i64 (Shop.fhi s), U.lst Kd.ro 3 (trisU (Shop.keys s))], SB.box [.int .i64 a, .int .i64 b], SB.box [.int .i64 m0, .int .i64 m1, .int .i64 m2], SB.box [U.lst Kd.ro 3 (trisU (Shop.tools s)), .int .i64 (Max.max (-60 : Int) (Shop.flo s - x)), .int .i64 (Min.min (60 : Int) (Shop.fhi s + y)), U.lst Kd.ro 3 (trisU (Shop.keys s))], SB.box [U.lst Kd.ro 3 (trisU (Shop.tools s)), .int .i64 (Shop.flo s), .int .i64 (Shop.fhi s), U.lst Kd.ro 3 (trisU (Shop.keys s))]]) (.cons rfl (.cons rfl (.cons rfl (.cons rfl (.cons rfl (.cons rfl (.cons rfl (.cons rfl (.nil rfl))))))))) rfl fun fr => ?_
    refine k_seq (k_region ?_)
    refine o_lit (es := []) rfl ty22 ze52 cl52 rfl rfl rfl rfl rfl rfl rfl rfl ?_
    refine o_faddr rfl rfl fld27_0 ?_
    refine o_load1 rfl rfl rfl sh22 rfl ?_
    refine o_appendB rfl ap22_22 rfl rfl (by simp) (by simp) (trisU_one _) (by rw [triF_flat, triF_dg]) (List.length_map _) (by omega) (by omega) ?_
    refine o_faddr rfl rfl fld27_0 ?_
    refine o_store1 rfl rfl sh22 rfl rfl ?_
    refine o_nil ?_
    refine k_gen [(3, U.box 0 0), (5, U.box 2 0), (7, .int .i64 (a % (121 : Int) - (60 : Int))), (8, .int .i64 (b % (31 : Int))), (10, .int .i64 (nxn c)), (11, .int .i64 (nxe c)), (12, U.box 3 0), (13, U.box 4 0)] ([SB.box [U.lst Kd.ro 3 (trisU (Shop.tools s)), .int .i64 (Shop.flo s), .int .i64 (Shop.fhi s), U.lst Kd.ro 3 (trisU (Shop.keys s))], SB.box [.int .i64 a, .int .i64 b], SB.box [.int .i64 m0, .int .i64 m1, .int .i64 m2], SB.box [U.lst Kd.ro 3 (trisU (Shop.tools s)), .int .i64 (Max.max (-60 : Int) (Shop.flo s - x)), .int .i64 (Min.min (60 : Int) (Shop.fhi s + y)), U.lst Kd.ro 3 (trisU (Shop.keys s))], SB.box [U.sl 5 0 (List.length (Shop.tools s)) 3, .int .i64 (Shop.flo s), .int .i64 (Shop.fhi s), U.lst Kd.ro 3 (trisU (Shop.keys s))], SB.box (triF (Shop.tools s))]) (.cons rfl (.cons rfl (.cons rfl (.cons rfl (.cons rfl (.cons rfl (.cons rfl (.cons rfl (.nil rfl))))))))) rfl fun fr => ?_
    refine k_seq (k_region ?_)
    refine o_idxA rfl ty60 rfl rfl (by omega) (by omega) cl3 ?_
    refine o_load1 rfl rfl rfl sh3 rfl ?_
    refine o_faddr rfl rfl fld27_0 ?_
    refine o_load1 rfl rfl rfl sh22 rfl ?_
    refine o_len rfl ty22 rfl (List.length_map _) ?_
    refine o_call rfl (q40c) (.lrefl _) ?_
    refine o_assign rfl ?_
    refine o_nil ?_
    refine k_seq (k_region ?_)
    refine o_faddr rfl rfl fld27_0 ?_
    refine o_load1 rfl rfl rfl sh22 rfl ?_
    refine o_move rfl ?_
    refine o_idx (u := (t).u) rfl ty22 rfl rfl (Int.natCast_nonneg _) (by simp [hq]) cl52 ?_
    refine o_loadRN rfl rfl sh52 rfl ?_
    refine o_alloc rfl ze52 ?_
    refine o_storeN rfl rfl sh52 rfl rfl rfl rfl rfl ?_
    refine o_nil ?_
    refine k_gen [(5, U.box 2 0), (7, .int .i64 (a % (121 : Int) - (60 : Int))), (8, .int .i64 (b % (31 : Int))), (10, .int .i64 (nxn c)), (11, .int .i64 (nxe c)), (12, U.box 3 0), (13, U.box 4 0), (15, .int .i64 ↑j), (16, U.box 6 0)] ([SB.box [U.lst Kd.ro 3 (trisU (Shop.tools s)), .int .i64 (Shop.flo s), .int .i64 (Shop.fhi s), U.lst Kd.ro 3 (trisU (Shop.keys s))], SB.box [.int .i64 a, .int .i64 b], SB.box [.int .i64 m0, .int .i64 m1, .int .i64 m2], SB.box [U.lst Kd.ro 3 (trisU (Shop.tools s)), .int .i64 (Max.max (-60 : Int) (Shop.flo s - x)), .int .i64 (Min.min (60 : Int) (Shop.fhi s + y)), U.lst Kd.ro 3 (trisU (Shop.keys s))], SB.box [U.sl 5 0 (List.length (Shop.tools s)) 3, .int .i64 (Shop.flo s), .int .i64 (Shop.fhi s), U.lst Kd.ro 3 (trisU (Shop.keys s))], SB.box (triF (Shop.tools s)), SB.box [.int .i64 (Tri.a t), .int .i64 (Tri.b t), .int .i64 (Tri.c t)]]) (.cons rfl (.cons rfl (.cons rfl (.cons rfl (.cons rfl (.cons rfl (.cons rfl (.cons rfl (.cons rfl (.nil rfl)))))))))) rfl fun fr => ?_
    refine k_seq (k_region ?_)
    refine o_faddr rfl rfl fld52_0 ?_
    refine o_loadN rfl rfl rfl sh24 rfl ?_
    refine o_idxA rfl ty60 rfl rfl (by omega) (by omega) cl3 ?_
    refine o_load1 rfl rfl rfl sh3 rfl ?_
    refine o_call rfl (q36a) (.lrefl _) ?_
    refine o_assign rfl ?_
    refine o_nil ?_
    refine k_seq ?_
    refine k_draw [.plain, .plain, .plain, .plain, .read true, .read false, .plain, .read true, .plain, .plain, .plain, .plain] (by kernel_rfl) (by kernel_rfl) (by kernel_rfl) ?_
    refine d_plain (o_move rfl (o_nil rfl)) ?_
    refine d_plain (o_move rfl (o_nil rfl)) ?_
    refine d_plain (o_faddr rfl rfl fld52_0 (o_nil rfl)) ?_
    refine d_plain (o_faddr rfl rfl fld24_1 (o_nil rfl)) ?_
    refine d_load rfl (o_load1 rfl rfl rfl sh3 rfl (o_nil rfl)) ?_
    refine d_callR rfl (ret39 hi ..) (flat_span _ _) (.lrefl _) ?_
    refine d_plain (o_idxA rfl ty60 rfl rfl (by omega) (by omega) cl3 (o_nil rfl)) ?_
    refine d_load rfl (o_load1 rfl rfl rfl sh3 rfl (o_nil rfl)) ?_
    refine d_plain (o_call rfl (q36b) (.lrefl _) (o_nil rfl)) ?_
    refine d_plain (o_call rfl (ret39 hi ..) (.lrefl _) (o_nil rfl)) ?_
    refine d_plain (o_faddr rfl rfl fld52_0 (o_nil rfl)) ?_
    refine d_plain (o_storeN rfl rfl sh24 rfl rfl rfl rfl rfl (o_nil rfl)) ?_
    refine d_nil ?_
    refine k_gen [(7, .int .i64 (a % (121 : Int) - (60 : Int))), (8, .int .i64 (b % (31 : Int))), (10, .int .i64 (nxn c)), (11, .int .i64 (nxe c)), (12, U.box 3 0), (13, U.box 4 0), (15, .int .i64 ↑j), (16, U.box 6 0)] ([SB.box [U.lst Kd.ro 3 (trisU (Shop.tools s)), .int .i64 (Shop.flo s), .int .i64 (Shop.fhi s), U.lst Kd.ro 3 (trisU (Shop.keys s))], SB.box [.int .i64 a, .int .i64 b], SB.box [.int .i64 m0, .int .i64 m1, .int .i64 m2], SB.box [U.lst Kd.ro 3 (trisU (Shop.tools s)), .int .i64 (Max.max (-60 : Int) (Shop.flo s - x)), .int .i64 (Min.min (60 : Int) (Shop.fhi s + y)), U.lst Kd.ro 3 (trisU (Shop.keys s))], SB.box [U.sl 5 0 (List.length (Shop.tools s)) 3, .int .i64 (Shop.flo s), .int .i64 (Shop.fhi s), U.lst Kd.ro 3 (trisU (Shop.keys s))], SB.box (triF (Shop.tools s)), SB.box [.int .i64 lo, .int .i64 up, .int .i64 (Tri.c t)]]) (.cons rfl (.cons rfl (.cons rfl (.cons rfl (.cons rfl (.cons rfl (.cons rfl (.cons rfl (.nil rfl))))))))) rfl fun fr => ?_
    refine k_seq (k_region ?_)
    refine o_faddr rfl rfl fld27_0 ?_
    refine o_load1 rfl rfl rfl sh22 rfl ?_
    refine o_move rfl ?_
    refine o_loadN rfl rfl rfl sh52 rfl ?_
    refine o_idxS rfl ty22 rfl rfl (Int.natCast_nonneg _) (by omega) cl52 ?_
    refine o_storeNW rfl rfl sh52 rfl rfl rfl (by rw [hfl]; omega) rfl hset ?_
    refine o_nil ?_
    refine k_gen [(7, .int .i64 (a % (121 : Int) - (60 : Int))), (8, .int .i64 (b % (31 : Int))), (10, .int .i64 (nxn c)), (11, .int .i64 (nxe c)), (12, U.box 3 0), (13, U.box 4 0)] ([SB.box [U.lst Kd.ro 3 (trisU (Shop.tools s)), .int .i64 (Shop.flo s), .int .i64 (Shop.fhi s), U.lst Kd.ro 3 (trisU (Shop.keys s))], SB.box [.int .i64 a, .int .i64 b], SB.box [.int .i64 m0, .int .i64 m1, .int .i64 m2], SB.box [U.lst Kd.ro 3 (trisU (Shop.tools s)), .int .i64 (Max.max (-60 : Int) (Shop.flo s - x)), .int .i64 (Min.min (60 : Int) (Shop.fhi s + y)), U.lst Kd.ro 3 (trisU (Shop.keys s))], SB.box [U.sl 5 0 (List.length (Shop.tools s)) 3, .int .i64 (Shop.flo s), .int .i64 (Shop.fhi s), U.lst Kd.ro 3 (trisU (Shop.keys s))], SB.box (triF (List.set (Shop.tools s) j { a := lo, b := up, c := Tri.c t })), SB.box [.int .i64 lo, .int .i64 up, .int .i64 (Tri.c t)]]) (.cons rfl (.cons rfl (.cons rfl (.cons rfl (.cons rfl (.cons rfl (.nil rfl))))))) rfl fun fr => ?_
    have hfs : flatU (trisU (s.tools.set j ⟨lo, up, t.c⟩)) = (((triF (s.tools.set j ⟨lo, up, t.c⟩)).map dg).drop 0).take (s.tools.length * 3) := by
      rw [triF_dg, triF_flat, List.drop_zero, List.take_of_length_le (by rw [triF_len, List.length_set]; exact Nat.le_refl _)]
    have hez : ∀ e ∈ trisU (s.tools.set j ⟨lo, up, t.c⟩), (cellsU e).length = 3 := fun e he => by
      obtain ⟨q, _, rfl⟩ := List.mem_map.1 he; rfl
    have hel : (trisU (s.tools.set j ⟨lo, up, t.c⟩)).length = s.tools.length := by simp
    have hle : 0 + s.tools.length * 3 ≤ ((triF (s.tools.set j ⟨lo, up, t.c⟩)).map dg).length := by rw [List.length_map, triF_len, List.length_set]; omega
    unfold nxn nxe nxt at *
    by_cases h31 : c.2 = 31
    · rw [if_pos h31] at *
      by_cases hx31 : cx.2 = 31
      · rw [if_pos hx31] at *
        by_cases hy31 : cy.2 = 31
        · rw [if_pos hy31] at *
          refine k_seq (k_region ?_)
          refine o_frz (a := 5) rfl ?_
          refine o_loadN rfl rfl rfl sh27 rfl ?_
          refine o_move rfl ?_
          refine o_move rfl ?_
          refine o_call rfl (q14x) (.lrefl _) ?_
          refine o_move rfl ?_
          refine o_extract rfl rfl rfl ?_
          refine o_extract rfl rfl rfl ?_
          refine o_extract rfl rfl rfl ?_
          refine o_assign rfl ?_
          refine o_assign rfl ?_
          refine o_assign rfl ?_
          refine o_nil ?_
          refine k_gen [(7, .int .i64 (a % (121 : Int) - (60 : Int))), (8, .int .i64 (b % (31 : Int))), (10, .int .i64 0), (11, .int .i64 (if Prod.snd c = (31 : Int) then (4 : Int) else (0 : Int))), (13, U.box 4 0), (19, .int .i64 (if Prod.snd cx = (31 : Int) then (0 : Int) else Prod.snd cx)), (20, .int .i64 (if Prod.snd cx = (31 : Int) then (4 : Int) else (0 : Int)))] ([SB.box [U.lst Kd.ro 3 (trisU (Shop.tools s)), .int .i64 (Shop.flo s), .int .i64 (Shop.fhi s), U.lst Kd.ro 3 (trisU (Shop.keys s))], SB.box [.int .i64 a, .int .i64 b], SB.box [.int .i64 m0, .int .i64 m1, .int .i64 m2], SB.box [U.lst Kd.ro 3 (trisU (Shop.tools s)), .int .i64 (Max.max (-60 : Int) (Shop.flo s - x)), .int .i64 (Min.min (60 : Int) (Shop.fhi s + y)), U.lst Kd.ro 3 (trisU (Shop.keys s))], SB.box [U.sl 5 0 (List.length (Shop.tools s)) 3, .int .i64 (Shop.flo s), .int .i64 (Shop.fhi s), U.lst Kd.ro 3 (trisU (Shop.keys s))], SB.froz (List.map dg (triF (List.set (Shop.tools s) j { a := lo, b := up, c := Tri.c t }))), SB.box [.int .i64 lo, .int .i64 up, .int .i64 (Tri.c t)]]) (.cons rfl (.cons rfl (.cons rfl (.cons rfl (.cons rfl (.cons rfl (.cons rfl (.nil rfl)))))))) rfl fun fr => ?_
          refine k_seq (k_region ?_)
          refine o_loadN rfl rfl rfl sh27 rfl ?_
          refine o_see 108 rfl (fun _ => rfl) (.agg _ _ (.lcons _ _ _ _ (.sl _ _ _ _ _ _ rfl hfs hez hel hle) (.lrefl _))) ?_
          refine o_move rfl ?_
          refine o_move rfl ?_
          refine o_call rfl (q14y) (.lrefl _) ?_
          refine o_move rfl ?_
          refine o_extract rfl rfl rfl ?_
          refine o_extract rfl rfl rfl ?_
          refine o_extract rfl rfl rfl ?_
          refine o_assign rfl ?_
          refine o_assign rfl ?_
          refine o_assign rfl ?_
          refine o_nil ?_
          refine k_gen [(10, .int .i64 0), (11, .int .i64 (if Prod.snd c = (31 : Int) then (4 : Int) else (0 : Int))), (19, .int .i64 (if Prod.snd cx = (31 : Int) then (0 : Int) else Prod.snd cx)), (20, .int .i64 (if Prod.snd cx = (31 : Int) then (4 : Int) else (0 : Int))), (22, .int .i64 (if Prod.snd cy = (31 : Int) then (0 : Int) else Prod.snd cy)), (23, .int .i64 (if Prod.snd cy = (31 : Int) then (4 : Int) else (0 : Int)))] ([SB.box [U.lst Kd.ro 3 (trisU (Shop.tools s)), .int .i64 (Shop.flo s), .int .i64 (Shop.fhi s), U.lst Kd.ro 3 (trisU (Shop.keys s))], SB.box [.int .i64 a, .int .i64 b], SB.box [.int .i64 m0, .int .i64 m1, .int .i64 m2], SB.box [U.lst Kd.ro 3 (trisU (Shop.tools s)), .int .i64 (Max.max (-60 : Int) (Shop.flo s - x)), .int .i64 (Min.min (60 : Int) (Shop.fhi s + y)), U.lst Kd.ro 3 (trisU (Shop.keys s))], SB.box [U.sl 5 0 (List.length (Shop.tools s)) 3, .int .i64 (Shop.flo s), .int .i64 (Shop.fhi s), U.lst Kd.ro 3 (trisU (Shop.keys s))], SB.froz (List.map dg (triF (List.set (Shop.tools s) j { a := lo, b := up, c := Tri.c t }))), SB.box [.int .i64 lo, .int .i64 up, .int .i64 (Tri.c t)]]) (.cons rfl (.cons rfl (.cons rfl (.cons rfl (.cons rfl (.cons rfl (.nil rfl))))))) rfl fun fr => ?_
          refine k_seq ?_
          refine k_seq (k_region ?_)
          refine o_move rfl ?_
          refine o_neq rfl rfl rfl ?_
          refine o_nil ?_
          refine k_gen [(10, .int .i64 0), (11, .int .i64 (if Prod.snd c = (31 : Int) then (4 : Int) else (0 : Int))), (19, .int .i64 (if Prod.snd cx = (31 : Int) then (0 : Int) else Prod.snd cx)), (20, .int .i64 (if Prod.snd cx = (31 : Int) then (4 : Int) else (0 : Int))), (22, .int .i64 (if Prod.snd cy = (31 : Int) then (0 : Int) else Prod.snd cy)), (23, .int .i64 (if Prod.snd cy = (31 : Int) then (4 : Int) else (0 : Int))), (116, U.bool (Decidable.decide ((if Prod.snd c = (31 : Int) then (4 : Int) else (0 : Int)) ≠ (0 : Int))))] ([SB.box [U.lst Kd.ro 3 (trisU (Shop.tools s)), .int .i64 (Shop.flo s), .int .i64 (Shop.fhi s), U.lst Kd.ro 3 (trisU (Shop.keys s))], SB.box [.int .i64 a, .int .i64 b], SB.box [.int .i64 m0, .int .i64 m1, .int .i64 m2], SB.box [U.lst Kd.ro 3 (trisU (Shop.tools s)), .int .i64 (Max.max (-60 : Int) (Shop.flo s - x)), .int .i64 (Min.min (60 : Int) (Shop.fhi s + y)), U.lst Kd.ro 3 (trisU (Shop.keys s))], SB.box [U.sl 5 0 (List.length (Shop.tools s)) 3, .int .i64 (Shop.flo s), .int .i64 (Shop.fhi s), U.lst Kd.ro 3 (trisU (Shop.keys s))], SB.froz (List.map dg (triF (List.set (Shop.tools s) j { a := lo, b := up, c := Tri.c t }))), SB.box [.int .i64 lo, .int .i64 up, .int .i64 (Tri.c t)]]) (.cons rfl (.cons rfl (.cons rfl (.cons rfl (.cons rfl (.cons rfl (.cons rfl (.nil rfl)))))))) rfl fun fr => ?_
          refine k_cT rfl (decide_eq_true (by omega)) ?_
          refine k_seq (k_region ?_)
          refine o_move rfl ?_
          refine o_eql rfl rfl rfl ?_
          refine o_move rfl ?_
          refine o_gD rfl rfl rfl rfl (decide_eq_true (by omega)) ?_
          refine o_move rfl ?_
          refine o_gD rfl rfl rfl rfl (decide_eq_true (by omega)) ?_
          refine o_eql rfl rfl rfl ?_
          refine o_gD rfl rfl rfl rfl (decide_eq_true (by omega)) ?_
          refine o_move rfl ?_
          refine o_gD rfl rfl rfl rfl (decide_eq_false (by omega)) ?_
          refine o_move rfl ?_
          refine o_gD rfl rfl rfl rfl (decide_eq_false (by omega)) ?_
          refine o_move rfl ?_
          refine o_gD rfl rfl rfl rfl (decide_eq_false (by omega)) ?_
          refine o_eql rfl rfl rfl ?_
          refine o_genA [(11, .int .i64 (if Prod.snd c = (31 : Int) then (4 : Int) else (0 : Int))), (23, .int .i64 (if Prod.snd cy = (31 : Int) then (4 : Int) else (0 : Int))), (119, U.bool (Decidable.decide ((if Prod.snd c = (31 : Int) then (4 : Int) else (0 : Int)) = (4 : Int)))), (122, U.bool (Decidable.decide ((if Prod.snd cx = (31 : Int) then (4 : Int) else (0 : Int)) = (0 : Int)))), (125, U.bool (Decidable.decide ((if Prod.snd cx = (31 : Int) then (4 : Int) else (0 : Int)) = if Prod.snd c = (31 : Int) then (4 : Int) else (0 : Int))))] [] ([SB.box [U.lst Kd.ro 3 (trisU (Shop.tools s)), .int .i64 (Shop.flo s), .int .i64 (Shop.fhi s), U.lst Kd.ro 3 (trisU (Shop.keys s))], SB.box [.int .i64 a, .int .i64 b], SB.box [.int .i64 m0, .int .i64 m1, .int .i64 m2], SB.box [U.lst Kd.ro 3 (trisU (Shop.tools s)), .int .i64 (Max.max (-60 : Int) (Shop.flo s - x)), .int .i64 (Min.min (60 : Int) (Shop.fhi s + y)), U.lst Kd.ro 3 (trisU (Shop.keys s))], SB.box [U.sl 5 0 (List.length (Shop.tools s)) 3, .int .i64 (Shop.flo s), .int .i64 (Shop.fhi s), U.lst Kd.ro 3 (trisU (Shop.keys s))], SB.froz (List.map dg (triF (List.set (Shop.tools s) j { a := lo, b := up, c := Tri.c t }))), SB.box [.int .i64 lo, .int .i64 up, .int .i64 (Tri.c t)]]) (.cons rfl (.cons rfl (.cons rfl (.cons rfl (.cons rfl (.nil rfl)))))) rfl rfl fun fr => ?_
          refine o_gD rfl rfl rfl rfl (decide_eq_true (by omega)) ?_
          refine o_genA [(11, .int .i64 (if Prod.snd c = (31 : Int) then (4 : Int) else (0 : Int))), (23, .int .i64 (if Prod.snd cy = (31 : Int) then (4 : Int) else (0 : Int))), (119, U.bool (Decidable.decide ((if Prod.snd c = (31 : Int) then (4 : Int) else (0 : Int)) = (4 : Int)))), (122, U.bool (Decidable.decide ((if Prod.snd cx = (31 : Int) then (4 : Int) else (0 : Int)) = (0 : Int)))), (125, U.bool (Decidable.decide ((if Prod.snd cx = (31 : Int) then (4 : Int) else (0 : Int)) = if Prod.snd c = (31 : Int) then (4 : Int) else (0 : Int))))] [] ([SB.box [U.lst Kd.ro 3 (trisU (Shop.tools s)), .int .i64 (Shop.flo s), .int .i64 (Shop.fhi s), U.lst Kd.ro 3 (trisU (Shop.keys s))], SB.box [.int .i64 a, .int .i64 b], SB.box [.int .i64 m0, .int .i64 m1, .int .i64 m2], SB.box [U.lst Kd.ro 3 (trisU (Shop.tools s)), .int .i64 (Max.max (-60 : Int) (Shop.flo s - x)), .int .i64 (Min.min (60 : Int) (Shop.fhi s + y)), U.lst Kd.ro 3 (trisU (Shop.keys s))], SB.box [U.sl 5 0 (List.length (Shop.tools s)) 3, .int .i64 (Shop.flo s), .int .i64 (Shop.fhi s), U.lst Kd.ro 3 (trisU (Shop.keys s))], SB.froz (List.map dg (triF (List.set (Shop.tools s) j { a := lo, b := up, c := Tri.c t }))), SB.box [.int .i64 lo, .int .i64 up, .int .i64 (Tri.c t)]]) (.cons rfl (.cons rfl (.cons rfl (.cons rfl (.cons rfl (.nil rfl)))))) rfl rfl fun fr => ?_
          refine o_pickF rfl rfl (decide_eq_false (by omega)) ?_
          refine o_pickT rfl rfl (decide_eq_true (by omega)) ?_
          refine o_move rfl ?_
          refine o_gD rfl rfl rfl rfl (decide_eq_true (by omega)) ?_
          refine o_move rfl ?_
          refine o_gD rfl rfl rfl rfl (decide_eq_true (by omega)) ?_
          refine o_eql rfl rfl rfl ?_
          refine o_gD rfl rfl rfl rfl (decide_eq_true (by omega)) ?_
          refine o_move rfl ?_
          refine o_gD rfl rfl rfl rfl (decide_eq_false (by omega)) ?_
          refine o_move rfl ?_
          refine o_gD rfl rfl rfl rfl (decide_eq_false (by omega)) ?_
          refine o_move rfl ?_
          refine o_gD rfl rfl rfl rfl (decide_eq_false (by omega)) ?_
          refine o_eql rfl rfl rfl ?_
          refine o_genA [(128, U.bool (Decidable.decide ((if Prod.snd cx = (31 : Int) then (4 : Int) else (0 : Int)) = if Prod.snd c = (31 : Int) then (4 : Int) else (0 : Int)))), (131, U.bool (Decidable.decide ((if Prod.snd cy = (31 : Int) then (4 : Int) else (0 : Int)) = (0 : Int)))), (134, U.bool (Decidable.decide ((if Prod.snd cy = (31 : Int) then (4 : Int) else (0 : Int)) = if Prod.snd c = (31 : Int) then (4 : Int) else (0 : Int))))] [] ([SB.box [U.lst Kd.ro 3 (trisU (Shop.tools s)), .int .i64 (Shop.flo s), .int .i64 (Shop.fhi s), U.lst Kd.ro 3 (trisU (Shop.keys s))], SB.box [.int .i64 a, .int .i64 b], SB.box [.int .i64 m0, .int .i64 m1, .int .i64 m2], SB.box [U.lst Kd.ro 3 (trisU (Shop.tools s)), .int .i64 (Max.max (-60 : Int) (Shop.flo s - x)), .int .i64 (Min.min (60 : Int) (Shop.fhi s + y)), U.lst Kd.ro 3 (trisU (Shop.keys s))], SB.box [U.sl 5 0 (List.length (Shop.tools s)) 3, .int .i64 (Shop.flo s), .int .i64 (Shop.fhi s), U.lst Kd.ro 3 (trisU (Shop.keys s))], SB.froz (List.map dg (triF (List.set (Shop.tools s) j { a := lo, b := up, c := Tri.c t }))), SB.box [.int .i64 lo, .int .i64 up, .int .i64 (Tri.c t)]]) (.cons rfl (.cons rfl (.cons rfl (.nil rfl)))) rfl rfl fun fr => ?_
          refine o_gD rfl rfl rfl rfl (decide_eq_true (by omega)) ?_
          refine o_genA [(128, U.bool (Decidable.decide ((if Prod.snd cx = (31 : Int) then (4 : Int) else (0 : Int)) = if Prod.snd c = (31 : Int) then (4 : Int) else (0 : Int)))), (131, U.bool (Decidable.decide ((if Prod.snd cy = (31 : Int) then (4 : Int) else (0 : Int)) = (0 : Int)))), (134, U.bool (Decidable.decide ((if Prod.snd cy = (31 : Int) then (4 : Int) else (0 : Int)) = if Prod.snd c = (31 : Int) then (4 : Int) else (0 : Int))))] [] ([SB.box [U.lst Kd.ro 3 (trisU (Shop.tools s)), .int .i64 (Shop.flo s), .int .i64 (Shop.fhi s), U.lst Kd.ro 3 (trisU (Shop.keys s))], SB.box [.int .i64 a, .int .i64 b], SB.box [.int .i64 m0, .int .i64 m1, .int .i64 m2], SB.box [U.lst Kd.ro 3 (trisU (Shop.tools s)), .int .i64 (Max.max (-60 : Int) (Shop.flo s - x)), .int .i64 (Min.min (60 : Int) (Shop.fhi s + y)), U.lst Kd.ro 3 (trisU (Shop.keys s))], SB.box [U.sl 5 0 (List.length (Shop.tools s)) 3, .int .i64 (Shop.flo s), .int .i64 (Shop.fhi s), U.lst Kd.ro 3 (trisU (Shop.keys s))], SB.froz (List.map dg (triF (List.set (Shop.tools s) j { a := lo, b := up, c := Tri.c t }))), SB.box [.int .i64 lo, .int .i64 up, .int .i64 (Tri.c t)]]) (.cons rfl (.cons rfl (.cons rfl (.nil rfl)))) rfl rfl fun fr => ?_
          refine o_pickF rfl rfl (decide_eq_false (by omega)) ?_
          refine o_pickT rfl rfl (decide_eq_true (by omega)) ?_
          refine o_move rfl ?_
          refine o_gD rfl rfl rfl rfl (decide_eq_true (by omega)) ?_
          refine o_call rfl (r20) (.lrefl _) ?_
          refine o_pickT rfl rfl (decide_eq_true (by omega)) ?_
          refine o_assign rfl ?_
          refine o_nil ?_
          refine k_ret ?_
          refine ⟨.inr rfl, _, .cons _ _ _ _ (.tmp 6) .nil, ?_⟩
          exact .refl _
        · rw [if_neg hy31] at *
          refine k_seq (k_region ?_)
          refine o_frz (a := 5) rfl ?_
          refine o_loadN rfl rfl rfl sh27 rfl ?_
          refine o_move rfl ?_
          refine o_move rfl ?_
          refine o_call rfl (q14x) (.lrefl _) ?_
          refine o_move rfl ?_
          refine o_extract rfl rfl rfl ?_
          refine o_extract rfl rfl rfl ?_
          refine o_extract rfl rfl rfl ?_
          refine o_assign rfl ?_
          refine o_assign rfl ?_
          refine o_assign rfl ?_
          refine o_nil ?_
          refine k_gen [(7, .int .i64 (a % (121 : Int) - (60 : Int))), (8, .int .i64 (b % (31 : Int))), (10, .int .i64 0), (11, .int .i64 (if Prod.snd c = (31 : Int) then (4 : Int) else (0 : Int))), (13, U.box 4 0), (19, .int .i64 (if Prod.snd cx = (31 : Int) then (0 : Int) else Prod.snd cx)), (20, .int .i64 (if Prod.snd cx = (31 : Int) then (4 : Int) else (0 : Int)))] ([SB.box [U.lst Kd.ro 3 (trisU (Shop.tools s)), .int .i64 (Shop.flo s), .int .i64 (Shop.fhi s), U.lst Kd.ro 3 (trisU (Shop.keys s))], SB.box [.int .i64 a, .int .i64 b], SB.box [.int .i64 m0, .int .i64 m1, .int .i64 m2], SB.box [U.lst Kd.ro 3 (trisU (Shop.tools s)), .int .i64 (Max.max (-60 : Int) (Shop.flo s - x)), .int .i64 (Min.min (60 : Int) (Shop.fhi s + y)), U.lst Kd.ro 3 (trisU (Shop.keys s))], SB.box [U.sl 5 0 (List.length (Shop.tools s)) 3, .int .i64 (Shop.flo s), .int .i64 (Shop.fhi s), U.lst Kd.ro 3 (trisU (Shop.keys s))], SB.froz (List.map dg (triF (List.set (Shop.tools s) j { a := lo, b := up, c := Tri.c t }))), SB.box [.int .i64 lo, .int .i64 up, .int .i64 (Tri.c t)]]) (.cons rfl (.cons rfl (.cons rfl (.cons rfl (.cons rfl (.cons rfl (.cons rfl (.nil rfl)))))))) rfl fun fr => ?_
          refine k_seq (k_region ?_)
          refine o_loadN rfl rfl rfl sh27 rfl ?_
          refine o_see 108 rfl (fun _ => rfl) (.agg _ _ (.lcons _ _ _ _ (.sl _ _ _ _ _ _ rfl hfs hez hel hle) (.lrefl _))) ?_
          refine o_move rfl ?_
          refine o_move rfl ?_
          refine o_call rfl (q14y) (.lrefl _) ?_
          refine o_move rfl ?_
          refine o_extract rfl rfl rfl ?_
          refine o_extract rfl rfl rfl ?_
          refine o_extract rfl rfl rfl ?_
          refine o_assign rfl ?_
          refine o_assign rfl ?_
          refine o_assign rfl ?_
          refine o_nil ?_
          refine k_gen [(10, .int .i64 0), (11, .int .i64 (if Prod.snd c = (31 : Int) then (4 : Int) else (0 : Int))), (19, .int .i64 (if Prod.snd cx = (31 : Int) then (0 : Int) else Prod.snd cx)), (20, .int .i64 (if Prod.snd cx = (31 : Int) then (4 : Int) else (0 : Int))), (22, .int .i64 (if Prod.snd cy = (31 : Int) then (0 : Int) else Prod.snd cy)), (23, .int .i64 (if Prod.snd cy = (31 : Int) then (4 : Int) else (0 : Int)))] ([SB.box [U.lst Kd.ro 3 (trisU (Shop.tools s)), .int .i64 (Shop.flo s), .int .i64 (Shop.fhi s), U.lst Kd.ro 3 (trisU (Shop.keys s))], SB.box [.int .i64 a, .int .i64 b], SB.box [.int .i64 m0, .int .i64 m1, .int .i64 m2], SB.box [U.lst Kd.ro 3 (trisU (Shop.tools s)), .int .i64 (Max.max (-60 : Int) (Shop.flo s - x)), .int .i64 (Min.min (60 : Int) (Shop.fhi s + y)), U.lst Kd.ro 3 (trisU (Shop.keys s))], SB.box [U.sl 5 0 (List.length (Shop.tools s)) 3, .int .i64 (Shop.flo s), .int .i64 (Shop.fhi s), U.lst Kd.ro 3 (trisU (Shop.keys s))], SB.froz (List.map dg (triF (List.set (Shop.tools s) j { a := lo, b := up, c := Tri.c t }))), SB.box [.int .i64 lo, .int .i64 up, .int .i64 (Tri.c t)]]) (.cons rfl (.cons rfl (.cons rfl (.cons rfl (.cons rfl (.cons rfl (.nil rfl))))))) rfl fun fr => ?_
          refine k_seq ?_
          refine k_seq (k_region ?_)
          refine o_move rfl ?_
          refine o_neq rfl rfl rfl ?_
          refine o_nil ?_
          refine k_gen [(10, .int .i64 0), (11, .int .i64 (if Prod.snd c = (31 : Int) then (4 : Int) else (0 : Int))), (19, .int .i64 (if Prod.snd cx = (31 : Int) then (0 : Int) else Prod.snd cx)), (20, .int .i64 (if Prod.snd cx = (31 : Int) then (4 : Int) else (0 : Int))), (22, .int .i64 (if Prod.snd cy = (31 : Int) then (0 : Int) else Prod.snd cy)), (23, .int .i64 (if Prod.snd cy = (31 : Int) then (4 : Int) else (0 : Int))), (116, U.bool (Decidable.decide ((if Prod.snd c = (31 : Int) then (4 : Int) else (0 : Int)) ≠ (0 : Int))))] ([SB.box [U.lst Kd.ro 3 (trisU (Shop.tools s)), .int .i64 (Shop.flo s), .int .i64 (Shop.fhi s), U.lst Kd.ro 3 (trisU (Shop.keys s))], SB.box [.int .i64 a, .int .i64 b], SB.box [.int .i64 m0, .int .i64 m1, .int .i64 m2], SB.box [U.lst Kd.ro 3 (trisU (Shop.tools s)), .int .i64 (Max.max (-60 : Int) (Shop.flo s - x)), .int .i64 (Min.min (60 : Int) (Shop.fhi s + y)), U.lst Kd.ro 3 (trisU (Shop.keys s))], SB.box [U.sl 5 0 (List.length (Shop.tools s)) 3, .int .i64 (Shop.flo s), .int .i64 (Shop.fhi s), U.lst Kd.ro 3 (trisU (Shop.keys s))], SB.froz (List.map dg (triF (List.set (Shop.tools s) j { a := lo, b := up, c := Tri.c t }))), SB.box [.int .i64 lo, .int .i64 up, .int .i64 (Tri.c t)]]) (.cons rfl (.cons rfl (.cons rfl (.cons rfl (.cons rfl (.cons rfl (.cons rfl (.nil rfl)))))))) rfl fun fr => ?_
          refine k_cT rfl (decide_eq_true (by omega)) ?_
          refine k_seq (k_region ?_)
          refine o_move rfl ?_
          refine o_eql rfl rfl rfl ?_
          refine o_move rfl ?_
          refine o_gD rfl rfl rfl rfl (decide_eq_true (by omega)) ?_
          refine o_move rfl ?_
          refine o_gD rfl rfl rfl rfl (decide_eq_true (by omega)) ?_
          refine o_eql rfl rfl rfl ?_
          refine o_gD rfl rfl rfl rfl (decide_eq_true (by omega)) ?_
          refine o_move rfl ?_
          refine o_gD rfl rfl rfl rfl (decide_eq_false (by omega)) ?_
          refine o_move rfl ?_
          refine o_gD rfl rfl rfl rfl (decide_eq_false (by omega)) ?_
          refine o_move rfl ?_
          refine o_gD rfl rfl rfl rfl (decide_eq_false (by omega)) ?_
          refine o_eql rfl rfl rfl ?_
          refine o_genA [(11, .int .i64 (if Prod.snd c = (31 : Int) then (4 : Int) else (0 : Int))), (23, .int .i64 (if Prod.snd cy = (31 : Int) then (4 : Int) else (0 : Int))), (119, U.bool (Decidable.decide ((if Prod.snd c = (31 : Int) then (4 : Int) else (0 : Int)) = (4 : Int)))), (122, U.bool (Decidable.decide ((if Prod.snd cx = (31 : Int) then (4 : Int) else (0 : Int)) = (0 : Int)))), (125, U.bool (Decidable.decide ((if Prod.snd cx = (31 : Int) then (4 : Int) else (0 : Int)) = if Prod.snd c = (31 : Int) then (4 : Int) else (0 : Int))))] [] ([SB.box [U.lst Kd.ro 3 (trisU (Shop.tools s)), .int .i64 (Shop.flo s), .int .i64 (Shop.fhi s), U.lst Kd.ro 3 (trisU (Shop.keys s))], SB.box [.int .i64 a, .int .i64 b], SB.box [.int .i64 m0, .int .i64 m1, .int .i64 m2], SB.box [U.lst Kd.ro 3 (trisU (Shop.tools s)), .int .i64 (Max.max (-60 : Int) (Shop.flo s - x)), .int .i64 (Min.min (60 : Int) (Shop.fhi s + y)), U.lst Kd.ro 3 (trisU (Shop.keys s))], SB.box [U.sl 5 0 (List.length (Shop.tools s)) 3, .int .i64 (Shop.flo s), .int .i64 (Shop.fhi s), U.lst Kd.ro 3 (trisU (Shop.keys s))], SB.froz (List.map dg (triF (List.set (Shop.tools s) j { a := lo, b := up, c := Tri.c t }))), SB.box [.int .i64 lo, .int .i64 up, .int .i64 (Tri.c t)]]) (.cons rfl (.cons rfl (.cons rfl (.cons rfl (.cons rfl (.nil rfl)))))) rfl rfl fun fr => ?_
          refine o_gD rfl rfl rfl rfl (decide_eq_true (by omega)) ?_
          refine o_genA [(11, .int .i64 (if Prod.snd c = (31 : Int) then (4 : Int) else (0 : Int))), (23, .int .i64 (if Prod.snd cy = (31 : Int) then (4 : Int) else (0 : Int))), (119, U.bool (Decidable.decide ((if Prod.snd c = (31 : Int) then (4 : Int) else (0 : Int)) = (4 : Int)))), (122, U.bool (Decidable.decide ((if Prod.snd cx = (31 : Int) then (4 : Int) else (0 : Int)) = (0 : Int)))), (125, U.bool (Decidable.decide ((if Prod.snd cx = (31 : Int) then (4 : Int) else (0 : Int)) = if Prod.snd c = (31 : Int) then (4 : Int) else (0 : Int))))] [] ([SB.box [U.lst Kd.ro 3 (trisU (Shop.tools s)), .int .i64 (Shop.flo s), .int .i64 (Shop.fhi s), U.lst Kd.ro 3 (trisU (Shop.keys s))], SB.box [.int .i64 a, .int .i64 b], SB.box [.int .i64 m0, .int .i64 m1, .int .i64 m2], SB.box [U.lst Kd.ro 3 (trisU (Shop.tools s)), .int .i64 (Max.max (-60 : Int) (Shop.flo s - x)), .int .i64 (Min.min (60 : Int) (Shop.fhi s + y)), U.lst Kd.ro 3 (trisU (Shop.keys s))], SB.box [U.sl 5 0 (List.length (Shop.tools s)) 3, .int .i64 (Shop.flo s), .int .i64 (Shop.fhi s), U.lst Kd.ro 3 (trisU (Shop.keys s))], SB.froz (List.map dg (triF (List.set (Shop.tools s) j { a := lo, b := up, c := Tri.c t }))), SB.box [.int .i64 lo, .int .i64 up, .int .i64 (Tri.c t)]]) (.cons rfl (.cons rfl (.cons rfl (.cons rfl (.cons rfl (.nil rfl)))))) rfl rfl fun fr => ?_
          refine o_pickF rfl rfl (decide_eq_false (by omega)) ?_
          refine o_pickT rfl rfl (decide_eq_true (by omega)) ?_
          refine o_move rfl ?_
          refine o_gD rfl rfl rfl rfl (decide_eq_true (by omega)) ?_
          refine o_move rfl ?_
          refine o_gD rfl rfl rfl rfl (decide_eq_true (by omega)) ?_
          refine o_eql rfl rfl rfl ?_
          refine o_gD rfl rfl rfl rfl (decide_eq_true (by omega)) ?_
          refine o_move rfl ?_
          refine o_gS rfl rfl rfl rfl (decide_eq_true (by omega)) ?_
          refine o_gS rfl rfl rfl rfl (decide_eq_true (by omega)) ?_
          refine o_gS rfl rfl rfl rfl (decide_eq_true (by omega)) ?_
          refine o_genA [(128, U.bool (Decidable.decide ((if Prod.snd cx = (31 : Int) then (4 : Int) else (0 : Int)) = if Prod.snd c = (31 : Int) then (4 : Int) else (0 : Int)))), (131, U.bool (Decidable.decide ((if Prod.snd cy = (31 : Int) then (4 : Int) else (0 : Int)) = (0 : Int)))), (134, U.tup [])] [] ([SB.box [U.lst Kd.ro 3 (trisU (Shop.tools s)), .int .i64 (Shop.flo s), .int .i64 (Shop.fhi s), U.lst Kd.ro 3 (trisU (Shop.keys s))], SB.box [.int .i64 a, .int .i64 b], SB.box [.int .i64 m0, .int .i64 m1, .int .i64 m2], SB.box [U.lst Kd.ro 3 (trisU (Shop.tools s)), .int .i64 (Max.max (-60 : Int) (Shop.flo s - x)), .int .i64 (Min.min (60 : Int) (Shop.fhi s + y)), U.lst Kd.ro 3 (trisU (Shop.keys s))], SB.box [U.sl 5 0 (List.length (Shop.tools s)) 3, .int .i64 (Shop.flo s), .int .i64 (Shop.fhi s), U.lst Kd.ro 3 (trisU (Shop.keys s))], SB.froz (List.map dg (triF (List.set (Shop.tools s) j { a := lo, b := up, c := Tri.c t }))), SB.box [.int .i64 lo, .int .i64 up, .int .i64 (Tri.c t)]]) (.cons rfl (.cons rfl (.cons rfl (.nil rfl)))) rfl rfl fun fr => ?_
          refine o_gD rfl rfl rfl rfl (decide_eq_true (by omega)) ?_
          refine o_genA [(128, U.bool (Decidable.decide ((if Prod.snd cx = (31 : Int) then (4 : Int) else (0 : Int)) = if Prod.snd c = (31 : Int) then (4 : Int) else (0 : Int)))), (131, U.bool (Decidable.decide ((if Prod.snd cy = (31 : Int) then (4 : Int) else (0 : Int)) = (0 : Int)))), (134, U.tup [])] [] ([SB.box [U.lst Kd.ro 3 (trisU (Shop.tools s)), .int .i64 (Shop.flo s), .int .i64 (Shop.fhi s), U.lst Kd.ro 3 (trisU (Shop.keys s))], SB.box [.int .i64 a, .int .i64 b], SB.box [.int .i64 m0, .int .i64 m1, .int .i64 m2], SB.box [U.lst Kd.ro 3 (trisU (Shop.tools s)), .int .i64 (Max.max (-60 : Int) (Shop.flo s - x)), .int .i64 (Min.min (60 : Int) (Shop.fhi s + y)), U.lst Kd.ro 3 (trisU (Shop.keys s))], SB.box [U.sl 5 0 (List.length (Shop.tools s)) 3, .int .i64 (Shop.flo s), .int .i64 (Shop.fhi s), U.lst Kd.ro 3 (trisU (Shop.keys s))], SB.froz (List.map dg (triF (List.set (Shop.tools s) j { a := lo, b := up, c := Tri.c t }))), SB.box [.int .i64 lo, .int .i64 up, .int .i64 (Tri.c t)]]) (.cons rfl (.cons rfl (.cons rfl (.nil rfl)))) rfl rfl fun fr => ?_
          refine o_pickT rfl rfl (decide_eq_true (by omega)) ?_
          refine o_pickT rfl rfl (decide_eq_true (by omega)) ?_
          refine o_move rfl ?_
          refine o_gD rfl rfl rfl rfl rfl ?_
          refine o_call rfl (r20) (.lrefl _) ?_
          refine o_pickT rfl rfl rfl ?_
          refine o_assign rfl ?_
          refine o_nil ?_
          refine k_ret ?_
          refine ⟨.inr rfl, _, .cons _ _ _ _ (.tmp 6) .nil, ?_⟩
          exact .refl _
      · rw [if_neg hx31] at *
        by_cases hy31 : cy.2 = 31
        · rw [if_pos hy31] at *
          refine k_seq (k_region ?_)
          refine o_frz (a := 5) rfl ?_
          refine o_loadN rfl rfl rfl sh27 rfl ?_
          refine o_move rfl ?_
          refine o_move rfl ?_
          refine o_call rfl (q14x) (.lrefl _) ?_
          refine o_move rfl ?_
          refine o_extract rfl rfl rfl ?_
          refine o_extract rfl rfl rfl ?_
          refine o_extract rfl rfl rfl ?_
          refine o_assign rfl ?_
          refine o_assign rfl ?_
          refine o_assign rfl ?_
          refine o_nil ?_
          refine k_gen [(7, .int .i64 (a % (121 : Int) - (60 : Int))), (8, .int .i64 (b % (31 : Int))), (10, .int .i64 0), (11, .int .i64 (if Prod.snd c = (31 : Int) then (4 : Int) else (0 : Int))), (13, U.box 4 0), (19, .int .i64 (if Prod.snd cx = (31 : Int) then (0 : Int) else Prod.snd cx)), (20, .int .i64 (if Prod.snd cx = (31 : Int) then (4 : Int) else (0 : Int)))] ([SB.box [U.lst Kd.ro 3 (trisU (Shop.tools s)), .int .i64 (Shop.flo s), .int .i64 (Shop.fhi s), U.lst Kd.ro 3 (trisU (Shop.keys s))], SB.box [.int .i64 a, .int .i64 b], SB.box [.int .i64 m0, .int .i64 m1, .int .i64 m2], SB.box [U.lst Kd.ro 3 (trisU (Shop.tools s)), .int .i64 (Max.max (-60 : Int) (Shop.flo s - x)), .int .i64 (Min.min (60 : Int) (Shop.fhi s + y)), U.lst Kd.ro 3 (trisU (Shop.keys s))], SB.box [U.sl 5 0 (List.length (Shop.tools s)) 3, .int .i64 (Shop.flo s), .int .i64 (Shop.fhi s), U.lst Kd.ro 3 (trisU (Shop.keys s))], SB.froz (List.map dg (triF (List.set (Shop.tools s) j { a := lo, b := up, c := Tri.c t }))), SB.box [.int .i64 lo, .int .i64 up, .int .i64 (Tri.c t)]]) (.cons rfl (.cons rfl (.cons rfl (.cons rfl (.cons rfl (.cons rfl (.cons rfl (.nil rfl)))))))) rfl fun fr => ?_
          refine k_seq (k_region ?_)
          refine o_loadN rfl rfl rfl sh27 rfl ?_
          refine o_see 108 rfl (fun _ => rfl) (.agg _ _ (.lcons _ _ _ _ (.sl _ _ _ _ _ _ rfl hfs hez hel hle) (.lrefl _))) ?_
          refine o_move rfl ?_
          refine o_move rfl ?_
          refine o_call rfl (q14y) (.lrefl _) ?_
          refine o_move rfl ?_
          refine o_extract rfl rfl rfl ?_
          refine o_extract rfl rfl rfl ?_
          refine o_extract rfl rfl rfl ?_
          refine o_assign rfl ?_
          refine o_assign rfl ?_
          refine o_assign rfl ?_
          refine o_nil ?_
          refine k_gen [(10, .int .i64 0), (11, .int .i64 (if Prod.snd c = (31 : Int) then (4 : Int) else (0 : Int))), (19, .int .i64 (if Prod.snd cx = (31 : Int) then (0 : Int) else Prod.snd cx)), (20, .int .i64 (if Prod.snd cx = (31 : Int) then (4 : Int) else (0 : Int))), (22, .int .i64 (if Prod.snd cy = (31 : Int) then (0 : Int) else Prod.snd cy)), (23, .int .i64 (if Prod.snd cy = (31 : Int) then (4 : Int) else (0 : Int)))] ([SB.box [U.lst Kd.ro 3 (trisU (Shop.tools s)), .int .i64 (Shop.flo s), .int .i64 (Shop.fhi s), U.lst Kd.ro 3 (trisU (Shop.keys s))], SB.box [.int .i64 a, .int .i64 b], SB.box [.int .i64 m0, .int .i64 m1, .int .i64 m2], SB.box [U.lst Kd.ro 3 (trisU (Shop.tools s)), .int .i64 (Max.max (-60 : Int) (Shop.flo s - x)), .int .i64 (Min.min (60 : Int) (Shop.fhi s + y)), U.lst Kd.ro 3 (trisU (Shop.keys s))], SB.box [U.sl 5 0 (List.length (Shop.tools s)) 3, .int .i64 (Shop.flo s), .int .i64 (Shop.fhi s), U.lst Kd.ro 3 (trisU (Shop.keys s))], SB.froz (List.map dg (triF (List.set (Shop.tools s) j { a := lo, b := up, c := Tri.c t }))), SB.box [.int .i64 lo, .int .i64 up, .int .i64 (Tri.c t)]]) (.cons rfl (.cons rfl (.cons rfl (.cons rfl (.cons rfl (.cons rfl (.nil rfl))))))) rfl fun fr => ?_
          refine k_seq ?_
          refine k_seq (k_region ?_)
          refine o_move rfl ?_
          refine o_neq rfl rfl rfl ?_
          refine o_nil ?_
          refine k_gen [(10, .int .i64 0), (11, .int .i64 (if Prod.snd c = (31 : Int) then (4 : Int) else (0 : Int))), (19, .int .i64 (if Prod.snd cx = (31 : Int) then (0 : Int) else Prod.snd cx)), (20, .int .i64 (if Prod.snd cx = (31 : Int) then (4 : Int) else (0 : Int))), (22, .int .i64 (if Prod.snd cy = (31 : Int) then (0 : Int) else Prod.snd cy)), (23, .int .i64 (if Prod.snd cy = (31 : Int) then (4 : Int) else (0 : Int))), (116, U.bool (Decidable.decide ((if Prod.snd c = (31 : Int) then (4 : Int) else (0 : Int)) ≠ (0 : Int))))] ([SB.box [U.lst Kd.ro 3 (trisU (Shop.tools s)), .int .i64 (Shop.flo s), .int .i64 (Shop.fhi s), U.lst Kd.ro 3 (trisU (Shop.keys s))], SB.box [.int .i64 a, .int .i64 b], SB.box [.int .i64 m0, .int .i64 m1, .int .i64 m2], SB.box [U.lst Kd.ro 3 (trisU (Shop.tools s)), .int .i64 (Max.max (-60 : Int) (Shop.flo s - x)), .int .i64 (Min.min (60 : Int) (Shop.fhi s + y)), U.lst Kd.ro 3 (trisU (Shop.keys s))], SB.box [U.sl 5 0 (List.length (Shop.tools s)) 3, .int .i64 (Shop.flo s), .int .i64 (Shop.fhi s), U.lst Kd.ro 3 (trisU (Shop.keys s))], SB.froz (List.map dg (triF (List.set (Shop.tools s) j { a := lo, b := up, c := Tri.c t }))), SB.box [.int .i64 lo, .int .i64 up, .int .i64 (Tri.c t)]]) (.cons rfl (.cons rfl (.cons rfl (.cons rfl (.cons rfl (.cons rfl (.cons rfl (.nil rfl)))))))) rfl fun fr => ?_
          refine k_cT rfl (decide_eq_true (by omega)) ?_
          refine k_seq (k_region ?_)
          refine o_move rfl ?_
          refine o_eql rfl rfl rfl ?_
          refine o_move rfl ?_
          refine o_gD rfl rfl rfl rfl (decide_eq_true (by omega)) ?_
          refine o_move rfl ?_
          refine o_gD rfl rfl rfl rfl (decide_eq_true (by omega)) ?_
          refine o_eql rfl rfl rfl ?_
          refine o_gD rfl rfl rfl rfl (decide_eq_true (by omega)) ?_
          refine o_move rfl ?_
          refine o_gS rfl rfl rfl rfl (decide_eq_true (by omega)) ?_
          refine o_gS rfl rfl rfl rfl (decide_eq_true (by omega)) ?_
          refine o_gS rfl rfl rfl rfl (decide_eq_true (by omega)) ?_
          refine o_genA [(11, .int .i64 (if Prod.snd c = (31 : Int) then (4 : Int) else (0 : Int))), (23, .int .i64 (if Prod.snd cy = (31 : Int) then (4 : Int) else (0 : Int))), (119, U.bool (Decidable.decide ((if Prod.snd c = (31 : Int) then (4 : Int) else (0 : Int)) = (4 : Int)))), (122, U.bool (Decidable.decide ((if Prod.snd cx = (31 : Int) then (4 : Int) else (0 : Int)) = (0 : Int)))), (125, U.tup [])] [] ([SB.box [U.lst Kd.ro 3 (trisU (Shop.tools s)), .int .i64 (Shop.flo s), .int .i64 (Shop.fhi s), U.lst Kd.ro 3 (trisU (Shop.keys s))], SB.box [.int .i64 a, .int .i64 b], SB.box [.int .i64 m0, .int .i64 m1, .int .i64 m2], SB.box [U.lst Kd.ro 3 (trisU (Shop.tools s)), .int .i64 (Max.max (-60 : Int) (Shop.flo s - x)), .int .i64 (Min.min (60 : Int) (Shop.fhi s + y)), U.lst Kd.ro 3 (trisU (Shop.keys s))], SB.box [U.sl 5 0 (List.length (Shop.tools s)) 3, .int .i64 (Shop.flo s), .int .i64 (Shop.fhi s), U.lst Kd.ro 3 (trisU (Shop.keys s))], SB.froz (List.map dg (triF (List.set (Shop.tools s) j { a := lo, b := up, c := Tri.c t }))), SB.box [.int .i64 lo, .int .i64 up, .int .i64 (Tri.c t)]]) (.cons rfl (.cons rfl (.cons rfl (.cons rfl (.cons rfl (.nil rfl)))))) rfl rfl fun fr => ?_
          refine o_gD rfl rfl rfl rfl (decide_eq_true (by omega)) ?_
          refine o_genA [(11, .int .i64 (if Prod.snd c = (31 : Int) then (4 : Int) else (0 : Int))), (23, .int .i64 (if Prod.snd cy = (31 : Int) then (4 : Int) else (0 : Int))), (119, U.bool (Decidable.decide ((if Prod.snd c = (31 : Int) then (4 : Int) else (0 : Int)) = (4 : Int)))), (122, U.bool (Decidable.decide ((if Prod.snd cx = (31 : Int) then (4 : Int) else (0 : Int)) = (0 : Int)))), (125, U.tup [])] [] ([SB.box [U.lst Kd.ro 3 (trisU (Shop.tools s)), .int .i64 (Shop.flo s), .int .i64 (Shop.fhi s), U.lst Kd.ro 3 (trisU (Shop.keys s))], SB.box [.int .i64 a, .int .i64 b], SB.box [.int .i64 m0, .int .i64 m1, .int .i64 m2], SB.box [U.lst Kd.ro 3 (trisU (Shop.tools s)), .int .i64 (Max.max (-60 : Int) (Shop.flo s - x)), .int .i64 (Min.min (60 : Int) (Shop.fhi s + y)), U.lst Kd.ro 3 (trisU (Shop.keys s))], SB.box [U.sl 5 0 (List.length (Shop.tools s)) 3, .int .i64 (Shop.flo s), .int .i64 (Shop.fhi s), U.lst Kd.ro 3 (trisU (Shop.keys s))], SB.froz (List.map dg (triF (List.set (Shop.tools s) j { a := lo, b := up, c := Tri.c t }))), SB.box [.int .i64 lo, .int .i64 up, .int .i64 (Tri.c t)]]) (.cons rfl (.cons rfl (.cons rfl (.cons rfl (.cons rfl (.nil rfl)))))) rfl rfl fun fr => ?_
          refine o_pickT rfl rfl (decide_eq_true (by omega)) ?_
          refine o_pickT rfl rfl (decide_eq_true (by omega)) ?_
          refine o_move rfl ?_
          refine o_gD rfl rfl rfl rfl rfl ?_
          refine o_move rfl ?_
          refine o_gD rfl rfl rfl rfl rfl ?_
          refine o_eql rfl rfl rfl ?_
          refine o_gD rfl rfl rfl rfl rfl ?_
          refine o_move rfl ?_
          refine o_gD rfl rfl rfl rfl (decide_eq_false (by omega)) ?_
          refine o_move rfl ?_
          refine o_gD rfl rfl rfl rfl (decide_eq_false (by omega)) ?_
          refine o_move rfl ?_
          refine o_gD rfl rfl rfl rfl (decide_eq_false (by omega)) ?_
          refine o_eql rfl rfl rfl ?_
          refine o_genA [(128, U.bool Bool.true), (131, U.bool (Decidable.decide ((if Prod.snd cy = (31 : Int) then (4 : Int) else (0 : Int)) = (0 : Int)))), (134, U.bool (Decidable.decide ((if Prod.snd cy = (31 : Int) then (4 : Int) else (0 : Int)) = if Prod.snd c = (31 : Int) then (4 : Int) else (0 : Int))))] [] ([SB.box [U.lst Kd.ro 3 (trisU (Shop.tools s)), .int .i64 (Shop.flo s), .int .i64 (Shop.fhi s), U.lst Kd.ro 3 (trisU (Shop.keys s))], SB.box [.int .i64 a, .int .i64 b], SB.box [.int .i64 m0, .int .i64 m1, .int .i64 m2], SB.box [U.lst Kd.ro 3 (trisU (Shop.tools s)), .int .i64 (Max.max (-60 : Int) (Shop.flo s - x)), .int .i64 (Min.min (60 : Int) (Shop.fhi s + y)), U.lst Kd.ro 3 (trisU (Shop.keys s))], SB.box [U.sl 5 0 (List.length (Shop.tools s)) 3, .int .i64 (Shop.flo s), .int .i64 (Shop.fhi s), U.lst Kd.ro 3 (trisU (Shop.keys s))], SB.froz (List.map dg (triF (List.set (Shop.tools s) j { a := lo, b := up, c := Tri.c t }))), SB.box [.int .i64 lo, .int .i64 up, .int .i64 (Tri.c t)]]) (.cons rfl (.cons rfl (.cons rfl (.nil rfl)))) rfl rfl fun fr => ?_
          refine o_gD rfl rfl rfl rfl rfl ?_
          refine o_genA [(128, U.bool Bool.true), (131, U.bool (Decidable.decide ((if Prod.snd cy = (31 : Int) then (4 : Int) else (0 : Int)) = (0 : Int)))), (134, U.bool (Decidable.decide ((if Prod.snd cy = (31 : Int) then (4 : Int) else (0 : Int)) = if Prod.snd c = (31 : Int) then (4 : Int) else (0 : Int))))] [] ([SB.box [U.lst Kd.ro 3 (trisU (Shop.tools s)), .int .i64 (Shop.flo s), .int .i64 (Shop.fhi s), U.lst Kd.ro 3 (trisU (Shop.keys s))], SB.box [.int .i64 a, .int .i64 b], SB.box [.int .i64 m0, .int .i64 m1, .int .i64 m2], SB.box [U.lst Kd.ro 3 (trisU (Shop.tools s)), .int .i64 (Max.max (-60 : Int) (Shop.flo s - x)), .int .i64 (Min.min (60 : Int) (Shop.fhi s + y)), U.lst Kd.ro 3 (trisU (Shop.keys s))], SB.box [U.sl 5 0 (List.length (Shop.tools s)) 3, .int .i64 (Shop.flo s), .int .i64 (Shop.fhi s), U.lst Kd.ro 3 (trisU (Shop.keys s))], SB.froz (List.map dg (triF (List.set (Shop.tools s) j { a := lo, b := up, c := Tri.c t }))), SB.box [.int .i64 lo, .int .i64 up, .int .i64 (Tri.c t)]]) (.cons rfl (.cons rfl (.cons rfl (.nil rfl)))) rfl rfl fun fr => ?_
          refine o_pickF rfl rfl (decide_eq_false (by omega)) ?_
          refine o_pickT rfl rfl rfl ?_
          refine o_move rfl ?_
          refine o_gD rfl rfl rfl rfl (decide_eq_true (by omega)) ?_
          refine o_call rfl (r20) (.lrefl _) ?_
          refine o_pickT rfl rfl (decide_eq_true (by omega)) ?_
          refine o_assign rfl ?_
          refine o_nil ?_
          refine k_ret ?_
          refine ⟨.inr rfl, _, .cons _ _ _ _ (.tmp 6) .nil, ?_⟩
          exact .refl _
        · rw [if_neg hy31] at *
          refine k_seq (k_region ?_)
          refine o_frz (a := 5) rfl ?_
          refine o_loadN rfl rfl rfl sh27 rfl ?_
          refine o_move rfl ?_
          refine o_move rfl ?_
          refine o_call rfl (q14x) (.lrefl _) ?_
          refine o_move rfl ?_
          refine o_extract rfl rfl rfl ?_
          refine o_extract rfl rfl rfl ?_
          refine o_extract rfl rfl rfl ?_
          refine o_assign rfl ?_
          refine o_assign rfl ?_
          refine o_assign rfl ?_
          refine o_nil ?_
          refine k_gen [(7, .int .i64 (a % (121 : Int) - (60 : Int))), (8, .int .i64 (b % (31 : Int))), (10, .int .i64 0), (11, .int .i64 (if Prod.snd c = (31 : Int) then (4 : Int) else (0 : Int))), (13, U.box 4 0), (19, .int .i64 (if Prod.snd cx = (31 : Int) then (0 : Int) else Prod.snd cx)), (20, .int .i64 (if Prod.snd cx = (31 : Int) then (4 : Int) else (0 : Int)))] ([SB.box [U.lst Kd.ro 3 (trisU (Shop.tools s)), .int .i64 (Shop.flo s), .int .i64 (Shop.fhi s), U.lst Kd.ro 3 (trisU (Shop.keys s))], SB.box [.int .i64 a, .int .i64 b], SB.box [.int .i64 m0, .int .i64 m1, .int .i64 m2], SB.box [U.lst Kd.ro 3 (trisU (Shop.tools s)), .int .i64 (Max.max (-60 : Int) (Shop.flo s - x)), .int .i64 (Min.min (60 : Int) (Shop.fhi s + y)), U.lst Kd.ro 3 (trisU (Shop.keys s))], SB.box [U.sl 5 0 (List.length (Shop.tools s)) 3, .int .i64 (Shop.flo s), .int .i64 (Shop.fhi s), U.lst Kd.ro 3 (trisU (Shop.keys s))], SB.froz (List.map dg (triF (List.set (Shop.tools s) j { a := lo, b := up, c := Tri.c t }))), SB.box [.int .i64 lo, .int .i64 up, .int .i64 (Tri.c t)]]) (.cons rfl (.cons rfl (.cons rfl (.cons rfl (.cons rfl (.cons rfl (.cons rfl (.nil rfl)))))))) rfl fun fr => ?_
          refine k_seq (k_region ?_)
          refine o_loadN rfl rfl rfl sh27 rfl ?_
          refine o_see 108 rfl (fun _ => rfl) (.agg _ _ (.lcons _ _ _ _ (.sl _ _ _ _ _ _ rfl hfs hez hel hle) (.lrefl _))) ?_
          refine o_move rfl ?_
          refine o_move rfl ?_
          refine o_call rfl (q14y) (.lrefl _) ?_
          refine o_move rfl ?_
          refine o_extract rfl rfl rfl ?_
          refine o_extract rfl rfl rfl ?_
          refine o_extract rfl rfl rfl ?_
          refine o_assign rfl ?_
          refine o_assign rfl ?_
          refine o_assign rfl ?_
          refine o_nil ?_
          refine k_gen [(10, .int .i64 0), (11, .int .i64 (if Prod.snd c = (31 : Int) then (4 : Int) else (0 : Int))), (19, .int .i64 (if Prod.snd cx = (31 : Int) then (0 : Int) else Prod.snd cx)), (20, .int .i64 (if Prod.snd cx = (31 : Int) then (4 : Int) else (0 : Int))), (22, .int .i64 (if Prod.snd cy = (31 : Int) then (0 : Int) else Prod.snd cy)), (23, .int .i64 (if Prod.snd cy = (31 : Int) then (4 : Int) else (0 : Int)))] ([SB.box [U.lst Kd.ro 3 (trisU (Shop.tools s)), .int .i64 (Shop.flo s), .int .i64 (Shop.fhi s), U.lst Kd.ro 3 (trisU (Shop.keys s))], SB.box [.int .i64 a, .int .i64 b], SB.box [.int .i64 m0, .int .i64 m1, .int .i64 m2], SB.box [U.lst Kd.ro 3 (trisU (Shop.tools s)), .int .i64 (Max.max (-60 : Int) (Shop.flo s - x)), .int .i64 (Min.min (60 : Int) (Shop.fhi s + y)), U.lst Kd.ro 3 (trisU (Shop.keys s))], SB.box [U.sl 5 0 (List.length (Shop.tools s)) 3, .int .i64 (Shop.flo s), .int .i64 (Shop.fhi s), U.lst Kd.ro 3 (trisU (Shop.keys s))], SB.froz (List.map dg (triF (List.set (Shop.tools s) j { a := lo, b := up, c := Tri.c t }))), SB.box [.int .i64 lo, .int .i64 up, .int .i64 (Tri.c t)]]) (.cons rfl (.cons rfl (.cons rfl (.cons rfl (.cons rfl (.cons rfl (.nil rfl))))))) rfl fun fr => ?_
          refine k_seq ?_
          refine k_seq (k_region ?_)
          refine o_move rfl ?_
          refine o_neq rfl rfl rfl ?_
          refine o_nil ?_
          refine k_gen [(10, .int .i64 0), (11, .int .i64 (if Prod.snd c = (31 : Int) then (4 : Int) else (0 : Int))), (19, .int .i64 (if Prod.snd cx = (31 : Int) then (0 : Int) else Prod.snd cx)), (20, .int .i64 (if Prod.snd cx = (31 : Int) then (4 : Int) else (0 : Int))), (22, .int .i64 (if Prod.snd cy = (31 : Int) then (0 : Int) else Prod.snd cy)), (23, .int .i64 (if Prod.snd cy = (31 : Int) then (4 : Int) else (0 : Int))), (116, U.bool (Decidable.decide ((if Prod.snd c = (31 : Int) then (4 : Int) else (0 : Int)) ≠ (0 : Int))))] ([SB.box [U.lst Kd.ro 3 (trisU (Shop.tools s)), .int .i64 (Shop.flo s), .int .i64 (Shop.fhi s), U.lst Kd.ro 3 (trisU (Shop.keys s))], SB.box [.int .i64 a, .int .i64 b], SB.box [.int .i64 m0, .int .i64 m1, .int .i64 m2], SB.box [U.lst Kd.ro 3 (trisU (Shop.tools s)), .int .i64 (Max.max (-60 : Int) (Shop.flo s - x)), .int .i64 (Min.min (60 : Int) (Shop.fhi s + y)), U.lst Kd.ro 3 (trisU (Shop.keys s))], SB.box [U.sl 5 0 (List.length (Shop.tools s)) 3, .int .i64 (Shop.flo s), .int .i64 (Shop.fhi s), U.lst Kd.ro 3 (trisU (Shop.keys s))], SB.froz (List.map dg (triF (List.set (Shop.tools s) j { a := lo, b := up, c := Tri.c t }))), SB.box [.int .i64 lo, .int .i64 up, .int .i64 (Tri.c t)]]) (.cons rfl (.cons rfl (.cons rfl (.cons rfl (.cons rfl (.cons rfl (.cons rfl (.nil rfl)))))))) rfl fun fr => ?_
          refine k_cT rfl (decide_eq_true (by omega)) ?_
          refine k_seq (k_region ?_)
          refine o_move rfl ?_
          refine o_eql rfl rfl rfl ?_
          refine o_move rfl ?_
          refine o_gD rfl rfl rfl rfl (decide_eq_true (by omega)) ?_
          refine o_move rfl ?_
          refine o_gD rfl rfl rfl rfl (decide_eq_true (by omega)) ?_
          refine o_eql rfl rfl rfl ?_
          refine o_gD rfl rfl rfl rfl (decide_eq_true (by omega)) ?_
          refine o_move rfl ?_
          refine o_gS rfl rfl rfl rfl (decide_eq_true (by omega)) ?_
          refine o_gS rfl rfl rfl rfl (decide_eq_true (by omega)) ?_
          refine o_gS rfl rfl rfl rfl (decide_eq_true (by omega)) ?_
          refine o_genA [(11, .int .i64 (if Prod.snd c = (31 : Int) then (4 : Int) else (0 : Int))), (23, .int .i64 (if Prod.snd cy = (31 : Int) then (4 : Int) else (0 : Int))), (119, U.bool (Decidable.decide ((if Prod.snd c = (31 : Int) then (4 : Int) else (0 : Int)) = (4 : Int)))), (122, U.bool (Decidable.decide ((if Prod.snd cx = (31 : Int) then (4 : Int) else (0 : Int)) = (0 : Int)))), (125, U.tup [])] [] ([SB.box [U.lst Kd.ro 3 (trisU (Shop.tools s)), .int .i64 (Shop.flo s), .int .i64 (Shop.fhi s), U.lst Kd.ro 3 (trisU (Shop.keys s))], SB.box [.int .i64 a, .int .i64 b], SB.box [.int .i64 m0, .int .i64 m1, .int .i64 m2], SB.box [U.lst Kd.ro 3 (trisU (Shop.tools s)), .int .i64 (Max.max (-60 : Int) (Shop.flo s - x)), .int .i64 (Min.min (60 : Int) (Shop.fhi s + y)), U.lst Kd.ro 3 (trisU (Shop.keys s))], SB.box [U.sl 5 0 (List.length (Shop.tools s)) 3, .int .i64 (Shop.flo s), .int .i64 (Shop.fhi s), U.lst Kd.ro 3 (trisU (Shop.keys s))], SB.froz (List.map dg (triF (List.set (Shop.tools s) j { a := lo, b := up, c := Tri.c t }))), SB.box [.int .i64 lo, .int .i64 up, .int .i64 (Tri.c t)]]) (.cons rfl (.cons rfl (.cons rfl (.cons rfl (.cons rfl (.nil rfl)))))) rfl rfl fun fr => ?_
          refine o_gD rfl rfl rfl rfl (decide_eq_true (by omega)) ?_
          refine o_genA [(11, .int .i64 (if Prod.snd c = (31 : Int) then (4 : Int) else (0 : Int))), (23, .int .i64 (if Prod.snd cy = (31 : Int) then (4 : Int) else (0 : Int))), (119, U.bool (Decidable.decide ((if Prod.snd c = (31 : Int) then (4 : Int) else (0 : Int)) = (4 : Int)))), (122, U.bool (Decidable.decide ((if Prod.snd cx = (31 : Int) then (4 : Int) else (0 : Int)) = (0 : Int)))), (125, U.tup [])] [] ([SB.box [U.lst Kd.ro 3 (trisU (Shop.tools s)), .int .i64 (Shop.flo s), .int .i64 (Shop.fhi s), U.lst Kd.ro 3 (trisU (Shop.keys s))], SB.box [.int .i64 a, .int .i64 b], SB.box [.int .i64 m0, .int .i64 m1, .int .i64 m2], SB.box [U.lst Kd.ro 3 (trisU (Shop.tools s)), .int .i64 (Max.max (-60 : Int) (Shop.flo s - x)), .int .i64 (Min.min (60 : Int) (Shop.fhi s + y)), U.lst Kd.ro 3 (trisU (Shop.keys s))], SB.box [U.sl 5 0 (List.length (Shop.tools s)) 3, .int .i64 (Shop.flo s), .int .i64 (Shop.fhi s), U.lst Kd.ro 3 (trisU (Shop.keys s))], SB.froz (List.map dg (triF (List.set (Shop.tools s) j { a := lo, b := up, c := Tri.c t }))), SB.box [.int .i64 lo, .int .i64 up, .int .i64 (Tri.c t)]]) (.cons rfl (.cons rfl (.cons rfl (.cons rfl (.cons rfl (.nil rfl)))))) rfl rfl fun fr => ?_
          refine o_pickT rfl rfl (decide_eq_true (by omega)) ?_
          refine o_pickT rfl rfl (decide_eq_true (by omega)) ?_
          refine o_move rfl ?_
          refine o_gD rfl rfl rfl rfl rfl ?_
          refine o_move rfl ?_
          refine o_gD rfl rfl rfl rfl rfl ?_
          refine o_eql rfl rfl rfl ?_
          refine o_gD rfl rfl rfl rfl rfl ?_
          refine o_move rfl ?_
          refine o_gS rfl rfl rfl rfl (decide_eq_true (by omega)) ?_
          refine o_gS rfl rfl rfl rfl (decide_eq_true (by omega)) ?_
          refine o_gS rfl rfl rfl rfl (decide_eq_true (by omega)) ?_
          refine o_genA [(128, U.bool Bool.true), (131, U.bool (Decidable.decide ((if Prod.snd cy = (31 : Int) then (4 : Int) else (0 : Int)) = (0 : Int)))), (134, U.tup [])] [] ([SB.box [U.lst Kd.ro 3 (trisU (Shop.tools s)), .int .i64 (Shop.flo s), .int .i64 (Shop.fhi s), U.lst Kd.ro 3 (trisU (Shop.keys s))], SB.box [.int .i64 a, .int .i64 b], SB.box [.int .i64 m0, .int .i64 m1, .int .i64 m2], SB.box [U.lst Kd.ro 3 (trisU (Shop.tools s)), .int .i64 (Max.max (-60 : Int) (Shop.flo s - x)), .int .i64 (Min.min (60 : Int) (Shop.fhi s + y)), U.lst Kd.ro 3 (trisU (Shop.keys s))], SB.box [U.sl 5 0 (List.length (Shop.tools s)) 3, .int .i64 (Shop.flo s), .int .i64 (Shop.fhi s), U.lst Kd.ro 3 (trisU (Shop.keys s))], SB.froz (List.map dg (triF (List.set (Shop.tools s) j { a := lo, b := up, c := Tri.c t }))), SB.box [.int .i64 lo, .int .i64 up, .int .i64 (Tri.c t)]]) (.cons rfl (.cons rfl (.cons rfl (.nil rfl)))) rfl rfl fun fr => ?_
          refine o_gD rfl rfl rfl rfl rfl ?_
          refine o_genA [(128, U.bool Bool.true), (131, U.bool (Decidable.decide ((if Prod.snd cy = (31 : Int) then (4 : Int) else (0 : Int)) = (0 : Int)))), (134, U.tup [])] [] ([SB.box [U.lst Kd.ro 3 (trisU (Shop.tools s)), .int .i64 (Shop.flo s), .int .i64 (Shop.fhi s), U.lst Kd.ro 3 (trisU (Shop.keys s))], SB.box [.int .i64 a, .int .i64 b], SB.box [.int .i64 m0, .int .i64 m1, .int .i64 m2], SB.box [U.lst Kd.ro 3 (trisU (Shop.tools s)), .int .i64 (Max.max (-60 : Int) (Shop.flo s - x)), .int .i64 (Min.min (60 : Int) (Shop.fhi s + y)), U.lst Kd.ro 3 (trisU (Shop.keys s))], SB.box [U.sl 5 0 (List.length (Shop.tools s)) 3, .int .i64 (Shop.flo s), .int .i64 (Shop.fhi s), U.lst Kd.ro 3 (trisU (Shop.keys s))], SB.froz (List.map dg (triF (List.set (Shop.tools s) j { a := lo, b := up, c := Tri.c t }))), SB.box [.int .i64 lo, .int .i64 up, .int .i64 (Tri.c t)]]) (.cons rfl (.cons rfl (.cons rfl (.nil rfl)))) rfl rfl fun fr => ?_
          refine o_pickT rfl rfl (decide_eq_true (by omega)) ?_
          refine o_pickT rfl rfl rfl ?_
          refine o_move rfl ?_
          refine o_gD rfl rfl rfl rfl rfl ?_
          refine o_call rfl (r20) (.lrefl _) ?_
          refine o_pickT rfl rfl rfl ?_
          refine o_assign rfl ?_
          refine o_nil ?_
          refine k_ret ?_
          refine ⟨.inr rfl, _, .cons _ _ _ _ (.tmp 6) .nil, ?_⟩
          exact .refl _
    · have hc31 : c.2 ≤ 31 := c0.2.1
      have hx31 : cx.2 ≠ 31 := by omega
      have hy31 : cy.2 ≠ 31 := by omega
      rw [if_neg h31] at *
      refine k_seq (k_region ?_)
      refine o_frz (a := 5) rfl ?_
      refine o_loadN rfl rfl rfl sh27 rfl ?_
      refine o_move rfl ?_
      refine o_move rfl ?_
      refine o_call rfl (q14x) (.lrefl _) ?_
      refine o_move rfl ?_
      refine o_extract rfl rfl rfl ?_
      refine o_extract rfl rfl rfl ?_
      refine o_extract rfl rfl rfl ?_
      refine o_assign rfl ?_
      refine o_assign rfl ?_
      refine o_assign rfl ?_
      refine o_nil ?_
      refine k_gen [(7, .int .i64 (a % (121 : Int) - (60 : Int))), (8, .int .i64 (b % (31 : Int))), (10, .int .i64 (Prod.snd c)), (11, .int .i64 (if Prod.snd c = (31 : Int) then (4 : Int) else (0 : Int))), (13, U.box 4 0), (19, .int .i64 (if Prod.snd cx = (31 : Int) then (0 : Int) else Prod.snd cx)), (20, .int .i64 (if Prod.snd cx = (31 : Int) then (4 : Int) else (0 : Int)))] ([SB.box [U.lst Kd.ro 3 (trisU (Shop.tools s)), .int .i64 (Shop.flo s), .int .i64 (Shop.fhi s), U.lst Kd.ro 3 (trisU (Shop.keys s))], SB.box [.int .i64 a, .int .i64 b], SB.box [.int .i64 m0, .int .i64 m1, .int .i64 m2], SB.box [U.lst Kd.ro 3 (trisU (Shop.tools s)), .int .i64 (Max.max (-60 : Int) (Shop.flo s - x)), .int .i64 (Min.min (60 : Int) (Shop.fhi s + y)), U.lst Kd.ro 3 (trisU (Shop.keys s))], SB.box [U.sl 5 0 (List.length (Shop.tools s)) 3, .int .i64 (Shop.flo s), .int .i64 (Shop.fhi s), U.lst Kd.ro 3 (trisU (Shop.keys s))], SB.froz (List.map dg (triF (List.set (Shop.tools s) j { a := lo, b := up, c := Tri.c t }))), SB.box [.int .i64 lo, .int .i64 up, .int .i64 (Tri.c t)]]) (.cons rfl (.cons rfl (.cons rfl (.cons rfl (.cons rfl (.cons rfl (.cons rfl (.nil rfl)))))))) rfl fun fr => ?_
      refine k_seq (k_region ?_)
      refine o_loadN rfl rfl rfl sh27 rfl ?_
      refine o_see 108 rfl (fun _ => rfl) (.agg _ _ (.lcons _ _ _ _ (.sl _ _ _ _ _ _ rfl hfs hez hel hle) (.lrefl _))) ?_
      refine o_move rfl ?_
      refine o_move rfl ?_
      refine o_call rfl (q14y) (.lrefl _) ?_
      refine o_move rfl ?_
      refine o_extract rfl rfl rfl ?_
      refine o_extract rfl rfl rfl ?_
      refine o_extract rfl rfl rfl ?_
      refine o_assign rfl ?_
      refine o_assign rfl ?_
      refine o_assign rfl ?_
      refine o_nil ?_
      refine k_gen [(10, .int .i64 (Prod.snd c)), (11, .int .i64 (if Prod.snd c = (31 : Int) then (4 : Int) else (0 : Int))), (19, .int .i64 (if Prod.snd cx = (31 : Int) then (0 : Int) else Prod.snd cx)), (20, .int .i64 (if Prod.snd cx = (31 : Int) then (4 : Int) else (0 : Int))), (22, .int .i64 (if Prod.snd cy = (31 : Int) then (0 : Int) else Prod.snd cy)), (23, .int .i64 (if Prod.snd cy = (31 : Int) then (4 : Int) else (0 : Int)))] ([SB.box [U.lst Kd.ro 3 (trisU (Shop.tools s)), .int .i64 (Shop.flo s), .int .i64 (Shop.fhi s), U.lst Kd.ro 3 (trisU (Shop.keys s))], SB.box [.int .i64 a, .int .i64 b], SB.box [.int .i64 m0, .int .i64 m1, .int .i64 m2], SB.box [U.lst Kd.ro 3 (trisU (Shop.tools s)), .int .i64 (Max.max (-60 : Int) (Shop.flo s - x)), .int .i64 (Min.min (60 : Int) (Shop.fhi s + y)), U.lst Kd.ro 3 (trisU (Shop.keys s))], SB.box [U.sl 5 0 (List.length (Shop.tools s)) 3, .int .i64 (Shop.flo s), .int .i64 (Shop.fhi s), U.lst Kd.ro 3 (trisU (Shop.keys s))], SB.froz (List.map dg (triF (List.set (Shop.tools s) j { a := lo, b := up, c := Tri.c t }))), SB.box [.int .i64 lo, .int .i64 up, .int .i64 (Tri.c t)]]) (.cons rfl (.cons rfl (.cons rfl (.cons rfl (.cons rfl (.cons rfl (.nil rfl))))))) rfl fun fr => ?_
      refine k_seq ?_
      refine k_seq (k_region ?_)
      refine o_move rfl ?_
      refine o_neq rfl rfl rfl ?_
      refine o_nil ?_
      refine k_gen [(10, .int .i64 (Prod.snd c)), (11, .int .i64 (if Prod.snd c = (31 : Int) then (4 : Int) else (0 : Int))), (19, .int .i64 (if Prod.snd cx = (31 : Int) then (0 : Int) else Prod.snd cx)), (20, .int .i64 (if Prod.snd cx = (31 : Int) then (4 : Int) else (0 : Int))), (22, .int .i64 (if Prod.snd cy = (31 : Int) then (0 : Int) else Prod.snd cy)), (23, .int .i64 (if Prod.snd cy = (31 : Int) then (4 : Int) else (0 : Int))), (116, U.bool (Decidable.decide ((if Prod.snd c = (31 : Int) then (4 : Int) else (0 : Int)) ≠ (0 : Int))))] ([SB.box [U.lst Kd.ro 3 (trisU (Shop.tools s)), .int .i64 (Shop.flo s), .int .i64 (Shop.fhi s), U.lst Kd.ro 3 (trisU (Shop.keys s))], SB.box [.int .i64 a, .int .i64 b], SB.box [.int .i64 m0, .int .i64 m1, .int .i64 m2], SB.box [U.lst Kd.ro 3 (trisU (Shop.tools s)), .int .i64 (Max.max (-60 : Int) (Shop.flo s - x)), .int .i64 (Min.min (60 : Int) (Shop.fhi s + y)), U.lst Kd.ro 3 (trisU (Shop.keys s))], SB.box [U.sl 5 0 (List.length (Shop.tools s)) 3, .int .i64 (Shop.flo s), .int .i64 (Shop.fhi s), U.lst Kd.ro 3 (trisU (Shop.keys s))], SB.froz (List.map dg (triF (List.set (Shop.tools s) j { a := lo, b := up, c := Tri.c t }))), SB.box [.int .i64 lo, .int .i64 up, .int .i64 (Tri.c t)]]) (.cons rfl (.cons rfl (.cons rfl (.cons rfl (.cons rfl (.cons rfl (.cons rfl (.nil rfl)))))))) rfl fun fr => ?_
      refine k_cF rfl (decide_eq_false (by omega)) ?_
      refine k_skip ?_
      refine k_seq (k_region ?_)
      refine o_move rfl ?_
      refine o_eql rfl rfl rfl ?_
      refine o_move rfl ?_
      refine o_gD rfl rfl rfl rfl (decide_eq_true (by omega)) ?_
      refine o_move rfl ?_
      refine o_gD rfl rfl rfl rfl (decide_eq_true (by omega)) ?_
      refine o_eql rfl rfl rfl ?_
      refine o_pickT rfl rfl (decide_eq_true (by omega)) ?_
      refine o_move rfl ?_
      refine o_gD rfl rfl rfl rfl (decide_eq_true (by omega)) ?_
      refine o_move rfl ?_
      refine o_gD rfl rfl rfl rfl (decide_eq_true (by omega)) ?_
      refine o_move rfl ?_
      refine o_genA [(10, .int .i64 (Prod.snd c)), (22, .int .i64 (if Prod.snd cy = (31 : Int) then (0 : Int) else Prod.snd cy)), (146, U.bool (Decidable.decide ((if Prod.snd cy = (31 : Int) then (4 : Int) else (0 : Int)) = (0 : Int)))), (147, .int .i64 (if Prod.snd cx = (31 : Int) then (0 : Int) else Prod.snd cx)), (148, .int .i64 (Prod.snd c))] [] ([SB.box [U.lst Kd.ro 3 (trisU (Shop.tools s)), .int .i64 (Shop.flo s), .int .i64 (Shop.fhi s), U.lst Kd.ro 3 (trisU (Shop.keys s))], SB.box [.int .i64 a, .int .i64 b], SB.box [.int .i64 m0, .int .i64 m1, .int .i64 m2], SB.box [U.lst Kd.ro 3 (trisU (Shop.tools s)), .int .i64 (Max.max (-60 : Int) (Shop.flo s - x)), .int .i64 (Min.min (60 : Int) (Shop.fhi s + y)), U.lst Kd.ro 3 (trisU (Shop.keys s))], SB.box [U.sl 5 0 (List.length (Shop.tools s)) 3, .int .i64 (Shop.flo s), .int .i64 (Shop.fhi s), U.lst Kd.ro 3 (trisU (Shop.keys s))], SB.froz (List.map dg (triF (List.set (Shop.tools s) j { a := lo, b := up, c := Tri.c t }))), SB.box [.int .i64 lo, .int .i64 up, .int .i64 (Tri.c t)]]) (.cons rfl (.cons rfl (.cons rfl (.cons rfl (.cons rfl (.nil rfl)))))) rfl rfl fun fr => ?_
      refine o_gD rfl rfl rfl rfl (decide_eq_true (by omega)) ?_
      refine o_genA [(10, .int .i64 (Prod.snd c)), (22, .int .i64 (if Prod.snd cy = (31 : Int) then (0 : Int) else Prod.snd cy)), (146, U.bool (Decidable.decide ((if Prod.snd cy = (31 : Int) then (4 : Int) else (0 : Int)) = (0 : Int)))), (147, .int .i64 (if Prod.snd cx = (31 : Int) then (0 : Int) else Prod.snd cx)), (148, .int .i64 (Prod.snd c))] [] ([SB.box [U.lst Kd.ro 3 (trisU (Shop.tools s)), .int .i64 (Shop.flo s), .int .i64 (Shop.fhi s), U.lst Kd.ro 3 (trisU (Shop.keys s))], SB.box [.int .i64 a, .int .i64 b], SB.box [.int .i64 m0, .int .i64 m1, .int .i64 m2], SB.box [U.lst Kd.ro 3 (trisU (Shop.tools s)), .int .i64 (Max.max (-60 : Int) (Shop.flo s - x)), .int .i64 (Min.min (60 : Int) (Shop.fhi s + y)), U.lst Kd.ro 3 (trisU (Shop.keys s))], SB.box [U.sl 5 0 (List.length (Shop.tools s)) 3, .int .i64 (Shop.flo s), .int .i64 (Shop.fhi s), U.lst Kd.ro 3 (trisU (Shop.keys s))], SB.froz (List.map dg (triF (List.set (Shop.tools s) j { a := lo, b := up, c := Tri.c t }))), SB.box [.int .i64 lo, .int .i64 up, .int .i64 (Tri.c t)]]) (.cons rfl (.cons rfl (.cons rfl (.cons rfl (.cons rfl (.nil rfl)))))) rfl rfl fun fr => ?_
      refine o_leq rfl rfl rfl ?_
      refine o_pickT rfl rfl (decide_eq_true (by omega)) ?_
      refine o_move rfl ?_
      refine o_gD rfl rfl rfl rfl (decide_eq_true (by omega)) ?_
      refine o_move rfl ?_
      refine o_gD rfl rfl rfl rfl (decide_eq_true (by omega)) ?_
      refine o_move rfl ?_
      refine o_gD rfl rfl rfl rfl (decide_eq_true (by omega)) ?_
      refine o_leq rfl rfl rfl ?_
      refine o_pickT rfl rfl (decide_eq_true (by omega)) ?_
      refine o_move rfl ?_
      refine o_gD rfl rfl rfl rfl (decide_eq_true (by omega)) ?_
      refine o_call rfl (r20) (.lrefl _) ?_
      refine o_genA [(156, U.bool (Decidable.decide ((if Prod.snd cy = (31 : Int) then (0 : Int) else Prod.snd cy) ≤ Prod.snd c))), (157, U.bool Bool.true)] [] ([SB.box [U.lst Kd.ro 3 (trisU (Shop.tools s)), .int .i64 (Shop.flo s), .int .i64 (Shop.fhi s), U.lst Kd.ro 3 (trisU (Shop.keys s))], SB.box [.int .i64 a, .int .i64 b], SB.box [.int .i64 m0, .int .i64 m1, .int .i64 m2], SB.box [U.lst Kd.ro 3 (trisU (Shop.tools s)), .int .i64 (Max.max (-60 : Int) (Shop.flo s - x)), .int .i64 (Min.min (60 : Int) (Shop.fhi s + y)), U.lst Kd.ro 3 (trisU (Shop.keys s))], SB.box [U.sl 5 0 (List.length (Shop.tools s)) 3, .int .i64 (Shop.flo s), .int .i64 (Shop.fhi s), U.lst Kd.ro 3 (trisU (Shop.keys s))], SB.froz (List.map dg (triF (List.set (Shop.tools s) j { a := lo, b := up, c := Tri.c t }))), SB.box [.int .i64 lo, .int .i64 up, .int .i64 (Tri.c t)]]) (.cons rfl (.cons rfl (.nil rfl))) rfl rfl fun fr => ?_
      refine o_pickT rfl rfl (decide_eq_true (by omega)) ?_
      refine o_assign rfl ?_
      refine o_nil ?_
      refine k_ret ?_
      refine ⟨.inr rfl, _, .cons _ _ _ _ (.tmp 6) .nil, ?_⟩
      exact .refl _
  · refine k_seq (k_region ?_)
    refine o_box rfl rfl ?_
    refine o_box rfl rfl ?_
    refine o_box rfl rfl ?_
    refine o_assign rfl ?_
    refine o_nil ?_
    refine k_gen [(3, U.box 0 0), (4, U.box 1 0), (5, U.box 2 0)] ([SB.box [U.lst Kd.ro 3 (trisU (Shop.tools s)), .int .i64 (Shop.flo s), .int .i64 (Shop.fhi s), U.lst Kd.ro 3 (trisU (Shop.keys s))], SB.box [.int .i64 a, .int .i64 b], SB.box [.int .i64 m0, .int .i64 m1, .int .i64 m2]]) (.cons rfl (.cons rfl (.cons rfl (.nil rfl)))) rfl fun fr => ?_
    refine k_seq ?_
    refine k_seq (k_region ?_)
    refine o_loadN rfl rfl rfl sh27 rfl ?_
    refine o_call rfl (ret32n hi hv) (.lrefl _) ?_
    refine o_not rfl rfl ?_
    refine o_nil ?_
    refine k_cT rfl rfl ?_
    refine k_seq (k_region ?_)
    refine o_call rfl (r20) (.lrefl _) ?_
    refine o_assign rfl ?_
    refine o_nil ?_
    refine k_ret ?_
    refine ⟨.inr rfl, _, .cons _ _ _ _ (.tmp 6) .nil, ?_⟩
    exact .refl _
theorem u60 : Try.prog.underlying 60 = some (.array 3 3) := by kernel_rfl
theorem shp_three {cs : List U} (h : Shp Try.prog 60 cs) : ∃ a b c : Int, cs = [.int .i64 a, .int .i64 b, .int .i64 c] := by
  cases h with
  | array _ n e css hu hl hn =>
    rw [u60] at hu; cases hu
    obtain ⟨l, rfl⟩ := shpL_map (f := fun n : Int => [U.int .i64 n]) hl fun cs hcs => shp_int hcs
    rw [List.length_map] at hn
    match l, hn with
    | [a, b, c], _ => exact ⟨a, b, c, rfl⟩
  | int _ k n hu _ => rw [u60] at hu; cases hu
  | bool _ _ hu => rw [u60] at hu; cases hu
  | str _ _ hu => rw [u60] at hu; cases hu
  | slice _ _ _ hu => rw [u60] at hu; cases hu
  | struct _ _ _ hu => rw [u60] at hu; cases hu
theorem ret9_all {is : FuncId → Bool} {orc : Known} (hi : Off is) (r20 : RetP Try.prog is orc 20 [] (.bool true)) : ∀ us, ShpAs Try.prog [27, 28, 60] us → RetP Try.prog is orc 9 us (.bool true) := by
  intro us h
  cases h with
  | cons _ _ u us h1 h => cases h with
  | cons _ _ v us h2 h => cases h with
  | cons _ _ x us h3 h =>
  cases h
  obtain ⟨fs, hu⟩ := und_struct (P := Try.prog) (t := 27) 3 (by kernel_rfl)
  unfold ShpA at h1 h2 h3
  rw [hu] at h1
  rw [u28] at h2
  rw [u60] at h3
  obtain ⟨cs, rfl, h1⟩ := h1
  obtain ⟨ds, rfl, h2⟩ := h2
  obtain ⟨es, rfl, h3⟩ := h3
  obtain ⟨s, rfl⟩ := shp_shop h1
  obtain ⟨a, b, rfl⟩ := shp_two h2
  obtain ⟨c, d, e, rfl⟩ := shp_three h3
  exact ret9 hi s a b c d e r20
end Go.Proofs.Ytdahbimllmapkaa.raspEasier
