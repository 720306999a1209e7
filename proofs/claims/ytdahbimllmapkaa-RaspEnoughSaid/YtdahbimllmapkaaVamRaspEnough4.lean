/- rasp's functions and the law's, by the logic of trees: what each gives back for all that it may be given. -/
import Derived.Test.YtdahbimllmapkaaVamRaspEnough3
namespace Go.Proofs.Ytdahbimllmapkaa.raspEnough
open Vam
set_option linter.unusedVariables false
set_option linter.unusedSimpArgs false
set_option linter.constructorNameAsVariable false
variable {is : FuncId → Bool} {orc : Known}
noncomputable def b10 : Code := (Try.f10.body).getD .skip
theorem body10 : bodyOf Try.prog 10 = some (215, b10, [.tmp 4]) := by kernel_rfl
theorem pure10 : pureFn Try.prog 10 = true := by kernel_rfl
theorem ls_nil (f : Nat → Bool) : anyB f = false ↔ lsB f 6 = [] := by
  unfold lsB anyB
  rw [List.map_eq_nil_iff, List.filter_eq_nil_iff]
  simp only [Bool.or_eq_false_iff]
  constructor
  · rintro ⟨h0, h1, h2, h3, h4, h5⟩ x hx
    have := List.mem_range.1 hx
    have e : x = 0 ∨ x = 1 ∨ x = 2 ∨ x = 3 ∨ x = 4 ∨ x = 5 := by omega
    rcases e with rfl | rfl | rfl | rfl | rfl | rfl <;> simp [*]
  · intro h
    have k : ∀ x, x < 6 → f x = false := fun x hx => by have := h x (List.mem_range.2 hx); simpa using this
    exact ⟨k 0 (by decide), k 1 (by decide), k 2 (by decide), k 3 (by decide), k 4 (by decide), k 5 (by decide)⟩
set_option maxHeartbeats 4000000 in
theorem ret23e (s : Shop) (hv : checkR s.tools s.keys s.flo s.fhi ≠ 0) (hi : Off is) : RetP Try.prog is orc 23 [s.u] (.tup [.lst .full 0 [], .int .i64 30]) := by
  have hck : RetP Try.prog is orc 16 [s.u] (.int .i64 30) := by
    have := chk (orc := orc) hi s
    rwa [show checkR s.tools s.keys s.flo s.fhi = 30 by unfold checkR at hv ⊢; split at hv <;> simp_all] at this
  refine ret_of body23 pure23 (hi 23 (by decide)) rfl rfl (dat_l1 (dat_shop s 5)) (.inr ⟨_, rfl, dat_l2 (.lst _ _ _ _ (fun h => by cases h) (fun c hc => by cases hc)) (.int _ _ _)⟩) ?_
  refine k_seq (k_region ?_)
  refine o_box rfl rfl ?_
  refine o_assign rfl ?_
  refine o_assign rfl ?_
  refine o_nil ?_
  refine k_seq (k_region ?_)
  refine o_loadN rfl rfl rfl sh27 rfl ?_
  refine o_call rfl (ret46e s (by decide) hck true) (.lrefl _) ?_
  refine o_move rfl ?_
  refine o_extract rfl rfl rfl ?_
  refine o_extract rfl rfl rfl ?_
  refine o_alloc rfl ze73 ?_
  refine o_storeN rfl rfl sh73 rfl rfl rfl rfl rfl ?_
  refine o_assign rfl ?_
  refine o_nil ?_
  refine k_seq ?_
  refine k_seq (k_region ?_)
  refine o_move rfl ?_
  refine o_neq rfl rfl rfl ?_
  refine o_nil ?_
  refine k_gen [(4, U.box 1 0), (5, .int .i64 30), (12, U.bool (Decidable.decide ((30 : Int) ≠ (0 : Int))))] ([SB.box [U.lst Kd.ro 3 (trisU (Shop.tools s)), .int .i64 (Shop.flo s), .int .i64 (Shop.fhi s), U.lst Kd.ro 3 (trisU (Shop.keys s))], SB.box [U.lst Kd.full 0 [], .int .i64 0, .int .i64 0, U.lst Kd.full 0 [], U.nilf, U.nilf]]) (.cons rfl (.cons rfl (.cons rfl (.nil rfl)))) rfl fun fr => ?_
  refine k_cT rfl rfl ?_
  refine k_seq (k_region ?_)
  refine o_move rfl ?_
  refine o_assign rfl ?_
  refine o_assign rfl ?_
  refine o_nil ?_
  refine k_ret ?_
  refine ⟨.inr rfl, _, .cons _ _ _ _ (.tmp 2) (.cons _ _ _ _ (.tmp 3) .nil), ?_⟩
  exact .refl _
set_option maxHeartbeats 4000000 in
theorem ret10n (hi : Off is) {s : Shop} (hv : checkR s.tools s.keys s.flo s.fhi ≠ 0) (a b : Int) (r20 : RetP Try.prog is orc 20 [] (.bool true)) : RetP Try.prog is orc 10 [s.u, .agg [.int .i64 a, .int .i64 b]] (.bool true) := by
  refine ret_of body10 pure10 (hi 10 (by decide)) rfl rfl (dat_l2 (dat_shop s 5) (dat_span _ _ _)) (.inl (.bool _ _)) ?_
  refine k_seq (k_region ?_)
  refine o_box rfl rfl ?_
  refine o_box rfl rfl ?_
  refine o_assign rfl ?_
  refine o_nil ?_
  refine k_seq (k_region ?_)
  refine o_loadN rfl rfl rfl sh27 rfl ?_
  refine o_call rfl (ret23e s hv hi) (.lrefl _) ?_
  refine o_move rfl ?_
  refine o_extract rfl rfl rfl ?_
  refine o_extract rfl rfl rfl ?_
  refine o_assign rfl ?_
  refine o_assign rfl ?_
  refine o_nil ?_
  refine k_seq ?_
  refine k_seq (k_region ?_)
  refine o_loadN rfl rfl rfl sh27 rfl ?_
  refine o_call rfl (ret32n hi hv) (.lrefl _) ?_
  refine o_not rfl rfl ?_
  refine o_nil ?_
  refine k_gen [(2, U.box 0 0), (3, U.box 1 0), (5, U.lst Kd.full 0 []), (6, .int .i64 30), (33, U.bool !Bool.false)] ([SB.box [U.lst Kd.ro 3 (trisU (Shop.tools s)), .int .i64 (Shop.flo s), .int .i64 (Shop.fhi s), U.lst Kd.ro 3 (trisU (Shop.keys s))], SB.box [.int .i64 a, .int .i64 b]]) (.cons rfl (.cons rfl (.cons rfl (.cons rfl (.cons rfl (.nil rfl)))))) rfl fun fr => ?_
  refine k_cT rfl rfl ?_
  refine k_seq (k_region ?_)
  refine o_move rfl ?_
  refine o_eql rfl rfl rfl ?_
  refine o_move rfl ?_
  refine o_gD rfl rfl rfl rfl rfl ?_
  refine o_move rfl ?_
  refine o_gD rfl rfl rfl rfl rfl ?_
  refine o_len rfl ty38 rfl rfl ?_
  refine o_gD rfl rfl rfl rfl rfl ?_
  refine o_eql rfl rfl rfl ?_
  refine o_pickT rfl rfl rfl ?_
  refine o_move rfl ?_
  refine o_gD rfl rfl rfl rfl rfl ?_
  refine o_call rfl (r20) (.lrefl _) ?_
  refine o_pickT rfl rfl rfl ?_
  refine o_assign rfl ?_
  refine o_nil ?_
  refine k_ret ?_
  refine ⟨.inr rfl, _, .cons _ _ _ _ (.tmp 4) .nil, ?_⟩
  exact .refl _
def totU (s : Shop) (n : Nat) : Int := ((s.keys.take n).map fun k => unN (strokeR s k)).foldl (· + ·) 0
theorem totU_succ {s : Shop} {n : Nat} {k : Tri} (h : s.keys[n]? = some k) : totU s (n + 1) = totU s n + unN (strokeR s k) := by
  unfold totU; rw [List.take_add_one, h, List.map_append, List.foldl_append]; rfl
theorem totU_eq {s : Shop} (h : ∀ i, i < 6 → spB s i = false) (hn : s.keys.length ≤ 6) : ∀ n, n ≤ s.keys.length → totU s n = totS s n := by
  intro n
  induction n with
  | zero => intro _; rfl
  | succ n ih =>
    intro hl
    obtain ⟨k, hk⟩ := hk_has (s := s) (i := n) (by omega)
    rw [totU_succ hk, tot_succ hk, ih (by omega)]
    have := h n (by omega)
    unfold spB at this; rw [hk] at this
    have := of_decide_eq_false this
    rw [show unN (strokeR s k) = strokeR s k from if_neg this]
def wkN (s : Shop) (k : Tri) (j : Nat) : Int := ((List.range j).map fun j : Nat => nxn (cho s true (k.a + j) k.c)).foldl (fun a b => max a b) 0
def wkS (s : Shop) (k : Tri) (j : Nat) : Bool := (hkL s k j).any fun x => decide (x = 31)
theorem wkN_succ (s : Shop) (k : Tri) (j : Nat) : wkN s k (j + 1) = max (wkN s k j) (nxn (cho s true (k.a + j) k.c)) := by
  unfold wkN; rw [List.range_succ, List.map_append, List.foldl_append]; rfl
theorem wkS_succ (s : Shop) (k : Tri) (j : Nat) : wkS s k (j + 1) = (wkS s k j || decide (nxe (cho s true (k.a + j) k.c) ≠ 0)) := by
  unfold wkS; rw [hk_succ, List.any_append]
  congr 1
  show (decide _ || false) = _
  rw [Bool.or_false, decide_eq_decide]
  unfold nxe; split <;> simp_all
theorem wk_end (s : Shop) (k : Tri) : (strokeR s k = 31 ∧ wkS s k (widM k) = true) ∨ (strokeR s k ≠ 31 ∧ wkS s k (widM k) = false ∧ wkN s k (widM k) = strokeR s k) := by
  have hb : ∀ x ∈ hkL s k (widM k), 0 ≤ x ∧ x ≤ 31 := fun x hx => by
    obtain ⟨o, _, _, rfl⟩ := hk_iff.1 hx
    exact ⟨(cho_b s true o k.c).1, (cho_b s true o k.c).2.1⟩
  by_cases h : wkS s k (widM k) = true
  · refine .inl ⟨?_, h⟩
    obtain ⟨x, hx, h2⟩ := List.any_eq_true.1 h
    have h2 := of_decide_eq_true h2
    have := foldmax_mem _ 0 x hx
    have h3 := (stroke_b s k).2
    unfold strokeR cntL at h3 ⊢
    simp only [if_true] at h3 ⊢
    omega
  · have h : wkS s k (widM k) = false := by rw [← Bool.not_eq_true]; exact h
    have hne : ∀ x ∈ hkL s k (widM k), x ≠ 31 := fun x hx e => by
      have := List.any_eq_false.1 h x hx
      rw [e] at this; exact this rfl
    refine .inr ⟨?_, h, ?_⟩
    · unfold strokeR cntL
      simp only [if_true]
      have : (hkL s k (widM k)).foldl (fun a b => max a b) 0 ≤ 30 := foldmax_le _ _ _ (by omega) fun x hx => by have := hb x hx; have := hne x hx; omega
      omega
    · unfold wkN strokeR cntL hkL
      simp only [if_true]
      congr 1
      refine List.map_congr_left fun j hj => ?_
      have : (cho s true (k.a + j) k.c).2 ≠ 31 := hne _ (List.mem_map.2 ⟨j, hj, rfl⟩)
      exact if_neg this
theorem spB_mem {s : Shop} (hn : s.keys.length ≤ 6) {i : Nat} {k : Tri} (h : s.keys[i]? = some k) : (i : Int) ∈ lsB (spB s) 6 ↔ strokeR s k = 31 := by
  have hil := (List.getElem?_eq_some_iff.1 h).1
  have e : spB s i = decide (strokeR s k = 31) := by unfold spB; rw [h]
  unfold lsB
  rw [List.mem_map]
  constructor
  · rintro ⟨j, hj, e2⟩
    have : j = i := by omega
    subst this
    have := (List.mem_filter.1 hj).2
    rw [e] at this; exact of_decide_eq_true this
  · intro h2
    exact ⟨i, List.mem_filter.2 ⟨List.mem_range.2 (by omega), by rw [e]; exact decide_eq_true h2⟩, rfl⟩
theorem need_none {s : Shop} {off metal : Int} (h : needR s off = none) (h0 : 0 ≤ metal) (h1 : metal ≤ 30) : (cho s true off metal).2 = 31 := by
  have := List.find?_eq_none.1 h metal.toNat (List.mem_range.2 (by omega))
  rw [show ((metal.toNat : Nat) : Int) = metal by omega] at this
  simpa using this
theorem need_le {s : Shop} {off : Int} {m : Nat} (h : needR s off = some m) : m ≤ 30 := by
  have := List.mem_range.1 (List.mem_of_find?_eq_some h)
  omega
theorem need_some {s : Shop} (hk : SOk s) {off metal : Int} {m : Nat} (h : needR s off = some m) (h0 : 0 ≤ metal) (h1 : metal ≤ 30) : (cho s true off metal).2 ≠ 31 ↔ (m : Int) ≤ metal := by
  have hm := need_le h
  have h2 : (cho s true off m).2 ≠ 31 := by have := List.find?_some h; simpa using this
  constructor
  · intro h3
    by_cases e : (m : Int) ≤ metal
    · exact e
    · exfalso
      obtain ⟨_, xs, ys, hx, hy⟩ := List.find?_eq_some_iff_append.1 h
      have hlen : xs.length = m := by
        have := congrArg (fun l => l[xs.length]?) hx
        rw [List.getElem?_append_right (Nat.le_refl _), Nat.sub_self] at this
        obtain ⟨hlt, he⟩ := List.getElem?_eq_some_iff.1 this
        rw [List.getElem_range] at he; exact he
      have hin : metal.toNat ∈ xs := by
        have h5 : (List.range 31)[metal.toNat]? = some metal.toNat := List.getElem?_range (by omega)
        rw [hx, List.getElem?_append_left (by omega)] at h5
        exact List.mem_of_getElem? h5
      have := hy _ hin
      rw [show ((metal.toNat : Nat) : Int) = metal by omega] at this
      simp at this; exact h3 this
  · intro h3 h4
    have := cho_more hk (w := true) (off := off) (m := m) (m' := metal) (by omega) h3
    have := (cho_b s true off m).2.1
    omega
set_option maxHeartbeats 4000000 in
theorem ret10s (hi : Off is) {s : Shop} (hk : SOk s) (a b : Int) (r20 : RetP Try.prog is orc 20 [] (.bool true)) : RetP Try.prog is orc 10 [s.u, .agg [.int .i64 a, .int .i64 b]] (.bool true) := by
  have hnk := hk.nk
  have q41 := ret41 (orc := orc) hi (lsB (spB s) 6) s.keys.length (lsB_le _)
  rw [gr_lsB] at q41
  obtain ⟨l, hl⟩ : ∃ l, l = lsB (spB s) 6 := ⟨_, rfl⟩
  have q23 := ret23 (orc := orc) hi hk
  rw [← hl] at q23 q41
  have hll : l.length ≤ 4096 := by rw [hl]; exact lsB_le _
  have q42 := fun n => ret42 (orc := orc) hi l n hll
  obtain ⟨T, E, q26, hE⟩ : ∃ T E, RetP Try.prog is orc 26 [s.u] (.tup [.int .i64 T, .int .i64 E]) ∧ ((E = 0 ∧ (l.length : Int) = 0 ∧ T = totS s s.keys.length) ∨ (E = 4 ∧ ¬ (l.length : Int) = 0 ∧ T = 0)) := by
    have q26 := ret26 (orc := orc) hi hk
    cases hab : anyB (spB s) with
    | true =>
      rw [hab, if_pos rfl] at q26
      refine ⟨_, _, q26, .inr ⟨rfl, fun e => ?_, rfl⟩⟩
      have : l = [] := List.eq_nil_of_length_eq_zero (by omega)
      rw [hl, ← ls_nil, hab] at this; cases this
    | false =>
      rw [hab, if_neg (by decide)] at q26
      exact ⟨_, _, q26, .inl ⟨rfl, by rw [hl, (ls_nil _).1 hab]; rfl, rfl⟩⟩
  refine ret_of body10 pure10 (hi 10 (by decide)) rfl rfl (dat_l2 (dat_shop s 5) (dat_span _ _ _)) (.inl (.bool _ _)) ?_
  refine k_seq (k_region ?_)
  refine o_box rfl rfl ?_
  refine o_box rfl rfl ?_
  refine o_assign rfl ?_
  refine o_nil ?_
  refine k_seq (k_region ?_)
  refine o_loadN rfl rfl rfl sh27 rfl ?_
  refine o_call rfl (q23) (.lrefl _) ?_
  refine o_move rfl ?_
  refine o_extract rfl rfl rfl ?_
  refine o_extract rfl rfl rfl ?_
  refine o_assign rfl ?_
  refine o_assign rfl ?_
  refine o_nil ?_
  refine k_seq ?_
  refine k_seq (k_region ?_)
  refine o_loadN rfl rfl rfl sh27 rfl ?_
  refine o_call rfl (ret32 hi hk) (.lrefl _) ?_
  refine o_not rfl rfl ?_
  refine o_nil ?_
  refine k_gen [(2, U.box 0 0), (3, U.box 1 0), (5, U.lst Kd.ro 1 (intsU l)), (6, .int .i64 0), (33, U.bool !Bool.true)] ([SB.box [U.lst Kd.ro 3 (trisU (Shop.tools s)), .int .i64 (Shop.flo s), .int .i64 (Shop.fhi s), U.lst Kd.ro 3 (trisU (Shop.keys s))], SB.box [.int .i64 a, .int .i64 b]]) (.cons rfl (.cons rfl (.cons rfl (.cons rfl (.cons rfl (.nil rfl)))))) rfl fun fr => ?_
  refine k_cF rfl rfl ?_
  refine k_skip ?_
  refine k_seq (k_region ?_)
  refine o_loadN rfl rfl rfl sh27 rfl ?_
  refine o_call rfl (q26) (.lrefl _) ?_
  refine o_move rfl ?_
  refine o_extract rfl rfl rfl ?_
  refine o_extract rfl rfl rfl ?_
  refine o_assign rfl ?_
  refine o_assign rfl ?_
  refine o_nil ?_
  refine k_cut (fun st => st.st = [.box s.cs, .box [.int .i64 a, .int .i64 b]] ∧ Holds st [(2, .box 0 0), (3, .box 1 0), (5, .lst .ro 1 (intsU l)), (7, .int .i64 T), (8, .int .i64 E)]) ?_ (fun st hM => ?_)
  · rcases hE with ⟨rfl, hln, rfl⟩ | ⟨rfl, hln, rfl⟩
    · have k65 : decide (decide ((0 : Int) = 0) ≠ decide ((l.length : Int) = 0)) = false := by rw [decide_eq_true hln]; rfl
      refine k_seq (k_region ?_)
      refine o_move rfl ?_
      refine o_neq rfl rfl rfl ?_
      refine o_move rfl ?_
      refine o_gD rfl rfl rfl rfl rfl ?_
      refine o_move rfl ?_
      refine o_gD rfl rfl rfl rfl rfl ?_
      refine o_faddr rfl rfl fld27_2 ?_
      refine o_gD rfl rfl rfl rfl rfl ?_
      refine o_load1 rfl rfl rfl sh25 rfl ?_
      refine o_gD rfl rfl rfl rfl rfl ?_
      refine o_len rfl ty25 rfl (List.length_map _) ?_
      refine o_gD rfl rfl rfl rfl rfl ?_
      refine o_call rfl (q41) (.lrefl _) ?_
      refine o_gD rfl rfl rfl rfl rfl ?_
      refine o_not rfl rfl ?_
      refine o_genA [(2, U.box 0 0), (3, U.box 1 0), (5, U.lst Kd.ro 1 (intsU l)), (7, .int .i64 (totS s (List.length (Shop.keys s)))), (8, .int .i64 0), (51, U.bool (Decidable.decide ((0 : Int) ≠ (0 : Int)))), (57, U.bool !Bool.true)] [] ([SB.box [U.lst Kd.ro 3 (trisU (Shop.tools s)), .int .i64 (Shop.flo s), .int .i64 (Shop.fhi s), U.lst Kd.ro 3 (trisU (Shop.keys s))], SB.box [.int .i64 a, .int .i64 b]]) (.cons rfl (.cons rfl (.cons rfl (.cons rfl (.cons rfl (.cons rfl (.cons rfl (.nil rfl)))))))) rfl rfl fun fr => ?_
      refine o_pickF rfl rfl rfl ?_
      refine o_move rfl ?_
      refine o_gD rfl rfl rfl rfl rfl ?_
      refine o_move rfl ?_
      refine o_gD rfl rfl rfl rfl rfl ?_
      refine o_eql rfl rfl rfl ?_
      refine o_gD rfl rfl rfl rfl rfl ?_
      refine o_move rfl ?_
      refine o_gD rfl rfl rfl rfl rfl ?_
      refine o_len rfl ty38 rfl (List.length_map _) ?_
      refine o_gD rfl rfl rfl rfl rfl ?_
      refine o_eql rfl rfl rfl ?_
      refine o_gD rfl rfl rfl rfl rfl ?_
      refine o_neqB rfl ty4 rfl rfl ?_
      refine o_pickF rfl rfl rfl ?_
      refine o_genA [(2, U.box 0 0), (3, U.box 1 0), (5, U.lst Kd.ro 1 (intsU l)), (7, .int .i64 (totS s (List.length (Shop.keys s)))), (8, .int .i64 0), (66, U.bool (Decidable.decide (Decidable.decide ((0 : Int) = (0 : Int)) ≠ Decidable.decide (↑(List.length l) = (0 : Int)))))] [] ([SB.box [U.lst Kd.ro 3 (trisU (Shop.tools s)), .int .i64 (Shop.flo s), .int .i64 (Shop.fhi s), U.lst Kd.ro 3 (trisU (Shop.keys s))], SB.box [.int .i64 a, .int .i64 b]]) (.cons rfl (.cons rfl (.cons rfl (.cons rfl (.cons rfl (.cons rfl (.nil rfl))))))) rfl rfl fun fr => ?_
      refine o_move rfl ?_
      refine o_gD rfl rfl rfl rfl (by assumption) ?_
      refine o_move rfl ?_
      refine o_gD rfl rfl rfl rfl (by assumption) ?_
      refine o_neq rfl rfl rfl ?_
      refine o_gD rfl rfl rfl rfl (by assumption) ?_
      refine o_move rfl ?_
      refine o_gS rfl rfl rfl rfl rfl ?_
      refine o_gS rfl rfl rfl rfl rfl ?_
      refine o_gS rfl rfl rfl rfl rfl ?_
      refine o_dead rfl rfl rfl rfl ?_
      refine o_dead rfl rfl rfl rfl ?_
      refine o_genA [(2, U.box 0 0), (3, U.box 1 0), (5, U.lst Kd.ro 1 (intsU l)), (7, .int .i64 (totS s (List.length (Shop.keys s)))), (8, .int .i64 0), (67, U.bool (Decidable.decide (Decidable.decide ((0 : Int) = (0 : Int)) ≠ Decidable.decide (↑(List.length l) = (0 : Int))))), (70, U.bool (Decidable.decide ((0 : Int) ≠ (0 : Int)))), (73, U.tup []), (75, U.tup [])] [] ([SB.box [U.lst Kd.ro 3 (trisU (Shop.tools s)), .int .i64 (Shop.flo s), .int .i64 (Shop.fhi s), U.lst Kd.ro 3 (trisU (Shop.keys s))], SB.box [.int .i64 a, .int .i64 b]]) (.cons rfl (.cons rfl (.cons rfl (.cons rfl (.cons rfl (.cons rfl (.cons rfl (.cons rfl (.cons rfl (.nil rfl)))))))))) rfl rfl fun fr => ?_
      refine o_gS rfl rfl rfl rfl rfl ?_
      refine o_gD rfl rfl rfl rfl (by assumption) ?_
      refine o_pickF rfl rfl rfl ?_
      refine o_pickF rfl rfl (by assumption) ?_
      refine o_nil ?_
      refine k_gen [(2, U.box 0 0), (3, U.box 1 0), (5, U.lst Kd.ro 1 (intsU l)), (7, .int .i64 (totS s (List.length (Shop.keys s)))), (8, .int .i64 0), (78, U.bool Bool.false)] ([SB.box [U.lst Kd.ro 3 (trisU (Shop.tools s)), .int .i64 (Shop.flo s), .int .i64 (Shop.fhi s), U.lst Kd.ro 3 (trisU (Shop.keys s))], SB.box [.int .i64 a, .int .i64 b]]) (.cons rfl (.cons rfl (.cons rfl (.cons rfl (.cons rfl (.cons rfl (.nil rfl))))))) rfl fun fr => ?_
      refine k_cF rfl rfl ?_
      refine k_skip ?_
      exact ⟨rfl, rfl, .cons rfl (.cons rfl (.cons rfl (.cons rfl (.cons rfl (.nil rfl)))))⟩
    · have k65 : decide (decide ((4 : Int) = 0) ≠ decide ((l.length : Int) = 0)) = false := by rw [decide_eq_false hln]; rfl
      refine k_seq (k_region ?_)
      refine o_move rfl ?_
      refine o_neq rfl rfl rfl ?_
      refine o_move rfl ?_
      refine o_gD rfl rfl rfl rfl rfl ?_
      refine o_move rfl ?_
      refine o_gD rfl rfl rfl rfl rfl ?_
      refine o_faddr rfl rfl fld27_2 ?_
      refine o_gD rfl rfl rfl rfl rfl ?_
      refine o_load1 rfl rfl rfl sh25 rfl ?_
      refine o_gD rfl rfl rfl rfl rfl ?_
      refine o_len rfl ty25 rfl (List.length_map _) ?_
      refine o_gD rfl rfl rfl rfl rfl ?_
      refine o_call rfl (q41) (.lrefl _) ?_
      refine o_gD rfl rfl rfl rfl rfl ?_
      refine o_not rfl rfl ?_
      refine o_genA [(2, U.box 0 0), (3, U.box 1 0), (5, U.lst Kd.ro 1 (intsU l)), (7, .int .i64 0), (8, .int .i64 4), (51, U.bool (Decidable.decide ((0 : Int) ≠ (0 : Int)))), (57, U.bool !Bool.true)] [] ([SB.box [U.lst Kd.ro 3 (trisU (Shop.tools s)), .int .i64 (Shop.flo s), .int .i64 (Shop.fhi s), U.lst Kd.ro 3 (trisU (Shop.keys s))], SB.box [.int .i64 a, .int .i64 b]]) (.cons rfl (.cons rfl (.cons rfl (.cons rfl (.cons rfl (.cons rfl (.cons rfl (.nil rfl)))))))) rfl rfl fun fr => ?_
      refine o_pickF rfl rfl rfl ?_
      refine o_move rfl ?_
      refine o_gD rfl rfl rfl rfl rfl ?_
      refine o_move rfl ?_
      refine o_gD rfl rfl rfl rfl rfl ?_
      refine o_eql rfl rfl rfl ?_
      refine o_gD rfl rfl rfl rfl rfl ?_
      refine o_move rfl ?_
      refine o_gD rfl rfl rfl rfl rfl ?_
      refine o_len rfl ty38 rfl (List.length_map _) ?_
      refine o_gD rfl rfl rfl rfl rfl ?_
      refine o_eql rfl rfl rfl ?_
      refine o_gD rfl rfl rfl rfl rfl ?_
      refine o_neqB rfl ty4 rfl rfl ?_
      refine o_pickF rfl rfl rfl ?_
      refine o_genA [(2, U.box 0 0), (3, U.box 1 0), (5, U.lst Kd.ro 1 (intsU l)), (7, .int .i64 0), (8, .int .i64 4), (66, U.bool (Decidable.decide (Decidable.decide ((4 : Int) = (0 : Int)) ≠ Decidable.decide (↑(List.length l) = (0 : Int)))))] [] ([SB.box [U.lst Kd.ro 3 (trisU (Shop.tools s)), .int .i64 (Shop.flo s), .int .i64 (Shop.fhi s), U.lst Kd.ro 3 (trisU (Shop.keys s))], SB.box [.int .i64 a, .int .i64 b]]) (.cons rfl (.cons rfl (.cons rfl (.cons rfl (.cons rfl (.cons rfl (.nil rfl))))))) rfl rfl fun fr => ?_
      refine o_move rfl ?_
      refine o_gD rfl rfl rfl rfl (by assumption) ?_
      refine o_move rfl ?_
      refine o_gD rfl rfl rfl rfl (by assumption) ?_
      refine o_neq rfl rfl rfl ?_
      refine o_gD rfl rfl rfl rfl (by assumption) ?_
      refine o_move rfl ?_
      refine o_gD rfl rfl rfl rfl rfl ?_
      refine o_move rfl ?_
      refine o_gD rfl rfl rfl rfl rfl ?_
      refine o_neq rfl rfl rfl ?_
      refine o_gD rfl rfl rfl rfl rfl ?_
      refine o_move rfl ?_
      refine o_gD rfl rfl rfl rfl rfl ?_
      refine o_move rfl ?_
      refine o_gD rfl rfl rfl rfl rfl ?_
      refine o_neq rfl rfl rfl ?_
      refine o_genA [(2, U.box 0 0), (3, U.box 1 0), (5, U.lst Kd.ro 1 (intsU l)), (7, .int .i64 0), (8, .int .i64 4), (67, U.bool (Decidable.decide (Decidable.decide ((4 : Int) = (0 : Int)) ≠ Decidable.decide (↑(List.length l) = (0 : Int))))), (70, U.bool (Decidable.decide ((4 : Int) ≠ (0 : Int)))), (73, U.bool (Decidable.decide ((4 : Int) ≠ (4 : Int)))), (75, U.bool (Decidable.decide ((0 : Int) ≠ (0 : Int))))] [] ([SB.box [U.lst Kd.ro 3 (trisU (Shop.tools s)), .int .i64 (Shop.flo s), .int .i64 (Shop.fhi s), U.lst Kd.ro 3 (trisU (Shop.keys s))], SB.box [.int .i64 a, .int .i64 b]]) (.cons rfl (.cons rfl (.cons rfl (.cons rfl (.cons rfl (.cons rfl (.cons rfl (.cons rfl (.cons rfl (.nil rfl)))))))))) rfl rfl fun fr => ?_
      refine o_gD rfl rfl rfl rfl rfl ?_
      refine o_genA [(2, U.box 0 0), (3, U.box 1 0), (5, U.lst Kd.ro 1 (intsU l)), (7, .int .i64 0), (8, .int .i64 4), (67, U.bool (Decidable.decide (Decidable.decide ((4 : Int) = (0 : Int)) ≠ Decidable.decide (↑(List.length l) = (0 : Int))))), (70, U.bool (Decidable.decide ((4 : Int) ≠ (0 : Int)))), (73, U.bool (Decidable.decide ((4 : Int) ≠ (4 : Int)))), (75, U.bool (Decidable.decide ((0 : Int) ≠ (0 : Int))))] [] ([SB.box [U.lst Kd.ro 3 (trisU (Shop.tools s)), .int .i64 (Shop.flo s), .int .i64 (Shop.fhi s), U.lst Kd.ro 3 (trisU (Shop.keys s))], SB.box [.int .i64 a, .int .i64 b]]) (.cons rfl (.cons rfl (.cons rfl (.cons rfl (.cons rfl (.cons rfl (.cons rfl (.cons rfl (.cons rfl (.nil rfl)))))))))) rfl rfl fun fr => ?_
      refine o_pickF rfl rfl rfl ?_
      refine o_gD rfl rfl rfl rfl (by assumption) ?_
      refine o_pickT rfl rfl rfl ?_
      refine o_pickF rfl rfl (by assumption) ?_
      refine o_nil ?_
      refine k_gen [(2, U.box 0 0), (3, U.box 1 0), (5, U.lst Kd.ro 1 (intsU l)), (7, .int .i64 0), (8, .int .i64 4), (78, U.bool (Decidable.decide ((0 : Int) ≠ (0 : Int))))] ([SB.box [U.lst Kd.ro 3 (trisU (Shop.tools s)), .int .i64 (Shop.flo s), .int .i64 (Shop.fhi s), U.lst Kd.ro 3 (trisU (Shop.keys s))], SB.box [.int .i64 a, .int .i64 b]]) (.cons rfl (.cons rfl (.cons rfl (.cons rfl (.cons rfl (.cons rfl (.nil rfl))))))) rfl fun fr => ?_
      refine k_cF rfl rfl ?_
      refine k_skip ?_
      exact ⟨rfl, rfl, .cons rfl (.cons rfl (.cons rfl (.cons rfl (.cons rfl (.nil rfl)))))⟩
  obtain ⟨hst, hs⟩ := hM
  refine k_gen _ _ hs hst fun fr => ?_
  refine k_seq (k_region ?_)
  refine o_assign rfl ?_
  refine o_nil ?_
  refine k_seq ?_
  refine k_seq (k_region ?_)
  refine o_assign rfl ?_
  refine o_nil ?_
  refine k_block ?_
  refine k_loop (fun kk st => ∃ (i : Nat), kk + i = s.keys.length ∧ 0 ≤ totU s i ∧ totU s i ≤ 31 * i ∧ st.st = [.box s.cs, .box [.int .i64 a, .int .i64 b]] ∧ Holds st [(2, .box 0 0), (3, .box 1 0), (5, .lst .ro 1 (intsU l)), (7, .int .i64 T), (8, .int .i64 E), (9, .int .i64 (totU s i)), (10, .int .i64 i)]) (fun k0 st hI => ?_) s.keys.length _ ?_
  · obtain ⟨i, hki, ht0, ht1, hst, hs⟩ := hI
    refine k_gen _ _ hs hst fun fr => ?_
    refine k_seq ?_
    refine k_seq (k_region ?_)
    refine o_move rfl ?_
    refine o_faddr rfl rfl fld27_2 ?_
    refine o_load1 rfl rfl rfl sh25 rfl ?_
    refine o_len rfl ty25 rfl (List.length_map _) ?_
    refine o_lss rfl rfl rfl ?_
    refine o_nil ?_
    refine k_cond rfl (fun h83 => ?_) (fun h83 => ?_)
    · refine k_skip ?_
      refine k_seq ?_
      refine k_block ?_
      refine k_seq (k_region ?_)
      refine o_loadN rfl rfl rfl sh27 rfl ?_
      refine o_move rfl ?_
      have hil : i < s.keys.length := by have := of_decide_eq_true h83; omega
      obtain ⟨q, hq⟩ := hk_has hil
      have hqb := hk.keys q (List.mem_of_getElem? hq)
      have hsb := stroke_b s q
      have hts := totU_succ hq
      have q21 := ret21 (orc := orc) hi hk hq
      refine o_call rfl (q21) (.lrefl _) ?_
      refine o_move rfl ?_
      refine o_extract rfl rfl rfl ?_
      refine o_extract rfl rfl rfl ?_
      refine o_assign rfl ?_
      refine o_assign rfl ?_
      refine o_nil ?_
      refine k_seq (k_region ?_)
      refine o_assign rfl ?_
      refine o_assign rfl ?_
      refine o_nil ?_
      refine k_seq ?_
      refine k_seq (k_region ?_)
      refine o_faddr rfl rfl fld27_2 ?_
      refine o_load1 rfl rfl rfl sh25 rfl ?_
      refine o_move rfl ?_
      refine o_idx (u := (q).u) rfl ty25 rfl rfl (Int.natCast_nonneg _) (by simp [hq]) cl64 ?_
      refine o_faddrR rfl rfl fld64_0 ?_
      refine o_faddrR rfl rfl fld24_0 ?_
      refine o_loadR1 rfl rfl sh3 rfl ?_
      refine o_assign rfl ?_
      refine o_nil ?_
      refine k_gen [(2, U.box 0 0), (3, U.box 1 0), (5, U.lst Kd.ro 1 (intsU l)), (7, .int .i64 T), (8, .int .i64 E), (9, .int .i64 (totU s i)), (10, .int .i64 ↑i), (11, .int .i64 (unN (strokeR s q))), (12, .int .i64 (unE (strokeR s q))), (13, .int .i64 0), (14, U.bool Bool.false), (15, .int .i64 (Tri.a q))] ([SB.box (Shop.cs s), SB.box [.int .i64 a, .int .i64 b]]) (.cons rfl (.cons rfl (.cons rfl (.cons rfl (.cons rfl (.cons rfl (.cons rfl (.cons rfl (.cons rfl (.cons rfl (.cons rfl (.cons rfl (.nil rfl))))))))))))) rfl fun fr => ?_
      refine k_block ?_
      refine k_loop (fun kk st => ∃ (j : Nat) (c : Bool), kk + j = widM q ∧ c = wkS s q j ∧ st.st = [.box s.cs, .box [.int .i64 a, .int .i64 b]] ∧ Holds st [(2, .box 0 0), (3, .box 1 0), (5, .lst .ro 1 (intsU l)), (7, .int .i64 T), (8, .int .i64 E), (9, .int .i64 (totU s i)), (10, .int .i64 i), (11, .int .i64 (unN (strokeR s q))), (12, .int .i64 (unE (strokeR s q))), (13, .int .i64 (wkN s q j)), (14, .bool c), (15, .int .i64 (q.a + j))]) (fun kk st hI => ?_) (widM q) _ ?_
      · obtain ⟨j, c, hkj, hc, hst, hs⟩ := hI
        refine k_gen _ _ hs hst fun fr => ?_
        have hw : (widM q : Int) = q.b - q.a + 1 := by unfold widM; omega
        refine k_seq ?_
        refine k_seq (k_region ?_)
        refine o_move rfl ?_
        refine o_faddr rfl rfl fld27_2 ?_
        refine o_load1 rfl rfl rfl sh25 rfl ?_
        refine o_move rfl ?_
        refine o_idx (u := (q).u) rfl ty25 rfl rfl (Int.natCast_nonneg _) (by simp [hq]) cl64 ?_
        refine o_faddrR rfl rfl fld64_0 ?_
        refine o_faddrR rfl rfl fld24_1 ?_
        refine o_loadR1 rfl rfl sh3 rfl ?_
        refine o_leq rfl rfl rfl ?_
        refine o_nil ?_
        refine k_cond rfl (fun h107 => ?_) (fun h107 => ?_)
        · refine k_skip ?_
          refine k_seq ?_
          refine k_block ?_
          refine k_seq ?_
          refine k_draw [.read true, .plain, .plain, .read true, .plain, .plain, .plain, .read true, .plain, .plain, .plain, .plain, .plain, .plain, .plain, .plain] (by kernel_rfl) (by kernel_rfl) (by kernel_rfl) ?_
          refine d_load rfl (o_loadN rfl rfl rfl sh27 rfl (o_nil rfl)) ?_
          refine d_plain (o_move rfl (o_nil rfl)) ?_
          refine d_plain (o_faddr rfl rfl fld27_2 (o_nil rfl)) ?_
          refine d_load rfl (o_load1 rfl rfl rfl sh25 rfl (o_nil rfl)) ?_
          refine d_plain (o_move rfl (o_nil rfl)) ?_
          refine d_plain (o_idx (u := (q).u) rfl ty25 rfl rfl (Int.natCast_nonneg _) (by simp [hq]) cl64 (o_nil rfl)) ?_
          refine d_plain (o_faddrR rfl rfl fld64_1 (o_nil rfl)) ?_
          refine d_load rfl (o_loadR1 rfl rfl sh3 rfl (o_nil rfl)) ?_
          have hjl := of_decide_eq_true h107
          have ho : offB (q.a + j) = true := by unfold offB; simp; omega
          have hm : metB q.c = true := by unfold metB; simp; omega
          have q14 := ret14g (orc := orc) hi hk ho hm
          cases c with
          | true =>
            refine d_plain (o_call rfl (q14) (.lrefl _) (o_nil rfl)) ?_
            refine d_genA [(2, U.box 0 0), (3, U.box 1 0), (5, U.lst Kd.ro 1 (intsU l)), (7, .int .i64 T), (8, .int .i64 E), (9, .int .i64 (totU s i)), (10, .int .i64 ↑i), (11, .int .i64 (unN (strokeR s q))), (12, .int .i64 (unE (strokeR s q))), (13, .int .i64 (wkN s q j)), (14, U.bool Bool.true), (15, .int .i64 (Tri.a q + ↑j)), (119, U.tup [.int .i64 (nxt (cho s Bool.true (Tri.a q + ↑j) (Tri.c q))), .int .i64 (nxn (cho s Bool.true (Tri.a q + ↑j) (Tri.c q))), .int .i64 (nxe (cho s Bool.true (Tri.a q + ↑j) (Tri.c q)))])] [] ([SB.box (Shop.cs s), SB.box [.int .i64 a, .int .i64 b]]) (.cons rfl (.cons rfl (.cons rfl (.cons rfl (.cons rfl (.cons rfl (.cons rfl (.cons rfl (.cons rfl (.cons rfl (.cons rfl (.cons rfl (.cons rfl (.nil rfl)))))))))))))) rfl rfl fun fr => ?_
            refine d_plain (o_move rfl (o_nil rfl)) ?_
            refine d_plain (o_extract rfl rfl rfl (o_nil rfl)) ?_
            refine d_plain (o_extract rfl rfl rfl (o_nil rfl)) ?_
            refine d_plain (o_extract rfl rfl rfl (o_nil rfl)) ?_
            refine d_plain (o_assign rfl (o_nil rfl)) ?_
            refine d_plain (o_assign rfl (o_nil rfl)) ?_
            refine d_plain (o_assign rfl (o_nil rfl)) ?_
            refine d_nil ?_
            refine k_gen [(2, U.box 0 0), (3, U.box 1 0), (5, U.lst Kd.ro 1 (intsU l)), (7, .int .i64 T), (8, .int .i64 E), (9, .int .i64 (totU s i)), (10, .int .i64 ↑i), (11, .int .i64 (unN (strokeR s q))), (12, .int .i64 (unE (strokeR s q))), (13, .int .i64 (wkN s q j)), (14, U.bool Bool.true), (15, .int .i64 (Tri.a q + ↑j)), (17, .int .i64 (nxn (cho s Bool.true (Tri.a q + ↑j) (Tri.c q)))), (18, .int .i64 (nxe (cho s Bool.true (Tri.a q + ↑j) (Tri.c q))))] ([SB.box (Shop.cs s), SB.box [.int .i64 a, .int .i64 b]]) (.cons rfl (.cons rfl (.cons rfl (.cons rfl (.cons rfl (.cons rfl (.cons rfl (.cons rfl (.cons rfl (.cons rfl (.cons rfl (.cons rfl (.cons rfl (.cons rfl (.nil rfl))))))))))))))) rfl fun fr => ?_
            refine k_region ?_
            refine o_move rfl ?_
            refine o_move rfl ?_
            refine o_max rfl rfl rfl ?_
            refine o_move rfl ?_
            refine o_move rfl ?_
            refine o_gS rfl rfl rfl rfl rfl ?_
            refine o_gS rfl rfl rfl rfl rfl ?_
            refine o_pickT rfl rfl rfl ?_
            refine o_assign rfl ?_
            refine o_assign rfl ?_
            refine o_nil ?_
            refine k_region ?_
            refine o_move rfl ?_
            refine o_add rfl rfl rfl (by unfold I64; omega) ?_
            refine o_assign rfl ?_
            refine o_nil ?_
            exact ⟨kk - 1, by omega, j + 1, true, by omega, by rw [wkS_succ, ← hc]; rfl, rfl, .cons rfl (.cons rfl (.cons rfl (.cons rfl (.cons rfl (.cons rfl (.cons rfl (.cons rfl (.cons rfl (.cons (by rw [wkN_succ]; rfl) (.cons rfl (.cons (congrArg (U.int .i64) (by omega)) (.nil rfl))))))))))))⟩
          | false =>
            refine d_plain (o_call rfl (q14) (.lrefl _) (o_nil rfl)) ?_
            refine d_genA [(2, U.box 0 0), (3, U.box 1 0), (5, U.lst Kd.ro 1 (intsU l)), (7, .int .i64 T), (8, .int .i64 E), (9, .int .i64 (totU s i)), (10, .int .i64 ↑i), (11, .int .i64 (unN (strokeR s q))), (12, .int .i64 (unE (strokeR s q))), (13, .int .i64 (wkN s q j)), (14, U.bool Bool.false), (15, .int .i64 (Tri.a q + ↑j)), (119, U.tup [.int .i64 (nxt (cho s Bool.true (Tri.a q + ↑j) (Tri.c q))), .int .i64 (nxn (cho s Bool.true (Tri.a q + ↑j) (Tri.c q))), .int .i64 (nxe (cho s Bool.true (Tri.a q + ↑j) (Tri.c q)))])] [] ([SB.box (Shop.cs s), SB.box [.int .i64 a, .int .i64 b]]) (.cons rfl (.cons rfl (.cons rfl (.cons rfl (.cons rfl (.cons rfl (.cons rfl (.cons rfl (.cons rfl (.cons rfl (.cons rfl (.cons rfl (.cons rfl (.nil rfl)))))))))))))) rfl rfl fun fr => ?_
            refine d_plain (o_move rfl (o_nil rfl)) ?_
            refine d_plain (o_extract rfl rfl rfl (o_nil rfl)) ?_
            refine d_plain (o_extract rfl rfl rfl (o_nil rfl)) ?_
            refine d_plain (o_extract rfl rfl rfl (o_nil rfl)) ?_
            refine d_plain (o_assign rfl (o_nil rfl)) ?_
            refine d_plain (o_assign rfl (o_nil rfl)) ?_
            refine d_plain (o_assign rfl (o_nil rfl)) ?_
            refine d_nil ?_
            refine k_gen [(2, U.box 0 0), (3, U.box 1 0), (5, U.lst Kd.ro 1 (intsU l)), (7, .int .i64 T), (8, .int .i64 E), (9, .int .i64 (totU s i)), (10, .int .i64 ↑i), (11, .int .i64 (unN (strokeR s q))), (12, .int .i64 (unE (strokeR s q))), (13, .int .i64 (wkN s q j)), (14, U.bool Bool.false), (15, .int .i64 (Tri.a q + ↑j)), (17, .int .i64 (nxn (cho s Bool.true (Tri.a q + ↑j) (Tri.c q)))), (18, .int .i64 (nxe (cho s Bool.true (Tri.a q + ↑j) (Tri.c q))))] ([SB.box (Shop.cs s), SB.box [.int .i64 a, .int .i64 b]]) (.cons rfl (.cons rfl (.cons rfl (.cons rfl (.cons rfl (.cons rfl (.cons rfl (.cons rfl (.cons rfl (.cons rfl (.cons rfl (.cons rfl (.cons rfl (.cons rfl (.nil rfl))))))))))))))) rfl fun fr => ?_
            refine k_region ?_
            refine o_move rfl ?_
            refine o_move rfl ?_
            refine o_max rfl rfl rfl ?_
            refine o_move rfl ?_
            refine o_move rfl ?_
            refine o_gD rfl rfl rfl rfl rfl ?_
            refine o_move rfl ?_
            refine o_gD rfl rfl rfl rfl rfl ?_
            refine o_neq rfl rfl rfl ?_
            refine o_pickF rfl rfl rfl ?_
            refine o_assign rfl ?_
            refine o_assign rfl ?_
            refine o_nil ?_
            refine k_region ?_
            refine o_move rfl ?_
            refine o_add rfl rfl rfl (by unfold I64; omega) ?_
            refine o_assign rfl ?_
            refine o_nil ?_
            exact ⟨kk - 1, by omega, j + 1, _, by omega, by rw [wkS_succ, ← hc]; rfl, rfl, .cons rfl (.cons rfl (.cons rfl (.cons rfl (.cons rfl (.cons rfl (.cons rfl (.cons rfl (.cons rfl (.cons (by rw [wkN_succ]; rfl) (.cons rfl (.cons (congrArg (U.int .i64) (by omega)) (.nil rfl))))))))))))⟩
        · refine k_exit ?_
          refine k_seq ?_
          refine k_seq (k_region ?_)
          refine o_move rfl ?_
          refine o_move rfl ?_
          refine o_move rfl ?_
          have hjl := of_decide_eq_false h107
          have hj : j = widM q := by omega
          subst hj
          have hmem := spB_mem hnk hq
          rw [← hl] at hmem
          rcases wk_end s q with ⟨h31, hS⟩ | ⟨h31, hS, hW⟩
          · rw [hS] at hc; subst hc
            have en : unN (strokeR s q) = 0 := if_pos h31
            have ee : unE (strokeR s q) = 4 := if_pos h31
            rw [en] at hts
            rw [en, ee]
            have k136 : decide (true ≠ decide (whI l i ≥ 0)) = false := by rw [decide_eq_true ((wh_iff l i).2 (hmem.2 h31))]; rfl
            refine o_call rfl (q42 _) (.lrefl _) ?_
            refine o_geq rfl rfl rfl ?_
            refine o_neqB rfl ty4 rfl rfl ?_
            refine o_move rfl ?_
            refine o_gD rfl rfl rfl rfl (by assumption) ?_
            refine o_move rfl ?_
            refine o_gD rfl rfl rfl rfl (by assumption) ?_
            refine o_move rfl ?_
            refine o_genA [(2, U.box 0 0), (3, U.box 1 0), (5, U.lst Kd.ro 1 (intsU l)), (7, .int .i64 T), (8, .int .i64 E), (9, .int .i64 (totU s i)), (10, .int .i64 ↑i), (11, .int .i64 0), (12, .int .i64 4), (13, .int .i64 (wkN s q (widM q))), (14, U.bool Bool.true), (137, U.bool (Decidable.decide (Bool.true ≠ Decidable.decide ((0 : Int) ≤ whI l ↑i)))), (138, U.bool Bool.true), (139, .int .i64 4)] [] ([SB.box (Shop.cs s), SB.box [.int .i64 a, .int .i64 b]]) (.cons rfl (.cons rfl (.cons rfl (.cons rfl (.cons rfl (.cons rfl (.cons rfl (.cons rfl (.cons rfl (.cons rfl (.cons rfl (.cons rfl (.cons rfl (.cons rfl (.nil rfl))))))))))))))) rfl rfl fun fr => ?_
            refine o_gD rfl rfl rfl rfl (by assumption) ?_
            refine o_genA [(2, U.box 0 0), (3, U.box 1 0), (5, U.lst Kd.ro 1 (intsU l)), (7, .int .i64 T), (8, .int .i64 E), (9, .int .i64 (totU s i)), (10, .int .i64 ↑i), (11, .int .i64 0), (12, .int .i64 4), (13, .int .i64 (wkN s q (widM q))), (14, U.bool Bool.true), (137, U.bool (Decidable.decide (Bool.true ≠ Decidable.decide ((0 : Int) ≤ whI l ↑i)))), (138, U.bool Bool.true), (139, .int .i64 4)] [] ([SB.box (Shop.cs s), SB.box [.int .i64 a, .int .i64 b]]) (.cons rfl (.cons rfl (.cons rfl (.cons rfl (.cons rfl (.cons rfl (.cons rfl (.cons rfl (.cons rfl (.cons rfl (.cons rfl (.cons rfl (.cons rfl (.cons rfl (.nil rfl))))))))))))))) rfl rfl fun fr => ?_
            refine o_eql rfl rfl rfl ?_
            refine o_gD rfl rfl rfl rfl (by assumption) ?_
            refine o_neqB rfl ty4 rfl rfl ?_
            refine o_pickF rfl rfl (by assumption) ?_
            refine o_move rfl ?_
            refine o_gD rfl rfl rfl rfl rfl ?_
            refine o_move rfl ?_
            refine o_gD rfl rfl rfl rfl rfl ?_
            refine o_not rfl rfl ?_
            refine o_gD rfl rfl rfl rfl rfl ?_
            refine o_move rfl ?_
            refine o_gS rfl rfl rfl rfl rfl ?_
            refine o_gS rfl rfl rfl rfl rfl ?_
            refine o_genA [(2, U.box 0 0), (3, U.box 1 0), (5, U.lst Kd.ro 1 (intsU l)), (7, .int .i64 T), (8, .int .i64 E), (9, .int .i64 (totU s i)), (10, .int .i64 ↑i), (11, .int .i64 0), (13, .int .i64 (wkN s q (widM q))), (138, U.bool Bool.true), (139, .int .i64 4), (140, U.bool (Decidable.decide ((4 : Int) = (4 : Int)))), (141, U.bool (Decidable.decide (Bool.true ≠ Decidable.decide ((4 : Int) = (4 : Int))))), (143, U.bool (Decidable.decide (Bool.true ≠ Decidable.decide ((4 : Int) = (4 : Int))))), (144, U.bool Bool.true), (145, U.bool !Bool.true), (146, U.bool !Bool.true), (147, U.tup []), (148, U.tup [])] [] ([SB.box (Shop.cs s), SB.box [.int .i64 a, .int .i64 b]]) (.cons rfl (.cons rfl (.cons rfl (.cons rfl (.cons rfl (.cons rfl (.cons rfl (.cons rfl (.cons rfl (.cons rfl (.cons rfl (.cons rfl (.cons rfl (.cons rfl (.cons rfl (.cons rfl (.cons rfl (.cons rfl (.cons rfl (.nil rfl)))))))))))))))))))) rfl rfl fun fr => ?_
            refine o_gS rfl rfl rfl rfl rfl ?_
            refine o_dead rfl rfl rfl rfl ?_
            refine o_dead rfl rfl rfl rfl ?_
            refine o_dead rfl rfl rfl rfl ?_
            refine o_gS rfl rfl rfl rfl rfl ?_
            refine o_gD rfl rfl rfl rfl rfl ?_
            refine o_pickF rfl rfl rfl ?_
            refine o_pickF rfl rfl rfl ?_
            refine o_nil ?_
            refine k_gen [(2, U.box 0 0), (3, U.box 1 0), (5, U.lst Kd.ro 1 (intsU l)), (7, .int .i64 T), (8, .int .i64 E), (9, .int .i64 (totU s i)), (10, .int .i64 ↑i), (11, .int .i64 0), (138, U.bool Bool.true), (139, .int .i64 4), (140, U.bool (Decidable.decide ((4 : Int) = (4 : Int)))), (141, U.bool (Decidable.decide (Bool.true ≠ Decidable.decide ((4 : Int) = (4 : Int))))), (144, U.bool Bool.true), (145, U.bool !Bool.true), (146, U.bool !Bool.true), (147, U.tup []), (148, U.tup []), (149, U.tup []), (150, U.tup []), (151, U.tup []), (152, U.tup []), (153, U.tup []), (154, U.bool Bool.false), (155, U.bool Bool.false)] ([SB.box (Shop.cs s), SB.box [.int .i64 a, .int .i64 b]]) (.cons rfl (.cons rfl (.cons rfl (.cons rfl (.cons rfl (.cons rfl (.cons rfl (.cons rfl (.cons rfl (.cons rfl (.cons rfl (.cons rfl (.cons rfl (.cons rfl (.cons rfl (.cons rfl (.cons rfl (.cons rfl (.cons rfl (.cons rfl (.cons rfl (.cons rfl (.cons rfl (.cons rfl (.nil rfl))))))))))))))))))))))))) rfl fun fr => ?_
            refine k_cF rfl rfl ?_
            refine k_skip ?_
            refine k_region ?_
            refine o_move rfl ?_
            refine o_move rfl ?_
            refine o_add rfl rfl rfl (by unfold I64; omega) ?_
            refine o_assign rfl ?_
            refine o_nil ?_
            refine k_region ?_
            refine o_move rfl ?_
            refine o_add rfl rfl rfl (by unfold I64; omega) ?_
            refine o_assign rfl ?_
            refine o_nil ?_
            exact ⟨k0 - 1, by omega, i + 1, by omega, by omega, by omega, rfl, .cons rfl (.cons rfl (.cons rfl (.cons rfl (.cons rfl (.cons (by rw [hts]; rfl) (.cons rfl (.nil rfl)))))))⟩
          · rw [hS] at hc; subst hc
            have en : unN (strokeR s q) = strokeR s q := if_neg h31
            have ee : unE (strokeR s q) = 0 := if_neg h31
            rw [en] at hts
            rw [en, ee, hW]
            have k136 : decide (false ≠ decide (whI l i ≥ 0)) = false := by rw [decide_eq_false (fun h => h31 (hmem.1 ((wh_iff l i).1 h)))]; rfl
            refine o_call rfl (q42 _) (.lrefl _) ?_
            refine o_geq rfl rfl rfl ?_
            refine o_neqB rfl ty4 rfl rfl ?_
            refine o_move rfl ?_
            refine o_gD rfl rfl rfl rfl (by assumption) ?_
            refine o_move rfl ?_
            refine o_gD rfl rfl rfl rfl (by assumption) ?_
            refine o_move rfl ?_
            refine o_genA [(2, U.box 0 0), (3, U.box 1 0), (5, U.lst Kd.ro 1 (intsU l)), (7, .int .i64 T), (8, .int .i64 E), (9, .int .i64 (totU s i)), (10, .int .i64 ↑i), (11, .int .i64 (strokeR s q)), (12, .int .i64 0), (13, .int .i64 (strokeR s q)), (14, U.bool Bool.false), (137, U.bool (Decidable.decide (Bool.false ≠ Decidable.decide ((0 : Int) ≤ whI l ↑i)))), (138, U.bool Bool.false), (139, .int .i64 0)] [] ([SB.box (Shop.cs s), SB.box [.int .i64 a, .int .i64 b]]) (.cons rfl (.cons rfl (.cons rfl (.cons rfl (.cons rfl (.cons rfl (.cons rfl (.cons rfl (.cons rfl (.cons rfl (.cons rfl (.cons rfl (.cons rfl (.cons rfl (.nil rfl))))))))))))))) rfl rfl fun fr => ?_
            refine o_gD rfl rfl rfl rfl (by assumption) ?_
            refine o_genA [(2, U.box 0 0), (3, U.box 1 0), (5, U.lst Kd.ro 1 (intsU l)), (7, .int .i64 T), (8, .int .i64 E), (9, .int .i64 (totU s i)), (10, .int .i64 ↑i), (11, .int .i64 (strokeR s q)), (12, .int .i64 0), (13, .int .i64 (strokeR s q)), (14, U.bool Bool.false), (137, U.bool (Decidable.decide (Bool.false ≠ Decidable.decide ((0 : Int) ≤ whI l ↑i)))), (138, U.bool Bool.false), (139, .int .i64 0)] [] ([SB.box (Shop.cs s), SB.box [.int .i64 a, .int .i64 b]]) (.cons rfl (.cons rfl (.cons rfl (.cons rfl (.cons rfl (.cons rfl (.cons rfl (.cons rfl (.cons rfl (.cons rfl (.cons rfl (.cons rfl (.cons rfl (.cons rfl (.nil rfl))))))))))))))) rfl rfl fun fr => ?_
            refine o_eql rfl rfl rfl ?_
            refine o_gD rfl rfl rfl rfl (by assumption) ?_
            refine o_neqB rfl ty4 rfl rfl ?_
            refine o_pickF rfl rfl (by assumption) ?_
            refine o_move rfl ?_
            refine o_gD rfl rfl rfl rfl rfl ?_
            refine o_move rfl ?_
            refine o_gD rfl rfl rfl rfl rfl ?_
            refine o_not rfl rfl ?_
            refine o_gD rfl rfl rfl rfl rfl ?_
            refine o_move rfl ?_
            refine o_gD rfl rfl rfl rfl rfl ?_
            refine o_move rfl ?_
            refine o_gD rfl rfl rfl rfl rfl ?_
            refine o_neq rfl rfl rfl ?_
            refine o_genA [(2, U.box 0 0), (3, U.box 1 0), (5, U.lst Kd.ro 1 (intsU l)), (7, .int .i64 T), (8, .int .i64 E), (9, .int .i64 (totU s i)), (10, .int .i64 ↑i), (11, .int .i64 (strokeR s q)), (13, .int .i64 (strokeR s q)), (138, U.bool Bool.false), (139, .int .i64 0), (140, U.bool (Decidable.decide ((0 : Int) = (4 : Int)))), (141, U.bool (Decidable.decide (Bool.false ≠ Decidable.decide ((0 : Int) = (4 : Int))))), (143, U.bool (Decidable.decide (Bool.false ≠ Decidable.decide ((0 : Int) = (4 : Int))))), (144, U.bool Bool.false), (145, U.bool !Bool.false), (146, U.bool !Bool.false), (147, .int .i64 0), (148, U.bool (Decidable.decide ((0 : Int) ≠ (0 : Int))))] [] ([SB.box (Shop.cs s), SB.box [.int .i64 a, .int .i64 b]]) (.cons rfl (.cons rfl (.cons rfl (.cons rfl (.cons rfl (.cons rfl (.cons rfl (.cons rfl (.cons rfl (.cons rfl (.cons rfl (.cons rfl (.cons rfl (.cons rfl (.cons rfl (.cons rfl (.cons rfl (.cons rfl (.cons rfl (.nil rfl)))))))))))))))))))) rfl rfl fun fr => ?_
            refine o_gD rfl rfl rfl rfl rfl ?_
            refine o_genA [(2, U.box 0 0), (3, U.box 1 0), (5, U.lst Kd.ro 1 (intsU l)), (7, .int .i64 T), (8, .int .i64 E), (9, .int .i64 (totU s i)), (10, .int .i64 ↑i), (11, .int .i64 (strokeR s q)), (13, .int .i64 (strokeR s q)), (138, U.bool Bool.false), (139, .int .i64 0), (140, U.bool (Decidable.decide ((0 : Int) = (4 : Int)))), (141, U.bool (Decidable.decide (Bool.false ≠ Decidable.decide ((0 : Int) = (4 : Int))))), (143, U.bool (Decidable.decide (Bool.false ≠ Decidable.decide ((0 : Int) = (4 : Int))))), (144, U.bool Bool.false), (145, U.bool !Bool.false), (146, U.bool !Bool.false), (147, .int .i64 0), (148, U.bool (Decidable.decide ((0 : Int) ≠ (0 : Int))))] [] ([SB.box (Shop.cs s), SB.box [.int .i64 a, .int .i64 b]]) (.cons rfl (.cons rfl (.cons rfl (.cons rfl (.cons rfl (.cons rfl (.cons rfl (.cons rfl (.cons rfl (.cons rfl (.cons rfl (.cons rfl (.cons rfl (.cons rfl (.cons rfl (.cons rfl (.cons rfl (.cons rfl (.cons rfl (.nil rfl)))))))))))))))))))) rfl rfl fun fr => ?_
            refine o_move rfl ?_
            refine o_gD rfl rfl rfl rfl rfl ?_
            refine o_move rfl ?_
            refine o_gD rfl rfl rfl rfl rfl ?_
            refine o_move rfl ?_
            refine o_gD rfl rfl rfl rfl rfl ?_
            refine o_neq rfl rfl rfl ?_
            refine o_gD rfl rfl rfl rfl rfl ?_
            refine o_pickF rfl rfl rfl ?_
            refine o_gD rfl rfl rfl rfl rfl ?_
            refine o_pickT rfl rfl rfl ?_
            refine o_pickF rfl rfl rfl ?_
            refine o_nil ?_
            refine k_gen [(2, U.box 0 0), (3, U.box 1 0), (5, U.lst Kd.ro 1 (intsU l)), (7, .int .i64 T), (8, .int .i64 E), (9, .int .i64 (totU s i)), (10, .int .i64 ↑i), (11, .int .i64 (strokeR s q)), (138, U.bool Bool.false), (139, .int .i64 0), (140, U.bool (Decidable.decide ((0 : Int) = (4 : Int)))), (141, U.bool (Decidable.decide (Bool.false ≠ Decidable.decide ((0 : Int) = (4 : Int))))), (144, U.bool Bool.false), (145, U.bool !Bool.false), (146, U.bool !Bool.false), (147, .int .i64 0), (148, U.bool (Decidable.decide ((0 : Int) ≠ (0 : Int)))), (149, U.bool (Decidable.decide ((0 : Int) ≠ (0 : Int)))), (150, .int .i64 (strokeR s q)), (151, .int .i64 (strokeR s q)), (152, U.bool (Decidable.decide (strokeR s q ≠ strokeR s q))), (153, U.bool (Decidable.decide (strokeR s q ≠ strokeR s q))), (154, U.bool (Decidable.decide (strokeR s q ≠ strokeR s q))), (155, U.bool (Decidable.decide (strokeR s q ≠ strokeR s q)))] ([SB.box (Shop.cs s), SB.box [.int .i64 a, .int .i64 b]]) (.cons rfl (.cons rfl (.cons rfl (.cons rfl (.cons rfl (.cons rfl (.cons rfl (.cons rfl (.cons rfl (.cons rfl (.cons rfl (.cons rfl (.cons rfl (.cons rfl (.cons rfl (.cons rfl (.cons rfl (.cons rfl (.cons rfl (.cons rfl (.cons rfl (.cons rfl (.cons rfl (.cons rfl (.nil rfl))))))))))))))))))))))))) rfl fun fr => ?_
            refine k_cF rfl (decide_eq_false (by omega)) ?_
            refine k_skip ?_
            refine k_region ?_
            refine o_move rfl ?_
            refine o_move rfl ?_
            refine o_add rfl rfl rfl (by unfold I64; omega) ?_
            refine o_assign rfl ?_
            refine o_nil ?_
            refine k_region ?_
            refine o_move rfl ?_
            refine o_add rfl rfl rfl (by unfold I64; omega) ?_
            refine o_assign rfl ?_
            refine o_nil ?_
            exact ⟨k0 - 1, by omega, i + 1, by omega, by omega, by omega, rfl, .cons rfl (.cons rfl (.cons rfl (.cons rfl (.cons rfl (.cons (by rw [hts]; rfl) (.cons rfl (.nil rfl)))))))⟩
      · exact ⟨0, false, by omega, rfl, rfl, .cons rfl (.cons rfl (.cons rfl (.cons rfl (.cons rfl (.cons rfl (.cons rfl (.cons rfl (.cons rfl (.cons rfl (.cons rfl (.cons (congrArg (U.int .i64) (by omega)) (.nil rfl))))))))))))⟩
    · refine k_exit ?_
      refine k_seq (k_region ?_)
      refine o_loadN rfl rfl rfl sh28 rfl ?_
      refine o_call rfl (ret33 hi ..) (.lrefl _) ?_
      refine o_move rfl ?_
      refine o_extract rfl rfl rfl ?_
      refine o_extract rfl rfl rfl ?_
      refine o_assign rfl ?_
      refine o_assign rfl ?_
      refine o_nil ?_
      refine k_gen [(2, U.box 0 0), (7, .int .i64 T), (8, .int .i64 E), (9, .int .i64 (totU s i)), (19, .int .i64 (a % (121 : Int) - (60 : Int))), (20, .int .i64 (b % (31 : Int)))] ([SB.box (Shop.cs s), SB.box [.int .i64 a, .int .i64 b]]) (.cons rfl (.cons rfl (.cons rfl (.cons rfl (.cons rfl (.cons rfl (.nil rfl))))))) rfl fun fr => ?_
      refine k_seq (k_region ?_)
      refine o_loadN rfl rfl rfl sh27 rfl ?_
      refine o_move rfl ?_
      have hi3 : i = s.keys.length := by have := of_decide_eq_false h83; omega
      subst hi3
      have m0 : 0 ≤ b % 31 ∧ b % 31 ≤ 30 := by have := st_met b; unfold metB at this; simpa using this
      have hsum : E = 0 → totU s s.keys.length = T := fun e => by
        rcases hE with ⟨_, hln, rfl⟩ | ⟨e4, _⟩
        · refine totU_eq (fun i h => ?_) hnk _ (Nat.le_refl _)
          have : l = [] := List.eq_nil_of_length_eq_zero (by omega)
          rw [hl, ← ls_nil] at this
          simp only [anyB, Bool.or_eq_false_iff] at this
          obtain ⟨h0, h1, h2, h3, h4, h5⟩ := this
          have e : i = 0 ∨ i = 1 ∨ i = 2 ∨ i = 3 ∨ i = 4 ∨ i = 5 := by omega
          rcases e with rfl | rfl | rfl | rfl | rfl | rfl <;> assumption
        · omega
      have q28 := ret28 (orc := orc) hi hk (st_off a)
      have q14 := ret14g (orc := orc) hi hk (st_off a) (st_met b)
      cases hn : needR s (a % 121 - 60) with
      | none =>
        have e1 := need_none hn m0.1 m0.2
        rw [show needN s (a % 121 - 60) = 0 by unfold needN; rw [hn], show needE s (a % 121 - 60) = 4 by unfold needE; rw [hn]] at q28
        rw [show nxe (cho s true (a % 121 - 60) (b % 31)) = 4 from if_pos e1] at q14
        by_cases hE0 : E = 0
        · have hs2 := hsum hE0
          subst hE0
          refine o_call rfl (q28) (.lrefl _) ?_
          refine o_move rfl ?_
          refine o_extract rfl rfl rfl ?_
          refine o_extract rfl rfl rfl ?_
          refine o_assign rfl ?_
          refine o_assign rfl ?_
          refine o_nil ?_
          refine k_seq (k_region ?_)
          refine o_loadN rfl rfl rfl sh27 rfl ?_
          refine o_move rfl ?_
          refine o_move rfl ?_
          refine o_call rfl (q14) (.lrefl _) ?_
          refine o_move rfl ?_
          refine o_extract rfl rfl rfl ?_
          refine o_extract rfl rfl rfl ?_
          refine o_extract rfl rfl rfl ?_
          refine o_assign rfl ?_
          refine o_assign rfl ?_
          refine o_assign rfl ?_
          refine o_nil ?_
          refine k_gen [(7, .int .i64 T), (8, .int .i64 0), (9, .int .i64 (totU s (List.length (Shop.keys s)))), (20, .int .i64 (b % (31 : Int))), (21, .int .i64 0), (22, .int .i64 4), (25, .int .i64 4)] ([SB.box (Shop.cs s), SB.box [.int .i64 a, .int .i64 b]]) (.cons rfl (.cons rfl (.cons rfl (.cons rfl (.cons rfl (.cons rfl (.cons rfl (.nil rfl)))))))) rfl fun fr => ?_
          refine k_seq ?_
          refine k_seq (k_region ?_)
          refine o_move rfl ?_
          refine o_eql rfl rfl rfl ?_
          refine o_move rfl ?_
          refine o_gD rfl rfl rfl rfl rfl ?_
          refine o_move rfl ?_
          refine o_gD rfl rfl rfl rfl rfl ?_
          refine o_move rfl ?_
          refine o_gD rfl rfl rfl rfl rfl ?_
          refine o_neq rfl rfl rfl ?_
          refine o_pickT rfl rfl rfl ?_
          refine o_move rfl ?_
          refine o_gD rfl rfl rfl rfl (decide_eq_false (by omega)) ?_
          refine o_move rfl ?_
          refine o_genA [(20, .int .i64 (b % (31 : Int))), (21, .int .i64 0), (22, .int .i64 4), (25, .int .i64 4), (185, U.bool (Decidable.decide (totU s (List.length (Shop.keys s)) ≠ T))), (186, .int .i64 4)] [] ([SB.box (Shop.cs s), SB.box [.int .i64 a, .int .i64 b]]) (.cons rfl (.cons rfl (.cons rfl (.cons rfl (.cons rfl (.cons rfl (.nil rfl))))))) rfl rfl fun fr => ?_
          refine o_gD rfl rfl rfl rfl (decide_eq_false (by omega)) ?_
          refine o_genA [(20, .int .i64 (b % (31 : Int))), (21, .int .i64 0), (22, .int .i64 4), (25, .int .i64 4), (185, U.bool (Decidable.decide (totU s (List.length (Shop.keys s)) ≠ T))), (186, .int .i64 4)] [] ([SB.box (Shop.cs s), SB.box [.int .i64 a, .int .i64 b]]) (.cons rfl (.cons rfl (.cons rfl (.cons rfl (.cons rfl (.cons rfl (.nil rfl))))))) rfl rfl fun fr => ?_
          refine o_neq rfl rfl rfl ?_
          refine o_gD rfl rfl rfl rfl (decide_eq_false (by omega)) ?_
          refine o_move rfl ?_
          refine o_gD rfl rfl rfl rfl rfl ?_
          refine o_move rfl ?_
          refine o_gD rfl rfl rfl rfl rfl ?_
          refine o_neq rfl rfl rfl ?_
          refine o_gD rfl rfl rfl rfl (decide_eq_false (by omega)) ?_
          refine o_pickT rfl rfl rfl ?_
          refine o_pickF rfl rfl (decide_eq_false (by omega)) ?_
          refine o_move rfl ?_
          refine o_gD rfl rfl rfl rfl rfl ?_
          refine o_move rfl ?_
          refine o_gD rfl rfl rfl rfl rfl ?_
          refine o_eql rfl rfl rfl ?_
          refine o_genA [(20, .int .i64 (b % (31 : Int))), (21, .int .i64 0), (22, .int .i64 4), (25, .int .i64 4), (193, U.bool (Decidable.decide ((4 : Int) ≠ (4 : Int)))), (195, U.bool (Decidable.decide ((4 : Int) = (0 : Int))))] [] ([SB.box (Shop.cs s), SB.box [.int .i64 a, .int .i64 b]]) (.cons rfl (.cons rfl (.cons rfl (.cons rfl (.cons rfl (.cons rfl (.nil rfl))))))) rfl rfl fun fr => ?_
          refine o_gD rfl rfl rfl rfl rfl ?_
          refine o_genA [(20, .int .i64 (b % (31 : Int))), (21, .int .i64 0), (22, .int .i64 4), (25, .int .i64 4), (193, U.bool (Decidable.decide ((4 : Int) ≠ (4 : Int)))), (195, U.bool (Decidable.decide ((4 : Int) = (0 : Int))))] [] ([SB.box (Shop.cs s), SB.box [.int .i64 a, .int .i64 b]]) (.cons rfl (.cons rfl (.cons rfl (.cons rfl (.cons rfl (.cons rfl (.nil rfl))))))) rfl rfl fun fr => ?_
          refine o_move rfl ?_
          refine o_gS rfl rfl rfl rfl rfl ?_
          refine o_gS rfl rfl rfl rfl rfl ?_
          refine o_gS rfl rfl rfl rfl rfl ?_
          refine o_gD rfl rfl rfl rfl rfl ?_
          refine o_pickF rfl rfl rfl ?_
          refine o_pickF rfl rfl rfl ?_
          refine o_nil ?_
          refine k_gen [(20, .int .i64 (b % (31 : Int))), (21, .int .i64 0), (22, .int .i64 4), (25, .int .i64 4), (201, U.bool Bool.false)] ([SB.box (Shop.cs s), SB.box [.int .i64 a, .int .i64 b]]) (.cons rfl (.cons rfl (.cons rfl (.cons rfl (.cons rfl (.nil rfl)))))) rfl fun fr => ?_
          refine k_cF rfl rfl ?_
          refine k_skip ?_
          refine k_seq (k_region ?_)
          refine o_move rfl ?_
          refine o_eql rfl rfl rfl ?_
          refine o_move rfl ?_
          refine o_eql rfl rfl rfl ?_
          refine o_move rfl ?_
          refine o_gS rfl rfl rfl rfl rfl ?_
          refine o_gS rfl rfl rfl rfl rfl ?_
          refine o_gS rfl rfl rfl rfl rfl ?_
          refine o_pickF rfl rfl rfl ?_
          refine o_genA [(203, U.bool (Decidable.decide ((4 : Int) = (0 : Int)))), (210, U.bool Bool.false)] [] ([SB.box (Shop.cs s), SB.box [.int .i64 a, .int .i64 b]]) (.cons rfl (.cons rfl (.nil rfl))) rfl rfl fun fr => ?_
          refine o_eqlB rfl ty4 rfl rfl ?_
          refine o_move rfl ?_
          refine o_gD rfl rfl rfl rfl rfl ?_
          refine o_call rfl (r20) (.lrefl _) ?_
          refine o_pickT rfl rfl rfl ?_
          refine o_assign rfl ?_
          refine o_nil ?_
          refine k_ret ?_
          refine ⟨.inr rfl, _, .cons _ _ _ _ (.tmp 4) .nil, ?_⟩
          exact .refl _
        · refine o_call rfl (q28) (.lrefl _) ?_
          refine o_move rfl ?_
          refine o_extract rfl rfl rfl ?_
          refine o_extract rfl rfl rfl ?_
          refine o_assign rfl ?_
          refine o_assign rfl ?_
          refine o_nil ?_
          refine k_seq (k_region ?_)
          refine o_loadN rfl rfl rfl sh27 rfl ?_
          refine o_move rfl ?_
          refine o_move rfl ?_
          refine o_call rfl (q14) (.lrefl _) ?_
          refine o_move rfl ?_
          refine o_extract rfl rfl rfl ?_
          refine o_extract rfl rfl rfl ?_
          refine o_extract rfl rfl rfl ?_
          refine o_assign rfl ?_
          refine o_assign rfl ?_
          refine o_assign rfl ?_
          refine o_nil ?_
          refine k_gen [(7, .int .i64 T), (8, .int .i64 E), (9, .int .i64 (totU s (List.length (Shop.keys s)))), (20, .int .i64 (b % (31 : Int))), (21, .int .i64 0), (22, .int .i64 4), (25, .int .i64 4)] ([SB.box (Shop.cs s), SB.box [.int .i64 a, .int .i64 b]]) (.cons rfl (.cons rfl (.cons rfl (.cons rfl (.cons rfl (.cons rfl (.cons rfl (.nil rfl)))))))) rfl fun fr => ?_
          refine k_seq ?_
          refine k_seq (k_region ?_)
          refine o_move rfl ?_
          refine o_eql rfl rfl rfl ?_
          refine o_move rfl ?_
          refine o_gS rfl rfl rfl rfl (decide_eq_false (by omega)) ?_
          refine o_gS rfl rfl rfl rfl (decide_eq_false (by omega)) ?_
          refine o_gS rfl rfl rfl rfl (decide_eq_false (by omega)) ?_
          refine o_pickF rfl rfl (decide_eq_false (by omega)) ?_
          refine o_move rfl ?_
          refine o_gD rfl rfl rfl rfl rfl ?_
          refine o_move rfl ?_
          refine o_genA [(20, .int .i64 (b % (31 : Int))), (21, .int .i64 0), (22, .int .i64 4), (25, .int .i64 4), (185, U.bool Bool.false), (186, .int .i64 4)] [] ([SB.box (Shop.cs s), SB.box [.int .i64 a, .int .i64 b]]) (.cons rfl (.cons rfl (.cons rfl (.cons rfl (.cons rfl (.cons rfl (.nil rfl))))))) rfl rfl fun fr => ?_
          refine o_gD rfl rfl rfl rfl rfl ?_
          refine o_genA [(20, .int .i64 (b % (31 : Int))), (21, .int .i64 0), (22, .int .i64 4), (25, .int .i64 4), (185, U.bool Bool.false), (186, .int .i64 4)] [] ([SB.box (Shop.cs s), SB.box [.int .i64 a, .int .i64 b]]) (.cons rfl (.cons rfl (.cons rfl (.cons rfl (.cons rfl (.cons rfl (.nil rfl))))))) rfl rfl fun fr => ?_
          refine o_neq rfl rfl rfl ?_
          refine o_gD rfl rfl rfl rfl rfl ?_
          refine o_move rfl ?_
          refine o_gD rfl rfl rfl rfl rfl ?_
          refine o_move rfl ?_
          refine o_gD rfl rfl rfl rfl rfl ?_
          refine o_neq rfl rfl rfl ?_
          refine o_gD rfl rfl rfl rfl rfl ?_
          refine o_pickT rfl rfl rfl ?_
          refine o_pickF rfl rfl rfl ?_
          refine o_move rfl ?_
          refine o_gD rfl rfl rfl rfl rfl ?_
          refine o_move rfl ?_
          refine o_gD rfl rfl rfl rfl rfl ?_
          refine o_eql rfl rfl rfl ?_
          refine o_genA [(20, .int .i64 (b % (31 : Int))), (21, .int .i64 0), (22, .int .i64 4), (25, .int .i64 4), (193, U.bool (Decidable.decide ((4 : Int) ≠ (4 : Int)))), (195, U.bool (Decidable.decide ((4 : Int) = (0 : Int))))] [] ([SB.box (Shop.cs s), SB.box [.int .i64 a, .int .i64 b]]) (.cons rfl (.cons rfl (.cons rfl (.cons rfl (.cons rfl (.cons rfl (.nil rfl))))))) rfl rfl fun fr => ?_
          refine o_gD rfl rfl rfl rfl rfl ?_
          refine o_genA [(20, .int .i64 (b % (31 : Int))), (21, .int .i64 0), (22, .int .i64 4), (25, .int .i64 4), (193, U.bool (Decidable.decide ((4 : Int) ≠ (4 : Int)))), (195, U.bool (Decidable.decide ((4 : Int) = (0 : Int))))] [] ([SB.box (Shop.cs s), SB.box [.int .i64 a, .int .i64 b]]) (.cons rfl (.cons rfl (.cons rfl (.cons rfl (.cons rfl (.cons rfl (.nil rfl))))))) rfl rfl fun fr => ?_
          refine o_move rfl ?_
          refine o_gS rfl rfl rfl rfl rfl ?_
          refine o_gS rfl rfl rfl rfl rfl ?_
          refine o_gS rfl rfl rfl rfl rfl ?_
          refine o_gD rfl rfl rfl rfl rfl ?_
          refine o_pickF rfl rfl rfl ?_
          refine o_pickF rfl rfl rfl ?_
          refine o_nil ?_
          refine k_gen [(20, .int .i64 (b % (31 : Int))), (21, .int .i64 0), (22, .int .i64 4), (25, .int .i64 4), (201, U.bool Bool.false)] ([SB.box (Shop.cs s), SB.box [.int .i64 a, .int .i64 b]]) (.cons rfl (.cons rfl (.cons rfl (.cons rfl (.cons rfl (.nil rfl)))))) rfl fun fr => ?_
          refine k_cF rfl rfl ?_
          refine k_skip ?_
          refine k_seq (k_region ?_)
          refine o_move rfl ?_
          refine o_eql rfl rfl rfl ?_
          refine o_move rfl ?_
          refine o_eql rfl rfl rfl ?_
          refine o_move rfl ?_
          refine o_gS rfl rfl rfl rfl rfl ?_
          refine o_gS rfl rfl rfl rfl rfl ?_
          refine o_gS rfl rfl rfl rfl rfl ?_
          refine o_pickF rfl rfl rfl ?_
          refine o_genA [(203, U.bool (Decidable.decide ((4 : Int) = (0 : Int)))), (210, U.bool Bool.false)] [] ([SB.box (Shop.cs s), SB.box [.int .i64 a, .int .i64 b]]) (.cons rfl (.cons rfl (.nil rfl))) rfl rfl fun fr => ?_
          refine o_eqlB rfl ty4 rfl rfl ?_
          refine o_move rfl ?_
          refine o_gD rfl rfl rfl rfl rfl ?_
          refine o_call rfl (r20) (.lrefl _) ?_
          refine o_pickT rfl rfl rfl ?_
          refine o_assign rfl ?_
          refine o_nil ?_
          refine k_ret ?_
          refine ⟨.inr rfl, _, .cons _ _ _ _ (.tmp 4) .nil, ?_⟩
          exact .refl _
      | some m =>
        have e1 := need_some hk hn m0.1 m0.2
        have hm31 : m ≤ 30 := need_le hn
        rw [show needN s (a % 121 - 60) = m by unfold needN; rw [hn], show needE s (a % 121 - 60) = 0 by unfold needE; rw [hn]] at q28
        have q34 := ret34 (orc := orc) hi m 0 30
        rw [decide_eq_true (by omega : (0 : Int) ≤ m), decide_eq_true (by omega : (m : Int) ≤ 30)] at q34
        obtain ⟨e, k211⟩ : ∃ e, nxe (cho s true (a % 121 - 60) (b % 31)) = e ∧ decide (decide (e = 0) = decide (b % 31 ≥ (m : Int))) = true := by
          refine ⟨_, rfl, decide_eq_true ?_⟩
          rw [decide_eq_decide]
          unfold nxe
          split
          · exact ⟨fun h => absurd h (by decide), fun h => absurd (by assumption) (e1.2 h)⟩
          · exact ⟨fun _ => e1.1 (by assumption), fun _ => rfl⟩
        rw [k211.1] at q14
        have k211 := k211.2
        by_cases hE0 : E = 0
        · have hs2 := hsum hE0
          subst hE0
          refine o_call rfl (q28) (.lrefl _) ?_
          refine o_move rfl ?_
          refine o_extract rfl rfl rfl ?_
          refine o_extract rfl rfl rfl ?_
          refine o_assign rfl ?_
          refine o_assign rfl ?_
          refine o_nil ?_
          refine k_seq (k_region ?_)
          refine o_loadN rfl rfl rfl sh27 rfl ?_
          refine o_move rfl ?_
          refine o_move rfl ?_
          refine o_call rfl (q14) (.lrefl _) ?_
          refine o_move rfl ?_
          refine o_extract rfl rfl rfl ?_
          refine o_extract rfl rfl rfl ?_
          refine o_extract rfl rfl rfl ?_
          refine o_assign rfl ?_
          refine o_assign rfl ?_
          refine o_assign rfl ?_
          refine o_nil ?_
          refine k_gen [(7, .int .i64 T), (8, .int .i64 0), (9, .int .i64 (totU s (List.length (Shop.keys s)))), (20, .int .i64 (b % (31 : Int))), (21, .int .i64 ↑m), (22, .int .i64 0), (25, .int .i64 e)] ([SB.box (Shop.cs s), SB.box [.int .i64 a, .int .i64 b]]) (.cons rfl (.cons rfl (.cons rfl (.cons rfl (.cons rfl (.cons rfl (.cons rfl (.nil rfl)))))))) rfl fun fr => ?_
          refine k_seq ?_
          refine k_seq (k_region ?_)
          refine o_move rfl ?_
          refine o_eql rfl rfl rfl ?_
          refine o_move rfl ?_
          refine o_gD rfl rfl rfl rfl rfl ?_
          refine o_move rfl ?_
          refine o_gD rfl rfl rfl rfl rfl ?_
          refine o_move rfl ?_
          refine o_gD rfl rfl rfl rfl rfl ?_
          refine o_neq rfl rfl rfl ?_
          refine o_pickT rfl rfl rfl ?_
          refine o_move rfl ?_
          refine o_gD rfl rfl rfl rfl (decide_eq_false (by omega)) ?_
          refine o_move rfl ?_
          refine o_genA [(20, .int .i64 (b % (31 : Int))), (21, .int .i64 ↑m), (22, .int .i64 0), (25, .int .i64 e), (185, U.bool (Decidable.decide (totU s (List.length (Shop.keys s)) ≠ T))), (186, .int .i64 0)] [] ([SB.box (Shop.cs s), SB.box [.int .i64 a, .int .i64 b]]) (.cons rfl (.cons rfl (.cons rfl (.cons rfl (.cons rfl (.cons rfl (.nil rfl))))))) rfl rfl fun fr => ?_
          refine o_gD rfl rfl rfl rfl (decide_eq_false (by omega)) ?_
          refine o_genA [(20, .int .i64 (b % (31 : Int))), (21, .int .i64 ↑m), (22, .int .i64 0), (25, .int .i64 e), (185, U.bool (Decidable.decide (totU s (List.length (Shop.keys s)) ≠ T))), (186, .int .i64 0)] [] ([SB.box (Shop.cs s), SB.box [.int .i64 a, .int .i64 b]]) (.cons rfl (.cons rfl (.cons rfl (.cons rfl (.cons rfl (.cons rfl (.nil rfl))))))) rfl rfl fun fr => ?_
          refine o_neq rfl rfl rfl ?_
          refine o_gD rfl rfl rfl rfl (decide_eq_false (by omega)) ?_
          refine o_move rfl ?_
          refine o_gS rfl rfl rfl rfl rfl ?_
          refine o_gS rfl rfl rfl rfl rfl ?_
          refine o_gD rfl rfl rfl rfl (decide_eq_false (by omega)) ?_
          refine o_pickF rfl rfl rfl ?_
          refine o_pickF rfl rfl (decide_eq_false (by omega)) ?_
          refine o_move rfl ?_
          refine o_gD rfl rfl rfl rfl rfl ?_
          refine o_move rfl ?_
          refine o_gD rfl rfl rfl rfl rfl ?_
          refine o_eql rfl rfl rfl ?_
          refine o_genA [(20, .int .i64 (b % (31 : Int))), (21, .int .i64 ↑m), (22, .int .i64 0), (25, .int .i64 e), (193, U.bool Bool.false), (195, U.bool (Decidable.decide ((0 : Int) = (0 : Int))))] [] ([SB.box (Shop.cs s), SB.box [.int .i64 a, .int .i64 b]]) (.cons rfl (.cons rfl (.cons rfl (.cons rfl (.cons rfl (.cons rfl (.nil rfl))))))) rfl rfl fun fr => ?_
          refine o_gD rfl rfl rfl rfl rfl ?_
          refine o_genA [(20, .int .i64 (b % (31 : Int))), (21, .int .i64 ↑m), (22, .int .i64 0), (25, .int .i64 e), (193, U.bool Bool.false), (195, U.bool (Decidable.decide ((0 : Int) = (0 : Int))))] [] ([SB.box (Shop.cs s), SB.box [.int .i64 a, .int .i64 b]]) (.cons rfl (.cons rfl (.cons rfl (.cons rfl (.cons rfl (.cons rfl (.nil rfl))))))) rfl rfl fun fr => ?_
          refine o_move rfl ?_
          refine o_gD rfl rfl rfl rfl rfl ?_
          refine o_move rfl ?_
          refine o_gD rfl rfl rfl rfl rfl ?_
          refine o_call rfl (q34) (.lrefl _) ?_
          refine o_gD rfl rfl rfl rfl rfl ?_
          refine o_not rfl rfl ?_
          refine o_gD rfl rfl rfl rfl rfl ?_
          refine o_pickT rfl rfl rfl ?_
          refine o_pickF rfl rfl rfl ?_
          refine o_nil ?_
          refine k_gen [(20, .int .i64 (b % (31 : Int))), (21, .int .i64 ↑m), (22, .int .i64 0), (25, .int .i64 e), (201, U.bool !(Bool.true && Bool.true))] ([SB.box (Shop.cs s), SB.box [.int .i64 a, .int .i64 b]]) (.cons rfl (.cons rfl (.cons rfl (.cons rfl (.cons rfl (.nil rfl)))))) rfl fun fr => ?_
          refine k_cF rfl rfl ?_
          refine k_skip ?_
          refine k_seq (k_region ?_)
          refine o_move rfl ?_
          refine o_eql rfl rfl rfl ?_
          refine o_move rfl ?_
          refine o_eql rfl rfl rfl ?_
          refine o_move rfl ?_
          refine o_gD rfl rfl rfl rfl rfl ?_
          refine o_move rfl ?_
          refine o_gD rfl rfl rfl rfl rfl ?_
          refine o_move rfl ?_
          refine o_gD rfl rfl rfl rfl rfl ?_
          refine o_geq rfl rfl rfl ?_
          refine o_pickT rfl rfl rfl ?_
          refine o_genA [(203, U.bool (Decidable.decide (e = (0 : Int)))), (210, U.bool (Decidable.decide (↑m ≤ b % (31 : Int))))] [] ([SB.box (Shop.cs s), SB.box [.int .i64 a, .int .i64 b]]) (.cons rfl (.cons rfl (.nil rfl))) rfl rfl fun fr => ?_
          refine o_eqlB rfl ty4 rfl rfl ?_
          refine o_move rfl ?_
          refine o_gD rfl rfl rfl rfl (by assumption) ?_
          refine o_call rfl (r20) (.lrefl _) ?_
          refine o_pickT rfl rfl (by assumption) ?_
          refine o_assign rfl ?_
          refine o_nil ?_
          refine k_ret ?_
          refine ⟨.inr rfl, _, .cons _ _ _ _ (.tmp 4) .nil, ?_⟩
          exact .refl _
        · refine o_call rfl (q28) (.lrefl _) ?_
          refine o_move rfl ?_
          refine o_extract rfl rfl rfl ?_
          refine o_extract rfl rfl rfl ?_
          refine o_assign rfl ?_
          refine o_assign rfl ?_
          refine o_nil ?_
          refine k_seq (k_region ?_)
          refine o_loadN rfl rfl rfl sh27 rfl ?_
          refine o_move rfl ?_
          refine o_move rfl ?_
          refine o_call rfl (q14) (.lrefl _) ?_
          refine o_move rfl ?_
          refine o_extract rfl rfl rfl ?_
          refine o_extract rfl rfl rfl ?_
          refine o_extract rfl rfl rfl ?_
          refine o_assign rfl ?_
          refine o_assign rfl ?_
          refine o_assign rfl ?_
          refine o_nil ?_
          refine k_gen [(7, .int .i64 T), (8, .int .i64 E), (9, .int .i64 (totU s (List.length (Shop.keys s)))), (20, .int .i64 (b % (31 : Int))), (21, .int .i64 ↑m), (22, .int .i64 0), (25, .int .i64 e)] ([SB.box (Shop.cs s), SB.box [.int .i64 a, .int .i64 b]]) (.cons rfl (.cons rfl (.cons rfl (.cons rfl (.cons rfl (.cons rfl (.cons rfl (.nil rfl)))))))) rfl fun fr => ?_
          refine k_seq ?_
          refine k_seq (k_region ?_)
          refine o_move rfl ?_
          refine o_eql rfl rfl rfl ?_
          refine o_move rfl ?_
          refine o_gS rfl rfl rfl rfl (decide_eq_false (by omega)) ?_
          refine o_gS rfl rfl rfl rfl (decide_eq_false (by omega)) ?_
          refine o_gS rfl rfl rfl rfl (decide_eq_false (by omega)) ?_
          refine o_pickF rfl rfl (decide_eq_false (by omega)) ?_
          refine o_move rfl ?_
          refine o_gD rfl rfl rfl rfl rfl ?_
          refine o_move rfl ?_
          refine o_genA [(20, .int .i64 (b % (31 : Int))), (21, .int .i64 ↑m), (22, .int .i64 0), (25, .int .i64 e), (185, U.bool Bool.false), (186, .int .i64 0)] [] ([SB.box (Shop.cs s), SB.box [.int .i64 a, .int .i64 b]]) (.cons rfl (.cons rfl (.cons rfl (.cons rfl (.cons rfl (.cons rfl (.nil rfl))))))) rfl rfl fun fr => ?_
          refine o_gD rfl rfl rfl rfl rfl ?_
          refine o_genA [(20, .int .i64 (b % (31 : Int))), (21, .int .i64 ↑m), (22, .int .i64 0), (25, .int .i64 e), (185, U.bool Bool.false), (186, .int .i64 0)] [] ([SB.box (Shop.cs s), SB.box [.int .i64 a, .int .i64 b]]) (.cons rfl (.cons rfl (.cons rfl (.cons rfl (.cons rfl (.cons rfl (.nil rfl))))))) rfl rfl fun fr => ?_
          refine o_neq rfl rfl rfl ?_
          refine o_gD rfl rfl rfl rfl rfl ?_
          refine o_move rfl ?_
          refine o_gS rfl rfl rfl rfl rfl ?_
          refine o_gS rfl rfl rfl rfl rfl ?_
          refine o_gD rfl rfl rfl rfl rfl ?_
          refine o_pickF rfl rfl rfl ?_
          refine o_pickF rfl rfl rfl ?_
          refine o_move rfl ?_
          refine o_gD rfl rfl rfl rfl rfl ?_
          refine o_move rfl ?_
          refine o_gD rfl rfl rfl rfl rfl ?_
          refine o_eql rfl rfl rfl ?_
          refine o_genA [(20, .int .i64 (b % (31 : Int))), (21, .int .i64 ↑m), (22, .int .i64 0), (25, .int .i64 e), (193, U.bool Bool.false), (195, U.bool (Decidable.decide ((0 : Int) = (0 : Int))))] [] ([SB.box (Shop.cs s), SB.box [.int .i64 a, .int .i64 b]]) (.cons rfl (.cons rfl (.cons rfl (.cons rfl (.cons rfl (.cons rfl (.nil rfl))))))) rfl rfl fun fr => ?_
          refine o_gD rfl rfl rfl rfl rfl ?_
          refine o_genA [(20, .int .i64 (b % (31 : Int))), (21, .int .i64 ↑m), (22, .int .i64 0), (25, .int .i64 e), (193, U.bool Bool.false), (195, U.bool (Decidable.decide ((0 : Int) = (0 : Int))))] [] ([SB.box (Shop.cs s), SB.box [.int .i64 a, .int .i64 b]]) (.cons rfl (.cons rfl (.cons rfl (.cons rfl (.cons rfl (.cons rfl (.nil rfl))))))) rfl rfl fun fr => ?_
          refine o_move rfl ?_
          refine o_gD rfl rfl rfl rfl rfl ?_
          refine o_move rfl ?_
          refine o_gD rfl rfl rfl rfl rfl ?_
          refine o_call rfl (q34) (.lrefl _) ?_
          refine o_gD rfl rfl rfl rfl rfl ?_
          refine o_not rfl rfl ?_
          refine o_gD rfl rfl rfl rfl rfl ?_
          refine o_pickT rfl rfl rfl ?_
          refine o_pickF rfl rfl rfl ?_
          refine o_nil ?_
          refine k_gen [(20, .int .i64 (b % (31 : Int))), (21, .int .i64 ↑m), (22, .int .i64 0), (25, .int .i64 e), (201, U.bool !(Bool.true && Bool.true))] ([SB.box (Shop.cs s), SB.box [.int .i64 a, .int .i64 b]]) (.cons rfl (.cons rfl (.cons rfl (.cons rfl (.cons rfl (.nil rfl)))))) rfl fun fr => ?_
          refine k_cF rfl rfl ?_
          refine k_skip ?_
          refine k_seq (k_region ?_)
          refine o_move rfl ?_
          refine o_eql rfl rfl rfl ?_
          refine o_move rfl ?_
          refine o_eql rfl rfl rfl ?_
          refine o_move rfl ?_
          refine o_gD rfl rfl rfl rfl rfl ?_
          refine o_move rfl ?_
          refine o_gD rfl rfl rfl rfl rfl ?_
          refine o_move rfl ?_
          refine o_gD rfl rfl rfl rfl rfl ?_
          refine o_geq rfl rfl rfl ?_
          refine o_pickT rfl rfl rfl ?_
          refine o_genA [(203, U.bool (Decidable.decide (e = (0 : Int)))), (210, U.bool (Decidable.decide (↑m ≤ b % (31 : Int))))] [] ([SB.box (Shop.cs s), SB.box [.int .i64 a, .int .i64 b]]) (.cons rfl (.cons rfl (.nil rfl))) rfl rfl fun fr => ?_
          refine o_eqlB rfl ty4 rfl rfl ?_
          refine o_move rfl ?_
          refine o_gD rfl rfl rfl rfl (by assumption) ?_
          refine o_call rfl (r20) (.lrefl _) ?_
          refine o_pickT rfl rfl (by assumption) ?_
          refine o_assign rfl ?_
          refine o_nil ?_
          refine k_ret ?_
          refine ⟨.inr rfl, _, .cons _ _ _ _ (.tmp 4) .nil, ?_⟩
          exact .refl _
  · exact ⟨0, by omega, Int.le_refl _, Int.le_refl _, rfl, .cons rfl (.cons rfl (.cons rfl (.cons rfl (.cons rfl (.cons rfl (.cons rfl (.nil rfl)))))))⟩
theorem shps_27_28 {f : FuncId} (h : ∀ (s : Shop) (a b : Int), RetP Try.prog is orc f [s.u, .agg [.int .i64 a, .int .i64 b]] (.bool true)) : ∀ us, ShpAs Try.prog [27, 28] us → RetP Try.prog is orc f us (.bool true) := by
  intro us h
  cases h with
  | cons _ _ u us h1 h => cases h with
  | cons _ _ v us h2 h =>
  cases h
  obtain ⟨fs, hu⟩ := und_struct (P := Try.prog) (t := 27) 3 (by kernel_rfl)
  unfold ShpA at h1 h2
  rw [hu] at h1
  rw [u28] at h2
  obtain ⟨cs, rfl, h1⟩ := h1
  obtain ⟨ds, rfl, h2⟩ := h2
  obtain ⟨s, rfl⟩ := shp_shop h1
  obtain ⟨a, b, rfl⟩ := shp_two h2
  exact h s a b
theorem ret10_all {is : FuncId → Bool} {orc : Known} (hi : Off is) (r20 : RetP Try.prog is orc 20 [] (.bool true)) : ∀ us, ShpAs Try.prog [27, 28] us → RetP Try.prog is orc 10 us (.bool true) := shps_27_28 fun s a b => by
  by_cases hv : checkR s.tools s.keys s.flo s.fhi = 0
  · exact ret10s hi (ok_chk hv) a b r20
  · exact ret10n hi hv a b r20
end Go.Proofs.Ytdahbimllmapkaa.raspEnough
