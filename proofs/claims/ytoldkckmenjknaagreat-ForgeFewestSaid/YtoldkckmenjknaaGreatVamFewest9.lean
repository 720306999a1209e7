/- forge's functions, the specification's and the law's, by the logic of trees: what each gives back for all that it may be given. -/
import Derived.Test.YtoldkckmenjknaaGreatVamFewest8
namespace Go.Proofs.YtoldkckmenjknaaGreat.forgeFewest
open Vam
set_option linter.unusedVariables false
set_option linter.unusedSimpArgs false
set_option linter.constructorNameAsVariable false
theorem Qd.ext4 {q m : Qd} (h : ∀ i, i < 4 → q.at i = m.at i) : q = m := by
  have h0 : q.a = m.a := h 0 (by omega)
  have h1 : q.b = m.b := h 1 (by omega)
  have h2 : q.c = m.c := h 2 (by omega)
  have h3 : q.d = m.d := h 3 (by omega)
  cases q; cases m
  simp_all
theorem setQ_self (q : Qd) {k : Nat} (hk : k < 4) (t : Int) : (setQ q k t).at k = t := by
  have e : k = 0 ∨ k = 1 ∨ k = 2 ∨ k = 3 := by omega
  rcases e with rfl | rfl | rfl | rfl <;> rfl
theorem setQ_ne (q : Qd) {k i : Nat} (hk : k < 4) (hi : i < 4) (h : i ≠ k) (t : Int) : (setQ q k t).at i = q.at i := by
  have e : k = 0 ∨ k = 1 ∨ k = 2 ∨ k = 3 := by omega
  have f : i = 0 ∨ i = 1 ∨ i = 2 ∨ i = 3 := by omega
  rcases e with rfl | rfl | rfl | rfl <;> rcases f with rfl | rfl | rfl | rfl <;> first | rfl | exact absurd rfl h
def sumF (q : Qd) (k : Nat) : Int := match k with | 0 => q.a + q.b + q.c + q.d | 1 => q.b + q.c + q.d | 2 => q.c + q.d | 3 => q.d | _ => 0
theorem sumF_succ (q : Qd) {k : Nat} (hk : k < 4) : sumF q k = q.at k + sumF q (k + 1) := by
  have e : k = 0 ∨ k = 1 ∨ k = 2 ∨ k = 3 := by omega
  rcases e with rfl | rfl | rfl | rfl <;> simp [sumF, Qd.at] <;> omega
theorem sumF_nn {q : Qd} : ∀ (r k : Nat), k + r = 4 → (∀ i, k ≤ i → i < 4 → 0 ≤ q.at i) → 0 ≤ sumF q k := by
  intro r
  induction r with
  | zero => intro k hk _; have : k = 4 := by omega
            subst this; exact Int.le_refl 0
  | succ r ih =>
    intro k hk h
    have h1 := h k (Nat.le_refl _) (by omega)
    have h2 := ih (k + 1) (by omega) fun i hi hi4 => h i (by omega) hi4
    rw [sumF_succ q (by omega)]; omega
theorem mem_lvM (L q : Qd) : ∀ (r k : Nat) (m : Qd) (more : Int), k + r = 4 → (q ∈ lvM L r k m more ↔ (∀ i, i < k → q.at i = m.at i) ∧ (∀ i, k ≤ i → i < 4 → 0 ≤ q.at i ∧ q.at i ≤ L.at i) ∧ sumF q k = more ∧ q ≠ zQ) := by
  intro r
  induction r with
  | zero =>
    intro k m more hk
    have hk4 : k = 4 := by omega
    subst hk4
    unfold lvM
    by_cases hm : more = 0
    · rw [if_neg (fun h => h hm)]
      cases hz : eqQ m zQ with
      | true =>
        rw [if_pos rfl]
        constructor
        · intro h; cases h
        · rintro ⟨h1, _, _, h4⟩
          exact absurd ((Qd.ext4 h1).trans (eqQ_iff.1 hz)) h4
      | false =>
        rw [if_neg (by simp)]
        constructor
        · intro h
          rcases List.mem_singleton.1 h with rfl
          exact ⟨fun _ _ => rfl, fun i h1 h2 => by omega, hm.symm, fun h => by rw [eqQ_iff.2 h] at hz; cases hz⟩
        · rintro ⟨h1, _, _, _⟩
          rw [Qd.ext4 h1]; exact List.mem_singleton.2 rfl
    · rw [if_pos hm]
      constructor
      · intro h; cases h
      · rintro ⟨_, _, h3, _⟩
        exact absurd h3.symm hm
  | succ r ih =>
    intro k m more hk
    have hk4 : k < 4 := by omega
    show q ∈ (List.range (widM L k more)).flatMap _ ↔ _
    rw [List.mem_flatMap]
    constructor
    · rintro ⟨j, hj, h⟩
      have hj := List.mem_range.1 hj
      unfold widM at hj
      obtain ⟨h1, h2, h3, h4⟩ := (ih (k + 1) (setQ m k j) (more - j) (by omega)).1 h
      have hq := h1 k (by omega)
      rw [setQ_self m hk4] at hq
      refine ⟨fun i hi => ?_, fun i hi hi4 => ?_, ?_, h4⟩
      · rw [h1 i (by omega), setQ_ne m hk4 (by omega) (by omega)]
      · by_cases e : i = k
        · subst e; rw [hq]; omega
        · exact h2 i (by omega) hi4
      · rw [sumF_succ q hk4, hq, h3]; omega
    · rintro ⟨h1, h2, h3, h4⟩
      have hk0 := h2 k (Nat.le_refl _) hk4
      have hs := sumF_nn (q := q) r (k + 1) (by omega) fun i hi hi4 => (h2 i (by omega) hi4).1
      rw [sumF_succ q hk4] at h3
      have hj : ((q.at k).toNat : Int) = q.at k := by omega
      refine ⟨(q.at k).toNat, List.mem_range.2 (by unfold widM; omega), (ih (k + 1) _ _ (by omega)).2 ⟨fun i hi => ?_, fun i hi hi4 => h2 i (by omega) hi4, by omega, h4⟩⟩
      by_cases e : i = k
      · subst e; rw [setQ_self m hk4, hj]
      · rw [setQ_ne m hk4 (by omega) e]; exact h1 i (by omega)
theorem mem_melts {L q : Qd} {many : Int} : q ∈ melts L many ↔ (∀ i, i < 4 → 0 ≤ q.at i ∧ q.at i ≤ L.at i) ∧ q.a + q.b + q.c + q.d = many ∧ q ≠ zQ := by
  unfold melts
  rw [mem_lvM L q 4 0 zQ many rfl]
  constructor
  · rintro ⟨_, h2, h3, h4⟩; exact ⟨fun i hi => h2 i (by omega) hi, h3, h4⟩
  · rintro ⟨h2, h3, h4⟩; exact ⟨fun i hi => by omega, fun i _ hi => h2 i hi, h3, h4⟩
theorem mem_rights {b : Bk} {L q : Qd} {many : Int} : q ∈ rights b L many ↔ ((∀ i, i < 4 → 0 ≤ q.at i ∧ q.at i ≤ L.at i) ∧ q.a + q.b + q.c + q.d = many ∧ q ≠ zQ) ∧ rightI b many q = true := by
  unfold rights
  rw [List.mem_filter, mem_melts]
theorem bst_spec (l : List Qd) : (∀ m ∈ l, m ≠ zQ) → (l = [] ∧ bstQ l = zQ) ∨ ∃ l1 l2, l = l1 ++ bstQ l :: l2 ∧ (∀ m ∈ l1, tkn (bstQ l) < tkn m) ∧ ∀ m ∈ l2, tkn (bstQ l) ≤ tkn m := by
  have key : ∀ l : List Qd, (∀ m ∈ l.reverse, m ≠ zQ) → (l.reverse = [] ∧ bstQ l.reverse = zQ) ∨ ∃ l1 l2, l.reverse = l1 ++ bstQ l.reverse :: l2 ∧ (∀ m ∈ l1, tkn (bstQ l.reverse) < tkn m) ∧ ∀ m ∈ l2, tkn (bstQ l.reverse) ≤ tkn m := by
    intro l
    induction l with
    | nil => intro _; exact .inl ⟨rfl, rfl⟩
    | cons q l ih =>
      intro hz
      rw [List.reverse_cons] at hz ⊢
      rw [bst_snoc]
      have hq : q ≠ zQ := hz q (by simp)
      right
      rcases ih (fun m hm => hz m (by simp at hm ⊢; exact .inl hm)) with ⟨h1, h2⟩ | ⟨l1, l2, h1, h2, h3⟩
      · rw [h2, h1]
        have e : stepQ zQ q = q := by unfold stepQ; rw [if_pos (eqQ_iff.2 rfl)]
        rw [e]
        exact ⟨[], [], rfl, (fun m hm => by cases hm), (fun m hm => by cases hm)⟩
      · have hbz : eqQ (bstQ l.reverse) zQ = false := by
          cases hh : eqQ (bstQ l.reverse) zQ with
          | false => rfl
          | true =>
            have hm : bstQ l.reverse ∈ l1 ++ bstQ l.reverse :: l2 := by simp
            rw [← h1] at hm
            exact absurd (eqQ_iff.1 hh) (hz _ (List.mem_append_left _ hm))
        generalize bstQ l.reverse = B at h1 h2 h3 hbz
        by_cases ht : tkn q < tkn B
        · have e : stepQ B q = q := by unfold stepQ; rw [if_neg (by rw [hbz]; simp), if_pos ht]
          rw [e]
          refine ⟨l.reverse, [], rfl, fun m hm => ?_, (fun m hm => by cases hm)⟩
          rw [h1] at hm
          rcases List.mem_append.1 hm with hm | hm
          · have := h2 m hm; omega
          · rcases List.mem_cons.1 hm with rfl | hm
            · exact ht
            · have := h3 m hm; omega
        · have e : stepQ B q = B := by unfold stepQ; rw [if_neg (by rw [hbz]; simp), if_neg ht]
          rw [e]
          refine ⟨l1, l2 ++ [q], by rw [h1]; simp, h2, fun m hm => ?_⟩
          rcases List.mem_append.1 hm with hm | hm
          · exact h3 m hm
          · rcases List.mem_singleton.1 hm with rfl; omega
  have := key l.reverse
  rwa [List.reverse_reverse] at this
theorem cast_some {b : Bk} {many : Int} (h : castQ b many ≠ zQ) : castQ b many ∈ rights b (stoQ b) many := by
  rcases bst_spec (rights b (stoQ b) many) (fun m hm => (mem_rights.1 hm).1.2.2) with ⟨_, h2⟩ | ⟨l1, l2, h1, _, _⟩
  · exact absurd h2 h
  · show bstQ _ ∈ _
    have : bstQ (rights b (stoQ b) many) ∈ l1 ++ bstQ (rights b (stoQ b) many) :: l2 := by simp
    rwa [← h1] at this
theorem cast_none {b : Bk} {many : Int} : castQ b many = zQ ↔ rights b (stoQ b) many = [] := by
  constructor
  · intro h
    rcases bst_spec (rights b (stoQ b) many) (fun m hm => (mem_rights.1 hm).1.2.2) with ⟨h1, _⟩ | ⟨l1, l2, h1, _, _⟩
    · exact h1
    · have hm : bstQ (rights b (stoQ b) many) ∈ l1 ++ bstQ (rights b (stoQ b) many) :: l2 := by simp
      rw [← h1] at hm
      exact absurd h (mem_rights.1 hm).1.2.2
  · intro h; show bstQ _ = _; rw [h]; rfl
variable {is : FuncId → Bool} {orc : Known}
noncomputable def b24 : Code := (Tryz.f24.body).getD .skip
theorem body24 : bodyOf Tryz.prog 24 = some (18, b24, [.tmp 2]) := by kernel_rfl
theorem pure24 : pureFn Tryz.prog 24 = true := by kernel_rfl
noncomputable def b23 : Code := (Tryz.f23.body).getD .skip
theorem body23 : bodyOf Tryz.prog 23 = some (39, b23, [.tmp 4]) := by kernel_rfl
theorem pure23 : pureFn Tryz.prog 23 = true := by kernel_rfl
set_option maxHeartbeats 4000000 in
theorem ret24 (hi : Off is) (l : List Int) (hl : l.length ≤ 64) (hx : ∀ x ∈ l, 0 ≤ x ∧ x ≤ 100000) : RetP Tryz.prog is orc 24 [.lst .ro 1 (intsU l)] (.int .i64 (sumI l)) := by
  refine ret_of body24 pure24 (hi 24 (by decide)) rfl rfl (dat_l1 (dat_ints 6 .ro (fun h => by cases h) 1 l)) (.inl (.int _ _ _)) ?_
  refine k_seq (k_region ?_)
  refine o_assign rfl ?_
  refine o_nil ?_
  refine k_seq (k_region ?_)
  refine o_assign rfl ?_
  refine o_nil ?_
  refine k_seq ?_
  refine k_seq (k_region ?_)
  refine o_assign rfl ?_
  refine o_nil ?_
  refine k_block ?_
  refine k_loop (fun k st => ∃ (n : Nat), k + n = l.length ∧ (0 ≤ sumI (l.take n) ∧ sumI (l.take n) ≤ 100000 * n) ∧ st.st = [] ∧ Holds st [(0, .lst .ro 1 (intsU l)), (3, .int .i64 (sumI (l.take n))), (4, .int .i64 n)]) (fun k st hI => ?_) l.length _ ?_
  · obtain ⟨n, hk, hb, hst, hs⟩ := hI
    refine k_gen _ _ hs hst fun fr => ?_
    by_cases hn : n < l.length
    · obtain ⟨q, hq⟩ : ∃ q, l[n]? = some q := ⟨l[n], List.getElem?_eq_getElem hn⟩
      have hqb := hx q (List.mem_of_getElem? hq)
      refine k_seq ?_
      refine k_seq (k_region ?_)
      refine o_move rfl ?_
      refine o_move rfl ?_
      refine o_len rfl ty29 rfl (List.length_map _) ?_
      refine o_lss rfl rfl rfl ?_
      refine o_nil ?_
      refine k_cT rfl (decide_eq_true (by omega)) ?_
      refine k_skip ?_
      refine k_seq ?_
      refine k_block ?_
      refine k_region ?_
      refine o_move rfl ?_
      refine o_move rfl ?_
      refine o_move rfl ?_
      refine o_idx (u := .int .i64 (q)) rfl ty29 rfl rfl (Int.natCast_nonneg _) (by simp [hq]) cl3 ?_
      refine o_loadR1 rfl rfl sh3 rfl ?_
      refine o_add rfl rfl rfl (by unfold I64; omega) ?_
      refine o_assign rfl ?_
      refine o_nil ?_
      refine k_region ?_
      refine o_move rfl ?_
      refine o_add rfl rfl rfl (by unfold I64; omega) ?_
      refine o_assign rfl ?_
      refine o_nil ?_
      exact ⟨k - 1, by omega, n + 1, by omega, (by rw [sum_take hq]; omega), rfl, .cons rfl (.cons (congrArg (U.int .i64) (sum_take hq).symm) (.cons rfl (.nil rfl)))⟩
    · have hn : n = l.length := by omega
      subst hn
      refine k_seq ?_
      refine k_seq (k_region ?_)
      refine o_move rfl ?_
      refine o_move rfl ?_
      refine o_len rfl ty29 rfl (List.length_map _) ?_
      refine o_lss rfl rfl rfl ?_
      refine o_nil ?_
      refine k_cF rfl (decide_eq_false (by omega)) ?_
      refine k_exit ?_
      refine k_seq (k_region ?_)
      refine o_move rfl ?_
      refine o_assign rfl ?_
      refine o_nil ?_
      refine k_ret ?_
      refine ⟨.inr rfl, _, .cons _ _ _ _ (.tmp 2) .nil, ?_⟩
      rw [List.take_length]; exact .refl _
  · exact ⟨0, by omega, ⟨Int.le_refl 0, Int.le_refl 0⟩, rfl, .cons rfl (.cons rfl (.cons rfl (.nil rfl)))⟩
set_option maxHeartbeats 8000000 in
theorem ret23 (hi : Off is) {b : Bk} (hb : Ok b) (l : List Int) (hl : l.length = b.lots.length) (hx : ∀ (i : Nat) (x : Int) (q : Tri), l[i]? = some x → b.lots[i]? = some q → 0 ≤ x ∧ x ≤ q.a) (hx6 : ∀ x ∈ l, 0 ≤ x ∧ x ≤ 6) (hs : 0 < sumI l) : RetP Tryz.prog is orc 23 [b.u, .lst .ro 1 (intsU l)] (.bool true) := by
  refine ret_of body23 pure23 (hi 23 (by decide)) rfl rfl (dat_l2 (dat_bk b 5) (dat_ints 6 .ro (fun h => by cases h) 1 l)) (.inl (.bool _ _)) ?_
  have hnl := hb.nl
  refine k_seq (k_region ?_)
  refine o_box rfl rfl ?_
  refine o_assign rfl ?_
  refine o_nil ?_
  refine k_gen [(1, U.lst Kd.ro 1 (intsU l)), (2, U.box 0 0)] ([SB.box [U.lst Kd.ro 3 (trisU (Bk.lots b)), .int .i64 (Bk.tlo b), .int .i64 (Bk.thi b), .int .i64 (Bk.thick b), .int .i64 (Bk.crack b), .int .i64 (Bk.glo b), .int .i64 (Bk.ghi b), U.lst Kd.ro 2 (twosU (Bk.thins b)), .int .i64 (Bk.hot b), .int .i64 (Bk.least b), .int .i64 (Bk.clo b), .int .i64 (Bk.chi b), .int .i64 (Bk.coal b), U.lst Kd.ro 3 (trisU (Bk.looks b))]]) (.cons rfl (.cons rfl (.nil rfl))) rfl fun fr => ?_
  refine k_seq (k_region ?_)
  refine o_move rfl ?_
  refine o_len rfl ty29 rfl (List.length_map _) ?_
  refine o_faddr rfl rfl fld28_0 ?_
  refine o_load1 rfl rfl rfl sh22 rfl ?_
  refine o_len rfl ty22 rfl (List.length_map _) ?_
  refine o_eql rfl rfl rfl ?_
  refine o_assign rfl ?_
  refine o_nil ?_
  refine k_seq ?_
  refine k_seq (k_region ?_)
  refine o_assign rfl ?_
  refine o_nil ?_
  refine k_block ?_
  refine k_loop (fun k st => ∃ (i : Nat), k + i = l.length ∧ st.st = [.box b.cs] ∧ Holds st [(1, .lst .ro 1 (intsU l)), (2, .box 0 0), (5, .bool true), (6, .int .i64 i)]) (fun k st hI => ?_) l.length _ ?_
  · obtain ⟨i, hki, hst, hs2⟩ := hI
    refine k_gen _ _ hs2 hst fun fr => ?_
    by_cases hil : i < l.length
    · obtain ⟨x, hxi⟩ : ∃ x, l[i]? = some x := ⟨l[i], List.getElem?_eq_getElem hil⟩
      obtain ⟨q, hq⟩ : ∃ q, b.lots[i]? = some q := ⟨b.lots[i]'(by omega), List.getElem?_eq_getElem (by omega)⟩
      have hxb := hx i x q hxi hq
      have q25 : RetP Tryz.prog is orc 25 [.int .i64 x, .int .i64 0, .int .i64 q.a] (.bool true) := by
        have := ret25 (orc := orc) hi x 0 q.a
        rwa [show (decide (0 ≤ x) && decide (x ≤ q.a)) = true by simp; omega] at this
      refine k_seq ?_
      refine k_seq (k_region ?_)
      refine o_move rfl ?_
      refine o_move rfl ?_
      refine o_gD rfl rfl rfl rfl rfl ?_
      refine o_move rfl ?_
      refine o_gD rfl rfl rfl rfl rfl ?_
      refine o_move rfl ?_
      refine o_gD rfl rfl rfl rfl rfl ?_
      refine o_len rfl ty29 rfl (List.length_map _) ?_
      refine o_gD rfl rfl rfl rfl rfl ?_
      refine o_lss rfl rfl rfl ?_
      refine o_pickT rfl rfl rfl ?_
      refine o_nil ?_
      refine k_cT rfl (decide_eq_true (by omega)) ?_
      refine k_skip ?_
      refine k_seq ?_
      refine k_block ?_
      refine k_draw [.plain, .plain, .plain, .read true, .plain, .read true, .plain, .plain, .plain, .read true, .plain, .plain] (by kernel_rfl) (by kernel_rfl) (by kernel_rfl) ?_
      refine d_plain (o_move rfl (o_nil rfl)) ?_
      refine d_plain (o_move rfl (o_nil rfl)) ?_
      refine d_plain (o_idx (u := .int .i64 (x)) rfl ty29 rfl rfl (Int.natCast_nonneg _) (by simp [hxi]) cl3 (o_nil rfl)) ?_
      refine d_load rfl (o_loadR1 rfl rfl sh3 rfl (o_nil rfl)) ?_
      refine d_plain (o_faddr rfl rfl fld28_0 (o_nil rfl)) ?_
      refine d_load rfl (o_load1 rfl rfl rfl sh22 rfl (o_nil rfl)) ?_
      refine d_plain (o_move rfl (o_nil rfl)) ?_
      refine d_plain (o_idx (u := (q).u) rfl ty22 rfl rfl (Int.natCast_nonneg _) (by simp [hq]) cl54 (o_nil rfl)) ?_
      refine d_plain (o_faddrR rfl rfl fld54_0 (o_nil rfl)) ?_
      refine d_load rfl (o_loadR1 rfl rfl sh3 rfl (o_nil rfl)) ?_
      refine d_plain (o_call rfl (q25) (.lrefl _) (o_nil rfl)) ?_
      refine d_plain (o_assign rfl (o_nil rfl)) ?_
      refine d_nil ?_
      refine k_region ?_
      refine o_move rfl ?_
      refine o_add rfl rfl rfl (by unfold I64; omega) ?_
      refine o_assign rfl ?_
      refine o_nil ?_
      exact ⟨k - 1, by omega, i + 1, by omega, rfl, .cons rfl (.cons rfl (.cons rfl (.cons rfl (.nil rfl))))⟩
    · have hil : i = l.length := by omega
      subst hil
      refine k_seq ?_
      refine k_seq (k_region ?_)
      refine o_move rfl ?_
      refine o_move rfl ?_
      refine o_gD rfl rfl rfl rfl rfl ?_
      refine o_move rfl ?_
      refine o_gD rfl rfl rfl rfl rfl ?_
      refine o_move rfl ?_
      refine o_gD rfl rfl rfl rfl rfl ?_
      refine o_len rfl ty29 rfl (List.length_map _) ?_
      refine o_gD rfl rfl rfl rfl rfl ?_
      refine o_lss rfl rfl rfl ?_
      refine o_pickT rfl rfl rfl ?_
      refine o_nil ?_
      refine k_cF rfl (decide_eq_false (by omega)) ?_
      refine k_exit ?_
      refine k_seq (k_region ?_)
      refine o_move rfl ?_
      refine o_move rfl ?_
      refine o_gD rfl rfl rfl rfl rfl ?_
      refine o_move rfl ?_
      refine o_gD rfl rfl rfl rfl rfl ?_
      refine o_call rfl (ret24 hi l (by omega) (fun x h => by have := hx6 x h; omega)) (.lrefl _) ?_
      refine o_gD rfl rfl rfl rfl rfl ?_
      refine o_gtr rfl rfl rfl ?_
      refine o_pickT rfl rfl rfl ?_
      refine o_assign rfl ?_
      refine o_nil ?_
      refine k_ret ?_
      refine ⟨.inr rfl, _, .cons _ _ _ _ (.tmp 4) .nil, ?_⟩
      show UW (.u (.bool (decide (sumI l > 0)))) _
      rw [decide_eq_true (show sumI l > 0 from hs)]; exact .refl _
  · exact ⟨0, by omega, rfl, .cons rfl (.cons rfl (.cons (congrArg U.bool (decide_eq_true (by omega))) (.cons rfl (.nil rfl))))⟩
theorem sum_ask {l : List Int} (hl : l.length ≤ 4) : (askQ l).a + (askQ l).b + (askQ l).c + (askQ l).d = sumI l := by
  match l, hl with
  | [], _ => simp [sumI, askQ]
  | [_], _ => simp [sumI, askQ]
  | [_, _], _ => simp [sumI, askQ]
  | [_, _, _], _ => simp [sumI, askQ]
  | [_, _, _, _], _ => simp [sumI, askQ]
  | _ :: _ :: _ :: _ :: _ :: _, h => simp at h
theorem ask_at (l : List Int) {i : Nat} (h : i < 4) : (askQ l).at i = (l[i]?).getD 0 := by
  have e : i = 0 ∨ i = 1 ∨ i = 2 ∨ i = 3 := by omega
  rcases e with rfl | rfl | rfl | rfl <;> rfl
theorem sto_at (b : Bk) {i : Nat} (h : i < 4) : (stoQ b).at i = stk b b.lots.length i := by
  have e : i = 0 ∨ i = 1 ∨ i = 2 ∨ i = 3 := by omega
  rcases e with rfl | rfl | rfl | rfl <;> rfl
theorem stk_at {b : Bk} {i : Nat} {t : Tri} (h : b.lots[i]? = some t) : stk b b.lots.length i = t.a := by
  unfold stk; rw [if_pos (List.getElem?_eq_some_iff.1 h).1, h]; rfl
theorem stk_out {b : Bk} {i : Nat} (h : b.lots.length ≤ i) : stk b b.lots.length i = 0 := by
  unfold stk; rw [if_neg (by omega)]
theorem lst_len (q : Qd) {n : Nat} (h : n ≤ 4) : (lstQ q n).length = n := by unfold lstQ; simp; omega
theorem lst_ask {q : Qd} {n : Nat} (h : n ≤ 4) (h0 : ∀ i, n ≤ i → i < 4 → q.at i = 0) : askQ (lstQ q n) = q := by
  refine Qd.ext4 fun i hi => ?_
  rw [ask_at _ hi]
  by_cases hin : i < n
  · unfold lstQ
    rw [List.getElem?_take_of_lt hin]
    have e : i = 0 ∨ i = 1 ∨ i = 2 ∨ i = 3 := by omega
    rcases e with rfl | rfl | rfl | rfl <;> rfl
  · rw [h0 i (by omega) hi, List.getElem?_eq_none (by rw [lst_len q h]; omega)]; rfl
theorem cast_facts {b : Bk} (hb : Ok b) {s : Int} {q : Qd} (h : q ∈ rights b (stoQ b) s) :
    (lstQ q b.lots.length).length = b.lots.length ∧ (∀ (i : Nat) (x : Int) (t : Tri), (lstQ q b.lots.length)[i]? = some x → b.lots[i]? = some t → 0 ≤ x ∧ x ≤ t.a) ∧ (∀ x ∈ lstQ q b.lots.length, 0 ≤ x ∧ x ≤ 6) ∧ sumI (lstQ q b.lots.length) = s ∧ s * b.tlo ≤ tinI b false q ∧ tinI b true q ≤ s * b.thi ∧ askQ (lstQ q b.lots.length) = q := by
  have hnl := hb.nl
  obtain ⟨⟨h1, h2, _⟩, h4⟩ := mem_rights.1 h
  have ha : askQ (lstQ q b.lots.length) = q := lst_ask hnl.2 fun i hi hi4 => by
    have := h1 i hi4
    rw [sto_at b hi4, stk_out hi] at this; omega
  have hl := lst_len q hnl.2
  have hx : ∀ (i : Nat) (x : Int) (t : Tri), (lstQ q b.lots.length)[i]? = some x → b.lots[i]? = some t → 0 ≤ x ∧ x ≤ t.a := fun i x t hx ht => by
    have hi : i < b.lots.length := (List.getElem?_eq_some_iff.1 ht).1
    have := h1 i (by omega)
    rw [sto_at b (by omega), stk_at ht, ← ha, ask_at _ (by omega), hx] at this
    exact this
  have h4' : keptI b s false q = true ∧ keptI b s true q = true := by
    unfold rightI at h4; rwa [Bool.and_eq_true] at h4
  have k1 : tinI b false q ≥ s * b.tlo := of_decide_eq_true h4'.1
  have k2 : tinI b true q ≤ s * b.thi := of_decide_eq_true h4'.2
  refine ⟨hl, hx, fun x hm => ?_, ?_, k1, k2, ha⟩
  · obtain ⟨i, hi⟩ := List.mem_iff_getElem?.1 hm
    have hil := (List.getElem?_eq_some_iff.1 hi).1
    obtain ⟨t, ht⟩ : ∃ t, b.lots[i]? = some t := ⟨b.lots[i]'(by omega), List.getElem?_eq_getElem (by omega)⟩
    have := hx i x t hi ht
    have := hb.lots t (List.mem_of_getElem? ht)
    omega
  · rw [← sum_ask (by omega), ha]; exact h2
theorem tak_at {b : Bk} (hb : Ok b) (bits : List Int) {i : Nat} (hi : i < 4) : 0 ≤ (askQ (takI b bits b.lots.length)).at i ∧ (askQ (takI b bits b.lots.length)).at i ≤ (stoQ b).at i := by
  rw [ask_at _ hi, sto_at b hi]
  by_cases h : i < b.lots.length
  · obtain ⟨t, ht⟩ : ∃ t, b.lots[i]? = some t := ⟨b.lots[i], List.getElem?_eq_getElem h⟩
    have hq := hb.lots t (List.mem_of_getElem? ht)
    have h1 := Int.emod_nonneg (nthI bits i) (show t.a + 1 ≠ 0 by omega)
    have h2 := Int.emod_lt_of_pos (nthI bits i) (show 0 < t.a + 1 by omega)
    rw [stk_at ht, show (takI b bits b.lots.length)[i]? = some (nthI bits i % (t.a + 1)) by unfold takI; rw [List.getElem?_map, List.getElem?_range h]; simp [ht]]
    show 0 ≤ nthI bits i % (t.a + 1) ∧ nthI bits i % (t.a + 1) ≤ t.a
    omega
  · rw [stk_out (by omega), List.getElem?_eq_none (by rw [tak_len]; omega)]; simp
theorem sum_bd {l : List Int} (hl : l.length ≤ 4) (hx : ∀ x ∈ l, 0 ≤ x ∧ x ≤ 6) : 0 ≤ sumI l ∧ sumI l ≤ 24 := by
  match l, hl with
  | [], _ => exact ⟨by decide, by decide⟩
  | [a], _ =>
    have := hx a (by simp)
    show 0 ≤ 0 + a ∧ 0 + a ≤ 24; omega
  | [a, b], _ =>
    have := hx a (by simp)
    have := hx b (by simp)
    show 0 ≤ 0 + a + b ∧ 0 + a + b ≤ 24; omega
  | [a, b, c], _ =>
    have := hx a (by simp)
    have := hx b (by simp)
    have := hx c (by simp)
    show 0 ≤ 0 + a + b + c ∧ 0 + a + b + c ≤ 24; omega
  | [a, b, c, d], _ =>
    have := hx a (by simp)
    have := hx b (by simp)
    have := hx c (by simp)
    have := hx d (by simp)
    show 0 ≤ 0 + a + b + c + d ∧ 0 + a + b + c + d ≤ 24; omega
  | _ :: _ :: _ :: _ :: _ :: _, h => simp at h
theorem isM_iff {b : Bk} {l : List Int} : isM b l = true ↔ askQ l ∈ rights b (stoQ b) (sumI l) := by
  unfold isM
  rw [List.any_eq_true]
  constructor
  · rintro ⟨q, hq, he⟩
    rw [eqQ_iff] at he; subst he; exact hq
  · intro h
    exact ⟨askQ l, h, eqQ_iff.2 rfl⟩
noncomputable def b27 : Code := (Tryz.f27.body).getD .skip
theorem body27 : bodyOf Tryz.prog 27 = some (19, b27, [.tmp 2]) := by kernel_rfl
theorem pure27 : pureFn Tryz.prog 27 = true := by kernel_rfl
noncomputable def b28 : Code := (Tryz.f28.body).getD .skip
theorem body28 : bodyOf Tryz.prog 28 = some (41, b28, [.tmp 4]) := by kernel_rfl
theorem pure28 : pureFn Tryz.prog 28 = true := by kernel_rfl
def ltQ (q m : Qd) : Prop := ∃ k, k < 4 ∧ (∀ i, i < k → q.at i = m.at i) ∧ q.at k < m.at k
theorem ltQ_irr {q m : Qd} (h : ltQ q m) (h2 : ltQ m q) : False := by
  obtain ⟨k, hk, h1, h3⟩ := h
  obtain ⟨j, hj, g1, g3⟩ := h2
  by_cases c : k < j
  · have := g1 k c; omega
  · by_cases d : j < k
    · have := h1 j d; omega
    · have : k = j := by omega
      subst this; omega
theorem lvM_sorted (L : Qd) : ∀ (r k : Nat) (m : Qd) (more : Int), k + r = 4 → (lvM L r k m more).Pairwise ltQ := by
  intro r
  induction r with
  | zero =>
    intro k m more _
    unfold lvM
    split
    · exact .nil
    · split
      · exact .nil
      · exact List.pairwise_singleton _ _
  | succ r ih =>
    intro k m more hk
    show ((List.range (widM L k more)).flatMap _).Pairwise ltQ
    rw [List.pairwise_flatMap]
    refine ⟨fun j _ => ih _ _ _ (by omega), ?_⟩
    refine List.Pairwise.imp ?_ List.pairwise_lt_range
    intro j1 j2 hj x hx y hy
    obtain ⟨x1, _, _, _⟩ := (mem_lvM L x r (k + 1) _ _ (by omega)).1 hx
    obtain ⟨y1, _, _, _⟩ := (mem_lvM L y r (k + 1) _ _ (by omega)).1 hy
    refine ⟨k, by omega, fun i hi => ?_, ?_⟩
    · rw [x1 i (by omega), y1 i (by omega), setQ_ne m (by omega) (by omega) (by omega), setQ_ne m (by omega) (by omega) (by omega)]
    · rw [x1 k (by omega), y1 k (by omega), setQ_self m (by omega), setQ_self m (by omega)]; omega
theorem rights_sorted (b : Bk) (L : Qd) (many : Int) : (rights b L many).Pairwise ltQ :=
  (lvM_sorted L 4 0 zQ many rfl).sublist List.filter_sublist
theorem cast_first {b : Bk} {s : Int} {m : Qd} (hm : m ∈ rights b (stoQ b) s) : castQ b s ≠ zQ ∧ tkn (castQ b s) ≤ tkn m ∧ (tkn (castQ b s) = tkn m → ¬ ltQ m (castQ b s)) := by
  have hne : castQ b s ≠ zQ := fun h => by rw [cast_none.1 h] at hm; cases hm
  refine ⟨hne, ?_⟩
  rcases bst_spec (rights b (stoQ b) s) (fun m hm => (mem_rights.1 hm).1.2.2) with ⟨h1, _⟩ | ⟨l1, l2, h1, h2, h3⟩
  · rw [h1] at hm; cases hm
  · have hs := rights_sorted b (stoQ b) s
    show tkn (bstQ _) ≤ _ ∧ (tkn (bstQ _) = _ → ¬ ltQ m (bstQ _))
    generalize bstQ (rights b (stoQ b) s) = B at h1 h2 h3
    rw [h1] at hm hs
    rcases List.mem_append.1 hm with hm | hm
    · have := h2 m hm
      exact ⟨by omega, fun h => by omega⟩
    · rcases List.mem_cons.1 hm with rfl | hm
      · exact ⟨Int.le_refl _, fun _ h => ltQ_irr h h⟩
      · refine ⟨h3 m hm, fun _ h => ?_⟩
        have hp := (List.pairwise_append.1 hs).2.1
        exact ltQ_irr h ((List.pairwise_cons.1 hp).1 m hm)
theorem most_facts (b : Bk) : ∀ n : Nat, (mostI b n = 0 ∨ (1 ≤ mostI b n ∧ mostI b n ≤ n ∧ castQ b (mostI b n) ≠ zQ)) ∧ ∀ s : Int, 1 ≤ s → s ≤ n → castQ b s ≠ zQ → s ≤ mostI b n := by
  intro n
  induction n with
  | zero => exact ⟨.inl rfl, fun s h1 h2 _ => by omega⟩
  | succ n ih =>
    have e : mostI b (n + 1) = if eqQ (castQ b ((n + 1 : Nat) : Int)) zQ = true then mostI b n else ((n + 1 : Nat) : Int) := rfl
    by_cases hz : eqQ (castQ b ((n + 1 : Nat) : Int)) zQ = true
    · rw [if_pos hz] at e
      rw [e]
      refine ⟨?_, fun s h1 h2 h3 => ?_⟩
      · rcases ih.1 with h | ⟨h1, h2, h3⟩
        · exact .inl h
        · exact .inr ⟨h1, by omega, h3⟩
      · by_cases e : s = (n + 1 : Nat)
        · subst e; exact absurd (eqQ_iff.1 hz) h3
        · exact ih.2 s h1 (by omega) h3
    · rw [if_neg hz] at e
      rw [e]
      exact ⟨.inr ⟨by omega, by omega, fun h => hz (eqQ_iff.2 h)⟩, fun s _ h2 _ => h2⟩
def cntP (l : List Int) : Nat → Int
  | 0 => 0
  | i + 1 => cntP l i + if 0 < (l[i]?).getD 0 then 1 else 0
theorem cnt_b (l : List Int) (i : Nat) : 0 ≤ cntP l i ∧ cntP l i ≤ i := by
  induction i with
  | zero => exact ⟨Int.le_refl _, Int.le_refl _⟩
  | succ i ih => unfold cntP; split <;> omega
theorem cnt_tkn {l : List Int} (hl : l.length ≤ 4) : cntP l l.length = tkn (askQ l) := by
  match l, hl with
  | [], _ => simp [cntP, tkn, tknP, askQ, Qd.at]
  | [_], _ => simp [cntP, tkn, tknP, askQ, Qd.at]
  | [_, _], _ => simp [cntP, tkn, tknP, askQ, Qd.at]
  | [_, _, _], _ => simp [cntP, tkn, tknP, askQ, Qd.at]
  | [_, _, _, _], _ => simp [cntP, tkn, tknP, askQ, Qd.at]
  | _ :: _ :: _ :: _ :: _ :: _, h => simp at h
set_option maxHeartbeats 4000000 in
theorem ret27 (hi : Off is) (l : List Int) (hl : l.length ≤ 64) : RetP Tryz.prog is orc 27 [.lst .ro 1 (intsU l)] (.int .i64 (cntP l l.length)) := by
  refine ret_of body27 pure27 (hi 27 (by decide)) rfl rfl (dat_l1 (dat_ints 6 .ro (fun h => by cases h) 1 l)) (.inl (.int _ _ _)) ?_
  refine k_seq (k_region ?_)
  refine o_assign rfl ?_
  refine o_nil ?_
  refine k_seq (k_region ?_)
  refine o_assign rfl ?_
  refine o_nil ?_
  refine k_seq ?_
  refine k_seq (k_region ?_)
  refine o_assign rfl ?_
  refine o_nil ?_
  refine k_block ?_
  refine k_loop (fun k st => ∃ (n : Nat), k + n = l.length ∧ st.st = [] ∧ Holds st [(0, .lst .ro 1 (intsU l)), (3, .int .i64 (cntP l n)), (4, .int .i64 n)]) (fun k st hI => ?_) l.length _ ?_
  · obtain ⟨n, hk, hst, hs⟩ := hI
    have hb := cnt_b l n
    refine k_gen _ _ hs hst fun fr => ?_
    by_cases hn : n < l.length
    · obtain ⟨q, hq⟩ : ∃ q, l[n]? = some q := ⟨l[n], List.getElem?_eq_getElem hn⟩
      have hc : cntP l (n + 1) = cntP l n + if 0 < q then 1 else 0 := by show _ + (if 0 < (l[n]?).getD 0 then 1 else 0) = _; rw [hq]; rfl
      by_cases hp : 0 < q
      · rw [if_pos hp] at hc
        refine k_seq ?_
        refine k_seq (k_region ?_)
        refine o_move rfl ?_
        refine o_move rfl ?_
        refine o_len rfl ty29 rfl (List.length_map _) ?_
        refine o_lss rfl rfl rfl ?_
        refine o_nil ?_
        refine k_cT rfl (decide_eq_true (by omega)) ?_
        refine k_skip ?_
        refine k_seq ?_
        refine k_block ?_
        refine k_seq (k_region ?_)
        refine o_move rfl ?_
        refine o_move rfl ?_
        refine o_idx (u := .int .i64 (q)) rfl ty29 rfl rfl (Int.natCast_nonneg _) (by simp [hq]) cl3 ?_
        refine o_loadR1 rfl rfl sh3 rfl ?_
        refine o_gtr rfl rfl rfl ?_
        refine o_nil ?_
        refine k_cT rfl (decide_eq_true (by omega)) ?_
        refine k_region ?_
        refine o_move rfl ?_
        refine o_add rfl rfl rfl (by unfold I64; omega) ?_
        refine o_assign rfl ?_
        refine o_nil ?_
        refine k_gen [(0, U.lst Kd.ro 1 (intsU l)), (3, .int .i64 (cntP l n + (1 : Int))), (4, .int .i64 ↑n)] ([]) (.cons rfl (.cons rfl (.cons rfl (.nil rfl)))) rfl fun fr => ?_
        refine k_region ?_
        refine o_move rfl ?_
        refine o_add rfl rfl rfl (by unfold I64; omega) ?_
        refine o_assign rfl ?_
        refine o_nil ?_
        exact ⟨k - 1, by omega, n + 1, by omega, rfl, .cons rfl (.cons (congrArg (U.int .i64) hc.symm) (.cons rfl (.nil rfl)))⟩
      · rw [if_neg hp, Int.add_zero] at hc
        refine k_seq ?_
        refine k_seq (k_region ?_)
        refine o_move rfl ?_
        refine o_move rfl ?_
        refine o_len rfl ty29 rfl (List.length_map _) ?_
        refine o_lss rfl rfl rfl ?_
        refine o_nil ?_
        refine k_cT rfl (decide_eq_true (by omega)) ?_
        refine k_skip ?_
        refine k_seq ?_
        refine k_block ?_
        refine k_seq (k_region ?_)
        refine o_move rfl ?_
        refine o_move rfl ?_
        refine o_idx (u := .int .i64 (q)) rfl ty29 rfl rfl (Int.natCast_nonneg _) (by simp [hq]) cl3 ?_
        refine o_loadR1 rfl rfl sh3 rfl ?_
        refine o_gtr rfl rfl rfl ?_
        refine o_nil ?_
        refine k_cF rfl (decide_eq_false (by omega)) ?_
        refine k_skip ?_
        refine k_region ?_
        refine o_move rfl ?_
        refine o_add rfl rfl rfl (by unfold I64; omega) ?_
        refine o_assign rfl ?_
        refine o_nil ?_
        exact ⟨k - 1, by omega, n + 1, by omega, rfl, .cons rfl (.cons (congrArg (U.int .i64) hc.symm) (.cons rfl (.nil rfl)))⟩
    · have hn : n = l.length := by omega
      subst hn
      refine k_seq ?_
      refine k_seq (k_region ?_)
      refine o_move rfl ?_
      refine o_move rfl ?_
      refine o_len rfl ty29 rfl (List.length_map _) ?_
      refine o_lss rfl rfl rfl ?_
      refine o_nil ?_
      refine k_cF rfl (decide_eq_false (by omega)) ?_
      refine k_exit ?_
      refine k_seq (k_region ?_)
      refine o_move rfl ?_
      refine o_assign rfl ?_
      refine o_nil ?_
      refine k_ret ?_
      refine ⟨.inr rfl, _, .cons _ _ _ _ (.tmp 2) .nil, ?_⟩
      exact .refl _
  · exact ⟨0, by omega, rfl, .cons rfl (.cons rfl (.cons rfl (.nil rfl)))⟩
def sooB : List Int → List Int → Bool
  | x :: l, y :: m => if x ≠ y then decide (x < y) else sooB l m
  | _, _ => false
theorem soo_drop {l m : List Int} {i : Nat} {x y : Int} (hx : l[i]? = some x) (hy : m[i]? = some y) : sooB (l.drop i) (m.drop i) = if x ≠ y then decide (x < y) else sooB (l.drop (i + 1)) (m.drop (i + 1)) := by
  have h1 := List.getElem?_eq_some_iff.1 hx
  have h2 := List.getElem?_eq_some_iff.1 hy
  rw [List.drop_eq_getElem_cons h1.1, List.drop_eq_getElem_cons h2.1, h1.2, h2.2]; rfl
set_option maxHeartbeats 4000000 in
theorem ret28 (hi : Off is) (l m : List Int) (hlm : l.length = m.length) (hl : l.length ≤ 64) : RetP Tryz.prog is orc 28 [.lst .ro 1 (intsU l), .lst .ro 1 (intsU m)] (.bool (sooB l m)) := by
  refine ret_of body28 pure28 (hi 28 (by decide)) rfl rfl (dat_l2 (dat_ints 6 .ro (fun h => by cases h) 1 l) (dat_ints 6 .ro (fun h => by cases h) 1 m)) (.inl (.bool _ _)) ?_
  refine k_seq (k_region ?_)
  refine o_assign rfl ?_
  refine o_nil ?_
  refine k_seq ?_
  refine k_seq (k_region ?_)
  refine o_assign rfl ?_
  refine o_nil ?_
  refine k_block ?_
  refine k_loop (fun k st => ∃ (n : Nat), k + n = l.length ∧ sooB l m = sooB (l.drop n) (m.drop n) ∧ st.st = [] ∧ Holds st [(0, .lst .ro 1 (intsU l)), (1, .lst .ro 1 (intsU m)), (5, .int .i64 n)]) (fun k st hI => ?_) l.length _ ?_
  · obtain ⟨n, hk, hso, hst, hs⟩ := hI
    refine k_gen _ _ hs hst fun fr => ?_
    by_cases hn : n < l.length
    · obtain ⟨x, hx⟩ : ∃ q, l[n]? = some q := ⟨l[n], List.getElem?_eq_getElem hn⟩
      obtain ⟨y, hy⟩ : ∃ q, m[n]? = some q := ⟨m[n]'(by omega), List.getElem?_eq_getElem (by omega)⟩
      rw [soo_drop hx hy] at hso
      by_cases hp : x = y
      · rw [if_neg (by simpa using hp)] at hso
        refine k_seq ?_
        refine k_seq (k_region ?_)
        refine o_move rfl ?_
        refine o_move rfl ?_
        refine o_len rfl ty29 rfl (List.length_map _) ?_
        refine o_lss rfl rfl rfl ?_
        refine o_move rfl ?_
        refine o_gD rfl rfl rfl rfl (decide_eq_true (by omega)) ?_
        refine o_move rfl ?_
        refine o_gD rfl rfl rfl rfl (decide_eq_true (by omega)) ?_
        refine o_move rfl ?_
        refine o_gD rfl rfl rfl rfl (decide_eq_true (by omega)) ?_
        refine o_len rfl ty29 rfl (List.length_map _) ?_
        refine o_gD rfl rfl rfl rfl (decide_eq_true (by omega)) ?_
        refine o_lss rfl rfl rfl ?_
        refine o_pickT rfl rfl (decide_eq_true (by omega)) ?_
        refine o_nil ?_
        refine k_cT rfl (decide_eq_true (by omega)) ?_
        refine k_skip ?_
        refine k_seq ?_
        refine k_block ?_
        refine k_seq ?_
        refine k_draw [.plain, .plain, .plain, .read true, .plain, .plain, .plain, .read true, .plain] (by kernel_rfl) (by kernel_rfl) (by kernel_rfl) ?_
        refine d_plain (o_move rfl (o_nil rfl)) ?_
        refine d_plain (o_move rfl (o_nil rfl)) ?_
        refine d_plain (o_idx (u := .int .i64 (x)) rfl ty29 rfl rfl (Int.natCast_nonneg _) (by simp [hx]) cl3 (o_nil rfl)) ?_
        refine d_load rfl (o_loadR1 rfl rfl sh3 rfl (o_nil rfl)) ?_
        refine d_plain (o_move rfl (o_nil rfl)) ?_
        refine d_plain (o_move rfl (o_nil rfl)) ?_
        refine d_plain (o_idx (u := .int .i64 (y)) rfl ty29 rfl rfl (Int.natCast_nonneg _) (by simp [hy]) cl3 (o_nil rfl)) ?_
        refine d_load rfl (o_loadR1 rfl rfl sh3 rfl (o_nil rfl)) ?_
        refine d_plain (o_neq rfl rfl rfl (o_nil rfl)) ?_
        refine d_nil ?_
        refine k_cF rfl (decide_eq_false (by omega)) ?_
        refine k_skip ?_
        refine k_region ?_
        refine o_move rfl ?_
        refine o_add rfl rfl rfl (by unfold I64; omega) ?_
        refine o_assign rfl ?_
        refine o_nil ?_
        exact ⟨k - 1, by omega, n + 1, by omega, hso, rfl, .cons rfl (.cons rfl (.cons rfl (.nil rfl)))⟩
      · rw [if_pos hp] at hso
        rw [hso]
        refine k_seq ?_
        refine k_seq (k_region ?_)
        refine o_move rfl ?_
        refine o_move rfl ?_
        refine o_len rfl ty29 rfl (List.length_map _) ?_
        refine o_lss rfl rfl rfl ?_
        refine o_move rfl ?_
        refine o_gD rfl rfl rfl rfl (decide_eq_true (by omega)) ?_
        refine o_move rfl ?_
        refine o_gD rfl rfl rfl rfl (decide_eq_true (by omega)) ?_
        refine o_move rfl ?_
        refine o_gD rfl rfl rfl rfl (decide_eq_true (by omega)) ?_
        refine o_len rfl ty29 rfl (List.length_map _) ?_
        refine o_gD rfl rfl rfl rfl (decide_eq_true (by omega)) ?_
        refine o_lss rfl rfl rfl ?_
        refine o_pickT rfl rfl (decide_eq_true (by omega)) ?_
        refine o_nil ?_
        refine k_cT rfl (decide_eq_true (by omega)) ?_
        refine k_skip ?_
        refine k_seq ?_
        refine k_block ?_
        refine k_seq ?_
        refine k_draw [.plain, .plain, .plain, .read true, .plain, .plain, .plain, .read true, .plain] (by kernel_rfl) (by kernel_rfl) (by kernel_rfl) ?_
        refine d_plain (o_move rfl (o_nil rfl)) ?_
        refine d_plain (o_move rfl (o_nil rfl)) ?_
        refine d_plain (o_idx (u := .int .i64 (x)) rfl ty29 rfl rfl (Int.natCast_nonneg _) (by simp [hx]) cl3 (o_nil rfl)) ?_
        refine d_load rfl (o_loadR1 rfl rfl sh3 rfl (o_nil rfl)) ?_
        refine d_plain (o_move rfl (o_nil rfl)) ?_
        refine d_plain (o_move rfl (o_nil rfl)) ?_
        refine d_plain (o_idx (u := .int .i64 (y)) rfl ty29 rfl rfl (Int.natCast_nonneg _) (by simp [hy]) cl3 (o_nil rfl)) ?_
        refine d_load rfl (o_loadR1 rfl rfl sh3 rfl (o_nil rfl)) ?_
        refine d_plain (o_neq rfl rfl rfl (o_nil rfl)) ?_
        refine d_nil ?_
        refine k_cT rfl (decide_eq_true (by omega)) ?_
        refine k_seq ?_
        refine k_draw [.plain, .plain, .plain, .read true, .plain, .plain, .plain, .read true, .plain, .plain] (by kernel_rfl) (by kernel_rfl) (by kernel_rfl) ?_
        refine d_plain (o_move rfl (o_nil rfl)) ?_
        refine d_plain (o_move rfl (o_nil rfl)) ?_
        refine d_plain (o_idx (u := .int .i64 (x)) rfl ty29 rfl rfl (Int.natCast_nonneg _) (by simp [hx]) cl3 (o_nil rfl)) ?_
        refine d_load rfl (o_loadR1 rfl rfl sh3 rfl (o_nil rfl)) ?_
        refine d_plain (o_move rfl (o_nil rfl)) ?_
        refine d_plain (o_move rfl (o_nil rfl)) ?_
        refine d_plain (o_idx (u := .int .i64 (y)) rfl ty29 rfl rfl (Int.natCast_nonneg _) (by simp [hy]) cl3 (o_nil rfl)) ?_
        refine d_load rfl (o_loadR1 rfl rfl sh3 rfl (o_nil rfl)) ?_
        refine d_plain (o_lss rfl rfl rfl (o_nil rfl)) ?_
        refine d_plain (o_assign rfl (o_nil rfl)) ?_
        refine d_nil ?_
        refine k_ret ?_
        refine ⟨.inr rfl, _, .cons _ _ _ _ (.tmp 4) .nil, ?_⟩
        exact .refl _
    · have hn : n = l.length := by omega
      subst hn
      rw [hso, List.drop_length, show sooB [] (m.drop l.length) = false by cases m.drop l.length <;> rfl]
      refine k_seq ?_
      refine k_seq (k_region ?_)
      refine o_move rfl ?_
      refine o_move rfl ?_
      refine o_len rfl ty29 rfl (List.length_map _) ?_
      refine o_lss rfl rfl rfl ?_
      refine o_move rfl ?_
      refine o_gS rfl rfl rfl rfl (decide_eq_false (by omega)) ?_
      refine o_gS rfl rfl rfl rfl (decide_eq_false (by omega)) ?_
      refine o_gS rfl rfl rfl rfl (decide_eq_false (by omega)) ?_
      refine o_gS rfl rfl rfl rfl (decide_eq_false (by omega)) ?_
      refine o_pickF rfl rfl (decide_eq_false (by omega)) ?_
      refine o_nil ?_
      refine k_cF rfl rfl ?_
      refine k_exit ?_
      refine k_seq (k_region ?_)
      refine o_move rfl ?_
      refine o_len rfl ty29 rfl (List.length_map _) ?_
      refine o_move rfl ?_
      refine o_len rfl ty29 rfl (List.length_map _) ?_
      refine o_lss rfl rfl rfl ?_
      refine o_assign rfl ?_
      refine o_nil ?_
      refine k_ret ?_
      refine ⟨.inr rfl, _, .cons _ _ _ _ (.tmp 4) .nil, ?_⟩
      show UW (.u (.bool (decide ((l.length : Int) < (m.length : Int))))) _
      rw [decide_eq_false (by omega)]; exact .refl _
  · exact ⟨0, by omega, rfl, rfl, .cons rfl (.cons rfl (.cons rfl (.nil rfl)))⟩
theorem soo_lt : ∀ {l m : List Int}, l.length = m.length → sooB l m = true → ∃ k, k < l.length ∧ (∀ i, i < k → l[i]? = m[i]?) ∧ (l[k]?).getD 0 < (m[k]?).getD 0 := by
  intro l
  induction l with
  | nil => intro m _ h; cases m <;> cases h
  | cons x l ih =>
    intro m hl h
    cases m with
    | nil => cases h
    | cons y m =>
      have h : (if x ≠ y then decide (x < y) else sooB l m) = true := h
      by_cases e : x = y
      · subst e
        rw [if_neg (by simp)] at h
        obtain ⟨k, hk, h1, h2⟩ := ih (by simpa using hl) h
        refine ⟨k + 1, by simp; omega, fun i hi => ?_, by simpa using h2⟩
        cases i with
        | zero => rfl
        | succ i => simpa using h1 i (by omega)
      · rw [if_pos e] at h
        exact ⟨0, by simp, fun i hi => by omega, by simpa using h⟩
noncomputable def b6 : Code := (Tryz.f6.body).getD .skip
theorem body6 : bodyOf Tryz.prog 6 = some (130, b6, [.tmp 4]) := by kernel_rfl
theorem pure6 : pureFn Tryz.prog 6 = true := by kernel_rfl
abbrev nlU : U := .lst .full 0 []
abbrev zbk : U := .agg [nlU, .int .i64 0, .int .i64 0, .int .i64 0, .int .i64 0, .int .i64 0, .int .i64 0, nlU, .int .i64 0, .int .i64 0, .int .i64 0, .int .i64 0, .int .i64 0, nlU, .int .i64 0, .int .i64 0, .int .i64 0, .int .i64 0, nlU]
theorem dat_zbk (k : Nat) : Dat (k + 3) zbk := .agg _ _ fun c hc => by
  simp only [List.mem_cons, List.not_mem_nil, or_false] at hc
  rcases hc with rfl | rfl | rfl | rfl | rfl | rfl | rfl | rfl | rfl | rfl | rfl | rfl | rfl | rfl | rfl | rfl | rfl | rfl | rfl <;> first | exact .int _ _ _ | exact .lst _ _ _ _ (fun h => by cases h) (fun c hc => by cases hc)
set_option maxHeartbeats 4000000 in
theorem ret29n (hi : Off is) {b : Bk} (hv : checkR b = 20) : RetP Tryz.prog is orc 29 [b.u, .bool true] (.tup [zbk, .int .i64 20]) := by
  refine ret_of body29 pure29 (hi 29 (by decide)) rfl rfl (dat_l2 (dat_bk b 5) (.bool _ _)) (.inr ⟨_, rfl, dat_l2 (dat_zbk 4) (.int _ _ _)⟩) ?_
  have qc := ret9 (orc := orc) hi b
  rw [hv] at qc
  refine k_seq (k_region ?_)
  refine o_box rfl rfl ?_
  refine o_alloc rfl ze60 ?_
  refine o_assign rfl ?_
  refine o_nil ?_
  refine k_gen [(1, U.bool Bool.true), (2, U.box 0 0), (4, U.box 1 0)] ([SB.box [U.lst Kd.ro 3 (trisU (Bk.lots b)), .int .i64 (Bk.tlo b), .int .i64 (Bk.thi b), .int .i64 (Bk.thick b), .int .i64 (Bk.crack b), .int .i64 (Bk.glo b), .int .i64 (Bk.ghi b), U.lst Kd.ro 2 (twosU (Bk.thins b)), .int .i64 (Bk.hot b), .int .i64 (Bk.least b), .int .i64 (Bk.clo b), .int .i64 (Bk.chi b), .int .i64 (Bk.coal b), U.lst Kd.ro 3 (trisU (Bk.looks b))], SB.box [U.lst Kd.full 0 [], .int .i64 0, .int .i64 0, .int .i64 0, .int .i64 0, .int .i64 0, .int .i64 0, U.lst Kd.full 0 [], .int .i64 0, .int .i64 0, .int .i64 0, .int .i64 0, .int .i64 0, U.lst Kd.full 0 [], .int .i64 0, .int .i64 0, .int .i64 0, .int .i64 0, U.lst Kd.full 0 []]]) (.cons rfl (.cons rfl (.cons rfl (.nil rfl)))) rfl fun fr => ?_
  refine k_seq ?_
  refine k_seq (k_region ?_)
  refine o_loadN rfl rfl rfl sh28 rfl ?_
  refine o_call rfl (qc) (.lrefl _) ?_
  refine o_assign rfl ?_
  refine o_nil ?_
  refine k_seq (k_region ?_)
  refine o_move rfl ?_
  refine o_neq rfl rfl rfl ?_
  refine o_nil ?_
  refine k_cT rfl rfl ?_
  refine k_seq (k_region ?_)
  refine o_build rfl ze60 pl60 rfl rfl ?_
  refine o_move rfl ?_
  refine o_storeN rfl rfl sh60 rfl rfl rfl rfl rfl ?_
  refine o_assign rfl ?_
  refine o_nil ?_
  refine k_ret ?_
  refine ⟨.inr rfl, _, .cons _ _ _ _ (.cellN 4 60 _ _ _ _ rfl rfl sh60 rfl) (.cons _ _ _ _ (.tmp 5) .nil), ?_⟩
  exact .refl _
set_option maxHeartbeats 4000000 in
theorem ret14n (hi : Off is) {b : Bk} (hv : checkR b = 20) : RetP Tryz.prog is orc 14 [b.u] (.tup [.int .i64 0, .int .i64 20]) := by
  refine ret_of body14 pure14 (hi 14 (by decide)) rfl rfl (dat_l1 (dat_bk b 5)) (.inr ⟨_, rfl, dat_l2 (k := 7) (.int _ _ _) (.int _ _ _)⟩) ?_
  refine k_seq (k_region ?_)
  refine o_box rfl rfl ?_
  refine o_assign rfl ?_
  refine o_assign rfl ?_
  refine o_nil ?_
  refine k_gen [(1, U.box 0 0)] ([SB.box [U.lst Kd.ro 3 (trisU (Bk.lots b)), .int .i64 (Bk.tlo b), .int .i64 (Bk.thi b), .int .i64 (Bk.thick b), .int .i64 (Bk.crack b), .int .i64 (Bk.glo b), .int .i64 (Bk.ghi b), U.lst Kd.ro 2 (twosU (Bk.thins b)), .int .i64 (Bk.hot b), .int .i64 (Bk.least b), .int .i64 (Bk.clo b), .int .i64 (Bk.chi b), .int .i64 (Bk.coal b), U.lst Kd.ro 3 (trisU (Bk.looks b))]]) (.cons rfl (.nil rfl)) rfl fun fr => ?_
  refine k_seq (k_region ?_)
  refine o_loadN rfl rfl rfl sh28 rfl ?_
  refine o_call rfl (ret29n hi hv) (.lrefl _) ?_
  refine o_move rfl ?_
  refine o_extract rfl rfl rfl ?_
  refine o_extract rfl rfl rfl ?_
  refine o_alloc rfl ze60 ?_
  refine o_storeN rfl rfl sh60 rfl rfl rfl rfl rfl ?_
  refine o_assign rfl ?_
  refine o_nil ?_
  refine k_gen [(4, U.box 1 0), (5, .int .i64 20)] ([SB.box [U.lst Kd.ro 3 (trisU (Bk.lots b)), .int .i64 (Bk.tlo b), .int .i64 (Bk.thi b), .int .i64 (Bk.thick b), .int .i64 (Bk.crack b), .int .i64 (Bk.glo b), .int .i64 (Bk.ghi b), U.lst Kd.ro 2 (twosU (Bk.thins b)), .int .i64 (Bk.hot b), .int .i64 (Bk.least b), .int .i64 (Bk.clo b), .int .i64 (Bk.chi b), .int .i64 (Bk.coal b), U.lst Kd.ro 3 (trisU (Bk.looks b))], SB.box [U.lst Kd.full 0 [], .int .i64 0, .int .i64 0, .int .i64 0, .int .i64 0, .int .i64 0, .int .i64 0, U.lst Kd.full 0 [], .int .i64 0, .int .i64 0, .int .i64 0, .int .i64 0, .int .i64 0, U.lst Kd.full 0 [], .int .i64 0, .int .i64 0, .int .i64 0, .int .i64 0, U.lst Kd.full 0 []]]) (.cons rfl (.cons rfl (.nil rfl))) rfl fun fr => ?_
  refine k_seq ?_
  refine k_seq (k_region ?_)
  refine o_move rfl ?_
  refine o_neq rfl rfl rfl ?_
  refine o_nil ?_
  refine k_cT rfl rfl ?_
  refine k_seq (k_region ?_)
  refine o_move rfl ?_
  refine o_assign rfl ?_
  refine o_assign rfl ?_
  refine o_nil ?_
  refine k_ret ?_
  refine ⟨.inr rfl, _, .cons _ _ _ _ (.tmp 2) (.cons _ _ _ _ (.tmp 3) .nil), ?_⟩
  exact .refl _
theorem ask_pos {b : Bk} {T : List Int} (hl : T.length ≤ 4) (hnn : ∀ i, i < 4 → 0 ≤ (askQ T).at i) (hm : isM b T = true) : 1 ≤ sumI T := by
  have hTq := sum_ask hl
  have h1 := (mem_rights.1 (isM_iff.1 hm)).1
  have a0 := hnn 0 (by omega)
  have a1 := hnn 1 (by omega)
  have a2 := hnn 2 (by omega)
  have a3 := hnn 3 (by omega)
  have hq : 0 ≤ (askQ T).a ∧ 0 ≤ (askQ T).b ∧ 0 ≤ (askQ T).c ∧ 0 ≤ (askQ T).d := ⟨a0, a1, a2, a3⟩
  by_cases h : 1 ≤ sumI T
  · exact h
  · refine absurd ?_ h1.2.2
    refine Qd.ext4 fun i hi => ?_
    have e : i = 0 ∨ i = 1 ∨ i = 2 ∨ i = 3 := by omega
    rcases e with rfl | rfl | rfl | rfl
    · show (askQ T).a = 0; omega
    · show (askQ T).b = 0; omega
    · show (askQ T).c = 0; omega
    · show (askQ T).d = 0; omega
theorem soo_not {l m : List Int} (hlm : l.length = m.length) (hl : l.length ≤ 4) (h : ¬ ltQ (askQ l) (askQ m)) : sooB l m = false := by
  cases hh : sooB l m with
  | false => rfl
  | true =>
    obtain ⟨k, hk, h1, h2⟩ := soo_lt hlm hh
    refine absurd ⟨k, by omega, fun i hi => ?_, ?_⟩ h
    · rw [ask_at _ (by omega), ask_at _ (by omega), h1 i hi]
    · rw [ask_at _ (by omega), ask_at _ (by omega)]; exact h2
theorem ret11o (hi : Off is) {b : Bk} (hb : Ok b) (s : Int) (hs : 1 ≤ s ∧ s ≤ 24) (hz : castQ b s ≠ zQ) : RetP Tryz.prog is orc 11 [b.u, .int .i64 s] (.tup [.lst .ro 1 (intsU (lstQ (castQ b s) b.lots.length)), .int .i64 0]) := by
  have h := ret11 (orc := orc) hi hb s hs
  have e : ¬ eqQ (castQ b s) zQ = true := fun h => hz (eqQ_iff.1 h)
  unfold castL castE at h
  rwa [if_neg e, if_neg e] at h
set_option maxHeartbeats 16000000 in
theorem ret6 (hi : Off is) (b : Bk) (bits : List Int) (r16 : RetP Tryz.prog is orc 16 [] (.bool true)) : RetP Tryz.prog is orc 6 [b.u, .lst .ro 1 (intsU bits)] (.bool true) := by
  refine ret_of body6 pure6 (hi 6 (by decide)) rfl rfl (dat_l2 (dat_bk b 5) (dat_ints 6 .ro (fun h => by cases h) 1 bits)) (.inl (.bool _ _)) ?_
  by_cases hv : checkR b ≠ 0
  · have hc : checkR b = 20 := by unfold checkR at hv ⊢; split at hv <;> simp_all
    refine k_seq (k_region ?_)
    refine o_box rfl rfl ?_
    refine o_assign rfl ?_
    refine o_nil ?_
    refine k_gen [(1, U.lst Kd.ro 1 (intsU bits)), (2, U.box 0 0)] ([SB.box [U.lst Kd.ro 3 (trisU (Bk.lots b)), .int .i64 (Bk.tlo b), .int .i64 (Bk.thi b), .int .i64 (Bk.thick b), .int .i64 (Bk.crack b), .int .i64 (Bk.glo b), .int .i64 (Bk.ghi b), U.lst Kd.ro 2 (twosU (Bk.thins b)), .int .i64 (Bk.hot b), .int .i64 (Bk.least b), .int .i64 (Bk.clo b), .int .i64 (Bk.chi b), .int .i64 (Bk.coal b), U.lst Kd.ro 3 (trisU (Bk.looks b))]]) (.cons rfl (.cons rfl (.nil rfl))) rfl fun fr => ?_
    refine k_seq (k_region ?_)
    refine o_loadN rfl rfl rfl sh28 rfl ?_
    refine o_call rfl (ret14n hi hc) (.lrefl _) ?_
    refine o_move rfl ?_
    refine o_extract rfl rfl rfl ?_
    refine o_extract rfl rfl rfl ?_
    refine o_assign rfl ?_
    refine o_assign rfl ?_
    refine o_nil ?_
    refine k_seq ?_
    refine k_seq (k_region ?_)
    refine o_loadN rfl rfl rfl sh28 rfl ?_
    refine o_call rfl (ret20n hi hv) (.lrefl _) ?_
    refine o_not rfl rfl ?_
    refine o_nil ?_
    refine k_cT rfl rfl ?_
    refine k_seq (k_region ?_)
    refine o_move rfl ?_
    refine o_eql rfl rfl rfl ?_
    refine o_move rfl ?_
    refine o_gD rfl rfl rfl rfl rfl ?_
    refine o_move rfl ?_
    refine o_gD rfl rfl rfl rfl rfl ?_
    refine o_eql rfl rfl rfl ?_
    refine o_pickT rfl rfl rfl ?_
    refine o_move rfl ?_
    refine o_gD rfl rfl rfl rfl rfl ?_
    refine o_call rfl (r16) (.lrefl _) ?_
    refine o_pickT rfl rfl rfl ?_
    refine o_assign rfl ?_
    refine o_nil ?_
    refine k_ret ?_
    refine ⟨.inr rfl, _, .cons _ _ _ _ (.tmp 4) .nil, ?_⟩
    exact .refl _
  · have hk := checkR_ok hv
    have hnl := hk.nl
    have q26 := ret26 (orc := orc) hi hk bits
    have hTl := tak_len b bits b.lots.length
    have hTx := tak_b hk bits b.lots.length
    have hTa := fun i (hi : i < 4) => tak_at hk bits hi
    generalize takI b bits b.lots.length = T at q26 hTl hTx hTa
    have hTs := sum_bd (by omega) hTx
    have hpos := ask_pos (b := b) (T := T) (by omega) (fun i h => (hTa i h).1)
    have q7 := ret7 (orc := orc) hi hk T hTl hTx hTs
    have q24 := ret24 (orc := orc) hi T (by omega) (fun x h => by have := hTx x h; omega)
    have q14 := ret14 (orc := orc) hi hk
    have hmf := most_facts b 24
    have hfst := fun h : isM b T = true => cast_first (isM_iff.1 h)
    generalize mostI b 24 = mo at q14 hmf
    by_cases hmo : mo = 0
    · rw [if_pos hmo] at q14
      have hno : isM b T = false := by
        cases hh : isM b T with
        | false => rfl
        | true => have := hmf.2 (sumI T) (hpos hh) (by omega) (hfst hh).1; have := hpos hh; omega
      rw [hno] at q7
      subst hmo
      refine k_seq (k_region ?_)
      refine o_box rfl rfl ?_
      refine o_assign rfl ?_
      refine o_nil ?_
      refine k_gen [(1, U.lst Kd.ro 1 (intsU bits)), (2, U.box 0 0)] ([SB.box [U.lst Kd.ro 3 (trisU (Bk.lots b)), .int .i64 (Bk.tlo b), .int .i64 (Bk.thi b), .int .i64 (Bk.thick b), .int .i64 (Bk.crack b), .int .i64 (Bk.glo b), .int .i64 (Bk.ghi b), U.lst Kd.ro 2 (twosU (Bk.thins b)), .int .i64 (Bk.hot b), .int .i64 (Bk.least b), .int .i64 (Bk.clo b), .int .i64 (Bk.chi b), .int .i64 (Bk.coal b), U.lst Kd.ro 3 (trisU (Bk.looks b))]]) (.cons rfl (.cons rfl (.nil rfl))) rfl fun fr => ?_
      refine k_seq (k_region ?_)
      refine o_loadN rfl rfl rfl sh28 rfl ?_
      refine o_call rfl (q14) (.lrefl _) ?_
      refine o_move rfl ?_
      refine o_extract rfl rfl rfl ?_
      refine o_extract rfl rfl rfl ?_
      refine o_assign rfl ?_
      refine o_assign rfl ?_
      refine o_nil ?_
      refine k_seq ?_
      refine k_seq (k_region ?_)
      refine o_loadN rfl rfl rfl sh28 rfl ?_
      refine o_call rfl (ret20 hi hk) (.lrefl _) ?_
      refine o_not rfl rfl ?_
      refine o_nil ?_
      refine k_cF rfl rfl ?_
      refine k_skip ?_
      refine k_seq (k_region ?_)
      refine o_loadN rfl rfl rfl sh28 rfl ?_
      refine o_move rfl ?_
      refine o_call rfl (q26) (.lrefl _) ?_
      refine o_assign rfl ?_
      refine o_nil ?_
      refine k_gen [(2, U.box 0 0), (5, .int .i64 0), (6, .int .i64 4), (7, U.lst Kd.ro 1 (intsU T))] ([SB.box [U.lst Kd.ro 3 (trisU (Bk.lots b)), .int .i64 (Bk.tlo b), .int .i64 (Bk.thi b), .int .i64 (Bk.thick b), .int .i64 (Bk.crack b), .int .i64 (Bk.glo b), .int .i64 (Bk.ghi b), U.lst Kd.ro 2 (twosU (Bk.thins b)), .int .i64 (Bk.hot b), .int .i64 (Bk.least b), .int .i64 (Bk.clo b), .int .i64 (Bk.chi b), .int .i64 (Bk.coal b), U.lst Kd.ro 3 (trisU (Bk.looks b))]]) (.cons rfl (.cons rfl (.cons rfl (.cons rfl (.nil rfl))))) rfl fun fr => ?_
      refine k_seq (k_region ?_)
      refine o_loadN rfl rfl rfl sh28 rfl ?_
      refine o_move rfl ?_
      refine o_call rfl (q7) (.lrefl _) ?_
      refine o_move rfl ?_
      refine o_extract rfl rfl rfl ?_
      refine o_extract rfl rfl rfl ?_
      refine o_assign rfl ?_
      refine o_assign rfl ?_
      refine o_nil ?_
      refine k_seq ?_
      refine k_seq (k_region ?_)
      refine o_move rfl ?_
      refine o_neq rfl rfl rfl ?_
      refine o_move rfl ?_
      refine o_gD rfl rfl rfl rfl rfl ?_
      refine o_move rfl ?_
      refine o_gD rfl rfl rfl rfl rfl ?_
      refine o_neq rfl rfl rfl ?_
      refine o_gD rfl rfl rfl rfl rfl ?_
      refine o_move rfl ?_
      refine o_gD rfl rfl rfl rfl rfl ?_
      refine o_move rfl ?_
      refine o_gD rfl rfl rfl rfl rfl ?_
      refine o_neq rfl rfl rfl ?_
      refine o_gD rfl rfl rfl rfl rfl ?_
      refine o_pickT rfl rfl rfl ?_
      refine o_genA [(2, U.box 0 0), (5, .int .i64 0), (6, .int .i64 4), (7, U.lst Kd.ro 1 (intsU T)), (8, U.bool Bool.false), (41, U.bool (Decidable.decide ((0 : Int) ≠ (0 : Int)))), (47, U.bool (Decidable.decide ((4 : Int) ≠ (4 : Int))))] [] ([SB.box [U.lst Kd.ro 3 (trisU (Bk.lots b)), .int .i64 (Bk.tlo b), .int .i64 (Bk.thi b), .int .i64 (Bk.thick b), .int .i64 (Bk.crack b), .int .i64 (Bk.glo b), .int .i64 (Bk.ghi b), U.lst Kd.ro 2 (twosU (Bk.thins b)), .int .i64 (Bk.hot b), .int .i64 (Bk.least b), .int .i64 (Bk.clo b), .int .i64 (Bk.chi b), .int .i64 (Bk.coal b), U.lst Kd.ro 3 (trisU (Bk.looks b))]]) (.cons rfl (.cons rfl (.cons rfl (.cons rfl (.cons rfl (.cons rfl (.cons rfl (.nil rfl)))))))) rfl rfl fun fr => ?_
      refine o_pickF rfl rfl rfl ?_
      refine o_move rfl ?_
      refine o_gD rfl rfl rfl rfl rfl ?_
      refine o_move rfl ?_
      refine o_gD rfl rfl rfl rfl rfl ?_
      refine o_eql rfl rfl rfl ?_
      refine o_gD rfl rfl rfl rfl rfl ?_
      refine o_move rfl ?_
      refine o_gS rfl rfl rfl rfl rfl ?_
      refine o_gS rfl rfl rfl rfl rfl ?_
      refine o_gS rfl rfl rfl rfl rfl ?_
      refine o_gD rfl rfl rfl rfl rfl ?_
      refine o_pickF rfl rfl rfl ?_
      refine o_genA [(2, U.box 0 0), (5, .int .i64 0), (6, .int .i64 4), (7, U.lst Kd.ro 1 (intsU T)), (8, U.bool Bool.false), (49, U.bool (Decidable.decide ((4 : Int) ≠ (4 : Int)))), (56, U.bool Bool.false)] [] ([SB.box [U.lst Kd.ro 3 (trisU (Bk.lots b)), .int .i64 (Bk.tlo b), .int .i64 (Bk.thi b), .int .i64 (Bk.thick b), .int .i64 (Bk.crack b), .int .i64 (Bk.glo b), .int .i64 (Bk.ghi b), U.lst Kd.ro 2 (twosU (Bk.thins b)), .int .i64 (Bk.hot b), .int .i64 (Bk.least b), .int .i64 (Bk.clo b), .int .i64 (Bk.chi b), .int .i64 (Bk.coal b), U.lst Kd.ro 3 (trisU (Bk.looks b))]]) (.cons rfl (.cons rfl (.cons rfl (.cons rfl (.cons rfl (.cons rfl (.cons rfl (.nil rfl)))))))) rfl rfl fun fr => ?_
      refine o_pickF rfl rfl rfl ?_
      refine o_nil ?_
      refine k_gen [(2, U.box 0 0), (5, .int .i64 0), (6, .int .i64 4), (7, U.lst Kd.ro 1 (intsU T)), (8, U.bool Bool.false), (57, U.bool Bool.false)] ([SB.box [U.lst Kd.ro 3 (trisU (Bk.lots b)), .int .i64 (Bk.tlo b), .int .i64 (Bk.thi b), .int .i64 (Bk.thick b), .int .i64 (Bk.crack b), .int .i64 (Bk.glo b), .int .i64 (Bk.ghi b), U.lst Kd.ro 2 (twosU (Bk.thins b)), .int .i64 (Bk.hot b), .int .i64 (Bk.least b), .int .i64 (Bk.clo b), .int .i64 (Bk.chi b), .int .i64 (Bk.coal b), U.lst Kd.ro 3 (trisU (Bk.looks b))]]) (.cons rfl (.cons rfl (.cons rfl (.cons rfl (.cons rfl (.cons rfl (.nil rfl))))))) rfl fun fr => ?_
      refine k_cF rfl rfl ?_
      refine k_skip ?_
      refine k_seq ?_
      refine k_seq (k_region ?_)
      refine o_move rfl ?_
      refine o_eql rfl rfl rfl ?_
      refine o_nil ?_
      refine k_cF rfl rfl ?_
      refine k_skip ?_
      refine k_seq ?_
      refine k_seq (k_region ?_)
      refine o_move rfl ?_
      refine o_not rfl rfl ?_
      refine o_nil ?_
      refine k_cT rfl rfl ?_
      refine k_seq (k_region ?_)
      refine o_call rfl (r16) (.lrefl _) ?_
      refine o_assign rfl ?_
      refine o_nil ?_
      refine k_ret ?_
      refine ⟨.inr rfl, _, .cons _ _ _ _ (.tmp 4) .nil, ?_⟩
      exact .refl _
    · rw [if_neg hmo] at q14
      obtain ⟨m1, m2, m3⟩ := hmf.1.resolve_left hmo
      have q25 : RetP Tryz.prog is orc 25 [.int .i64 mo, .int .i64 1, .int .i64 24] (.bool true) := by
        have := ret25 (orc := orc) hi mo 1 24
        rwa [show (decide (1 ≤ mo) && decide (mo ≤ 24)) = true by simp; omega] at this
      have q11 := ret11o (orc := orc) hi hk mo ⟨m1, by omega⟩ m3
      obtain ⟨c1, c2, c3, c4, _, _, _⟩ := cast_facts hk (cast_some m3)
      generalize lstQ (castQ b mo) b.lots.length = K at q11 c1 c2 c3 c4
      have d23 := ret23 (orc := orc) hi hk K c1 c2 c3 (by omega)
      have d24 := ret24 (orc := orc) hi K (by omega) (fun x h => by have := c3 x h; omega)
      rw [c4] at d24
      cases hh : isM b T with
      | false =>
        rw [hh] at q7
        refine k_seq (k_region ?_)
        refine o_box rfl rfl ?_
        refine o_assign rfl ?_
        refine o_nil ?_
        refine k_gen [(1, U.lst Kd.ro 1 (intsU bits)), (2, U.box 0 0)] ([SB.box [U.lst Kd.ro 3 (trisU (Bk.lots b)), .int .i64 (Bk.tlo b), .int .i64 (Bk.thi b), .int .i64 (Bk.thick b), .int .i64 (Bk.crack b), .int .i64 (Bk.glo b), .int .i64 (Bk.ghi b), U.lst Kd.ro 2 (twosU (Bk.thins b)), .int .i64 (Bk.hot b), .int .i64 (Bk.least b), .int .i64 (Bk.clo b), .int .i64 (Bk.chi b), .int .i64 (Bk.coal b), U.lst Kd.ro 3 (trisU (Bk.looks b))]]) (.cons rfl (.cons rfl (.nil rfl))) rfl fun fr => ?_
        refine k_seq (k_region ?_)
        refine o_loadN rfl rfl rfl sh28 rfl ?_
        refine o_call rfl (q14) (.lrefl _) ?_
        refine o_move rfl ?_
        refine o_extract rfl rfl rfl ?_
        refine o_extract rfl rfl rfl ?_
        refine o_assign rfl ?_
        refine o_assign rfl ?_
        refine o_nil ?_
        refine k_seq ?_
        refine k_seq (k_region ?_)
        refine o_loadN rfl rfl rfl sh28 rfl ?_
        refine o_call rfl (ret20 hi hk) (.lrefl _) ?_
        refine o_not rfl rfl ?_
        refine o_nil ?_
        refine k_cF rfl rfl ?_
        refine k_skip ?_
        refine k_seq (k_region ?_)
        refine o_loadN rfl rfl rfl sh28 rfl ?_
        refine o_move rfl ?_
        refine o_call rfl (q26) (.lrefl _) ?_
        refine o_assign rfl ?_
        refine o_nil ?_
        refine k_gen [(2, U.box 0 0), (5, .int .i64 mo), (6, .int .i64 0), (7, U.lst Kd.ro 1 (intsU T))] ([SB.box [U.lst Kd.ro 3 (trisU (Bk.lots b)), .int .i64 (Bk.tlo b), .int .i64 (Bk.thi b), .int .i64 (Bk.thick b), .int .i64 (Bk.crack b), .int .i64 (Bk.glo b), .int .i64 (Bk.ghi b), U.lst Kd.ro 2 (twosU (Bk.thins b)), .int .i64 (Bk.hot b), .int .i64 (Bk.least b), .int .i64 (Bk.clo b), .int .i64 (Bk.chi b), .int .i64 (Bk.coal b), U.lst Kd.ro 3 (trisU (Bk.looks b))]]) (.cons rfl (.cons rfl (.cons rfl (.cons rfl (.nil rfl))))) rfl fun fr => ?_
        refine k_seq (k_region ?_)
        refine o_loadN rfl rfl rfl sh28 rfl ?_
        refine o_move rfl ?_
        refine o_call rfl (q7) (.lrefl _) ?_
        refine o_move rfl ?_
        refine o_extract rfl rfl rfl ?_
        refine o_extract rfl rfl rfl ?_
        refine o_assign rfl ?_
        refine o_assign rfl ?_
        refine o_nil ?_
        refine k_seq ?_
        refine k_seq (k_region ?_)
        refine o_move rfl ?_
        refine o_neq rfl rfl rfl ?_
        refine o_move rfl ?_
        refine o_gD rfl rfl rfl rfl rfl ?_
        refine o_move rfl ?_
        refine o_gD rfl rfl rfl rfl rfl ?_
        refine o_neq rfl rfl rfl ?_
        refine o_gD rfl rfl rfl rfl rfl ?_
        refine o_move rfl ?_
        refine o_gS rfl rfl rfl rfl rfl ?_
        refine o_gS rfl rfl rfl rfl rfl ?_
        refine o_gD rfl rfl rfl rfl rfl ?_
        refine o_pickF rfl rfl rfl ?_
        refine o_genA [(2, U.box 0 0), (5, .int .i64 mo), (6, .int .i64 0), (7, U.lst Kd.ro 1 (intsU T)), (8, U.bool Bool.false), (41, U.bool (Decidable.decide ((0 : Int) ≠ (0 : Int)))), (47, U.bool Bool.false)] [] ([SB.box [U.lst Kd.ro 3 (trisU (Bk.lots b)), .int .i64 (Bk.tlo b), .int .i64 (Bk.thi b), .int .i64 (Bk.thick b), .int .i64 (Bk.crack b), .int .i64 (Bk.glo b), .int .i64 (Bk.ghi b), U.lst Kd.ro 2 (twosU (Bk.thins b)), .int .i64 (Bk.hot b), .int .i64 (Bk.least b), .int .i64 (Bk.clo b), .int .i64 (Bk.chi b), .int .i64 (Bk.coal b), U.lst Kd.ro 3 (trisU (Bk.looks b))]]) (.cons rfl (.cons rfl (.cons rfl (.cons rfl (.cons rfl (.cons rfl (.cons rfl (.nil rfl)))))))) rfl rfl fun fr => ?_
        refine o_pickF rfl rfl rfl ?_
        refine o_move rfl ?_
        refine o_gD rfl rfl rfl rfl rfl ?_
        refine o_move rfl ?_
        refine o_gD rfl rfl rfl rfl rfl ?_
        refine o_eql rfl rfl rfl ?_
        refine o_gD rfl rfl rfl rfl rfl ?_
        refine o_move rfl ?_
        refine o_gD rfl rfl rfl rfl rfl ?_
        refine o_move rfl ?_
        refine o_gD rfl rfl rfl rfl rfl ?_
        refine o_call rfl (q25) (.lrefl _) ?_
        refine o_gD rfl rfl rfl rfl rfl ?_
        refine o_not rfl rfl ?_
        refine o_gD rfl rfl rfl rfl rfl ?_
        refine o_pickT rfl rfl rfl ?_
        refine o_genA [(2, U.box 0 0), (5, .int .i64 mo), (6, .int .i64 0), (7, U.lst Kd.ro 1 (intsU T)), (8, U.bool Bool.false), (49, U.bool Bool.false), (56, U.bool !Bool.true)] [] ([SB.box [U.lst Kd.ro 3 (trisU (Bk.lots b)), .int .i64 (Bk.tlo b), .int .i64 (Bk.thi b), .int .i64 (Bk.thick b), .int .i64 (Bk.crack b), .int .i64 (Bk.glo b), .int .i64 (Bk.ghi b), U.lst Kd.ro 2 (twosU (Bk.thins b)), .int .i64 (Bk.hot b), .int .i64 (Bk.least b), .int .i64 (Bk.clo b), .int .i64 (Bk.chi b), .int .i64 (Bk.coal b), U.lst Kd.ro 3 (trisU (Bk.looks b))]]) (.cons rfl (.cons rfl (.cons rfl (.cons rfl (.cons rfl (.cons rfl (.cons rfl (.nil rfl)))))))) rfl rfl fun fr => ?_
        refine o_pickF rfl rfl rfl ?_
        refine o_nil ?_
        refine k_gen [(2, U.box 0 0), (5, .int .i64 mo), (6, .int .i64 0), (7, U.lst Kd.ro 1 (intsU T)), (8, U.bool Bool.false), (57, U.bool !Bool.true)] ([SB.box [U.lst Kd.ro 3 (trisU (Bk.lots b)), .int .i64 (Bk.tlo b), .int .i64 (Bk.thi b), .int .i64 (Bk.thick b), .int .i64 (Bk.crack b), .int .i64 (Bk.glo b), .int .i64 (Bk.ghi b), U.lst Kd.ro 2 (twosU (Bk.thins b)), .int .i64 (Bk.hot b), .int .i64 (Bk.least b), .int .i64 (Bk.clo b), .int .i64 (Bk.chi b), .int .i64 (Bk.coal b), U.lst Kd.ro 3 (trisU (Bk.looks b))]]) (.cons rfl (.cons rfl (.cons rfl (.cons rfl (.cons rfl (.cons rfl (.nil rfl))))))) rfl fun fr => ?_
        refine k_cF rfl rfl ?_
        refine k_skip ?_
        refine k_seq ?_
        refine k_seq (k_region ?_)
        refine o_move rfl ?_
        refine o_eql rfl rfl rfl ?_
        refine o_nil ?_
        refine k_cT rfl rfl ?_
        refine k_seq (k_region ?_)
        refine o_loadN rfl rfl rfl sh28 rfl ?_
        refine o_move rfl ?_
        refine o_call rfl (q11) (.lrefl _) ?_
        refine o_move rfl ?_
        refine o_extract rfl rfl rfl ?_
        refine o_extract rfl rfl rfl ?_
        refine o_assign rfl ?_
        refine o_assign rfl ?_
        refine o_nil ?_
        refine k_seq (k_region ?_)
        refine o_move rfl ?_
        refine o_neq rfl rfl rfl ?_
        refine o_move rfl ?_
        refine o_gD rfl rfl rfl rfl rfl ?_
        refine o_loadN rfl rfl rfl sh28 rfl ?_
        refine o_gD rfl rfl rfl rfl rfl ?_
        refine o_move rfl ?_
        refine o_gD rfl rfl rfl rfl rfl ?_
        refine o_call rfl (d23) (.lrefl _) ?_
        refine o_gD rfl rfl rfl rfl rfl ?_
        refine o_not rfl rfl ?_
        refine o_pickF rfl rfl rfl ?_
        refine o_move rfl ?_
        refine o_genA [(2, U.box 0 0), (5, .int .i64 mo), (6, .int .i64 0), (7, U.lst Kd.ro 1 (intsU T)), (8, U.bool Bool.false), (10, U.lst Kd.ro 1 (intsU K)), (74, U.bool !Bool.true)] [] ([SB.box [U.lst Kd.ro 3 (trisU (Bk.lots b)), .int .i64 (Bk.tlo b), .int .i64 (Bk.thi b), .int .i64 (Bk.thick b), .int .i64 (Bk.crack b), .int .i64 (Bk.glo b), .int .i64 (Bk.ghi b), U.lst Kd.ro 2 (twosU (Bk.thins b)), .int .i64 (Bk.hot b), .int .i64 (Bk.least b), .int .i64 (Bk.clo b), .int .i64 (Bk.chi b), .int .i64 (Bk.coal b), U.lst Kd.ro 3 (trisU (Bk.looks b))]]) (.cons rfl (.cons rfl (.cons rfl (.cons rfl (.cons rfl (.cons rfl (.cons rfl (.nil rfl)))))))) rfl rfl fun fr => ?_
        refine o_gD rfl rfl rfl rfl rfl ?_
        refine o_genA [(2, U.box 0 0), (5, .int .i64 mo), (6, .int .i64 0), (7, U.lst Kd.ro 1 (intsU T)), (8, U.bool Bool.false), (10, U.lst Kd.ro 1 (intsU K)), (74, U.bool !Bool.true)] [] ([SB.box [U.lst Kd.ro 3 (trisU (Bk.lots b)), .int .i64 (Bk.tlo b), .int .i64 (Bk.thi b), .int .i64 (Bk.thick b), .int .i64 (Bk.crack b), .int .i64 (Bk.glo b), .int .i64 (Bk.ghi b), U.lst Kd.ro 2 (twosU (Bk.thins b)), .int .i64 (Bk.hot b), .int .i64 (Bk.least b), .int .i64 (Bk.clo b), .int .i64 (Bk.chi b), .int .i64 (Bk.coal b), U.lst Kd.ro 3 (trisU (Bk.looks b))]]) (.cons rfl (.cons rfl (.cons rfl (.cons rfl (.cons rfl (.cons rfl (.cons rfl (.nil rfl)))))))) rfl rfl fun fr => ?_
        refine o_move rfl ?_
        refine o_gD rfl rfl rfl rfl rfl ?_
        refine o_call rfl (d24) (.lrefl _) ?_
        refine o_gD rfl rfl rfl rfl rfl ?_
        refine o_move rfl ?_
        refine o_gD rfl rfl rfl rfl rfl ?_
        refine o_neq rfl rfl rfl ?_
        refine o_pickF rfl rfl rfl ?_
        refine o_nil ?_
        refine k_gen [(2, U.box 0 0), (5, .int .i64 mo), (6, .int .i64 0), (7, U.lst Kd.ro 1 (intsU T)), (8, U.bool Bool.false), (79, U.bool (Decidable.decide (mo ≠ mo)))] ([SB.box [U.lst Kd.ro 3 (trisU (Bk.lots b)), .int .i64 (Bk.tlo b), .int .i64 (Bk.thi b), .int .i64 (Bk.thick b), .int .i64 (Bk.crack b), .int .i64 (Bk.glo b), .int .i64 (Bk.ghi b), U.lst Kd.ro 2 (twosU (Bk.thins b)), .int .i64 (Bk.hot b), .int .i64 (Bk.least b), .int .i64 (Bk.clo b), .int .i64 (Bk.chi b), .int .i64 (Bk.coal b), U.lst Kd.ro 3 (trisU (Bk.looks b))]]) (.cons rfl (.cons rfl (.cons rfl (.cons rfl (.cons rfl (.cons rfl (.nil rfl))))))) rfl fun fr => ?_
        refine k_cF rfl (decide_eq_false (by omega)) ?_
        refine k_skip ?_
        refine k_seq ?_
        refine k_seq (k_region ?_)
        refine o_move rfl ?_
        refine o_not rfl rfl ?_
        refine o_nil ?_
        refine k_cT rfl rfl ?_
        refine k_seq (k_region ?_)
        refine o_call rfl (r16) (.lrefl _) ?_
        refine o_assign rfl ?_
        refine o_nil ?_
        refine k_ret ?_
        refine ⟨.inr rfl, _, .cons _ _ _ _ (.tmp 4) .nil, ?_⟩
        exact .refl _
      | true =>
        rw [hh] at q7
        have hS := hpos hh
        obtain ⟨f1, f2, f3⟩ := hfst hh
        have hSm := hmf.2 (sumI T) hS (by omega) f1
        have p11 := ret11o (orc := orc) hi hk (sumI T) ⟨hS, by omega⟩ f1
        obtain ⟨e1, e2, e3, e4, _, _, e7⟩ := cast_facts hk (cast_some f1)
        generalize castQ b (sumI T) = B at p11 e1 e2 e3 e4 e7 f2 f3
        generalize lstQ B b.lots.length = J at p11 e1 e2 e3 e4 e7
        have p23 := ret23 (orc := orc) hi hk J e1 e2 e3 (by omega)
        have pJ := ret27 (orc := orc) hi J (by omega)
        have pT := ret27 (orc := orc) hi T (by omega)
        have p28 := ret28 (orc := orc) hi T J (by omega) (by omega)
        rw [cnt_tkn (by omega), e7] at pJ
        rw [cnt_tkn (by omega)] at pT
        by_cases hlt : tkn B < tkn (askQ T)
        · refine k_seq (k_region ?_)
          refine o_box rfl rfl ?_
          refine o_assign rfl ?_
          refine o_nil ?_
          refine k_gen [(1, U.lst Kd.ro 1 (intsU bits)), (2, U.box 0 0)] ([SB.box [U.lst Kd.ro 3 (trisU (Bk.lots b)), .int .i64 (Bk.tlo b), .int .i64 (Bk.thi b), .int .i64 (Bk.thick b), .int .i64 (Bk.crack b), .int .i64 (Bk.glo b), .int .i64 (Bk.ghi b), U.lst Kd.ro 2 (twosU (Bk.thins b)), .int .i64 (Bk.hot b), .int .i64 (Bk.least b), .int .i64 (Bk.clo b), .int .i64 (Bk.chi b), .int .i64 (Bk.coal b), U.lst Kd.ro 3 (trisU (Bk.looks b))]]) (.cons rfl (.cons rfl (.nil rfl))) rfl fun fr => ?_
          refine k_seq (k_region ?_)
          refine o_loadN rfl rfl rfl sh28 rfl ?_
          refine o_call rfl (q14) (.lrefl _) ?_
          refine o_move rfl ?_
          refine o_extract rfl rfl rfl ?_
          refine o_extract rfl rfl rfl ?_
          refine o_assign rfl ?_
          refine o_assign rfl ?_
          refine o_nil ?_
          refine k_seq ?_
          refine k_seq (k_region ?_)
          refine o_loadN rfl rfl rfl sh28 rfl ?_
          refine o_call rfl (ret20 hi hk) (.lrefl _) ?_
          refine o_not rfl rfl ?_
          refine o_nil ?_
          refine k_cF rfl rfl ?_
          refine k_skip ?_
          refine k_seq (k_region ?_)
          refine o_loadN rfl rfl rfl sh28 rfl ?_
          refine o_move rfl ?_
          refine o_call rfl (q26) (.lrefl _) ?_
          refine o_assign rfl ?_
          refine o_nil ?_
          refine k_gen [(2, U.box 0 0), (5, .int .i64 mo), (6, .int .i64 0), (7, U.lst Kd.ro 1 (intsU T))] ([SB.box [U.lst Kd.ro 3 (trisU (Bk.lots b)), .int .i64 (Bk.tlo b), .int .i64 (Bk.thi b), .int .i64 (Bk.thick b), .int .i64 (Bk.crack b), .int .i64 (Bk.glo b), .int .i64 (Bk.ghi b), U.lst Kd.ro 2 (twosU (Bk.thins b)), .int .i64 (Bk.hot b), .int .i64 (Bk.least b), .int .i64 (Bk.clo b), .int .i64 (Bk.chi b), .int .i64 (Bk.coal b), U.lst Kd.ro 3 (trisU (Bk.looks b))]]) (.cons rfl (.cons rfl (.cons rfl (.cons rfl (.nil rfl))))) rfl fun fr => ?_
          refine k_seq (k_region ?_)
          refine o_loadN rfl rfl rfl sh28 rfl ?_
          refine o_move rfl ?_
          refine o_call rfl (q7) (.lrefl _) ?_
          refine o_move rfl ?_
          refine o_extract rfl rfl rfl ?_
          refine o_extract rfl rfl rfl ?_
          refine o_assign rfl ?_
          refine o_assign rfl ?_
          refine o_nil ?_
          refine k_seq ?_
          refine k_seq (k_region ?_)
          refine o_move rfl ?_
          refine o_neq rfl rfl rfl ?_
          refine o_move rfl ?_
          refine o_gD rfl rfl rfl rfl rfl ?_
          refine o_move rfl ?_
          refine o_gD rfl rfl rfl rfl rfl ?_
          refine o_neq rfl rfl rfl ?_
          refine o_gD rfl rfl rfl rfl rfl ?_
          refine o_move rfl ?_
          refine o_gS rfl rfl rfl rfl rfl ?_
          refine o_gS rfl rfl rfl rfl rfl ?_
          refine o_gD rfl rfl rfl rfl rfl ?_
          refine o_pickF rfl rfl rfl ?_
          refine o_genA [(2, U.box 0 0), (5, .int .i64 mo), (6, .int .i64 0), (7, U.lst Kd.ro 1 (intsU T)), (8, U.bool Bool.true), (41, U.bool (Decidable.decide ((0 : Int) ≠ (0 : Int)))), (47, U.bool Bool.false)] [] ([SB.box [U.lst Kd.ro 3 (trisU (Bk.lots b)), .int .i64 (Bk.tlo b), .int .i64 (Bk.thi b), .int .i64 (Bk.thick b), .int .i64 (Bk.crack b), .int .i64 (Bk.glo b), .int .i64 (Bk.ghi b), U.lst Kd.ro 2 (twosU (Bk.thins b)), .int .i64 (Bk.hot b), .int .i64 (Bk.least b), .int .i64 (Bk.clo b), .int .i64 (Bk.chi b), .int .i64 (Bk.coal b), U.lst Kd.ro 3 (trisU (Bk.looks b))]]) (.cons rfl (.cons rfl (.cons rfl (.cons rfl (.cons rfl (.cons rfl (.cons rfl (.nil rfl)))))))) rfl rfl fun fr => ?_
          refine o_pickF rfl rfl rfl ?_
          refine o_move rfl ?_
          refine o_gD rfl rfl rfl rfl rfl ?_
          refine o_move rfl ?_
          refine o_gD rfl rfl rfl rfl rfl ?_
          refine o_eql rfl rfl rfl ?_
          refine o_gD rfl rfl rfl rfl rfl ?_
          refine o_move rfl ?_
          refine o_gD rfl rfl rfl rfl rfl ?_
          refine o_move rfl ?_
          refine o_gD rfl rfl rfl rfl rfl ?_
          refine o_call rfl (q25) (.lrefl _) ?_
          refine o_gD rfl rfl rfl rfl rfl ?_
          refine o_not rfl rfl ?_
          refine o_gD rfl rfl rfl rfl rfl ?_
          refine o_pickT rfl rfl rfl ?_
          refine o_genA [(2, U.box 0 0), (5, .int .i64 mo), (6, .int .i64 0), (7, U.lst Kd.ro 1 (intsU T)), (8, U.bool Bool.true), (49, U.bool Bool.false), (56, U.bool !Bool.true)] [] ([SB.box [U.lst Kd.ro 3 (trisU (Bk.lots b)), .int .i64 (Bk.tlo b), .int .i64 (Bk.thi b), .int .i64 (Bk.thick b), .int .i64 (Bk.crack b), .int .i64 (Bk.glo b), .int .i64 (Bk.ghi b), U.lst Kd.ro 2 (twosU (Bk.thins b)), .int .i64 (Bk.hot b), .int .i64 (Bk.least b), .int .i64 (Bk.clo b), .int .i64 (Bk.chi b), .int .i64 (Bk.coal b), U.lst Kd.ro 3 (trisU (Bk.looks b))]]) (.cons rfl (.cons rfl (.cons rfl (.cons rfl (.cons rfl (.cons rfl (.cons rfl (.nil rfl)))))))) rfl rfl fun fr => ?_
          refine o_pickF rfl rfl rfl ?_
          refine o_nil ?_
          refine k_gen [(2, U.box 0 0), (5, .int .i64 mo), (6, .int .i64 0), (7, U.lst Kd.ro 1 (intsU T)), (8, U.bool Bool.true), (57, U.bool !Bool.true)] ([SB.box [U.lst Kd.ro 3 (trisU (Bk.lots b)), .int .i64 (Bk.tlo b), .int .i64 (Bk.thi b), .int .i64 (Bk.thick b), .int .i64 (Bk.crack b), .int .i64 (Bk.glo b), .int .i64 (Bk.ghi b), U.lst Kd.ro 2 (twosU (Bk.thins b)), .int .i64 (Bk.hot b), .int .i64 (Bk.least b), .int .i64 (Bk.clo b), .int .i64 (Bk.chi b), .int .i64 (Bk.coal b), U.lst Kd.ro 3 (trisU (Bk.looks b))]]) (.cons rfl (.cons rfl (.cons rfl (.cons rfl (.cons rfl (.cons rfl (.nil rfl))))))) rfl fun fr => ?_
          refine k_cF rfl rfl ?_
          refine k_skip ?_
          refine k_seq ?_
          refine k_seq (k_region ?_)
          refine o_move rfl ?_
          refine o_eql rfl rfl rfl ?_
          refine o_nil ?_
          refine k_cT rfl rfl ?_
          refine k_seq (k_region ?_)
          refine o_loadN rfl rfl rfl sh28 rfl ?_
          refine o_move rfl ?_
          refine o_call rfl (q11) (.lrefl _) ?_
          refine o_move rfl ?_
          refine o_extract rfl rfl rfl ?_
          refine o_extract rfl rfl rfl ?_
          refine o_assign rfl ?_
          refine o_assign rfl ?_
          refine o_nil ?_
          refine k_seq (k_region ?_)
          refine o_move rfl ?_
          refine o_neq rfl rfl rfl ?_
          refine o_move rfl ?_
          refine o_gD rfl rfl rfl rfl rfl ?_
          refine o_loadN rfl rfl rfl sh28 rfl ?_
          refine o_gD rfl rfl rfl rfl rfl ?_
          refine o_move rfl ?_
          refine o_gD rfl rfl rfl rfl rfl ?_
          refine o_call rfl (d23) (.lrefl _) ?_
          refine o_gD rfl rfl rfl rfl rfl ?_
          refine o_not rfl rfl ?_
          refine o_pickF rfl rfl rfl ?_
          refine o_move rfl ?_
          refine o_genA [(2, U.box 0 0), (5, .int .i64 mo), (6, .int .i64 0), (7, U.lst Kd.ro 1 (intsU T)), (8, U.bool Bool.true), (10, U.lst Kd.ro 1 (intsU K)), (74, U.bool !Bool.true)] [] ([SB.box [U.lst Kd.ro 3 (trisU (Bk.lots b)), .int .i64 (Bk.tlo b), .int .i64 (Bk.thi b), .int .i64 (Bk.thick b), .int .i64 (Bk.crack b), .int .i64 (Bk.glo b), .int .i64 (Bk.ghi b), U.lst Kd.ro 2 (twosU (Bk.thins b)), .int .i64 (Bk.hot b), .int .i64 (Bk.least b), .int .i64 (Bk.clo b), .int .i64 (Bk.chi b), .int .i64 (Bk.coal b), U.lst Kd.ro 3 (trisU (Bk.looks b))]]) (.cons rfl (.cons rfl (.cons rfl (.cons rfl (.cons rfl (.cons rfl (.cons rfl (.nil rfl)))))))) rfl rfl fun fr => ?_
          refine o_gD rfl rfl rfl rfl rfl ?_
          refine o_genA [(2, U.box 0 0), (5, .int .i64 mo), (6, .int .i64 0), (7, U.lst Kd.ro 1 (intsU T)), (8, U.bool Bool.true), (10, U.lst Kd.ro 1 (intsU K)), (74, U.bool !Bool.true)] [] ([SB.box [U.lst Kd.ro 3 (trisU (Bk.lots b)), .int .i64 (Bk.tlo b), .int .i64 (Bk.thi b), .int .i64 (Bk.thick b), .int .i64 (Bk.crack b), .int .i64 (Bk.glo b), .int .i64 (Bk.ghi b), U.lst Kd.ro 2 (twosU (Bk.thins b)), .int .i64 (Bk.hot b), .int .i64 (Bk.least b), .int .i64 (Bk.clo b), .int .i64 (Bk.chi b), .int .i64 (Bk.coal b), U.lst Kd.ro 3 (trisU (Bk.looks b))]]) (.cons rfl (.cons rfl (.cons rfl (.cons rfl (.cons rfl (.cons rfl (.cons rfl (.nil rfl)))))))) rfl rfl fun fr => ?_
          refine o_move rfl ?_
          refine o_gD rfl rfl rfl rfl rfl ?_
          refine o_call rfl (d24) (.lrefl _) ?_
          refine o_gD rfl rfl rfl rfl rfl ?_
          refine o_move rfl ?_
          refine o_gD rfl rfl rfl rfl rfl ?_
          refine o_neq rfl rfl rfl ?_
          refine o_pickF rfl rfl rfl ?_
          refine o_nil ?_
          refine k_gen [(2, U.box 0 0), (5, .int .i64 mo), (6, .int .i64 0), (7, U.lst Kd.ro 1 (intsU T)), (8, U.bool Bool.true), (79, U.bool (Decidable.decide (mo ≠ mo)))] ([SB.box [U.lst Kd.ro 3 (trisU (Bk.lots b)), .int .i64 (Bk.tlo b), .int .i64 (Bk.thi b), .int .i64 (Bk.thick b), .int .i64 (Bk.crack b), .int .i64 (Bk.glo b), .int .i64 (Bk.ghi b), U.lst Kd.ro 2 (twosU (Bk.thins b)), .int .i64 (Bk.hot b), .int .i64 (Bk.least b), .int .i64 (Bk.clo b), .int .i64 (Bk.chi b), .int .i64 (Bk.coal b), U.lst Kd.ro 3 (trisU (Bk.looks b))]]) (.cons rfl (.cons rfl (.cons rfl (.cons rfl (.cons rfl (.cons rfl (.nil rfl))))))) rfl fun fr => ?_
          refine k_cF rfl (decide_eq_false (by omega)) ?_
          refine k_skip ?_
          refine k_seq ?_
          refine k_seq (k_region ?_)
          refine o_move rfl ?_
          refine o_not rfl rfl ?_
          refine o_nil ?_
          refine k_cF rfl rfl ?_
          refine k_skip ?_
          refine k_seq ?_
          refine k_draw [.read true, .plain, .read false, .plain, .plain, .plain, .plain, .plain, .plain] (by kernel_rfl) (by kernel_rfl) (by kernel_rfl) ?_
          refine d_load rfl (o_loadN rfl rfl rfl sh28 rfl (o_nil rfl)) ?_
          refine d_plain (o_move rfl (o_nil rfl)) ?_
          refine d_callR rfl (q24) (.int _ _) (.lrefl _) ?_
          refine d_plain (o_call rfl (p11) (.lrefl _) (o_nil rfl)) ?_
          refine d_plain (o_move rfl (o_nil rfl)) ?_
          refine d_plain (o_extract rfl rfl rfl (o_nil rfl)) ?_
          refine d_plain (o_extract rfl rfl rfl (o_nil rfl)) ?_
          refine d_plain (o_assign rfl (o_nil rfl)) ?_
          refine d_plain (o_assign rfl (o_nil rfl)) ?_
          refine d_nil ?_
          refine k_seq (k_region ?_)
          refine o_move rfl ?_
          refine o_eql rfl rfl rfl ?_
          refine o_move rfl ?_
          refine o_gD rfl rfl rfl rfl rfl ?_
          refine o_move rfl ?_
          refine o_gD rfl rfl rfl rfl rfl ?_
          refine o_eql rfl rfl rfl ?_
          refine o_pickT rfl rfl rfl ?_
          refine o_move rfl ?_
          refine o_gD rfl rfl rfl rfl rfl ?_
          refine o_move rfl ?_
          refine o_gD rfl rfl rfl rfl rfl ?_
          refine o_call rfl (q24) (.lrefl _) ?_
          refine o_genA [(2, U.box 0 0), (5, .int .i64 mo), (7, U.lst Kd.ro 1 (intsU T)), (12, U.lst Kd.ro 1 (intsU J)), (96, U.bool (Decidable.decide ((0 : Int) = (0 : Int)))), (98, .int .i64 (sumI T))] [] ([SB.box [U.lst Kd.ro 3 (trisU (Bk.lots b)), .int .i64 (Bk.tlo b), .int .i64 (Bk.thi b), .int .i64 (Bk.thick b), .int .i64 (Bk.crack b), .int .i64 (Bk.glo b), .int .i64 (Bk.ghi b), U.lst Kd.ro 2 (twosU (Bk.thins b)), .int .i64 (Bk.hot b), .int .i64 (Bk.least b), .int .i64 (Bk.clo b), .int .i64 (Bk.chi b), .int .i64 (Bk.coal b), U.lst Kd.ro 3 (trisU (Bk.looks b))]]) (.cons rfl (.cons rfl (.cons rfl (.cons rfl (.cons rfl (.cons rfl (.nil rfl))))))) rfl rfl fun fr => ?_
          refine o_gD rfl rfl rfl rfl rfl ?_
          refine o_genA [(2, U.box 0 0), (5, .int .i64 mo), (7, U.lst Kd.ro 1 (intsU T)), (12, U.lst Kd.ro 1 (intsU J)), (96, U.bool (Decidable.decide ((0 : Int) = (0 : Int)))), (98, .int .i64 (sumI T))] [] ([SB.box [U.lst Kd.ro 3 (trisU (Bk.lots b)), .int .i64 (Bk.tlo b), .int .i64 (Bk.thi b), .int .i64 (Bk.thick b), .int .i64 (Bk.crack b), .int .i64 (Bk.glo b), .int .i64 (Bk.ghi b), U.lst Kd.ro 2 (twosU (Bk.thins b)), .int .i64 (Bk.hot b), .int .i64 (Bk.least b), .int .i64 (Bk.clo b), .int .i64 (Bk.chi b), .int .i64 (Bk.coal b), U.lst Kd.ro 3 (trisU (Bk.looks b))]]) (.cons rfl (.cons rfl (.cons rfl (.cons rfl (.cons rfl (.cons rfl (.nil rfl))))))) rfl rfl fun fr => ?_
          refine o_move rfl ?_
          refine o_gD rfl rfl rfl rfl rfl ?_
          refine o_leq rfl rfl rfl ?_
          refine o_pickT rfl rfl rfl ?_
          refine o_move rfl ?_
          refine o_gD rfl rfl rfl rfl (decide_eq_true (by omega)) ?_
          refine o_loadN rfl rfl rfl sh28 rfl ?_
          refine o_gD rfl rfl rfl rfl (decide_eq_true (by omega)) ?_
          refine o_move rfl ?_
          refine o_gD rfl rfl rfl rfl (decide_eq_true (by omega)) ?_
          refine o_call rfl (p23) (.lrefl _) ?_
          refine o_pickT rfl rfl (decide_eq_true (by omega)) ?_
          refine o_move rfl ?_
          refine o_genA [(7, U.lst Kd.ro 1 (intsU T)), (12, U.lst Kd.ro 1 (intsU J)), (107, U.bool Bool.true)] [] ([SB.box [U.lst Kd.ro 3 (trisU (Bk.lots b)), .int .i64 (Bk.tlo b), .int .i64 (Bk.thi b), .int .i64 (Bk.thick b), .int .i64 (Bk.crack b), .int .i64 (Bk.glo b), .int .i64 (Bk.ghi b), U.lst Kd.ro 2 (twosU (Bk.thins b)), .int .i64 (Bk.hot b), .int .i64 (Bk.least b), .int .i64 (Bk.clo b), .int .i64 (Bk.chi b), .int .i64 (Bk.coal b), U.lst Kd.ro 3 (trisU (Bk.looks b))]]) (.cons rfl (.cons rfl (.cons rfl (.nil rfl)))) rfl rfl fun fr => ?_
          refine o_gD rfl rfl rfl rfl rfl ?_
          refine o_genA [(7, U.lst Kd.ro 1 (intsU T)), (12, U.lst Kd.ro 1 (intsU J)), (107, U.bool Bool.true)] [] ([SB.box [U.lst Kd.ro 3 (trisU (Bk.lots b)), .int .i64 (Bk.tlo b), .int .i64 (Bk.thi b), .int .i64 (Bk.thick b), .int .i64 (Bk.crack b), .int .i64 (Bk.glo b), .int .i64 (Bk.ghi b), U.lst Kd.ro 2 (twosU (Bk.thins b)), .int .i64 (Bk.hot b), .int .i64 (Bk.least b), .int .i64 (Bk.clo b), .int .i64 (Bk.chi b), .int .i64 (Bk.coal b), U.lst Kd.ro 3 (trisU (Bk.looks b))]]) (.cons rfl (.cons rfl (.cons rfl (.nil rfl)))) rfl rfl fun fr => ?_
          refine o_move rfl ?_
          refine o_gD rfl rfl rfl rfl rfl ?_
          refine o_call rfl (pJ) (.lrefl _) ?_
          refine o_gD rfl rfl rfl rfl rfl ?_
          refine o_move rfl ?_
          refine o_gD rfl rfl rfl rfl rfl ?_
          refine o_call rfl (pT) (.lrefl _) ?_
          refine o_gD rfl rfl rfl rfl rfl ?_
          refine o_lss rfl rfl rfl ?_
          refine o_gD rfl rfl rfl rfl rfl ?_
          refine o_move rfl ?_
          refine o_gS rfl rfl rfl rfl (decide_eq_true (by omega)) ?_
          refine o_gS rfl rfl rfl rfl (decide_eq_true (by omega)) ?_
          refine o_gS rfl rfl rfl rfl (decide_eq_true (by omega)) ?_
          refine o_genA [(7, U.lst Kd.ro 1 (intsU T)), (12, U.lst Kd.ro 1 (intsU J)), (107, U.bool Bool.true), (113, U.bool (Decidable.decide (tkn B < tkn (askQ T)))), (115, U.tup []), (116, U.tup [])] [] ([SB.box [U.lst Kd.ro 3 (trisU (Bk.lots b)), .int .i64 (Bk.tlo b), .int .i64 (Bk.thi b), .int .i64 (Bk.thick b), .int .i64 (Bk.crack b), .int .i64 (Bk.glo b), .int .i64 (Bk.ghi b), U.lst Kd.ro 2 (twosU (Bk.thins b)), .int .i64 (Bk.hot b), .int .i64 (Bk.least b), .int .i64 (Bk.clo b), .int .i64 (Bk.chi b), .int .i64 (Bk.coal b), U.lst Kd.ro 3 (trisU (Bk.looks b))]]) (.cons rfl (.cons rfl (.cons rfl (.cons rfl (.cons rfl (.cons rfl (.nil rfl))))))) rfl rfl fun fr => ?_
          refine o_gS rfl rfl rfl rfl (decide_eq_true (by omega)) ?_
          refine o_gS rfl rfl rfl rfl (decide_eq_true (by omega)) ?_
          refine o_gS rfl rfl rfl rfl (decide_eq_true (by omega)) ?_
          refine o_dead rfl rfl rfl rfl ?_
          refine o_dead rfl rfl rfl rfl ?_
          refine o_dead rfl rfl rfl rfl ?_
          refine o_dead rfl rfl rfl rfl ?_
          refine o_gS rfl rfl rfl rfl (decide_eq_true (by omega)) ?_
          refine o_gD rfl rfl rfl rfl rfl ?_
          refine o_pickT rfl rfl (decide_eq_true (by omega)) ?_
          refine o_genA [(107, U.bool Bool.true), (125, U.bool Bool.true)] [] ([SB.box [U.lst Kd.ro 3 (trisU (Bk.lots b)), .int .i64 (Bk.tlo b), .int .i64 (Bk.thi b), .int .i64 (Bk.thick b), .int .i64 (Bk.crack b), .int .i64 (Bk.glo b), .int .i64 (Bk.ghi b), U.lst Kd.ro 2 (twosU (Bk.thins b)), .int .i64 (Bk.hot b), .int .i64 (Bk.least b), .int .i64 (Bk.clo b), .int .i64 (Bk.chi b), .int .i64 (Bk.coal b), U.lst Kd.ro 3 (trisU (Bk.looks b))]]) (.cons rfl (.cons rfl (.nil rfl))) rfl rfl fun fr => ?_
          refine o_pickT rfl rfl rfl ?_
          refine o_move rfl ?_
          refine o_gD rfl rfl rfl rfl rfl ?_
          refine o_call rfl (r16) (.lrefl _) ?_
          refine o_pickT rfl rfl rfl ?_
          refine o_assign rfl ?_
          refine o_nil ?_
          refine k_ret ?_
          refine ⟨.inr rfl, _, .cons _ _ _ _ (.tmp 4) .nil, ?_⟩
          exact .refl _
        · have heq : tkn B = tkn (askQ T) := by omega
          rw [soo_not (by omega) (by omega) (by rw [e7]; exact f3 heq)] at p28
          refine k_seq (k_region ?_)
          refine o_box rfl rfl ?_
          refine o_assign rfl ?_
          refine o_nil ?_
          refine k_gen [(1, U.lst Kd.ro 1 (intsU bits)), (2, U.box 0 0)] ([SB.box [U.lst Kd.ro 3 (trisU (Bk.lots b)), .int .i64 (Bk.tlo b), .int .i64 (Bk.thi b), .int .i64 (Bk.thick b), .int .i64 (Bk.crack b), .int .i64 (Bk.glo b), .int .i64 (Bk.ghi b), U.lst Kd.ro 2 (twosU (Bk.thins b)), .int .i64 (Bk.hot b), .int .i64 (Bk.least b), .int .i64 (Bk.clo b), .int .i64 (Bk.chi b), .int .i64 (Bk.coal b), U.lst Kd.ro 3 (trisU (Bk.looks b))]]) (.cons rfl (.cons rfl (.nil rfl))) rfl fun fr => ?_
          refine k_seq (k_region ?_)
          refine o_loadN rfl rfl rfl sh28 rfl ?_
          refine o_call rfl (q14) (.lrefl _) ?_
          refine o_move rfl ?_
          refine o_extract rfl rfl rfl ?_
          refine o_extract rfl rfl rfl ?_
          refine o_assign rfl ?_
          refine o_assign rfl ?_
          refine o_nil ?_
          refine k_seq ?_
          refine k_seq (k_region ?_)
          refine o_loadN rfl rfl rfl sh28 rfl ?_
          refine o_call rfl (ret20 hi hk) (.lrefl _) ?_
          refine o_not rfl rfl ?_
          refine o_nil ?_
          refine k_cF rfl rfl ?_
          refine k_skip ?_
          refine k_seq (k_region ?_)
          refine o_loadN rfl rfl rfl sh28 rfl ?_
          refine o_move rfl ?_
          refine o_call rfl (q26) (.lrefl _) ?_
          refine o_assign rfl ?_
          refine o_nil ?_
          refine k_gen [(2, U.box 0 0), (5, .int .i64 mo), (6, .int .i64 0), (7, U.lst Kd.ro 1 (intsU T))] ([SB.box [U.lst Kd.ro 3 (trisU (Bk.lots b)), .int .i64 (Bk.tlo b), .int .i64 (Bk.thi b), .int .i64 (Bk.thick b), .int .i64 (Bk.crack b), .int .i64 (Bk.glo b), .int .i64 (Bk.ghi b), U.lst Kd.ro 2 (twosU (Bk.thins b)), .int .i64 (Bk.hot b), .int .i64 (Bk.least b), .int .i64 (Bk.clo b), .int .i64 (Bk.chi b), .int .i64 (Bk.coal b), U.lst Kd.ro 3 (trisU (Bk.looks b))]]) (.cons rfl (.cons rfl (.cons rfl (.cons rfl (.nil rfl))))) rfl fun fr => ?_
          refine k_seq (k_region ?_)
          refine o_loadN rfl rfl rfl sh28 rfl ?_
          refine o_move rfl ?_
          refine o_call rfl (q7) (.lrefl _) ?_
          refine o_move rfl ?_
          refine o_extract rfl rfl rfl ?_
          refine o_extract rfl rfl rfl ?_
          refine o_assign rfl ?_
          refine o_assign rfl ?_
          refine o_nil ?_
          refine k_seq ?_
          refine k_seq (k_region ?_)
          refine o_move rfl ?_
          refine o_neq rfl rfl rfl ?_
          refine o_move rfl ?_
          refine o_gD rfl rfl rfl rfl rfl ?_
          refine o_move rfl ?_
          refine o_gD rfl rfl rfl rfl rfl ?_
          refine o_neq rfl rfl rfl ?_
          refine o_gD rfl rfl rfl rfl rfl ?_
          refine o_move rfl ?_
          refine o_gS rfl rfl rfl rfl rfl ?_
          refine o_gS rfl rfl rfl rfl rfl ?_
          refine o_gD rfl rfl rfl rfl rfl ?_
          refine o_pickF rfl rfl rfl ?_
          refine o_genA [(2, U.box 0 0), (5, .int .i64 mo), (6, .int .i64 0), (7, U.lst Kd.ro 1 (intsU T)), (8, U.bool Bool.true), (41, U.bool (Decidable.decide ((0 : Int) ≠ (0 : Int)))), (47, U.bool Bool.false)] [] ([SB.box [U.lst Kd.ro 3 (trisU (Bk.lots b)), .int .i64 (Bk.tlo b), .int .i64 (Bk.thi b), .int .i64 (Bk.thick b), .int .i64 (Bk.crack b), .int .i64 (Bk.glo b), .int .i64 (Bk.ghi b), U.lst Kd.ro 2 (twosU (Bk.thins b)), .int .i64 (Bk.hot b), .int .i64 (Bk.least b), .int .i64 (Bk.clo b), .int .i64 (Bk.chi b), .int .i64 (Bk.coal b), U.lst Kd.ro 3 (trisU (Bk.looks b))]]) (.cons rfl (.cons rfl (.cons rfl (.cons rfl (.cons rfl (.cons rfl (.cons rfl (.nil rfl)))))))) rfl rfl fun fr => ?_
          refine o_pickF rfl rfl rfl ?_
          refine o_move rfl ?_
          refine o_gD rfl rfl rfl rfl rfl ?_
          refine o_move rfl ?_
          refine o_gD rfl rfl rfl rfl rfl ?_
          refine o_eql rfl rfl rfl ?_
          refine o_gD rfl rfl rfl rfl rfl ?_
          refine o_move rfl ?_
          refine o_gD rfl rfl rfl rfl rfl ?_
          refine o_move rfl ?_
          refine o_gD rfl rfl rfl rfl rfl ?_
          refine o_call rfl (q25) (.lrefl _) ?_
          refine o_gD rfl rfl rfl rfl rfl ?_
          refine o_not rfl rfl ?_
          refine o_gD rfl rfl rfl rfl rfl ?_
          refine o_pickT rfl rfl rfl ?_
          refine o_genA [(2, U.box 0 0), (5, .int .i64 mo), (6, .int .i64 0), (7, U.lst Kd.ro 1 (intsU T)), (8, U.bool Bool.true), (49, U.bool Bool.false), (56, U.bool !Bool.true)] [] ([SB.box [U.lst Kd.ro 3 (trisU (Bk.lots b)), .int .i64 (Bk.tlo b), .int .i64 (Bk.thi b), .int .i64 (Bk.thick b), .int .i64 (Bk.crack b), .int .i64 (Bk.glo b), .int .i64 (Bk.ghi b), U.lst Kd.ro 2 (twosU (Bk.thins b)), .int .i64 (Bk.hot b), .int .i64 (Bk.least b), .int .i64 (Bk.clo b), .int .i64 (Bk.chi b), .int .i64 (Bk.coal b), U.lst Kd.ro 3 (trisU (Bk.looks b))]]) (.cons rfl (.cons rfl (.cons rfl (.cons rfl (.cons rfl (.cons rfl (.cons rfl (.nil rfl)))))))) rfl rfl fun fr => ?_
          refine o_pickF rfl rfl rfl ?_
          refine o_nil ?_
          refine k_gen [(2, U.box 0 0), (5, .int .i64 mo), (6, .int .i64 0), (7, U.lst Kd.ro 1 (intsU T)), (8, U.bool Bool.true), (57, U.bool !Bool.true)] ([SB.box [U.lst Kd.ro 3 (trisU (Bk.lots b)), .int .i64 (Bk.tlo b), .int .i64 (Bk.thi b), .int .i64 (Bk.thick b), .int .i64 (Bk.crack b), .int .i64 (Bk.glo b), .int .i64 (Bk.ghi b), U.lst Kd.ro 2 (twosU (Bk.thins b)), .int .i64 (Bk.hot b), .int .i64 (Bk.least b), .int .i64 (Bk.clo b), .int .i64 (Bk.chi b), .int .i64 (Bk.coal b), U.lst Kd.ro 3 (trisU (Bk.looks b))]]) (.cons rfl (.cons rfl (.cons rfl (.cons rfl (.cons rfl (.cons rfl (.nil rfl))))))) rfl fun fr => ?_
          refine k_cF rfl rfl ?_
          refine k_skip ?_
          refine k_seq ?_
          refine k_seq (k_region ?_)
          refine o_move rfl ?_
          refine o_eql rfl rfl rfl ?_
          refine o_nil ?_
          refine k_cT rfl rfl ?_
          refine k_seq (k_region ?_)
          refine o_loadN rfl rfl rfl sh28 rfl ?_
          refine o_move rfl ?_
          refine o_call rfl (q11) (.lrefl _) ?_
          refine o_move rfl ?_
          refine o_extract rfl rfl rfl ?_
          refine o_extract rfl rfl rfl ?_
          refine o_assign rfl ?_
          refine o_assign rfl ?_
          refine o_nil ?_
          refine k_seq (k_region ?_)
          refine o_move rfl ?_
          refine o_neq rfl rfl rfl ?_
          refine o_move rfl ?_
          refine o_gD rfl rfl rfl rfl rfl ?_
          refine o_loadN rfl rfl rfl sh28 rfl ?_
          refine o_gD rfl rfl rfl rfl rfl ?_
          refine o_move rfl ?_
          refine o_gD rfl rfl rfl rfl rfl ?_
          refine o_call rfl (d23) (.lrefl _) ?_
          refine o_gD rfl rfl rfl rfl rfl ?_
          refine o_not rfl rfl ?_
          refine o_pickF rfl rfl rfl ?_
          refine o_move rfl ?_
          refine o_genA [(2, U.box 0 0), (5, .int .i64 mo), (6, .int .i64 0), (7, U.lst Kd.ro 1 (intsU T)), (8, U.bool Bool.true), (10, U.lst Kd.ro 1 (intsU K)), (74, U.bool !Bool.true)] [] ([SB.box [U.lst Kd.ro 3 (trisU (Bk.lots b)), .int .i64 (Bk.tlo b), .int .i64 (Bk.thi b), .int .i64 (Bk.thick b), .int .i64 (Bk.crack b), .int .i64 (Bk.glo b), .int .i64 (Bk.ghi b), U.lst Kd.ro 2 (twosU (Bk.thins b)), .int .i64 (Bk.hot b), .int .i64 (Bk.least b), .int .i64 (Bk.clo b), .int .i64 (Bk.chi b), .int .i64 (Bk.coal b), U.lst Kd.ro 3 (trisU (Bk.looks b))]]) (.cons rfl (.cons rfl (.cons rfl (.cons rfl (.cons rfl (.cons rfl (.cons rfl (.nil rfl)))))))) rfl rfl fun fr => ?_
          refine o_gD rfl rfl rfl rfl rfl ?_
          refine o_genA [(2, U.box 0 0), (5, .int .i64 mo), (6, .int .i64 0), (7, U.lst Kd.ro 1 (intsU T)), (8, U.bool Bool.true), (10, U.lst Kd.ro 1 (intsU K)), (74, U.bool !Bool.true)] [] ([SB.box [U.lst Kd.ro 3 (trisU (Bk.lots b)), .int .i64 (Bk.tlo b), .int .i64 (Bk.thi b), .int .i64 (Bk.thick b), .int .i64 (Bk.crack b), .int .i64 (Bk.glo b), .int .i64 (Bk.ghi b), U.lst Kd.ro 2 (twosU (Bk.thins b)), .int .i64 (Bk.hot b), .int .i64 (Bk.least b), .int .i64 (Bk.clo b), .int .i64 (Bk.chi b), .int .i64 (Bk.coal b), U.lst Kd.ro 3 (trisU (Bk.looks b))]]) (.cons rfl (.cons rfl (.cons rfl (.cons rfl (.cons rfl (.cons rfl (.cons rfl (.nil rfl)))))))) rfl rfl fun fr => ?_
          refine o_move rfl ?_
          refine o_gD rfl rfl rfl rfl rfl ?_
          refine o_call rfl (d24) (.lrefl _) ?_
          refine o_gD rfl rfl rfl rfl rfl ?_
          refine o_move rfl ?_
          refine o_gD rfl rfl rfl rfl rfl ?_
          refine o_neq rfl rfl rfl ?_
          refine o_pickF rfl rfl rfl ?_
          refine o_nil ?_
          refine k_gen [(2, U.box 0 0), (5, .int .i64 mo), (6, .int .i64 0), (7, U.lst Kd.ro 1 (intsU T)), (8, U.bool Bool.true), (79, U.bool (Decidable.decide (mo ≠ mo)))] ([SB.box [U.lst Kd.ro 3 (trisU (Bk.lots b)), .int .i64 (Bk.tlo b), .int .i64 (Bk.thi b), .int .i64 (Bk.thick b), .int .i64 (Bk.crack b), .int .i64 (Bk.glo b), .int .i64 (Bk.ghi b), U.lst Kd.ro 2 (twosU (Bk.thins b)), .int .i64 (Bk.hot b), .int .i64 (Bk.least b), .int .i64 (Bk.clo b), .int .i64 (Bk.chi b), .int .i64 (Bk.coal b), U.lst Kd.ro 3 (trisU (Bk.looks b))]]) (.cons rfl (.cons rfl (.cons rfl (.cons rfl (.cons rfl (.cons rfl (.nil rfl))))))) rfl fun fr => ?_
          refine k_cF rfl (decide_eq_false (by omega)) ?_
          refine k_skip ?_
          refine k_seq ?_
          refine k_seq (k_region ?_)
          refine o_move rfl ?_
          refine o_not rfl rfl ?_
          refine o_nil ?_
          refine k_cF rfl rfl ?_
          refine k_skip ?_
          refine k_seq ?_
          refine k_draw [.read true, .plain, .read false, .plain, .plain, .plain, .plain, .plain, .plain] (by kernel_rfl) (by kernel_rfl) (by kernel_rfl) ?_
          refine d_load rfl (o_loadN rfl rfl rfl sh28 rfl (o_nil rfl)) ?_
          refine d_plain (o_move rfl (o_nil rfl)) ?_
          refine d_callR rfl (q24) (.int _ _) (.lrefl _) ?_
          refine d_plain (o_call rfl (p11) (.lrefl _) (o_nil rfl)) ?_
          refine d_plain (o_move rfl (o_nil rfl)) ?_
          refine d_plain (o_extract rfl rfl rfl (o_nil rfl)) ?_
          refine d_plain (o_extract rfl rfl rfl (o_nil rfl)) ?_
          refine d_plain (o_assign rfl (o_nil rfl)) ?_
          refine d_plain (o_assign rfl (o_nil rfl)) ?_
          refine d_nil ?_
          refine k_seq (k_region ?_)
          refine o_move rfl ?_
          refine o_eql rfl rfl rfl ?_
          refine o_move rfl ?_
          refine o_gD rfl rfl rfl rfl rfl ?_
          refine o_move rfl ?_
          refine o_gD rfl rfl rfl rfl rfl ?_
          refine o_eql rfl rfl rfl ?_
          refine o_pickT rfl rfl rfl ?_
          refine o_move rfl ?_
          refine o_gD rfl rfl rfl rfl rfl ?_
          refine o_move rfl ?_
          refine o_gD rfl rfl rfl rfl rfl ?_
          refine o_call rfl (q24) (.lrefl _) ?_
          refine o_genA [(2, U.box 0 0), (5, .int .i64 mo), (7, U.lst Kd.ro 1 (intsU T)), (12, U.lst Kd.ro 1 (intsU J)), (96, U.bool (Decidable.decide ((0 : Int) = (0 : Int)))), (98, .int .i64 (sumI T))] [] ([SB.box [U.lst Kd.ro 3 (trisU (Bk.lots b)), .int .i64 (Bk.tlo b), .int .i64 (Bk.thi b), .int .i64 (Bk.thick b), .int .i64 (Bk.crack b), .int .i64 (Bk.glo b), .int .i64 (Bk.ghi b), U.lst Kd.ro 2 (twosU (Bk.thins b)), .int .i64 (Bk.hot b), .int .i64 (Bk.least b), .int .i64 (Bk.clo b), .int .i64 (Bk.chi b), .int .i64 (Bk.coal b), U.lst Kd.ro 3 (trisU (Bk.looks b))]]) (.cons rfl (.cons rfl (.cons rfl (.cons rfl (.cons rfl (.cons rfl (.nil rfl))))))) rfl rfl fun fr => ?_
          refine o_gD rfl rfl rfl rfl rfl ?_
          refine o_genA [(2, U.box 0 0), (5, .int .i64 mo), (7, U.lst Kd.ro 1 (intsU T)), (12, U.lst Kd.ro 1 (intsU J)), (96, U.bool (Decidable.decide ((0 : Int) = (0 : Int)))), (98, .int .i64 (sumI T))] [] ([SB.box [U.lst Kd.ro 3 (trisU (Bk.lots b)), .int .i64 (Bk.tlo b), .int .i64 (Bk.thi b), .int .i64 (Bk.thick b), .int .i64 (Bk.crack b), .int .i64 (Bk.glo b), .int .i64 (Bk.ghi b), U.lst Kd.ro 2 (twosU (Bk.thins b)), .int .i64 (Bk.hot b), .int .i64 (Bk.least b), .int .i64 (Bk.clo b), .int .i64 (Bk.chi b), .int .i64 (Bk.coal b), U.lst Kd.ro 3 (trisU (Bk.looks b))]]) (.cons rfl (.cons rfl (.cons rfl (.cons rfl (.cons rfl (.cons rfl (.nil rfl))))))) rfl rfl fun fr => ?_
          refine o_move rfl ?_
          refine o_gD rfl rfl rfl rfl rfl ?_
          refine o_leq rfl rfl rfl ?_
          refine o_pickT rfl rfl rfl ?_
          refine o_move rfl ?_
          refine o_gD rfl rfl rfl rfl (decide_eq_true (by omega)) ?_
          refine o_loadN rfl rfl rfl sh28 rfl ?_
          refine o_gD rfl rfl rfl rfl (decide_eq_true (by omega)) ?_
          refine o_move rfl ?_
          refine o_gD rfl rfl rfl rfl (decide_eq_true (by omega)) ?_
          refine o_call rfl (p23) (.lrefl _) ?_
          refine o_pickT rfl rfl (decide_eq_true (by omega)) ?_
          refine o_move rfl ?_
          refine o_genA [(7, U.lst Kd.ro 1 (intsU T)), (12, U.lst Kd.ro 1 (intsU J)), (107, U.bool Bool.true)] [] ([SB.box [U.lst Kd.ro 3 (trisU (Bk.lots b)), .int .i64 (Bk.tlo b), .int .i64 (Bk.thi b), .int .i64 (Bk.thick b), .int .i64 (Bk.crack b), .int .i64 (Bk.glo b), .int .i64 (Bk.ghi b), U.lst Kd.ro 2 (twosU (Bk.thins b)), .int .i64 (Bk.hot b), .int .i64 (Bk.least b), .int .i64 (Bk.clo b), .int .i64 (Bk.chi b), .int .i64 (Bk.coal b), U.lst Kd.ro 3 (trisU (Bk.looks b))]]) (.cons rfl (.cons rfl (.cons rfl (.nil rfl)))) rfl rfl fun fr => ?_
          refine o_gD rfl rfl rfl rfl rfl ?_
          refine o_genA [(7, U.lst Kd.ro 1 (intsU T)), (12, U.lst Kd.ro 1 (intsU J)), (107, U.bool Bool.true)] [] ([SB.box [U.lst Kd.ro 3 (trisU (Bk.lots b)), .int .i64 (Bk.tlo b), .int .i64 (Bk.thi b), .int .i64 (Bk.thick b), .int .i64 (Bk.crack b), .int .i64 (Bk.glo b), .int .i64 (Bk.ghi b), U.lst Kd.ro 2 (twosU (Bk.thins b)), .int .i64 (Bk.hot b), .int .i64 (Bk.least b), .int .i64 (Bk.clo b), .int .i64 (Bk.chi b), .int .i64 (Bk.coal b), U.lst Kd.ro 3 (trisU (Bk.looks b))]]) (.cons rfl (.cons rfl (.cons rfl (.nil rfl)))) rfl rfl fun fr => ?_
          refine o_move rfl ?_
          refine o_gD rfl rfl rfl rfl rfl ?_
          refine o_call rfl (pJ) (.lrefl _) ?_
          refine o_gD rfl rfl rfl rfl rfl ?_
          refine o_move rfl ?_
          refine o_gD rfl rfl rfl rfl rfl ?_
          refine o_call rfl (pT) (.lrefl _) ?_
          refine o_gD rfl rfl rfl rfl rfl ?_
          refine o_lss rfl rfl rfl ?_
          refine o_gD rfl rfl rfl rfl rfl ?_
          refine o_move rfl ?_
          refine o_gD rfl rfl rfl rfl (decide_eq_false (by omega)) ?_
          refine o_move rfl ?_
          refine o_gD rfl rfl rfl rfl (decide_eq_false (by omega)) ?_
          refine o_call rfl (pJ) (.lrefl _) ?_
          refine o_gD rfl rfl rfl rfl (decide_eq_false (by omega)) ?_
          refine o_move rfl ?_
          refine o_genA [(7, U.lst Kd.ro 1 (intsU T)), (12, U.lst Kd.ro 1 (intsU J)), (107, U.bool Bool.true), (113, U.bool (Decidable.decide (tkn B < tkn (askQ T)))), (115, .int .i64 (tkn B)), (116, U.lst Kd.ro 1 (intsU T))] [] ([SB.box [U.lst Kd.ro 3 (trisU (Bk.lots b)), .int .i64 (Bk.tlo b), .int .i64 (Bk.thi b), .int .i64 (Bk.thick b), .int .i64 (Bk.crack b), .int .i64 (Bk.glo b), .int .i64 (Bk.ghi b), U.lst Kd.ro 2 (twosU (Bk.thins b)), .int .i64 (Bk.hot b), .int .i64 (Bk.least b), .int .i64 (Bk.clo b), .int .i64 (Bk.chi b), .int .i64 (Bk.coal b), U.lst Kd.ro 3 (trisU (Bk.looks b))]]) (.cons rfl (.cons rfl (.cons rfl (.cons rfl (.cons rfl (.cons rfl (.nil rfl))))))) rfl rfl fun fr => ?_
          refine o_gD rfl rfl rfl rfl (decide_eq_false (by omega)) ?_
          refine o_genA [(7, U.lst Kd.ro 1 (intsU T)), (12, U.lst Kd.ro 1 (intsU J)), (107, U.bool Bool.true), (113, U.bool (Decidable.decide (tkn B < tkn (askQ T)))), (115, .int .i64 (tkn B)), (116, U.lst Kd.ro 1 (intsU T))] [] ([SB.box [U.lst Kd.ro 3 (trisU (Bk.lots b)), .int .i64 (Bk.tlo b), .int .i64 (Bk.thi b), .int .i64 (Bk.thick b), .int .i64 (Bk.crack b), .int .i64 (Bk.glo b), .int .i64 (Bk.ghi b), U.lst Kd.ro 2 (twosU (Bk.thins b)), .int .i64 (Bk.hot b), .int .i64 (Bk.least b), .int .i64 (Bk.clo b), .int .i64 (Bk.chi b), .int .i64 (Bk.coal b), U.lst Kd.ro 3 (trisU (Bk.looks b))]]) (.cons rfl (.cons rfl (.cons rfl (.cons rfl (.cons rfl (.cons rfl (.nil rfl))))))) rfl rfl fun fr => ?_
          refine o_call rfl (pT) (.lrefl _) ?_
          refine o_gD rfl rfl rfl rfl (decide_eq_false (by omega)) ?_
          refine o_eql rfl rfl rfl ?_
          refine o_gD rfl rfl rfl rfl (decide_eq_false (by omega)) ?_
          refine o_move rfl ?_
          refine o_gD rfl rfl rfl rfl (decide_eq_true (by omega)) ?_
          refine o_move rfl ?_
          refine o_gD rfl rfl rfl rfl (decide_eq_true (by omega)) ?_
          refine o_move rfl ?_
          refine o_gD rfl rfl rfl rfl (decide_eq_true (by omega)) ?_
          refine o_call rfl (p28) (.lrefl _) ?_
          refine o_gD rfl rfl rfl rfl (decide_eq_true (by omega)) ?_
          refine o_not rfl rfl ?_
          refine o_gD rfl rfl rfl rfl (decide_eq_false (by omega)) ?_
          refine o_pickT rfl rfl (decide_eq_true (by omega)) ?_
          refine o_gD rfl rfl rfl rfl rfl ?_
          refine o_pickF rfl rfl (decide_eq_false (by omega)) ?_
          refine o_genA [(107, U.bool Bool.true), (125, U.bool !Bool.false)] [] ([SB.box [U.lst Kd.ro 3 (trisU (Bk.lots b)), .int .i64 (Bk.tlo b), .int .i64 (Bk.thi b), .int .i64 (Bk.thick b), .int .i64 (Bk.crack b), .int .i64 (Bk.glo b), .int .i64 (Bk.ghi b), U.lst Kd.ro 2 (twosU (Bk.thins b)), .int .i64 (Bk.hot b), .int .i64 (Bk.least b), .int .i64 (Bk.clo b), .int .i64 (Bk.chi b), .int .i64 (Bk.coal b), U.lst Kd.ro 3 (trisU (Bk.looks b))]]) (.cons rfl (.cons rfl (.nil rfl))) rfl rfl fun fr => ?_
          refine o_pickT rfl rfl rfl ?_
          refine o_move rfl ?_
          refine o_gD rfl rfl rfl rfl rfl ?_
          refine o_call rfl (r16) (.lrefl _) ?_
          refine o_pickT rfl rfl rfl ?_
          refine o_assign rfl ?_
          refine o_nil ?_
          refine k_ret ?_
          refine ⟨.inr rfl, _, .cons _ _ _ _ (.tmp 4) .nil, ?_⟩
          exact .refl _
theorem u29 : Tryz.prog.underlying 29 = some (.slice 3) := by kernel_rfl
theorem eu3 : ∀ cs, eU Tryz.prog 3 cs = cs.headD .junk := by
  intro cs; unfold eU; rw [u3]
theorem map_ints {F : List U → U} (he : ∀ cs, F cs = cs.headD .junk) (l : List Int) : (l.map fun n : Int => [U.int .i64 n]).map F = intsU l := by
  rw [List.map_map]
  exact List.map_congr_left fun q _ => he _
theorem shp_ints {cs : List U} (h : Shp Tryz.prog 29 cs) : ∃ l : List Int, cs = [.lst .ro 1 (intsU l)] := by
  obtain ⟨css, hl, rfl⟩ := shp_slice u29 h
  obtain ⟨l, rfl⟩ := shpL_map (f := fun n : Int => [.int .i64 n]) hl fun cs hcs => shp_int hcs
  refine ⟨l, ?_⟩
  rw [cl3, map_ints eu3]
theorem ret6_all {is : FuncId → Bool} {orc : Known} (hi : Off is) (r16 : RetP Tryz.prog is orc 16 [] (.bool true)) : ∀ us, ShpAs Tryz.prog [28, 29] us → RetP Tryz.prog is orc 6 us (.bool true) := by
  intro us h
  cases h with
  | cons _ _ u us h1 h => cases h with
  | cons _ _ x us h3 h =>
  cases h
  obtain ⟨fs, hu⟩ := und_struct (P := Tryz.prog) (t := 28) 11 (by kernel_rfl)
  unfold ShpA at h1 h3
  rw [hu] at h1
  rw [u29] at h3
  obtain ⟨cs, rfl, h1⟩ := h1
  obtain ⟨b, rfl⟩ := shp_book h1
  obtain ⟨l, e⟩ := shp_ints h3
  cases e
  exact ret6 hi b l r16
end Go.Proofs.YtoldkckmenjknaaGreat.forgeFewest
