/- forge's functions, the specification's and the law's, by the logic of trees: what each gives back for all that it may be given. -/
import Derived.Test.YtoldkckmenjknaaGreatVamTin8
namespace Go.Proofs.YtoldkckmenjknaaGreat.forgeTin
open Vam
set_option linter.unusedVariables false
set_option linter.unusedSimpArgs false
set_option linter.constructorNameAsVariable false
theorem Qd.ext4 {q m : Qd} (h : ∀ i, i < 4 → q.at i = m.at i) : q = m := by
  have h0 : q.a = m.a := h 0 (by omega)
  have h1 : q.b = m.b := h 1 (by omega)
  have h2 : q.c = m.c := h 2 (by omega)
  have h3 : q.d = m.d := h 3 (by omega)
  cases q; cases m
  simp_all
theorem setQ_self (q : Qd) {k : Nat} (hk : k < 4) (t : Int) : (setQ q k t).at k = t := by
  have e : k = 0 ∨ k = 1 ∨ k = 2 ∨ k = 3 := by omega
  rcases e with rfl | rfl | rfl | rfl <;> rfl
theorem setQ_ne (q : Qd) {k i : Nat} (hk : k < 4) (hi : i < 4) (h : i ≠ k) (t : Int) : (setQ q k t).at i = q.at i := by
  have e : k = 0 ∨ k = 1 ∨ k = 2 ∨ k = 3 := by omega
  have f : i = 0 ∨ i = 1 ∨ i = 2 ∨ i = 3 := by omega
  rcases e with rfl | rfl | rfl | rfl <;> rcases f with rfl | rfl | rfl | rfl <;> first | rfl | exact absurd rfl h
def sumF (q : Qd) (k : Nat) : Int := match k with | 0 => q.a + q.b + q.c + q.d | 1 => q.b + q.c + q.d | 2 => q.c + q.d | 3 => q.d | _ => 0
theorem sumF_succ (q : Qd) {k : Nat} (hk : k < 4) : sumF q k = q.at k + sumF q (k + 1) := by
  have e : k = 0 ∨ k = 1 ∨ k = 2 ∨ k = 3 := by omega
  rcases e with rfl | rfl | rfl | rfl <;> simp [sumF, Qd.at] <;> omega
theorem sumF_nn {q : Qd} : ∀ (r k : Nat), k + r = 4 → (∀ i, k ≤ i → i < 4 → 0 ≤ q.at i) → 0 ≤ sumF q k := by
  intro r
  induction r with
  | zero => intro k hk _; have : k = 4 := by omega
            subst this; exact Int.le_refl 0
  | succ r ih =>
    intro k hk h
    have h1 := h k (Nat.le_refl _) (by omega)
    have h2 := ih (k + 1) (by omega) fun i hi hi4 => h i (by omega) hi4
    rw [sumF_succ q (by omega)]; omega
theorem mem_lvM (L q : Qd) : ∀ (r k : Nat) (m : Qd) (more : Int), k + r = 4 → (q ∈ lvM L r k m more ↔ (∀ i, i < k → q.at i = m.at i) ∧ (∀ i, k ≤ i → i < 4 → 0 ≤ q.at i ∧ q.at i ≤ L.at i) ∧ sumF q k = more ∧ q ≠ zQ) := by
  intro r
  induction r with
  | zero =>
    intro k m more hk
    have hk4 : k = 4 := by omega
    subst hk4
    unfold lvM
    by_cases hm : more = 0
    · rw [if_neg (fun h => h hm)]
      cases hz : eqQ m zQ with
      | true =>
        rw [if_pos rfl]
        constructor
        · intro h; cases h
        · rintro ⟨h1, _, _, h4⟩
          exact absurd ((Qd.ext4 h1).trans (eqQ_iff.1 hz)) h4
      | false =>
        rw [if_neg (by simp)]
        constructor
        · intro h
          rcases List.mem_singleton.1 h with rfl
          exact ⟨fun _ _ => rfl, fun i h1 h2 => by omega, hm.symm, fun h => by rw [eqQ_iff.2 h] at hz; cases hz⟩
        · rintro ⟨h1, _, _, _⟩
          rw [Qd.ext4 h1]; exact List.mem_singleton.2 rfl
    · rw [if_pos hm]
      constructor
      · intro h; cases h
      · rintro ⟨_, _, h3, _⟩
        exact absurd h3.symm hm
  | succ r ih =>
    intro k m more hk
    have hk4 : k < 4 := by omega
    show q ∈ (List.range (widM L k more)).flatMap _ ↔ _
    rw [List.mem_flatMap]
    constructor
    · rintro ⟨j, hj, h⟩
      have hj := List.mem_range.1 hj
      unfold widM at hj
      obtain ⟨h1, h2, h3, h4⟩ := (ih (k + 1) (setQ m k j) (more - j) (by omega)).1 h
      have hq := h1 k (by omega)
      rw [setQ_self m hk4] at hq
      refine ⟨fun i hi => ?_, fun i hi hi4 => ?_, ?_, h4⟩
      · rw [h1 i (by omega), setQ_ne m hk4 (by omega) (by omega)]
      · by_cases e : i = k
        · subst e; rw [hq]; omega
        · exact h2 i (by omega) hi4
      · rw [sumF_succ q hk4, hq, h3]; omega
    · rintro ⟨h1, h2, h3, h4⟩
      have hk0 := h2 k (Nat.le_refl _) hk4
      have hs := sumF_nn (q := q) r (k + 1) (by omega) fun i hi hi4 => (h2 i (by omega) hi4).1
      rw [sumF_succ q hk4] at h3
      have hj : ((q.at k).toNat : Int) = q.at k := by omega
      refine ⟨(q.at k).toNat, List.mem_range.2 (by unfold widM; omega), (ih (k + 1) _ _ (by omega)).2 ⟨fun i hi => ?_, fun i hi hi4 => h2 i (by omega) hi4, by omega, h4⟩⟩
      by_cases e : i = k
      · subst e; rw [setQ_self m hk4, hj]
      · rw [setQ_ne m hk4 (by omega) e]; exact h1 i (by omega)
theorem mem_melts {L q : Qd} {many : Int} : q ∈ melts L many ↔ (∀ i, i < 4 → 0 ≤ q.at i ∧ q.at i ≤ L.at i) ∧ q.a + q.b + q.c + q.d = many ∧ q ≠ zQ := by
  unfold melts
  rw [mem_lvM L q 4 0 zQ many rfl]
  constructor
  · rintro ⟨_, h2, h3, h4⟩; exact ⟨fun i hi => h2 i (by omega) hi, h3, h4⟩
  · rintro ⟨h2, h3, h4⟩; exact ⟨fun i hi => by omega, fun i _ hi => h2 i hi, h3, h4⟩
theorem mem_rights {b : Bk} {L q : Qd} {many : Int} : q ∈ rights b L many ↔ ((∀ i, i < 4 → 0 ≤ q.at i ∧ q.at i ≤ L.at i) ∧ q.a + q.b + q.c + q.d = many ∧ q ≠ zQ) ∧ rightI b many q = true := by
  unfold rights
  rw [List.mem_filter, mem_melts]
theorem bst_spec (l : List Qd) : (∀ m ∈ l, m ≠ zQ) → (l = [] ∧ bstQ l = zQ) ∨ ∃ l1 l2, l = l1 ++ bstQ l :: l2 ∧ (∀ m ∈ l1, tkn (bstQ l) < tkn m) ∧ ∀ m ∈ l2, tkn (bstQ l) ≤ tkn m := by
  have key : ∀ l : List Qd, (∀ m ∈ l.reverse, m ≠ zQ) → (l.reverse = [] ∧ bstQ l.reverse = zQ) ∨ ∃ l1 l2, l.reverse = l1 ++ bstQ l.reverse :: l2 ∧ (∀ m ∈ l1, tkn (bstQ l.reverse) < tkn m) ∧ ∀ m ∈ l2, tkn (bstQ l.reverse) ≤ tkn m := by
    intro l
    induction l with
    | nil => intro _; exact .inl ⟨rfl, rfl⟩
    | cons q l ih =>
      intro hz
      rw [List.reverse_cons] at hz ⊢
      rw [bst_snoc]
      have hq : q ≠ zQ := hz q (by simp)
      right
      rcases ih (fun m hm => hz m (by simp at hm ⊢; exact .inl hm)) with ⟨h1, h2⟩ | ⟨l1, l2, h1, h2, h3⟩
      · rw [h2, h1]
        have e : stepQ zQ q = q := by unfold stepQ; rw [if_pos (eqQ_iff.2 rfl)]
        rw [e]
        exact ⟨[], [], rfl, (fun m hm => by cases hm), (fun m hm => by cases hm)⟩
      · have hbz : eqQ (bstQ l.reverse) zQ = false := by
          cases hh : eqQ (bstQ l.reverse) zQ with
          | false => rfl
          | true =>
            have hm : bstQ l.reverse ∈ l1 ++ bstQ l.reverse :: l2 := by simp
            rw [← h1] at hm
            exact absurd (eqQ_iff.1 hh) (hz _ (List.mem_append_left _ hm))
        generalize bstQ l.reverse = B at h1 h2 h3 hbz
        by_cases ht : tkn q < tkn B
        · have e : stepQ B q = q := by unfold stepQ; rw [if_neg (by rw [hbz]; simp), if_pos ht]
          rw [e]
          refine ⟨l.reverse, [], rfl, fun m hm => ?_, (fun m hm => by cases hm)⟩
          rw [h1] at hm
          rcases List.mem_append.1 hm with hm | hm
          · have := h2 m hm; omega
          · rcases List.mem_cons.1 hm with rfl | hm
            · exact ht
            · have := h3 m hm; omega
        · have e : stepQ B q = B := by unfold stepQ; rw [if_neg (by rw [hbz]; simp), if_neg ht]
          rw [e]
          refine ⟨l1, l2 ++ [q], by rw [h1]; simp, h2, fun m hm => ?_⟩
          rcases List.mem_append.1 hm with hm | hm
          · exact h3 m hm
          · rcases List.mem_singleton.1 hm with rfl; omega
  have := key l.reverse
  rwa [List.reverse_reverse] at this
theorem cast_some {b : Bk} {many : Int} (h : castQ b many ≠ zQ) : castQ b many ∈ rights b (stoQ b) many := by
  rcases bst_spec (rights b (stoQ b) many) (fun m hm => (mem_rights.1 hm).1.2.2) with ⟨_, h2⟩ | ⟨l1, l2, h1, _, _⟩
  · exact absurd h2 h
  · show bstQ _ ∈ _
    have : bstQ (rights b (stoQ b) many) ∈ l1 ++ bstQ (rights b (stoQ b) many) :: l2 := by simp
    rwa [← h1] at this
variable {is : FuncId → Bool} {orc : Known}
noncomputable def b24 : Code := (Tryz.f24.body).getD .skip
theorem body24 : bodyOf Tryz.prog 24 = some (18, b24, [.tmp 2]) := by kernel_rfl
theorem pure24 : pureFn Tryz.prog 24 = true := by kernel_rfl
noncomputable def b53 : Code := (Tryz.f53.body).getD .skip
theorem body53 : bodyOf Tryz.prog 53 = some (34, b53, [.tmp 4]) := by kernel_rfl
theorem pure53 : pureFn Tryz.prog 53 = true := by kernel_rfl
noncomputable def b22 : Code := (Tryz.f22.body).getD .skip
theorem body22 : bodyOf Tryz.prog 22 = some (40, b22, [.tmp 6]) := by kernel_rfl
theorem pure22 : pureFn Tryz.prog 22 = true := by kernel_rfl
noncomputable def b23 : Code := (Tryz.f23.body).getD .skip
theorem body23 : bodyOf Tryz.prog 23 = some (39, b23, [.tmp 4]) := by kernel_rfl
theorem pure23 : pureFn Tryz.prog 23 = true := by kernel_rfl
set_option maxHeartbeats 4000000 in
theorem ret24 (hi : Off is) (l : List Int) (hl : l.length ≤ 64) (hx : ∀ x ∈ l, 0 ≤ x ∧ x ≤ 100000) : RetP Tryz.prog is orc 24 [.lst .ro 1 (intsU l)] (.int .i64 (sumI l)) := by
  refine ret_of body24 pure24 (hi 24 (by decide)) rfl rfl (dat_l1 (dat_ints 6 .ro (fun h => by cases h) 1 l)) (.inl (.int _ _ _)) ?_
  refine k_seq (k_region ?_)
  refine o_assign rfl ?_
  refine o_nil ?_
  refine k_seq (k_region ?_)
  refine o_assign rfl ?_
  refine o_nil ?_
  refine k_seq ?_
  refine k_seq (k_region ?_)
  refine o_assign rfl ?_
  refine o_nil ?_
  refine k_block ?_
  refine k_loop (fun k st => ∃ (n : Nat), k + n = l.length ∧ (0 ≤ sumI (l.take n) ∧ sumI (l.take n) ≤ 100000 * n) ∧ st.st = [] ∧ Holds st [(0, .lst .ro 1 (intsU l)), (3, .int .i64 (sumI (l.take n))), (4, .int .i64 n)]) (fun k st hI => ?_) l.length _ ?_
  · obtain ⟨n, hk, hb, hst, hs⟩ := hI
    refine k_gen _ _ hs hst fun fr => ?_
    by_cases hn : n < l.length
    · obtain ⟨q, hq⟩ : ∃ q, l[n]? = some q := ⟨l[n], List.getElem?_eq_getElem hn⟩
      have hqb := hx q (List.mem_of_getElem? hq)
      refine k_seq ?_
      refine k_seq (k_region ?_)
      refine o_move rfl ?_
      refine o_move rfl ?_
      refine o_len rfl ty29 rfl (List.length_map _) ?_
      refine o_lss rfl rfl rfl ?_
      refine o_nil ?_
      refine k_cT rfl (decide_eq_true (by omega)) ?_
      refine k_skip ?_
      refine k_seq ?_
      refine k_block ?_
      refine k_region ?_
      refine o_move rfl ?_
      refine o_move rfl ?_
      refine o_move rfl ?_
      refine o_idx (u := .int .i64 (q)) rfl ty29 rfl rfl (Int.natCast_nonneg _) (by simp [hq]) cl3 ?_
      refine o_loadR1 rfl rfl sh3 rfl ?_
      refine o_add rfl rfl rfl (by unfold I64; omega) ?_
      refine o_assign rfl ?_
      refine o_nil ?_
      refine k_region ?_
      refine o_move rfl ?_
      refine o_add rfl rfl rfl (by unfold I64; omega) ?_
      refine o_assign rfl ?_
      refine o_nil ?_
      exact ⟨k - 1, by omega, n + 1, by omega, (by rw [sum_take hq]; omega), rfl, .cons rfl (.cons (congrArg (U.int .i64) (sum_take hq).symm) (.cons rfl (.nil rfl)))⟩
    · have hn : n = l.length := by omega
      subst hn
      refine k_seq ?_
      refine k_seq (k_region ?_)
      refine o_move rfl ?_
      refine o_move rfl ?_
      refine o_len rfl ty29 rfl (List.length_map _) ?_
      refine o_lss rfl rfl rfl ?_
      refine o_nil ?_
      refine k_cF rfl (decide_eq_false (by omega)) ?_
      refine k_exit ?_
      refine k_seq (k_region ?_)
      refine o_move rfl ?_
      refine o_assign rfl ?_
      refine o_nil ?_
      refine k_ret ?_
      refine ⟨.inr rfl, _, .cons _ _ _ _ (.tmp 2) .nil, ?_⟩
      rw [List.take_length]; exact .refl _
  · exact ⟨0, by omega, ⟨Int.le_refl 0, Int.le_refl 0⟩, rfl, .cons rfl (.cons rfl (.cons rfl (.nil rfl)))⟩
def drawI (a b n : Int) : Int := if b ≤ a then a else a + n % (b - a + 1)
theorem draw_b {a b : Int} (n : Int) (h : a ≤ b) : a ≤ drawI a b n ∧ drawI a b n ≤ b := by
  unfold drawI
  have p1 := Int.emod_nonneg n (show b - a + 1 ≠ 0 by omega)
  have p2 := Int.emod_lt_of_pos n (show 0 < b - a + 1 by omega)
  split <;> omega
set_option maxHeartbeats 4000000 in
theorem ret53 (hi : Off is) (a b n : Int) (hb : 0 ≤ a ∧ a ≤ b ∧ b ≤ 1000) : RetP Tryz.prog is orc 53 [spanU a b, .int .i64 n] (.int .i64 (drawI a b n)) := by
  refine ret_of body53 pure53 (hi 53 (by decide)) rfl rfl (dat_l2 (dat_span _ _ _) (.int _ _ _)) (.inl (.int _ _ _)) ?_
  have p1 := Int.emod_nonneg n (show b - a + 1 ≠ 0 by omega)
  have p2 := Int.emod_lt_of_pos n (show 0 < b - a + 1 by omega)
  by_cases hab : b ≤ a
  · rw [show drawI a b n = a from if_pos hab]
    refine k_seq (k_region ?_)
    refine o_box rfl rfl ?_
    refine o_assign rfl ?_
    refine o_nil ?_
    refine k_gen [(1, .int .i64 n), (2, U.box 0 0)] ([SB.box [.int .i64 a, .int .i64 b]]) (.cons rfl (.cons rfl (.nil rfl))) rfl fun fr => ?_
    refine k_seq ?_
    refine k_seq (k_region ?_)
    refine o_faddr rfl rfl fld24_1 ?_
    refine o_load1 rfl rfl rfl sh3 rfl ?_
    refine o_faddr rfl rfl fld24_0 ?_
    refine o_load1 rfl rfl rfl sh3 rfl ?_
    refine o_leq rfl rfl rfl ?_
    refine o_nil ?_
    refine k_cT rfl (decide_eq_true (by omega)) ?_
    refine k_seq (k_region ?_)
    refine o_faddr rfl rfl fld24_0 ?_
    refine o_load1 rfl rfl rfl sh3 rfl ?_
    refine o_assign rfl ?_
    refine o_nil ?_
    refine k_ret ?_
    refine ⟨.inr rfl, _, .cons _ _ _ _ (.tmp 4) .nil, ?_⟩
    exact .refl _
  · rw [show drawI a b n = a + n % (b - a + 1) from if_neg hab]
    refine k_seq (k_region ?_)
    refine o_box rfl rfl ?_
    refine o_assign rfl ?_
    refine o_nil ?_
    refine k_gen [(1, .int .i64 n), (2, U.box 0 0)] ([SB.box [.int .i64 a, .int .i64 b]]) (.cons rfl (.cons rfl (.nil rfl))) rfl fun fr => ?_
    refine k_seq ?_
    refine k_seq (k_region ?_)
    refine o_faddr rfl rfl fld24_1 ?_
    refine o_load1 rfl rfl rfl sh3 rfl ?_
    refine o_faddr rfl rfl fld24_0 ?_
    refine o_load1 rfl rfl rfl sh3 rfl ?_
    refine o_leq rfl rfl rfl ?_
    refine o_nil ?_
    refine k_cF rfl (decide_eq_false (by omega)) ?_
    refine k_skip ?_
    refine k_seq (k_region ?_)
    refine o_faddr rfl rfl fld24_1 ?_
    refine o_load1 rfl rfl rfl sh3 rfl ?_
    refine o_faddr rfl rfl fld24_0 ?_
    refine o_load1 rfl rfl rfl sh3 rfl ?_
    refine o_sub rfl rfl rfl (by unfold I64; omega) ?_
    refine o_add rfl rfl rfl (by unfold I64; omega) ?_
    refine o_assign rfl ?_
    refine o_nil ?_
    refine k_gen [(1, .int .i64 n), (2, U.box 0 0), (5, .int .i64 (b - a + (1 : Int)))] ([SB.box [.int .i64 a, .int .i64 b]]) (.cons rfl (.cons rfl (.cons rfl (.nil rfl)))) rfl fun fr => ?_
    refine k_seq ?_
    refine k_seq (k_region ?_)
    refine o_move rfl ?_
    refine o_lss rfl rfl rfl ?_
    refine o_nil ?_
    refine k_cF rfl (decide_eq_false (by omega)) ?_
    refine k_skip ?_
    refine k_seq ?_
    refine k_draw [.plain, .read true, .plain, .plain, .read false, .plain, .plain] (by kernel_rfl) (by kernel_rfl) (by kernel_rfl) ?_
    refine d_plain (o_faddr rfl rfl fld24_0 (o_nil rfl)) ?_
    refine d_load rfl (o_load1 rfl rfl rfl sh3 rfl (o_nil rfl)) ?_
    refine d_plain (o_move rfl (o_nil rfl)) ?_
    refine d_plain (o_move rfl (o_nil rfl)) ?_
    refine d_callR rfl (ret21 hi n (b - a + 1) (by omega) (by omega)) (.int _ _) (.lrefl _) ?_
    refine d_plain (o_add rfl rfl rfl (by unfold I64; omega) (o_nil rfl)) ?_
    refine d_plain (o_assign rfl (o_nil rfl)) ?_
    refine d_nil ?_
    refine k_ret ?_
    refine ⟨.inr rfl, _, .cons _ _ _ _ (.tmp 4) .nil, ?_⟩
    exact .refl _
def pouK (b : Bk) (bits : List Int) (i s : Nat) : Nat → Int
  | 0 => 0
  | k + 1 => pouK b bits i s k + drawI (ltI b false i) (ltI b true i) (nthI bits (s + k + 1))
def nxI (l : List Int) : Nat → Nat
  | 0 => 0
  | i + 1 => nxI l i + ((l[i]?).getD 0).toNat
def pouI (b : Bk) (l bits : List Int) : Nat → Int
  | 0 => 0
  | i + 1 => pouI b l bits i + pouK b bits i (nxI l i) ((l[i]?).getD 0).toNat
def lowI (b : Bk) (s : Bool) (l : List Int) : Nat → Int
  | 0 => 0
  | i + 1 => lowI b s l i + (l[i]?).getD 0 * ltI b s i
theorem lt_le {b : Bk} (hb : Ok b) (i : Nat) : ltI b false i ≤ ltI b true i := by
  unfold ltI
  cases h : b.lots[i]? with
  | none => exact Int.le_refl _
  | some q => have := hb.lots q (List.mem_of_getElem? h); show q.b ≤ q.c; omega
theorem pouK_b {b : Bk} (hb : Ok b) (bits : List Int) (i s k : Nat) : (k : Int) * ltI b false i ≤ pouK b bits i s k ∧ pouK b bits i s k ≤ (k : Int) * ltI b true i := by
  induction k with
  | zero => unfold pouK; simp
  | succ k ih =>
    have h := draw_b (nthI bits (s + k + 1)) (lt_le hb i)
    have e1 : ((k + 1 : Nat) : Int) * ltI b false i = (k : Int) * ltI b false i + ltI b false i := by rw [Int.natCast_succ, Int.add_mul, Int.one_mul]
    have e2 : ((k + 1 : Nat) : Int) * ltI b true i = (k : Int) * ltI b true i + ltI b true i := by rw [Int.natCast_succ, Int.add_mul, Int.one_mul]
    rw [e1, e2]
    show _ ≤ pouK b bits i s k + _ ∧ pouK b bits i s k + _ ≤ _
    omega
theorem pouI_b {b : Bk} (hb : Ok b) (l bits : List Int) (hx : ∀ x ∈ l, 0 ≤ x ∧ x ≤ 6) (i : Nat) : lowI b false l i ≤ pouI b l bits i ∧ pouI b l bits i ≤ lowI b true l i ∧ 0 ≤ lowI b false l i ∧ lowI b true l i ≤ 6000 * i := by
  induction i with
  | zero => exact ⟨Int.le_refl _, Int.le_refl _, Int.le_refl _, Int.le_refl _⟩
  | succ i ih =>
    have h := pouK_b hb bits i (nxI l i) ((l[i]?).getD 0).toNat
    have hn : 0 ≤ (l[i]?).getD 0 ∧ (l[i]?).getD 0 ≤ 6 := by
      cases h : l[i]? with
      | none => simp
      | some x => exact hx x (List.mem_of_getElem? h)
    rw [show ((((l[i]?).getD 0).toNat : Nat) : Int) = (l[i]?).getD 0 by omega] at h
    have h1 := lt_b hb false i
    have h2 := lt_b hb true i
    have m1 := Int.mul_nonneg hn.1 h1.1
    have m2 := Int.mul_le_mul hn.2 h2.2 h2.1 (by decide)
    show lowI b false l i + _ ≤ pouI b l bits i + _ ∧ pouI b l bits i + _ ≤ lowI b true l i + _ ∧ 0 ≤ lowI b false l i + _ ∧ lowI b true l i + _ ≤ _
    omega
theorem nx_le (l : List Int) (hx : ∀ x ∈ l, 0 ≤ x ∧ x ≤ 6) (i : Nat) : nxI l i ≤ 6 * i := by
  induction i with
  | zero => exact Nat.le_refl _
  | succ i ih =>
    have hn : 0 ≤ (l[i]?).getD 0 ∧ (l[i]?).getD 0 ≤ 6 := by
      cases h : l[i]? with
      | none => simp
      | some x => exact hx x (List.mem_of_getElem? h)
    show nxI l i + _ ≤ _; omega
set_option maxHeartbeats 8000000 in
theorem ret22 (hi : Off is) {b : Bk} (hb : Ok b) (l bits : List Int) (hl : l.length = b.lots.length) (hx : ∀ x ∈ l, 0 ≤ x ∧ x ≤ 6) : RetP Tryz.prog is orc 22 [b.u, .lst .ro 1 (intsU l), .lst .ro 1 (intsU bits)] (.int .i64 (pouI b l bits l.length)) := by
  refine ret_of body22 pure22 (hi 22 (by decide)) rfl rfl (dat_l3 (dat_bk b 5) (dat_ints 6 .ro (fun h => by cases h) 1 l) (dat_ints 6 .ro (fun h => by cases h) 1 bits)) (.inl (.int _ _ _)) ?_
  have hnl := hb.nl
  refine k_seq (k_region ?_)
  refine o_box rfl rfl ?_
  refine o_assign rfl ?_
  refine o_nil ?_
  refine k_gen [(1, U.lst Kd.ro 1 (intsU l)), (2, U.lst Kd.ro 1 (intsU bits)), (3, U.box 0 0)] ([SB.box [U.lst Kd.ro 3 (trisU (Bk.lots b)), .int .i64 (Bk.tlo b), .int .i64 (Bk.thi b), .int .i64 (Bk.thick b), .int .i64 (Bk.crack b), .int .i64 (Bk.glo b), .int .i64 (Bk.ghi b), U.lst Kd.ro 2 (twosU (Bk.thins b)), .int .i64 (Bk.hot b), .int .i64 (Bk.least b), .int .i64 (Bk.clo b), .int .i64 (Bk.chi b), .int .i64 (Bk.coal b), U.lst Kd.ro 3 (trisU (Bk.looks b))]]) (.cons rfl (.cons rfl (.cons rfl (.nil rfl)))) rfl fun fr => ?_
  refine k_seq (k_region ?_)
  refine o_assign rfl ?_
  refine o_assign rfl ?_
  refine o_nil ?_
  refine k_seq ?_
  refine k_seq (k_region ?_)
  refine o_assign rfl ?_
  refine o_nil ?_
  refine k_block ?_
  refine k_loop (fun k st => ∃ (i : Nat), k + i = l.length ∧ st.st = [.box b.cs] ∧ Holds st [(1, .lst .ro 1 (intsU l)), (2, .lst .ro 1 (intsU bits)), (3, .box 0 0), (7, .int .i64 (pouI b l bits i)), (8, .int .i64 (nxI l i)), (9, .int .i64 i)]) (fun k st hI => ?_) l.length _ ?_
  · obtain ⟨i, hki, hst, hs⟩ := hI
    refine k_gen _ _ hs hst fun fr => ?_
    have hpb := pouI_b hb l bits hx i
    have hnx := nx_le l hx i
    by_cases hil : i < l.length
    · obtain ⟨x, hxi⟩ : ∃ x, l[i]? = some x := ⟨l[i], List.getElem?_eq_getElem hil⟩
      obtain ⟨q, hq⟩ : ∃ q, b.lots[i]? = some q := ⟨b.lots[i]'(by omega), List.getElem?_eq_getElem (by omega)⟩
      have hqb := hb.lots q (List.mem_of_getElem? hq)
      have hxb := hx x (List.mem_of_getElem? hxi)
      have e1 : ltI b false i = q.b := by unfold ltI; rw [hq]; rfl
      have e2 : ltI b true i = q.c := by unfold ltI; rw [hq]; rfl
      have hpo : pouI b l bits (i + 1) = pouI b l bits i + pouK b bits i (nxI l i) x.toNat := by show _ + pouK b bits i (nxI l i) ((l[i]?).getD 0).toNat = _; rw [hxi]; rfl
      have hne : nxI l (i + 1) = nxI l i + x.toNat := by show _ + ((l[i]?).getD 0).toNat = _; rw [hxi]; rfl
      refine k_seq ?_
      refine k_seq (k_region ?_)
      refine o_move rfl ?_
      refine o_move rfl ?_
      refine o_len rfl ty29 rfl (List.length_map _) ?_
      refine o_lss rfl rfl rfl ?_
      refine o_nil ?_
      refine k_cT rfl (decide_eq_true (by omega)) ?_
      refine k_skip ?_
      refine k_seq ?_
      refine k_block ?_
      refine k_seq (k_region ?_)
      refine o_assign rfl ?_
      refine o_nil ?_
      refine k_block ?_
      refine k_loop (fun k st => ∃ (c : Nat), k + c = x.toNat ∧ st.st = [.box b.cs] ∧ Holds st [(1, .lst .ro 1 (intsU l)), (2, .lst .ro 1 (intsU bits)), (3, .box 0 0), (7, .int .i64 (pouI b l bits i + pouK b bits i (nxI l i) c)), (8, .int .i64 (nxI l i + c : Nat)), (9, .int .i64 i), (10, .int .i64 c)]) (fun k2 st2 hI2 => ?_) x.toNat _ ?_
      · obtain ⟨c, hkc, hst2, hs2⟩ := hI2
        have hkb := pouK_b hb bits i (nxI l i) c
        have hc6 : (c : Int) ≤ 6 := by omega
        have m1 := Int.mul_nonneg (Int.natCast_nonneg c) (lt_b hb false i).1
        have m2 := Int.mul_le_mul hc6 (lt_b hb true i).2 (lt_b hb true i).1 (by decide)
        refine k_gen _ _ hs2 hst2 fun fr => ?_
        by_cases hcx : c < x.toNat
        · have hdb := draw_b (nthI bits (nxI l i + c + 1)) (show q.b ≤ q.c by omega)
          have hks : pouK b bits i (nxI l i) (c + 1) = pouK b bits i (nxI l i) c + drawI q.b q.c (nthI bits (nxI l i + c + 1)) := by show _ + drawI (ltI b false i) (ltI b true i) _ = _; rw [e1, e2]
          refine k_seq ?_
          refine k_seq (k_region ?_)
          refine o_move rfl ?_
          refine o_move rfl ?_
          refine o_move rfl ?_
          refine o_idx (u := .int .i64 (x)) rfl ty29 rfl rfl (Int.natCast_nonneg _) (by simp [hxi]) cl3 ?_
          refine o_loadR1 rfl rfl sh3 rfl ?_
          refine o_lss rfl rfl rfl ?_
          refine o_nil ?_
          refine k_cT rfl (decide_eq_true (by omega)) ?_
          refine k_skip ?_
          refine k_seq ?_
          refine k_block ?_
          refine k_seq (k_region ?_)
          refine o_move rfl ?_
          refine o_add rfl rfl rfl (by unfold I64; omega) ?_
          refine o_assign rfl ?_
          refine o_nil ?_
          refine k_draw [.plain, .plain, .read true, .plain, .plain, .plain, .read true, .plain, .plain, .read false, .plain, .plain, .plain] (by kernel_rfl) (by kernel_rfl) (by kernel_rfl) ?_
          refine d_plain (o_move rfl (o_nil rfl)) ?_
          refine d_plain (o_faddr rfl rfl fld28_0 (o_nil rfl)) ?_
          refine d_load rfl (o_load1 rfl rfl rfl sh22 rfl (o_nil rfl)) ?_
          refine d_plain (o_move rfl (o_nil rfl)) ?_
          refine d_plain (o_idx (u := (q).u) rfl ty22 rfl rfl (Int.natCast_nonneg _) (by simp [hq]) cl54 (o_nil rfl)) ?_
          refine d_plain (o_faddrR rfl rfl fld54_1 (o_nil rfl)) ?_
          refine d_load rfl (o_loadRN rfl rfl sh24 rfl (o_nil rfl)) ?_
          refine d_plain (o_move rfl (o_nil rfl)) ?_
          refine d_plain (o_move rfl (o_nil rfl)) ?_
          refine d_genA [(1, U.lst Kd.ro 1 (intsU l)), (2, U.lst Kd.ro 1 (intsU bits)), (3, U.box 0 0), (8, .int .i64 (↑(nxI l i + c) + (1 : Int))), (9, .int .i64 ↑i), (10, .int .i64 ↑c), (27, .int .i64 (pouI b l bits i + pouK b bits i (nxI l i) c)), (33, U.agg [.int .i64 (Tri.b q), .int .i64 (Tri.c q)]), (34, U.lst Kd.ro 1 (intsU bits)), (35, .int .i64 (↑(nxI l i + c) + (1 : Int)))] [] ([SB.box (Bk.cs b)]) (.cons rfl (.cons rfl (.cons rfl (.cons rfl (.cons rfl (.cons rfl (.cons rfl (.cons rfl (.cons rfl (.cons rfl (.nil rfl))))))))))) rfl rfl fun fr => ?_
          refine d_callR rfl (ret54 hi bits (nxI l i + c + 1)) (.int _ _) (.lrefl _) ?_
          refine d_plain (o_call rfl (ret53 hi q.b q.c (nthI bits (nxI l i + c + 1)) (by omega)) (.lrefl _) (o_nil rfl)) ?_
          refine d_plain (o_add rfl rfl rfl (by unfold I64; omega) (o_nil rfl)) ?_
          refine d_plain (o_assign rfl (o_nil rfl)) ?_
          refine d_nil ?_
          refine k_gen [(1, U.lst Kd.ro 1 (intsU l)), (2, U.lst Kd.ro 1 (intsU bits)), (3, U.box 0 0), (7, .int .i64 (pouI b l bits i + pouK b bits i (nxI l i) c + drawI (Tri.b q) (Tri.c q) (nthI bits (nxI l i + c + 1)))), (8, .int .i64 (↑(nxI l i + c) + (1 : Int))), (9, .int .i64 ↑i), (10, .int .i64 ↑c)] ([SB.box (Bk.cs b)]) (.cons rfl (.cons rfl (.cons rfl (.cons rfl (.cons rfl (.cons rfl (.cons rfl (.nil rfl)))))))) rfl fun fr => ?_
          refine k_region ?_
          refine o_move rfl ?_
          refine o_add rfl rfl rfl (by unfold I64; omega) ?_
          refine o_assign rfl ?_
          refine o_nil ?_
          exact ⟨k2 - 1, by omega, c + 1, by omega, rfl, .cons rfl (.cons rfl (.cons rfl (.cons (congrArg (U.int .i64) (by rw [hks]; omega)) (.cons (congrArg (U.int .i64) (by omega)) (.cons rfl (.cons rfl (.nil rfl)))))))⟩
        · have hcx : c = x.toNat := by omega
          subst hcx
          refine k_seq ?_
          refine k_seq (k_region ?_)
          refine o_move rfl ?_
          refine o_move rfl ?_
          refine o_move rfl ?_
          refine o_idx (u := .int .i64 (x)) rfl ty29 rfl rfl (Int.natCast_nonneg _) (by simp [hxi]) cl3 ?_
          refine o_loadR1 rfl rfl sh3 rfl ?_
          refine o_lss rfl rfl rfl ?_
          refine o_nil ?_
          refine k_cF rfl (decide_eq_false (by omega)) ?_
          refine k_exit ?_
          refine k_region ?_
          refine o_move rfl ?_
          refine o_add rfl rfl rfl (by unfold I64; omega) ?_
          refine o_assign rfl ?_
          refine o_nil ?_
          exact ⟨k - 1, by omega, i + 1, by omega, rfl, .cons rfl (.cons rfl (.cons rfl (.cons (congrArg (U.int .i64) hpo.symm) (.cons (congrArg (fun n : Nat => U.int .i64 (n : Int)) hne.symm) (.cons rfl (.nil rfl))))))⟩
      · exact ⟨0, by omega, rfl, .cons rfl (.cons rfl (.cons rfl (.cons (congrArg (U.int .i64) (by show _ = _ + (0 : Int); omega)) (.cons rfl (.cons rfl (.cons rfl (.nil rfl)))))))⟩
    · have hil : i = l.length := by omega
      subst hil
      refine k_seq ?_
      refine k_seq (k_region ?_)
      refine o_move rfl ?_
      refine o_move rfl ?_
      refine o_len rfl ty29 rfl (List.length_map _) ?_
      refine o_lss rfl rfl rfl ?_
      refine o_nil ?_
      refine k_cF rfl (decide_eq_false (by omega)) ?_
      refine k_exit ?_
      refine k_seq (k_region ?_)
      refine o_move rfl ?_
      refine o_assign rfl ?_
      refine o_nil ?_
      refine k_ret ?_
      refine ⟨.inr rfl, _, .cons _ _ _ _ (.tmp 6) .nil, ?_⟩
      exact .refl _
  · exact ⟨0, by omega, rfl, .cons rfl (.cons rfl (.cons rfl (.cons rfl (.cons rfl (.cons rfl (.nil rfl))))))⟩
set_option maxHeartbeats 8000000 in
theorem ret23 (hi : Off is) {b : Bk} (hb : Ok b) (l : List Int) (hl : l.length = b.lots.length) (hx : ∀ (i : Nat) (x : Int) (q : Tri), l[i]? = some x → b.lots[i]? = some q → 0 ≤ x ∧ x ≤ q.a) (hx6 : ∀ x ∈ l, 0 ≤ x ∧ x ≤ 6) (hs : 0 < sumI l) : RetP Tryz.prog is orc 23 [b.u, .lst .ro 1 (intsU l)] (.bool true) := by
  refine ret_of body23 pure23 (hi 23 (by decide)) rfl rfl (dat_l2 (dat_bk b 5) (dat_ints 6 .ro (fun h => by cases h) 1 l)) (.inl (.bool _ _)) ?_
  have hnl := hb.nl
  refine k_seq (k_region ?_)
  refine o_box rfl rfl ?_
  refine o_assign rfl ?_
  refine o_nil ?_
  refine k_gen [(1, U.lst Kd.ro 1 (intsU l)), (2, U.box 0 0)] ([SB.box [U.lst Kd.ro 3 (trisU (Bk.lots b)), .int .i64 (Bk.tlo b), .int .i64 (Bk.thi b), .int .i64 (Bk.thick b), .int .i64 (Bk.crack b), .int .i64 (Bk.glo b), .int .i64 (Bk.ghi b), U.lst Kd.ro 2 (twosU (Bk.thins b)), .int .i64 (Bk.hot b), .int .i64 (Bk.least b), .int .i64 (Bk.clo b), .int .i64 (Bk.chi b), .int .i64 (Bk.coal b), U.lst Kd.ro 3 (trisU (Bk.looks b))]]) (.cons rfl (.cons rfl (.nil rfl))) rfl fun fr => ?_
  refine k_seq (k_region ?_)
  refine o_move rfl ?_
  refine o_len rfl ty29 rfl (List.length_map _) ?_
  refine o_faddr rfl rfl fld28_0 ?_
  refine o_load1 rfl rfl rfl sh22 rfl ?_
  refine o_len rfl ty22 rfl (List.length_map _) ?_
  refine o_eql rfl rfl rfl ?_
  refine o_assign rfl ?_
  refine o_nil ?_
  refine k_seq ?_
  refine k_seq (k_region ?_)
  refine o_assign rfl ?_
  refine o_nil ?_
  refine k_block ?_
  refine k_loop (fun k st => ∃ (i : Nat), k + i = l.length ∧ st.st = [.box b.cs] ∧ Holds st [(1, .lst .ro 1 (intsU l)), (2, .box 0 0), (5, .bool true), (6, .int .i64 i)]) (fun k st hI => ?_) l.length _ ?_
  · obtain ⟨i, hki, hst, hs2⟩ := hI
    refine k_gen _ _ hs2 hst fun fr => ?_
    by_cases hil : i < l.length
    · obtain ⟨x, hxi⟩ : ∃ x, l[i]? = some x := ⟨l[i], List.getElem?_eq_getElem hil⟩
      obtain ⟨q, hq⟩ : ∃ q, b.lots[i]? = some q := ⟨b.lots[i]'(by omega), List.getElem?_eq_getElem (by omega)⟩
      have hxb := hx i x q hxi hq
      have q25 : RetP Tryz.prog is orc 25 [.int .i64 x, .int .i64 0, .int .i64 q.a] (.bool true) := by
        have := ret25 (orc := orc) hi x 0 q.a
        rwa [show (decide (0 ≤ x) && decide (x ≤ q.a)) = true by simp; omega] at this
      refine k_seq ?_
      refine k_seq (k_region ?_)
      refine o_move rfl ?_
      refine o_move rfl ?_
      refine o_gD rfl rfl rfl rfl rfl ?_
      refine o_move rfl ?_
      refine o_gD rfl rfl rfl rfl rfl ?_
      refine o_move rfl ?_
      refine o_gD rfl rfl rfl rfl rfl ?_
      refine o_len rfl ty29 rfl (List.length_map _) ?_
      refine o_gD rfl rfl rfl rfl rfl ?_
      refine o_lss rfl rfl rfl ?_
      refine o_pickT rfl rfl rfl ?_
      refine o_nil ?_
      refine k_cT rfl (decide_eq_true (by omega)) ?_
      refine k_skip ?_
      refine k_seq ?_
      refine k_block ?_
      refine k_draw [.plain, .plain, .plain, .read true, .plain, .read true, .plain, .plain, .plain, .read true, .plain, .plain] (by kernel_rfl) (by kernel_rfl) (by kernel_rfl) ?_
      refine d_plain (o_move rfl (o_nil rfl)) ?_
      refine d_plain (o_move rfl (o_nil rfl)) ?_
      refine d_plain (o_idx (u := .int .i64 (x)) rfl ty29 rfl rfl (Int.natCast_nonneg _) (by simp [hxi]) cl3 (o_nil rfl)) ?_
      refine d_load rfl (o_loadR1 rfl rfl sh3 rfl (o_nil rfl)) ?_
      refine d_plain (o_faddr rfl rfl fld28_0 (o_nil rfl)) ?_
      refine d_load rfl (o_load1 rfl rfl rfl sh22 rfl (o_nil rfl)) ?_
      refine d_plain (o_move rfl (o_nil rfl)) ?_
      refine d_plain (o_idx (u := (q).u) rfl ty22 rfl rfl (Int.natCast_nonneg _) (by simp [hq]) cl54 (o_nil rfl)) ?_
      refine d_plain (o_faddrR rfl rfl fld54_0 (o_nil rfl)) ?_
      refine d_load rfl (o_loadR1 rfl rfl sh3 rfl (o_nil rfl)) ?_
      refine d_plain (o_call rfl (q25) (.lrefl _) (o_nil rfl)) ?_
      refine d_plain (o_assign rfl (o_nil rfl)) ?_
      refine d_nil ?_
      refine k_region ?_
      refine o_move rfl ?_
      refine o_add rfl rfl rfl (by unfold I64; omega) ?_
      refine o_assign rfl ?_
      refine o_nil ?_
      exact ⟨k - 1, by omega, i + 1, by omega, rfl, .cons rfl (.cons rfl (.cons rfl (.cons rfl (.nil rfl))))⟩
    · have hil : i = l.length := by omega
      subst hil
      refine k_seq ?_
      refine k_seq (k_region ?_)
      refine o_move rfl ?_
      refine o_move rfl ?_
      refine o_gD rfl rfl rfl rfl rfl ?_
      refine o_move rfl ?_
      refine o_gD rfl rfl rfl rfl rfl ?_
      refine o_move rfl ?_
      refine o_gD rfl rfl rfl rfl rfl ?_
      refine o_len rfl ty29 rfl (List.length_map _) ?_
      refine o_gD rfl rfl rfl rfl rfl ?_
      refine o_lss rfl rfl rfl ?_
      refine o_pickT rfl rfl rfl ?_
      refine o_nil ?_
      refine k_cF rfl (decide_eq_false (by omega)) ?_
      refine k_exit ?_
      refine k_seq (k_region ?_)
      refine o_move rfl ?_
      refine o_move rfl ?_
      refine o_gD rfl rfl rfl rfl rfl ?_
      refine o_move rfl ?_
      refine o_gD rfl rfl rfl rfl rfl ?_
      refine o_call rfl (ret24 hi l (by omega) (fun x h => by have := hx6 x h; omega)) (.lrefl _) ?_
      refine o_gD rfl rfl rfl rfl rfl ?_
      refine o_gtr rfl rfl rfl ?_
      refine o_pickT rfl rfl rfl ?_
      refine o_assign rfl ?_
      refine o_nil ?_
      refine k_ret ?_
      refine ⟨.inr rfl, _, .cons _ _ _ _ (.tmp 4) .nil, ?_⟩
      show UW (.u (.bool (decide (sumI l > 0)))) _
      rw [decide_eq_true (show sumI l > 0 from hs)]; exact .refl _
  · exact ⟨0, by omega, rfl, .cons rfl (.cons rfl (.cons (congrArg U.bool (decide_eq_true (by omega))) (.cons rfl (.nil rfl))))⟩
noncomputable def b5 : Code := (Tryz.f5.body).getD .skip
theorem body5 : bodyOf Tryz.prog 5 = some (166, b5, [.tmp 6]) := by kernel_rfl
theorem pure5 : pureFn Tryz.prog 5 = true := by kernel_rfl
theorem low_tin (b : Bk) (s : Bool) {l : List Int} (hl : l.length ≤ 4) : lowI b s l l.length = tinI b s (askQ l) := by
  match l, hl with
  | [], _ => simp [lowI, tinI, askQ]
  | [_], _ => simp [lowI, tinI, askQ]
  | [_, _], _ => simp [lowI, tinI, askQ]
  | [_, _, _], _ => simp [lowI, tinI, askQ]
  | [_, _, _, _], _ => simp [lowI, tinI, askQ]
  | _ :: _ :: _ :: _ :: _ :: _, h => simp at h
theorem sum_ask {l : List Int} (hl : l.length ≤ 4) : (askQ l).a + (askQ l).b + (askQ l).c + (askQ l).d = sumI l := by
  match l, hl with
  | [], _ => simp [sumI, askQ]
  | [_], _ => simp [sumI, askQ]
  | [_, _], _ => simp [sumI, askQ]
  | [_, _, _], _ => simp [sumI, askQ]
  | [_, _, _, _], _ => simp [sumI, askQ]
  | _ :: _ :: _ :: _ :: _ :: _, h => simp at h
theorem ask_at (l : List Int) {i : Nat} (h : i < 4) : (askQ l).at i = (l[i]?).getD 0 := by
  have e : i = 0 ∨ i = 1 ∨ i = 2 ∨ i = 3 := by omega
  rcases e with rfl | rfl | rfl | rfl <;> rfl
theorem sto_at (b : Bk) {i : Nat} (h : i < 4) : (stoQ b).at i = stk b b.lots.length i := by
  have e : i = 0 ∨ i = 1 ∨ i = 2 ∨ i = 3 := by omega
  rcases e with rfl | rfl | rfl | rfl <;> rfl
theorem stk_at {b : Bk} {i : Nat} {t : Tri} (h : b.lots[i]? = some t) : stk b b.lots.length i = t.a := by
  unfold stk; rw [if_pos (List.getElem?_eq_some_iff.1 h).1, h]; rfl
theorem stk_out {b : Bk} {i : Nat} (h : b.lots.length ≤ i) : stk b b.lots.length i = 0 := by
  unfold stk; rw [if_neg (by omega)]
theorem lst_len (q : Qd) {n : Nat} (h : n ≤ 4) : (lstQ q n).length = n := by unfold lstQ; simp; omega
theorem lst_ask {q : Qd} {n : Nat} (h : n ≤ 4) (h0 : ∀ i, n ≤ i → i < 4 → q.at i = 0) : askQ (lstQ q n) = q := by
  refine Qd.ext4 fun i hi => ?_
  rw [ask_at _ hi]
  by_cases hin : i < n
  · unfold lstQ
    rw [List.getElem?_take_of_lt hin]
    have e : i = 0 ∨ i = 1 ∨ i = 2 ∨ i = 3 := by omega
    rcases e with rfl | rfl | rfl | rfl <;> rfl
  · rw [h0 i (by omega) hi, List.getElem?_eq_none (by rw [lst_len q h]; omega)]; rfl
theorem cast_facts {b : Bk} (hb : Ok b) {s : Int} {q : Qd} (h : q ∈ rights b (stoQ b) s) :
    (lstQ q b.lots.length).length = b.lots.length ∧ (∀ (i : Nat) (x : Int) (t : Tri), (lstQ q b.lots.length)[i]? = some x → b.lots[i]? = some t → 0 ≤ x ∧ x ≤ t.a) ∧ (∀ x ∈ lstQ q b.lots.length, 0 ≤ x ∧ x ≤ 6) ∧ sumI (lstQ q b.lots.length) = s ∧ s * b.tlo ≤ tinI b false q ∧ tinI b true q ≤ s * b.thi ∧ askQ (lstQ q b.lots.length) = q := by
  have hnl := hb.nl
  obtain ⟨⟨h1, h2, _⟩, h4⟩ := mem_rights.1 h
  have ha : askQ (lstQ q b.lots.length) = q := lst_ask hnl.2 fun i hi hi4 => by
    have := h1 i hi4
    rw [sto_at b hi4, stk_out hi] at this; omega
  have hl := lst_len q hnl.2
  have hx : ∀ (i : Nat) (x : Int) (t : Tri), (lstQ q b.lots.length)[i]? = some x → b.lots[i]? = some t → 0 ≤ x ∧ x ≤ t.a := fun i x t hx ht => by
    have hi : i < b.lots.length := (List.getElem?_eq_some_iff.1 ht).1
    have := h1 i (by omega)
    rw [sto_at b (by omega), stk_at ht, ← ha, ask_at _ (by omega), hx] at this
    exact this
  have h4' : keptI b s false q = true ∧ keptI b s true q = true := by
    unfold rightI at h4; rwa [Bool.and_eq_true] at h4
  have k1 : tinI b false q ≥ s * b.tlo := of_decide_eq_true h4'.1
  have k2 : tinI b true q ≤ s * b.thi := of_decide_eq_true h4'.2
  refine ⟨hl, hx, fun x hm => ?_, ?_, k1, k2, ha⟩
  · obtain ⟨i, hi⟩ := List.mem_iff_getElem?.1 hm
    have hil := (List.getElem?_eq_some_iff.1 hi).1
    obtain ⟨t, ht⟩ : ∃ t, b.lots[i]? = some t := ⟨b.lots[i]'(by omega), List.getElem?_eq_getElem (by omega)⟩
    have := hx i x t hi ht
    have := hb.lots t (List.mem_of_getElem? ht)
    omega
  · rw [← sum_ask (by omega), ha]; exact h2
theorem tak_at {b : Bk} (hb : Ok b) (bits : List Int) {i : Nat} (hi : i < 4) : 0 ≤ (askQ (takI b bits b.lots.length)).at i ∧ (askQ (takI b bits b.lots.length)).at i ≤ (stoQ b).at i := by
  rw [ask_at _ hi, sto_at b hi]
  by_cases h : i < b.lots.length
  · obtain ⟨t, ht⟩ : ∃ t, b.lots[i]? = some t := ⟨b.lots[i], List.getElem?_eq_getElem h⟩
    have hq := hb.lots t (List.mem_of_getElem? ht)
    have h1 := Int.emod_nonneg (nthI bits i) (show t.a + 1 ≠ 0 by omega)
    have h2 := Int.emod_lt_of_pos (nthI bits i) (show 0 < t.a + 1 by omega)
    rw [stk_at ht, show (takI b bits b.lots.length)[i]? = some (nthI bits i % (t.a + 1)) by unfold takI; rw [List.getElem?_map, List.getElem?_range h]; simp [ht]]
    show 0 ≤ nthI bits i % (t.a + 1) ∧ nthI bits i % (t.a + 1) ≤ t.a
    omega
  · rw [stk_out (by omega), List.getElem?_eq_none (by rw [tak_len]; omega)]; simp
theorem sum_bd {l : List Int} (hl : l.length ≤ 4) (hx : ∀ x ∈ l, 0 ≤ x ∧ x ≤ 6) : 0 ≤ sumI l ∧ sumI l ≤ 24 := by
  match l, hl with
  | [], _ => exact ⟨by decide, by decide⟩
  | [a], _ =>
    have := hx a (by simp)
    show 0 ≤ 0 + a ∧ 0 + a ≤ 24; omega
  | [a, b], _ =>
    have := hx a (by simp)
    have := hx b (by simp)
    show 0 ≤ 0 + a + b ∧ 0 + a + b ≤ 24; omega
  | [a, b, c], _ =>
    have := hx a (by simp)
    have := hx b (by simp)
    have := hx c (by simp)
    show 0 ≤ 0 + a + b + c ∧ 0 + a + b + c ≤ 24; omega
  | [a, b, c, d], _ =>
    have := hx a (by simp)
    have := hx b (by simp)
    have := hx c (by simp)
    have := hx d (by simp)
    show 0 ≤ 0 + a + b + c + d ∧ 0 + a + b + c + d ≤ 24; omega
  | _ :: _ :: _ :: _ :: _ :: _, h => simp at h
theorem isM_iff {b : Bk} {l : List Int} : isM b l = true ↔ askQ l ∈ rights b (stoQ b) (sumI l) := by
  unfold isM
  rw [List.any_eq_true]
  constructor
  · rintro ⟨q, hq, he⟩
    rw [eqQ_iff] at he; subst he; exact hq
  · intro h
    exact ⟨askQ l, h, eqQ_iff.2 rfl⟩
set_option maxHeartbeats 16000000 in
theorem ret5 (hi : Off is) (b : Bk) (many : Int) (bits : List Int) (r16 : RetP Tryz.prog is orc 16 [] (.bool true)) : RetP Tryz.prog is orc 5 [b.u, .int .i64 many, .lst .ro 1 (intsU bits)] (.bool true) := by
  refine ret_of body5 pure5 (hi 5 (by decide)) rfl rfl (dat_l3 (dat_bk b 5) (.int _ _ _) (dat_ints 6 .ro (fun h => by cases h) 1 bits)) (.inl (.bool _ _)) ?_
  by_cases hv : checkR b ≠ 0
  · refine k_seq (k_region ?_)
    refine o_box rfl rfl ?_
    refine o_assign rfl ?_
    refine o_nil ?_
    refine k_gen [(1, .int .i64 many), (2, U.lst Kd.ro 1 (intsU bits)), (3, U.box 0 0)] ([SB.box [U.lst Kd.ro 3 (trisU (Bk.lots b)), .int .i64 (Bk.tlo b), .int .i64 (Bk.thi b), .int .i64 (Bk.thick b), .int .i64 (Bk.crack b), .int .i64 (Bk.glo b), .int .i64 (Bk.ghi b), U.lst Kd.ro 2 (twosU (Bk.thins b)), .int .i64 (Bk.hot b), .int .i64 (Bk.least b), .int .i64 (Bk.clo b), .int .i64 (Bk.chi b), .int .i64 (Bk.coal b), U.lst Kd.ro 3 (trisU (Bk.looks b))]]) (.cons rfl (.cons rfl (.cons rfl (.nil rfl)))) rfl fun fr => ?_
    refine k_seq ?_
    refine k_seq (k_region ?_)
    refine o_loadN rfl rfl rfl sh28 rfl ?_
    refine o_call rfl (ret20n hi hv) (.lrefl _) ?_
    refine o_not rfl rfl ?_
    refine o_nil ?_
    refine k_cT rfl rfl ?_
    refine k_seq (k_region ?_)
    refine o_call rfl (r16) (.lrefl _) ?_
    refine o_assign rfl ?_
    refine o_nil ?_
    refine k_ret ?_
    refine ⟨.inr rfl, _, .cons _ _ _ _ (.tmp 6) .nil, ?_⟩
    exact .refl _
  · have hk := checkR_ok hv
    have hnl := hk.nl
    have htn := hk.tin
    have q21 := ret21 (orc := orc) hi many 24 (by omega) (by omega)
    have hm24 : 0 ≤ many % 24 ∧ many % 24 < 24 := by omega
    generalize many % 24 = m0 at q21 hm24
    have q11 := ret11 (orc := orc) hi hk (1 + m0) (by omega)
    have hs1 : 1 ≤ 1 + m0 ∧ 1 + m0 ≤ 24 := by omega
    have q26 := ret26 (orc := orc) hi hk bits
    have hTl := tak_len b bits b.lots.length
    have hTx := tak_b hk bits b.lots.length
    have hTa := fun i (hi : i < 4) => tak_at hk bits hi
    generalize takI b bits b.lots.length = T at q26 hTl hTx hTa
    have hTs := sum_bd (by omega) hTx
    have hTq := sum_ask (l := T) (by omega)
    have q7 := ret7 (orc := orc) hi hk T hTl hTx hTs
    have q24 := ret24 (orc := orc) hi T (by omega) (fun x h => by have := hTx x h; omega)
    have q22 := ret22 (orc := orc) hi hk T bits hTl hTx
    have hpo := pouI_b hk T bits hTx T.length
    have lo1 := low_tin b false (l := T) (by omega)
    have lo2 := low_tin b true (l := T) (by omega)
    have ms1 := mul_qb (x := sumI T) hTs (y := b.tlo) (by omega)
    have ms2 := mul_qb (x := sumI T) hTs (y := b.thi) (by omega)
    have mz1 := mul_qb (x := 1 + m0) (by omega) (y := b.tlo) (by omega)
    have mz2 := mul_qb (x := 1 + m0) (by omega) (y := b.thi) (by omega)
    have hnn : ∀ i, i < 4 → 0 ≤ (askQ T).at i := fun i h => (hTa i h).1
    have hm0 : sumI T = 0 → isM b T = false := fun h0 => by
      cases hh : isM b T with
      | false => rfl
      | true =>
        have h1 := (mem_rights.1 (isM_iff.1 hh)).1
        refine absurd ?_ h1.2.2
        have a0 := hnn 0 (by omega)
        have a1 := hnn 1 (by omega)
        have a2 := hnn 2 (by omega)
        have a3 := hnn 3 (by omega)
        have hq : 0 ≤ (askQ T).a ∧ 0 ≤ (askQ T).b ∧ 0 ≤ (askQ T).c ∧ 0 ≤ (askQ T).d := ⟨a0, a1, a2, a3⟩
        refine Qd.ext4 fun i hi => ?_
        have e : i = 0 ∨ i = 1 ∨ i = 2 ∨ i = 3 := by omega
        rcases e with rfl | rfl | rfl | rfl
        · show (askQ T).a = 0; omega
        · show (askQ T).b = 0; omega
        · show (askQ T).c = 0; omega
        · show (askQ T).d = 0; omega
    have hyes : isM b T = true → sumI T * b.tlo ≤ lowI b false T T.length ∧ lowI b true T T.length ≤ sumI T * b.thi := fun hh => by
      have h4 := (mem_rights.1 (isM_iff.1 hh)).2
      unfold rightI at h4
      rw [Bool.and_eq_true] at h4
      have k1 : tinI b false (askQ T) ≥ sumI T * b.tlo := of_decide_eq_true h4.1
      have k2 : tinI b true (askQ T) ≤ sumI T * b.thi := of_decide_eq_true h4.2
      omega
    have hno : isM b T = false → 0 < sumI T → lowI b false T T.length < sumI T * b.tlo ∨ sumI T * b.thi < lowI b true T T.length := fun hh hs => by
      by_cases c1 : lowI b false T T.length < sumI T * b.tlo
      · exact .inl c1
      · by_cases c2 : sumI T * b.thi < lowI b true T T.length
        · exact .inr c2
        · exfalso
          have : isM b T = true := isM_iff.2 (mem_rights.2 ⟨⟨fun i h => hTa i h, hTq, fun hz => by
            rw [hz] at hTq
            have : (0 : Int) = sumI T := hTq
            omega⟩, by
            unfold rightI
            rw [Bool.and_eq_true]
            exact ⟨decide_eq_true (show tinI b false (askQ T) ≥ sumI T * b.tlo by omega), decide_eq_true (show tinI b true (askQ T) ≤ sumI T * b.thi by omega)⟩⟩)
          rw [hh] at this; cases this
    have hpre : 0 ≤ lowI b false T T.length ∧ lowI b true T T.length ≤ 24000 := by omega
    have ap1 : 0 ≤ lowI b true T T.length := by omega
    refine k_seq ?_
    refine k_region ?_
    refine o_box rfl rfl ?_
    refine o_assign rfl ?_
    refine o_nil ?_
    refine k_seq ?_
    refine k_seq ?_
    refine k_region ?_
    refine o_loadN rfl rfl rfl sh28 rfl ?_
    refine o_call rfl (ret20 hi hk) (.lrefl _) ?_
    refine o_not rfl rfl ?_
    refine o_nil ?_
    refine k_cond rfl (fun h1 => by cases h1) (fun _ => ?_)
    refine k_skip ?_
    refine k_seq ?_
    refine k_region ?_
    refine o_move rfl ?_
    refine o_call rfl q21 (.lrefl _) ?_
    refine o_add (a := 1) (b := m0) rfl rfl rfl (by unfold I64; omega) ?_
    refine o_assign rfl ?_
    refine o_nil ?_
    refine k_seq ?_
    refine k_region ?_
    refine o_loadN rfl rfl rfl sh28 rfl ?_
    refine o_move rfl ?_
    refine o_call rfl q11 (.lrefl _) ?_
    refine o_move rfl ?_
    refine o_extract rfl rfl rfl ?_
    refine o_extract rfl rfl rfl ?_
    refine o_assign rfl ?_
    refine o_assign rfl ?_
    refine o_nil ?_
    refine k_gen [(2, .lst .ro 1 (intsU bits)), (3, .box 0 0), (7, .int .i64 (1 + m0)), (8, .lst .ro 1 (intsU (castL b (1 + m0)))), (9, .int .i64 (castE b (1 + m0)))] [.box b.cs] (.cons rfl (.cons rfl (.cons rfl (.cons rfl (.cons rfl (.nil rfl)))))) rfl fun fr => ?_
    refine k_cut (fun st => st.st = [.box b.cs] ∧ Holds st [(2, .lst .ro 1 (intsU bits)), (3, .box 0 0), (7, .int .i64 (1 + m0)), (8, .lst .ro 1 (intsU (castL b (1 + m0)))), (9, .int .i64 (castE b (1 + m0)))]) ?_ (fun st hM => ?_)
    · unfold castL castE
      cases hz : eqQ (castQ b (1 + m0)) zQ with
      | true =>
        rw [if_pos rfl, if_pos rfl]
        refine k_seq (k_region ?_)
        refine o_move rfl ?_
        refine o_neq rfl rfl rfl ?_
        refine o_move rfl ?_
        refine o_gD rfl rfl rfl rfl rfl ?_
        refine o_move rfl ?_
        refine o_gD rfl rfl rfl rfl rfl ?_
        refine o_neq rfl rfl rfl ?_
        refine o_gD rfl rfl rfl rfl rfl ?_
        refine o_move rfl ?_
        refine o_gD rfl rfl rfl rfl rfl ?_
        refine o_move rfl ?_
        refine o_gD rfl rfl rfl rfl rfl ?_
        refine o_len rfl ty29 rfl (List.length_map _) ?_
        refine o_gD rfl rfl rfl rfl rfl ?_
        refine o_neq rfl rfl rfl ?_
        refine o_gD rfl rfl rfl rfl rfl ?_
        refine o_pickF rfl rfl rfl ?_
        refine o_pickT rfl rfl rfl ?_
        refine o_nil ?_
        refine k_cF rfl rfl ?_
        refine k_skip ?_
        exact ⟨rfl, rfl, .cons rfl (.cons rfl (.cons rfl (.cons rfl (.cons rfl (.nil rfl)))))⟩
      | false =>
        rw [if_neg (by simp), if_neg (by simp)]
        refine k_seq (k_region ?_)
        refine o_move rfl ?_
        refine o_neq rfl rfl rfl ?_
        refine o_move rfl ?_
        refine o_gS rfl rfl rfl rfl rfl ?_
        refine o_gS rfl rfl rfl rfl rfl ?_
        refine o_gS rfl rfl rfl rfl rfl ?_
        refine o_dead rfl rfl rfl rfl ?_
        refine o_dead rfl rfl rfl rfl ?_
        refine o_dead rfl rfl rfl rfl ?_
        refine o_gS rfl rfl rfl rfl rfl ?_
        refine o_pickF rfl rfl rfl ?_
        refine o_nil ?_
        refine k_cF rfl rfl ?_
        refine k_skip ?_
        exact ⟨rfl, rfl, .cons rfl (.cons rfl (.cons rfl (.cons rfl (.cons rfl (.nil rfl)))))⟩
    obtain ⟨hst, hs⟩ := hM
    refine k_gen _ _ hs hst fun fr => ?_
    refine k_cut (fun st => st.st = [.box b.cs] ∧ Holds st [(2, .lst .ro 1 (intsU bits)), (3, .box 0 0)]) ?_ (fun st hM => ?_)
    · unfold castL castE
      cases hz : eqQ (castQ b (1 + m0)) zQ with
      | true =>
        rw [if_pos rfl, if_pos rfl]
        refine k_seq (k_region ?_)
        refine o_move rfl ?_
        refine o_eql rfl rfl rfl ?_
        refine o_nil ?_
        refine k_cF rfl rfl ?_
        refine k_skip ?_
        exact ⟨rfl, rfl, .cons rfl (.cons rfl (.nil rfl))⟩
      | false =>
        rw [if_neg (by simp), if_neg (by simp)]
        obtain ⟨c1, c2, c3, c4, c5, c6, c7⟩ := cast_facts hk (cast_some (b := b) (many := 1 + m0) (fun h => by rw [eqQ_iff.2 h] at hz; cases hz))
        generalize lstQ (castQ b (1 + m0)) b.lots.length = K at c1 c2 c3 c4 c7
        have d22 := ret22 (orc := orc) hi hk K bits c1 c3
        have d23 := ret23 (orc := orc) hi hk K c1 c2 c3 (by omega)
        have d24 := ret24 (orc := orc) hi K (by omega) (fun x h => by have := c3 x h; omega)
        rw [c4] at d24
        have dpo := pouI_b hk K bits c3 K.length
        have do1 := low_tin b false (l := K) (by omega)
        have do2 := low_tin b true (l := K) (by omega)
        rw [c7] at do1 do2
        generalize pouI b K bits K.length = tin at d22 dpo
        have d25 : RetP Tryz.prog is orc 25 [.int .i64 tin, .int .i64 ((1 + m0) * b.tlo), .int .i64 ((1 + m0) * b.thi)] (.bool true) := by
          have := ret25 (orc := orc) hi tin ((1 + m0) * b.tlo) ((1 + m0) * b.thi)
          rwa [show (decide ((1 + m0) * b.tlo ≤ tin) && decide (tin ≤ (1 + m0) * b.thi)) = true by simp; omega] at this
        refine k_seq (k_region ?_)
        refine o_move rfl ?_
        refine o_eql rfl rfl rfl ?_
        refine o_nil ?_
        refine k_cT rfl rfl ?_
        refine k_seq (k_region ?_)
        refine o_loadN rfl rfl rfl sh28 rfl ?_
        refine o_move rfl ?_
        refine o_move rfl ?_
        refine o_call rfl (d22) (.lrefl _) ?_
        refine o_assign rfl ?_
        refine o_nil ?_
        refine k_seq (k_region ?_)
        refine o_loadN rfl rfl rfl sh28 rfl ?_
        refine o_move rfl ?_
        refine o_call rfl (d23) (.lrefl _) ?_
        refine o_not rfl rfl ?_
        refine o_move rfl ?_
        refine o_gD rfl rfl rfl rfl rfl ?_
        refine o_move rfl ?_
        refine o_gD rfl rfl rfl rfl rfl ?_
        refine o_call rfl (d24) (.lrefl _) ?_
        refine o_gD rfl rfl rfl rfl rfl ?_
        refine o_move rfl ?_
        refine o_gD rfl rfl rfl rfl rfl ?_
        refine o_neq rfl rfl rfl ?_
        refine o_genA [(2, U.lst Kd.ro 1 (intsU bits)), (3, U.box 0 0), (7, .int .i64 ((1 : Int) + m0)), (10, .int .i64 tin), (52, U.bool !Bool.true), (56, U.bool (Decidable.decide ((1 : Int) + m0 ≠ (1 : Int) + m0)))] [] ([SB.box (Bk.cs b)]) (.cons rfl (.cons rfl (.cons rfl (.cons rfl (.cons rfl (.cons rfl (.nil rfl))))))) rfl rfl fun fr => ?_
        refine o_pickF rfl rfl rfl ?_
        refine o_move rfl ?_
        refine o_gD rfl rfl rfl rfl (decide_eq_false (by omega)) ?_
        refine o_move rfl ?_
        refine o_gD rfl rfl rfl rfl (decide_eq_false (by omega)) ?_
        refine o_move rfl ?_
        refine o_gD rfl rfl rfl rfl (decide_eq_false (by omega)) ?_
        refine o_faddr rfl rfl fld28_1 ?_
        refine o_gD rfl rfl rfl rfl (decide_eq_false (by omega)) ?_
        refine o_faddr rfl rfl fld24_0 ?_
        refine o_gD rfl rfl rfl rfl (decide_eq_false (by omega)) ?_
        refine o_load1 rfl rfl rfl sh3 rfl ?_
        refine o_gD rfl rfl rfl rfl (decide_eq_false (by omega)) ?_
        refine o_mul rfl rfl rfl (by unfold I64; omega) ?_
        refine o_gD rfl rfl rfl rfl (decide_eq_false (by omega)) ?_
        refine o_move rfl ?_
        refine o_genA [(2, U.lst Kd.ro 1 (intsU bits)), (3, U.box 0 0), (58, U.bool (Decidable.decide ((1 : Int) + m0 ≠ (1 : Int) + m0))), (59, .int .i64 tin), (64, .int .i64 (((1 : Int) + m0) * Bk.tlo b)), (65, .int .i64 ((1 : Int) + m0))] [] ([SB.box (Bk.cs b)]) (.cons rfl (.cons rfl (.cons rfl (.cons rfl (.cons rfl (.cons rfl (.nil rfl))))))) rfl rfl fun fr => ?_
        refine o_gD rfl rfl rfl rfl (decide_eq_false (by omega)) ?_
        refine o_genA [(2, U.lst Kd.ro 1 (intsU bits)), (3, U.box 0 0), (58, U.bool (Decidable.decide ((1 : Int) + m0 ≠ (1 : Int) + m0))), (59, .int .i64 tin), (64, .int .i64 (((1 : Int) + m0) * Bk.tlo b)), (65, .int .i64 ((1 : Int) + m0))] [] ([SB.box (Bk.cs b)]) (.cons rfl (.cons rfl (.cons rfl (.cons rfl (.cons rfl (.cons rfl (.nil rfl))))))) rfl rfl fun fr => ?_
        refine o_faddr rfl rfl fld28_1 ?_
        refine o_gD rfl rfl rfl rfl (decide_eq_false (by omega)) ?_
        refine o_faddr rfl rfl fld24_1 ?_
        refine o_gD rfl rfl rfl rfl (decide_eq_false (by omega)) ?_
        refine o_load1 rfl rfl rfl sh3 rfl ?_
        refine o_gD rfl rfl rfl rfl (decide_eq_false (by omega)) ?_
        refine o_mul rfl rfl rfl (by unfold I64; omega) ?_
        refine o_gD rfl rfl rfl rfl (decide_eq_false (by omega)) ?_
        refine o_call rfl (d25) (.lrefl _) ?_
        refine o_gD rfl rfl rfl rfl (decide_eq_false (by omega)) ?_
        refine o_not rfl rfl ?_
        refine o_pickF rfl rfl (decide_eq_false (by omega)) ?_
        refine o_nil ?_
        refine k_gen [(2, U.lst Kd.ro 1 (intsU bits)), (3, U.box 0 0), (72, U.bool !Bool.true)] ([SB.box (Bk.cs b)]) (.cons rfl (.cons rfl (.cons rfl (.nil rfl)))) rfl fun fr => ?_
        refine k_cF rfl rfl ?_
        refine k_skip ?_
        exact ⟨rfl, rfl, .cons rfl (.cons rfl (.nil rfl))⟩
    obtain ⟨hst, hs⟩ := hM
    refine k_gen _ _ hs hst fun fr => ?_
    by_cases hsum : sumI T = 0
    · have e0 := hm0 hsum
      rw [e0] at q7
      rw [hsum] at q24
      refine k_seq (k_region ?_)
      refine o_loadN rfl rfl rfl sh28 rfl ?_
      refine o_move rfl ?_
      refine o_call rfl (q26) (.lrefl _) ?_
      refine o_assign rfl ?_
      refine o_nil ?_
      refine k_seq (k_region ?_)
      refine o_loadN rfl rfl rfl sh28 rfl ?_
      refine o_move rfl ?_
      refine o_call rfl (q7) (.lrefl _) ?_
      refine o_move rfl ?_
      refine o_extract rfl rfl rfl ?_
      refine o_extract rfl rfl rfl ?_
      refine o_assign rfl ?_
      refine o_assign rfl ?_
      refine o_nil ?_
      refine k_gen [(2, U.lst Kd.ro 1 (intsU bits)), (3, U.box 0 0), (9, .int .i64 0), (11, U.lst Kd.ro 1 (intsU T)), (12, U.bool Bool.false)] ([SB.box (Bk.cs b)]) (.cons rfl (.cons rfl (.cons rfl (.cons rfl (.cons rfl (.nil rfl)))))) rfl fun fr => ?_
      refine k_seq ?_
      refine k_seq (k_region ?_)
      refine o_move rfl ?_
      refine o_neq rfl rfl rfl ?_
      refine o_nil ?_
      refine k_cF rfl rfl ?_
      refine k_skip ?_
      refine k_seq (k_region ?_)
      refine o_move rfl ?_
      refine o_call rfl (q24) (.lrefl _) ?_
      refine o_assign rfl ?_
      refine o_nil ?_
      refine k_seq ?_
      refine k_seq (k_region ?_)
      refine o_move rfl ?_
      refine o_eql rfl rfl rfl ?_
      refine o_nil ?_
      refine k_cT rfl rfl ?_
      refine k_seq (k_region ?_)
      refine o_move rfl ?_
      refine o_not rfl rfl ?_
      refine o_move rfl ?_
      refine o_gD rfl rfl rfl rfl rfl ?_
      refine o_call rfl (r16) (.lrefl _) ?_
      refine o_pickT rfl rfl rfl ?_
      refine o_assign rfl ?_
      refine o_nil ?_
      refine k_ret ?_
      refine ⟨.inr rfl, _, .cons _ _ _ _ (.tmp 6) .nil, ?_⟩
      exact .refl _
    · have hsp : 0 < sumI T := by omega
      have dT : RetP Tryz.prog is orc 25 [.int .i64 (pouI b T bits T.length), .int .i64 (sumI T * b.tlo), .int .i64 (sumI T * b.thi)] (.bool (decide (sumI T * b.tlo ≤ pouI b T bits T.length) && decide (pouI b T bits T.length ≤ sumI T * b.thi))) := ret25 (orc := orc) hi _ _ _
      refine k_seq (k_region ?_)
      refine o_loadN rfl rfl rfl sh28 rfl ?_
      refine o_move rfl ?_
      refine o_call rfl (q26) (.lrefl _) ?_
      refine o_assign rfl ?_
      refine o_nil ?_
      refine k_seq (k_region ?_)
      refine o_loadN rfl rfl rfl sh28 rfl ?_
      refine o_move rfl ?_
      refine o_call rfl (q7) (.lrefl _) ?_
      refine o_move rfl ?_
      refine o_extract rfl rfl rfl ?_
      refine o_extract rfl rfl rfl ?_
      refine o_assign rfl ?_
      refine o_assign rfl ?_
      refine o_nil ?_
      refine k_gen [(2, U.lst Kd.ro 1 (intsU bits)), (3, U.box 0 0), (9, .int .i64 0), (11, U.lst Kd.ro 1 (intsU T)), (12, U.bool (isM b T))] ([SB.box (Bk.cs b)]) (.cons rfl (.cons rfl (.cons rfl (.cons rfl (.cons rfl (.nil rfl)))))) rfl fun fr => ?_
      refine k_seq ?_
      refine k_seq (k_region ?_)
      refine o_move rfl ?_
      refine o_neq rfl rfl rfl ?_
      refine o_nil ?_
      refine k_cF rfl rfl ?_
      refine k_skip ?_
      refine k_seq (k_region ?_)
      refine o_move rfl ?_
      refine o_call rfl (q24) (.lrefl _) ?_
      refine o_assign rfl ?_
      refine o_nil ?_
      refine k_seq ?_
      refine k_seq (k_region ?_)
      refine o_move rfl ?_
      refine o_eql rfl rfl rfl ?_
      refine o_nil ?_
      refine k_cF rfl (decide_eq_false (by omega)) ?_
      refine k_skip ?_
      refine k_seq (k_region ?_)
      refine o_loadN rfl rfl rfl sh28 rfl ?_
      refine o_move rfl ?_
      refine o_move rfl ?_
      refine o_call rfl (q22) (.lrefl _) ?_
      refine o_assign rfl ?_
      refine o_assign rfl ?_
      refine o_assign rfl ?_
      refine o_nil ?_
      refine k_gen [(3, U.box 0 0), (11, U.lst Kd.ro 1 (intsU T)), (12, U.bool (isM b T)), (13, .int .i64 (sumI T)), (14, .int .i64 (pouI b T bits (List.length T))), (15, .int .i64 0), (16, .int .i64 0)] ([SB.box (Bk.cs b)]) (.cons rfl (.cons rfl (.cons rfl (.cons rfl (.cons rfl (.cons rfl (.cons rfl (.nil rfl)))))))) rfl fun fr => ?_
      refine k_seq ?_
      refine k_seq (k_region ?_)
      refine o_assign rfl ?_
      refine o_nil ?_
      refine k_block ?_
      refine k_loop (fun k st => ∃ (i : Nat), k + i = T.length ∧ st.st = [.box b.cs] ∧ Holds st [(3, .box 0 0), (11, .lst .ro 1 (intsU T)), (12, .bool (isM b T)), (13, .int .i64 (sumI T)), (14, .int .i64 (pouI b T bits T.length)), (15, .int .i64 (lowI b false T i)), (16, .int .i64 (lowI b true T i)), (17, .int .i64 i)]) (fun k st hI => ?_) T.length _ ?_
      · obtain ⟨i, hki, hst, hs⟩ := hI
        refine k_gen _ _ hs hst fun fr => ?_
        have hpi := pouI_b hk T bits hTx i
        by_cases hil : i < T.length
        · obtain ⟨x, hxi⟩ : ∃ x, T[i]? = some x := ⟨T[i], List.getElem?_eq_getElem hil⟩
          obtain ⟨q, hq⟩ : ∃ q, b.lots[i]? = some q := ⟨b.lots[i]'(by omega), List.getElem?_eq_getElem (by omega)⟩
          have hqb := hk.lots q (List.mem_of_getElem? hq)
          have hxb := hTx x (List.mem_of_getElem? hxi)
          have g1 : lowI b false T (i + 1) = lowI b false T i + x * q.b := by show _ + (T[i]?).getD 0 * ltI b false i = _; rw [hxi]; unfold ltI; rw [hq]; rfl
          have g2 : lowI b true T (i + 1) = lowI b true T i + x * q.c := by show _ + (T[i]?).getD 0 * ltI b true i = _; rw [hxi]; unfold ltI; rw [hq]; rfl
          have u1 := mul_qb (x := x) (by omega) (y := q.b) (by omega)
          have u2 := mul_qb (x := x) (by omega) (y := q.c) (by omega)
          refine k_seq ?_
          refine k_seq (k_region ?_)
          refine o_move rfl ?_
          refine o_move rfl ?_
          refine o_len rfl ty29 rfl (List.length_map _) ?_
          refine o_lss rfl rfl rfl ?_
          refine o_nil ?_
          refine k_cT rfl (decide_eq_true (by omega)) ?_
          refine k_skip ?_
          refine k_seq ?_
          refine k_block ?_
          refine k_seq ?_
          refine k_draw [.plain, .plain, .plain, .plain, .read true, .plain, .read true, .plain, .plain, .plain, .plain, .read true, .plain, .plain, .plain] (by kernel_rfl) (by kernel_rfl) (by kernel_rfl) ?_
          refine d_plain (o_move rfl (o_nil rfl)) ?_
          refine d_plain (o_move rfl (o_nil rfl)) ?_
          refine d_plain (o_move rfl (o_nil rfl)) ?_
          refine d_plain (o_idx (u := .int .i64 (x)) rfl ty29 rfl rfl (Int.natCast_nonneg _) (by simp [hxi]) cl3 (o_nil rfl)) ?_
          refine d_load rfl (o_loadR1 rfl rfl sh3 rfl (o_nil rfl)) ?_
          refine d_plain (o_faddr rfl rfl fld28_0 (o_nil rfl)) ?_
          refine d_load rfl (o_load1 rfl rfl rfl sh22 rfl (o_nil rfl)) ?_
          refine d_plain (o_move rfl (o_nil rfl)) ?_
          refine d_plain (o_idx (u := (q).u) rfl ty22 rfl rfl (Int.natCast_nonneg _) (by simp [hq]) cl54 (o_nil rfl)) ?_
          refine d_genA [(3, U.box 0 0), (11, U.lst Kd.ro 1 (intsU T)), (12, U.bool (isM b T)), (13, .int .i64 (sumI T)), (14, .int .i64 (pouI b T bits (List.length T))), (16, .int .i64 (lowI b Bool.true T i)), (17, .int .i64 ↑i), (103, .int .i64 (lowI b Bool.false T i)), (107, .int .i64 x), (111, U.eref [.int .i64 (Tri.a q), .int .i64 (Tri.b q), .int .i64 (Tri.c q)] 0)] [] ([SB.box (Bk.cs b)]) (.cons rfl (.cons rfl (.cons rfl (.cons rfl (.cons rfl (.cons rfl (.cons rfl (.cons rfl (.cons rfl (.cons rfl (.nil rfl))))))))))) rfl rfl fun fr => ?_
          refine d_plain (o_faddrR rfl rfl fld54_1 (o_nil rfl)) ?_
          refine d_plain (o_faddrR rfl rfl fld24_0 (o_nil rfl)) ?_
          refine d_load rfl (o_loadR1 rfl rfl sh3 rfl (o_nil rfl)) ?_
          refine d_plain (o_mul rfl rfl rfl (by unfold I64; omega) (o_nil rfl)) ?_
          refine d_plain (o_add rfl rfl rfl (by unfold I64; omega) (o_nil rfl)) ?_
          refine d_plain (o_assign rfl (o_nil rfl)) ?_
          refine d_nil ?_
          refine k_gen [(3, U.box 0 0), (11, U.lst Kd.ro 1 (intsU T)), (12, U.bool (isM b T)), (13, .int .i64 (sumI T)), (14, .int .i64 (pouI b T bits (List.length T))), (15, .int .i64 (lowI b Bool.false T i + x * Tri.b q)), (16, .int .i64 (lowI b Bool.true T i)), (17, .int .i64 ↑i)] ([SB.box (Bk.cs b)]) (.cons rfl (.cons rfl (.cons rfl (.cons rfl (.cons rfl (.cons rfl (.cons rfl (.cons rfl (.nil rfl))))))))) rfl fun fr => ?_
          refine k_draw [.plain, .plain, .plain, .plain, .read true, .plain, .read true, .plain, .plain, .plain, .plain, .read true, .plain, .plain, .plain] (by kernel_rfl) (by kernel_rfl) (by kernel_rfl) ?_
          refine d_plain (o_move rfl (o_nil rfl)) ?_
          refine d_plain (o_move rfl (o_nil rfl)) ?_
          refine d_plain (o_move rfl (o_nil rfl)) ?_
          refine d_plain (o_idx (u := .int .i64 (x)) rfl ty29 rfl rfl (Int.natCast_nonneg _) (by simp [hxi]) cl3 (o_nil rfl)) ?_
          refine d_load rfl (o_loadR1 rfl rfl sh3 rfl (o_nil rfl)) ?_
          refine d_plain (o_faddr rfl rfl fld28_0 (o_nil rfl)) ?_
          refine d_load rfl (o_load1 rfl rfl rfl sh22 rfl (o_nil rfl)) ?_
          refine d_plain (o_move rfl (o_nil rfl)) ?_
          refine d_plain (o_idx (u := (q).u) rfl ty22 rfl rfl (Int.natCast_nonneg _) (by simp [hq]) cl54 (o_nil rfl)) ?_
          refine d_genA [(3, U.box 0 0), (11, U.lst Kd.ro 1 (intsU T)), (12, U.bool (isM b T)), (13, .int .i64 (sumI T)), (14, .int .i64 (pouI b T bits (List.length T))), (15, .int .i64 (lowI b Bool.false T i + x * Tri.b q)), (17, .int .i64 ↑i), (117, .int .i64 (lowI b Bool.true T i)), (121, .int .i64 x), (125, U.eref [.int .i64 (Tri.a q), .int .i64 (Tri.b q), .int .i64 (Tri.c q)] 0)] [] ([SB.box (Bk.cs b)]) (.cons rfl (.cons rfl (.cons rfl (.cons rfl (.cons rfl (.cons rfl (.cons rfl (.cons rfl (.cons rfl (.cons rfl (.nil rfl))))))))))) rfl rfl fun fr => ?_
          refine d_plain (o_faddrR rfl rfl fld54_1 (o_nil rfl)) ?_
          refine d_plain (o_faddrR rfl rfl fld24_1 (o_nil rfl)) ?_
          refine d_load rfl (o_loadR1 rfl rfl sh3 rfl (o_nil rfl)) ?_
          refine d_plain (o_mul rfl rfl rfl (by unfold I64; omega) (o_nil rfl)) ?_
          refine d_plain (o_add rfl rfl rfl (by unfold I64; omega) (o_nil rfl)) ?_
          refine d_plain (o_assign rfl (o_nil rfl)) ?_
          refine d_nil ?_
          refine k_gen [(3, U.box 0 0), (11, U.lst Kd.ro 1 (intsU T)), (12, U.bool (isM b T)), (13, .int .i64 (sumI T)), (14, .int .i64 (pouI b T bits (List.length T))), (15, .int .i64 (lowI b Bool.false T i + x * Tri.b q)), (16, .int .i64 (lowI b Bool.true T i + x * Tri.c q)), (17, .int .i64 ↑i)] ([SB.box (Bk.cs b)]) (.cons rfl (.cons rfl (.cons rfl (.cons rfl (.cons rfl (.cons rfl (.cons rfl (.cons rfl (.nil rfl))))))))) rfl fun fr => ?_
          refine k_region ?_
          refine o_move rfl ?_
          refine o_add rfl rfl rfl (by unfold I64; omega) ?_
          refine o_assign rfl ?_
          refine o_nil ?_
          exact ⟨k - 1, by omega, i + 1, by omega, rfl, .cons rfl (.cons rfl (.cons rfl (.cons rfl (.cons rfl (.cons (congrArg (U.int .i64) g1.symm) (.cons (congrArg (U.int .i64) g2.symm) (.cons rfl (.nil rfl))))))))⟩
        · have hil : i = T.length := by omega
          subst hil
          cases hh : isM b T with
          | true =>
            have hy := hyes hh
            rw [show (decide (sumI T * b.tlo ≤ pouI b T bits T.length) && decide (pouI b T bits T.length ≤ sumI T * b.thi)) = true by simp; omega] at dT
            refine k_seq ?_
            refine k_seq (k_region ?_)
            refine o_move rfl ?_
            refine o_move rfl ?_
            refine o_len rfl ty29 rfl (List.length_map _) ?_
            refine o_lss rfl rfl rfl ?_
            refine o_nil ?_
            refine k_cF rfl (decide_eq_false (by omega)) ?_
            refine k_exit ?_
            refine k_seq ?_
            refine k_seq (k_region ?_)
            refine o_move rfl ?_
            refine o_nil ?_
            refine k_cT rfl rfl ?_
            refine k_seq (k_region ?_)
            refine o_move rfl ?_
            refine o_move rfl ?_
            refine o_faddr rfl rfl fld28_1 ?_
            refine o_faddr rfl rfl fld24_0 ?_
            refine o_load1 rfl rfl rfl sh3 rfl ?_
            refine o_mul rfl rfl rfl (by unfold I64; omega) ?_
            refine o_move rfl ?_
            refine o_faddr rfl rfl fld28_1 ?_
            refine o_faddr rfl rfl fld24_1 ?_
            refine o_genA [(132, .int .i64 (pouI b T bits (List.length T))), (137, .int .i64 (sumI T * Bk.tlo b)), (138, .int .i64 (sumI T)), (140, U.box 0 2)] [] ([SB.box (Bk.cs b)]) (.cons rfl (.cons rfl (.cons rfl (.cons rfl (.nil rfl))))) rfl rfl fun fr => ?_
            refine o_load1 rfl rfl rfl sh3 rfl ?_
            refine o_mul rfl rfl rfl (by unfold I64; omega) ?_
            refine o_call rfl (dT) (.lrefl _) ?_
            refine o_move rfl ?_
            refine o_gD rfl rfl rfl rfl rfl ?_
            refine o_call rfl (r16) (.lrefl _) ?_
            refine o_pickT rfl rfl rfl ?_
            refine o_assign rfl ?_
            refine o_nil ?_
            refine k_ret ?_
            refine ⟨.inr rfl, _, .cons _ _ _ _ (.tmp 6) .nil, ?_⟩
            exact .refl _
          | false =>
            by_cases c1 : lowI b false T T.length < sumI T * b.tlo
            · refine k_seq ?_
              refine k_seq (k_region ?_)
              refine o_move rfl ?_
              refine o_move rfl ?_
              refine o_len rfl ty29 rfl (List.length_map _) ?_
              refine o_lss rfl rfl rfl ?_
              refine o_nil ?_
              refine k_cF rfl (decide_eq_false (by omega)) ?_
              refine k_exit ?_
              refine k_seq ?_
              refine k_seq (k_region ?_)
              refine o_move rfl ?_
              refine o_nil ?_
              refine k_cF rfl rfl ?_
              refine k_skip ?_
              refine k_seq (k_region ?_)
              refine o_move rfl ?_
              refine o_move rfl ?_
              refine o_faddr rfl rfl fld28_1 ?_
              refine o_faddr rfl rfl fld24_0 ?_
              refine o_load1 rfl rfl rfl sh3 rfl ?_
              refine o_mul rfl rfl rfl (by unfold I64; omega) ?_
              refine o_lss rfl rfl rfl ?_
              refine o_move rfl ?_
              refine o_gS rfl rfl rfl rfl (decide_eq_true (by omega)) ?_
              refine o_genA [(3, U.box 0 0), (13, .int .i64 (sumI T)), (154, U.bool (Decidable.decide (lowI b Bool.false T (List.length T) < sumI T * Bk.tlo b))), (155, U.tup [])] [] ([SB.box (Bk.cs b)]) (.cons rfl (.cons rfl (.cons rfl (.cons rfl (.nil rfl))))) rfl rfl fun fr => ?_
              refine o_gS rfl rfl rfl rfl (decide_eq_true (by omega)) ?_
              refine o_gS rfl rfl rfl rfl (decide_eq_true (by omega)) ?_
              refine o_gS rfl rfl rfl rfl (decide_eq_true (by omega)) ?_
              refine o_gS rfl rfl rfl rfl (decide_eq_true (by omega)) ?_
              refine o_gS rfl rfl rfl rfl (decide_eq_true (by omega)) ?_
              refine o_gS rfl rfl rfl rfl (decide_eq_true (by omega)) ?_
              refine o_pickT rfl rfl (decide_eq_true (by omega)) ?_
              refine o_move rfl ?_
              refine o_gD rfl rfl rfl rfl rfl ?_
              refine o_call rfl (r16) (.lrefl _) ?_
              refine o_genA [(163, U.bool Bool.true), (164, U.bool Bool.true)] [] ([SB.box (Bk.cs b)]) (.cons rfl (.cons rfl (.nil rfl))) rfl rfl fun fr => ?_
              refine o_pickT rfl rfl rfl ?_
              refine o_assign rfl ?_
              refine o_nil ?_
              refine k_ret ?_
              refine ⟨.inr rfl, _, .cons _ _ _ _ (.tmp 6) .nil, ?_⟩
              exact .refl _
            · have c2 : sumI T * b.thi < lowI b true T T.length := (hno hh hsp).resolve_left c1
              refine k_seq ?_
              refine k_seq (k_region ?_)
              refine o_move rfl ?_
              refine o_move rfl ?_
              refine o_len rfl ty29 rfl (List.length_map _) ?_
              refine o_lss rfl rfl rfl ?_
              refine o_nil ?_
              refine k_cF rfl (decide_eq_false (by omega)) ?_
              refine k_exit ?_
              refine k_seq ?_
              refine k_seq (k_region ?_)
              refine o_move rfl ?_
              refine o_nil ?_
              refine k_cF rfl rfl ?_
              refine k_skip ?_
              refine k_seq (k_region ?_)
              refine o_move rfl ?_
              refine o_move rfl ?_
              refine o_faddr rfl rfl fld28_1 ?_
              refine o_faddr rfl rfl fld24_0 ?_
              refine o_load1 rfl rfl rfl sh3 rfl ?_
              refine o_mul rfl rfl rfl (by unfold I64; omega) ?_
              refine o_lss rfl rfl rfl ?_
              refine o_move rfl ?_
              refine o_gD rfl rfl rfl rfl (decide_eq_false (by omega)) ?_
              refine o_move rfl ?_
              refine o_genA [(3, U.box 0 0), (13, .int .i64 (sumI T)), (154, U.bool (Decidable.decide (lowI b Bool.false T (List.length T) < sumI T * Bk.tlo b))), (155, .int .i64 (lowI b Bool.true T (List.length T)))] [] ([SB.box (Bk.cs b)]) (.cons rfl (.cons rfl (.cons rfl (.cons rfl (.nil rfl))))) rfl rfl fun fr => ?_
              refine o_gD rfl rfl rfl rfl (decide_eq_false (by omega)) ?_
              refine o_genA [(3, U.box 0 0), (13, .int .i64 (sumI T)), (154, U.bool (Decidable.decide (lowI b Bool.false T (List.length T) < sumI T * Bk.tlo b))), (155, .int .i64 (lowI b Bool.true T (List.length T)))] [] ([SB.box (Bk.cs b)]) (.cons rfl (.cons rfl (.cons rfl (.cons rfl (.nil rfl))))) rfl rfl fun fr => ?_
              refine o_move rfl ?_
              refine o_gD rfl rfl rfl rfl (decide_eq_false (by omega)) ?_
              refine o_faddr rfl rfl fld28_1 ?_
              refine o_gD rfl rfl rfl rfl (decide_eq_false (by omega)) ?_
              refine o_faddr rfl rfl fld24_1 ?_
              refine o_gD rfl rfl rfl rfl (decide_eq_false (by omega)) ?_
              refine o_load1 rfl rfl rfl sh3 rfl ?_
              refine o_gD rfl rfl rfl rfl (decide_eq_false (by omega)) ?_
              refine o_mul rfl rfl rfl (by unfold I64; omega) ?_
              refine o_gD rfl rfl rfl rfl (decide_eq_false (by omega)) ?_
              refine o_gtr rfl rfl rfl ?_
              refine o_pickF rfl rfl (decide_eq_false (by omega)) ?_
              refine o_move rfl ?_
              refine o_gD rfl rfl rfl rfl (decide_eq_true (by omega)) ?_
              refine o_call rfl (r16) (.lrefl _) ?_
              refine o_genA [(163, U.bool (Decidable.decide (sumI T * Bk.thi b < lowI b Bool.true T (List.length T)))), (164, U.bool Bool.true)] [] ([SB.box (Bk.cs b)]) (.cons rfl (.cons rfl (.nil rfl))) rfl rfl fun fr => ?_
              refine o_pickT rfl rfl (decide_eq_true (by omega)) ?_
              refine o_assign rfl ?_
              refine o_nil ?_
              refine k_ret ?_
              refine ⟨.inr rfl, _, .cons _ _ _ _ (.tmp 6) .nil, ?_⟩
              exact .refl _
      · exact ⟨0, by omega, rfl, .cons rfl (.cons rfl (.cons rfl (.cons rfl (.cons rfl (.cons rfl (.cons rfl (.cons rfl (.nil rfl))))))))⟩
theorem u29 : Tryz.prog.underlying 29 = some (.slice 3) := by kernel_rfl
theorem eu3 : ∀ cs, eU Tryz.prog 3 cs = cs.headD .junk := by
  intro cs; unfold eU; rw [u3]
theorem map_ints {F : List U → U} (he : ∀ cs, F cs = cs.headD .junk) (l : List Int) : (l.map fun n : Int => [U.int .i64 n]).map F = intsU l := by
  rw [List.map_map]
  exact List.map_congr_left fun q _ => he _
theorem shp_ints {cs : List U} (h : Shp Tryz.prog 29 cs) : ∃ l : List Int, cs = [.lst .ro 1 (intsU l)] := by
  obtain ⟨css, hl, rfl⟩ := shp_slice u29 h
  obtain ⟨l, rfl⟩ := shpL_map (f := fun n : Int => [.int .i64 n]) hl fun cs hcs => shp_int hcs
  refine ⟨l, ?_⟩
  rw [cl3, map_ints eu3]
theorem ret5_all {is : FuncId → Bool} {orc : Known} (hi : Off is) (r16 : RetP Tryz.prog is orc 16 [] (.bool true)) : ∀ us, ShpAs Tryz.prog [28, 3, 29] us → RetP Tryz.prog is orc 5 us (.bool true) := by
  intro us h
  cases h with
  | cons _ _ u us h1 h => cases h with
  | cons _ _ v us h2 h => cases h with
  | cons _ _ x us h3 h =>
  cases h
  obtain ⟨fs, hu⟩ := und_struct (P := Tryz.prog) (t := 28) 11 (by kernel_rfl)
  unfold ShpA at h1 h2 h3
  rw [hu] at h1
  rw [u3] at h2
  rw [u29] at h3
  obtain ⟨cs, rfl, h1⟩ := h1
  obtain ⟨b, rfl⟩ := shp_book h1
  obtain ⟨n, e⟩ := shp_int h2
  cases e
  obtain ⟨l, e⟩ := shp_ints h3
  cases e
  exact ret5 hi b n l r16
end Go.Proofs.YtoldkckmenjknaaGreat.forgeTin
