/- rasp's functions and the law's, by the logic of trees: what each gives back for all that it may be given. -/
import Derived.Test.YtdahbimllmapkaaVamRaspKeys5
namespace Go.Proofs.Ytdahbimllmapkaa.raspKeys
open Vam
set_option linter.unusedVariables false
set_option linter.unusedSimpArgs false
set_option linter.constructorNameAsVariable false
variable {is : FuncId → Bool} {orc : Known}
theorem spB_at {s : Shop} {i : Nat} {q : Tri} (hq : s.keys[i]? = some q) : spB s i = decide (strokeR s q = 31) := by unfold spB; rw [hq]
theorem spB_far {s : Shop} {i : Nat} (h : s.keys.length ≤ i) : spB s i = false := by
  unfold spB; rw [List.getElem?_eq_none h]
theorem ls_far {s : Shop} (hn : s.keys.length ≤ 6) : ∀ d, s.keys.length + d ≤ 6 → lsB (spB s) (s.keys.length + d) = lsB (spB s) s.keys.length := by
  intro d
  induction d with
  | zero => intro _; rfl
  | succ d ih =>
    intro h
    rw [show s.keys.length + (d + 1) = (s.keys.length + d) + 1 by omega, ls_out (spB_far (by omega)), ih (by omega)]
theorem ls_six {s : Shop} (hn : s.keys.length ≤ 6) : lsB (spB s) 6 = lsB (spB s) s.keys.length := by
  have := ls_far hn (6 - s.keys.length) (by omega)
  rwa [show s.keys.length + (6 - s.keys.length) = 6 by omega] at this
theorem uw_accI (l : List Int) : UW (.u (accI l)) (.u (.lst .ro 1 (intsU l))) := by
  cases l with
  | nil => exact .nil .full .ro 1
  | cons x l => exact .ro .own 1 _
set_option maxHeartbeats 4000000 in
theorem ret24 (hi : Off is) {s : Shop} (hk : SOk s) : RetP Try.prog is orc 24 [s.u] (.tup [.lst .ro 1 (intsU (lsB (spB s) 6)), .int .i64 0]) := by
  have hnk := hk.nk
  have q17 := ret17 (orc := orc) hi s
  rw [chk_ok hk] at q17
  have q52 := ret52 (orc := orc) hi hk true
  refine ret_of body24 pure24 (hi 24 (by decide)) rfl rfl (dat_l1 (dat_shop s 5)) (.inr ⟨_, rfl, dat_l2 (dat_ints 5 .ro (fun h => by cases h) 1 _) (.int _ _ _)⟩) ?_
  rw [ls_six hnk]
  have q61 := fun (i : Nat) (q : Tri) (hq : s.keys[i]? = some q) => ret61 (orc := orc) hi hk hq
  generalize (rowsL s true 31).map rowU = L at q52 q61
  refine k_seq (k_region ?_)
  refine o_box rfl rfl ?_
  refine o_assign rfl ?_
  refine o_assign rfl ?_
  refine o_nil ?_
  refine k_gen [(1, U.box 0 0)] ([SB.box [U.lst Kd.ro 3 (trisU (Shop.tools s)), .int .i64 (Shop.flo s), .int .i64 (Shop.fhi s), U.lst Kd.ro 3 (trisU (Shop.keys s))]]) (.cons rfl (.nil rfl)) rfl fun fr => ?_
  refine k_seq ?_
  refine k_seq (k_region ?_)
  refine o_loadN rfl rfl rfl sh27 rfl ?_
  refine o_call rfl (q17) (.lrefl _) ?_
  refine o_assign rfl ?_
  refine o_nil ?_
  refine k_seq (k_region ?_)
  refine o_move rfl ?_
  refine o_neq rfl rfl rfl ?_
  refine o_nil ?_
  refine k_cF rfl rfl ?_
  refine k_skip ?_
  refine k_seq (k_region ?_)
  refine o_loadN rfl rfl rfl sh27 rfl ?_
  refine o_call rfl (q52) (.lrefl _) ?_
  refine o_assign rfl ?_
  refine o_nil ?_
  refine k_seq (k_region ?_)
  refine o_assign rfl ?_
  refine o_nil ?_
  refine k_seq ?_
  refine k_seq (k_region ?_)
  refine o_assign rfl ?_
  refine o_nil ?_
  refine k_gen [(1, U.box 0 0), (5, U.lst Kd.ro 1 L), (6, U.lst Kd.full 0 []), (7, .int .i64 0)] ([SB.box [U.lst Kd.ro 3 (trisU (Shop.tools s)), .int .i64 (Shop.flo s), .int .i64 (Shop.fhi s), U.lst Kd.ro 3 (trisU (Shop.keys s))]]) (.cons rfl (.cons rfl (.cons rfl (.cons rfl (.nil rfl))))) rfl fun fr => ?_
  refine k_block ?_
  refine k_loop (fun kk st => ∃ (i : Nat), kk + i = s.keys.length ∧ st.st = [.box s.cs] ∧ Holds st [(1, .box 0 0), (5, .lst .ro 1 L), (6, accI (lsB (spB s) i)), (7, .int .i64 i)]) (fun kk st hI => ?_) s.keys.length _ ?_
  · obtain ⟨i, hki, hst, hs⟩ := hI
    have hle := ls_len (spB s) i
    have hin := fun h => ls_in (f := spB s) (n := i) h
    have hout := fun h => ls_out (f := spB s) (n := i) h
    generalize hR : lsB (spB s) i = R at hs hle hin hout
    refine k_gen _ _ hs hst fun fr => ?_
    cases R with
    | nil =>
      refine k_seq ?_
      refine k_seq (k_region ?_)
      refine o_move rfl ?_
      refine o_faddr rfl rfl fld27_2 ?_
      refine o_load1 rfl rfl rfl sh25 rfl ?_
      refine o_len rfl ty25 rfl (List.length_map _) ?_
      refine o_lss rfl rfl rfl ?_
      refine o_nil ?_
      refine k_cond rfl (fun h19 => ?_) (fun h19 => ?_)
      · refine k_skip ?_
        refine k_seq ?_
        refine k_block ?_
        refine k_seq (k_region ?_)
        refine o_loadN rfl rfl rfl sh27 rfl ?_
        refine o_move rfl ?_
        refine o_move rfl ?_
        have hil : i < s.keys.length := by have := of_decide_eq_true h19; omega
        obtain ⟨q, hq⟩ := hk_has hil
        have hsb := stroke_b s q
        refine o_call rfl (q61 i q hq) (.lrefl _) ?_
        refine o_eql rfl rfl rfl ?_
        refine o_nil ?_
        refine k_cond rfl (fun h26 => ?_) (fun h26 => ?_)
        · refine k_region ?_
          refine o_move rfl ?_
          refine o_move rfl ?_
          refine o_lit (es := [.int .i64 ↑i]) rfl ty38 ze3 cl3 rfl rfl rfl rfl rfl rfl rfl rfl ?_
          refine o_appendF rfl ap38_38 rfl rfl (by simp) (by simp) (by simp [flatU, cellsU, oneU]) (by simp) ?_
          refine o_assign rfl ?_
          refine o_nil ?_
          refine k_region ?_
          refine o_move rfl ?_
          refine o_add rfl rfl rfl (by unfold I64; omega) ?_
          refine o_assign rfl ?_
          refine o_nil ?_
          have h31 : strokeR s q = 31 := by have := of_decide_eq_true h26; unfold nv at this; split at this <;> omega
          refine ⟨kk - 1, by omega, i + 1, by omega, rfl, .cons rfl (.cons rfl (.cons ?_ (.cons rfl (.nil rfl))))⟩
          rw [hin (by rw [spB_at hq]; exact decide_eq_true h31)]; rfl
        · refine k_skip ?_
          refine k_region ?_
          refine o_move rfl ?_
          refine o_add rfl rfl rfl (by unfold I64; omega) ?_
          refine o_assign rfl ?_
          refine o_nil ?_
          have h31 : strokeR s q ≠ 31 := fun e => by have := of_decide_eq_false h26; exact this (nv31 e)
          refine ⟨kk - 1, by omega, i + 1, by omega, rfl, .cons rfl (.cons rfl (.cons ?_ (.cons rfl (.nil rfl))))⟩
          rw [hout (by rw [spB_at hq]; exact decide_eq_false h31)]; rfl
      · refine k_exit ?_
        refine k_seq (k_region ?_)
        refine o_move rfl ?_
        refine o_assign rfl ?_
        refine o_assign rfl ?_
        refine o_nil ?_
        refine k_ret ?_
        refine ⟨.inr rfl, _, .cons _ _ _ _ (.tmp 2) (.cons _ _ _ _ (.tmp 3) .nil), ?_⟩
        have hil : i = s.keys.length := by have := of_decide_eq_false h19; omega
        subst hil
        rw [hR]
        exact .tup _ _ (.lcons _ _ _ _ (uw_accI []) (.lrefl _))
    | cons y R =>
      refine k_seq ?_
      refine k_seq (k_region ?_)
      refine o_move rfl ?_
      refine o_faddr rfl rfl fld27_2 ?_
      refine o_load1 rfl rfl rfl sh25 rfl ?_
      refine o_len rfl ty25 rfl (List.length_map _) ?_
      refine o_lss rfl rfl rfl ?_
      refine o_nil ?_
      refine k_cond rfl (fun h19 => ?_) (fun h19 => ?_)
      · refine k_skip ?_
        refine k_seq ?_
        refine k_block ?_
        refine k_seq (k_region ?_)
        refine o_loadN rfl rfl rfl sh27 rfl ?_
        refine o_move rfl ?_
        refine o_move rfl ?_
        have hil : i < s.keys.length := by have := of_decide_eq_true h19; omega
        obtain ⟨q, hq⟩ := hk_has hil
        have hsb := stroke_b s q
        refine o_call rfl (q61 i q hq) (.lrefl _) ?_
        refine o_eql rfl rfl rfl ?_
        refine o_nil ?_
        refine k_cond rfl (fun h26 => ?_) (fun h26 => ?_)
        · refine k_region ?_
          refine o_move rfl ?_
          refine o_move rfl ?_
          refine o_lit (es := [.int .i64 ↑i]) rfl ty38 ze3 cl3 rfl rfl rfl rfl rfl rfl rfl rfl ?_
          refine o_appendS 6 rfl ap38_38 rfl rfl rfl (by simp) (by simp) (by simp [flatU, cellsU, oneU]) (by simp at hle ⊢; omega) ?_
          refine o_assign rfl ?_
          refine o_nil ?_
          refine k_region ?_
          refine o_move rfl ?_
          refine o_add rfl rfl rfl (by unfold I64; omega) ?_
          refine o_assign rfl ?_
          refine o_nil ?_
          have h31 : strokeR s q = 31 := by have := of_decide_eq_true h26; unfold nv at this; split at this <;> omega
          refine ⟨kk - 1, by omega, i + 1, by omega, rfl, .cons rfl (.cons rfl (.cons ?_ (.cons rfl (.nil rfl))))⟩
          rw [hin (by rw [spB_at hq]; exact decide_eq_true h31), accI_snoc]; rfl
        · refine k_skip ?_
          refine k_region ?_
          refine o_move rfl ?_
          refine o_add rfl rfl rfl (by unfold I64; omega) ?_
          refine o_assign rfl ?_
          refine o_nil ?_
          have h31 : strokeR s q ≠ 31 := fun e => by have := of_decide_eq_false h26; exact this (nv31 e)
          refine ⟨kk - 1, by omega, i + 1, by omega, rfl, .cons rfl (.cons rfl (.cons ?_ (.cons rfl (.nil rfl))))⟩
          rw [hout (by rw [spB_at hq]; exact decide_eq_false h31)]; rfl
      · refine k_exit ?_
        refine k_seq (k_region ?_)
        refine o_move rfl ?_
        refine o_assign rfl ?_
        refine o_assign rfl ?_
        refine o_nil ?_
        refine k_ret ?_
        refine ⟨.inr rfl, _, .cons _ _ _ _ (.tmp 2) (.cons _ _ _ _ (.tmp 3) .nil), ?_⟩
        have hil : i = s.keys.length := by have := of_decide_eq_false h19; omega
        subst hil
        rw [hR]
        exact .tup _ _ (.lcons _ _ _ _ (.ro _ _ _) (.lrefl _))
  · exact ⟨0, by omega, rfl, .cons rfl (.cons rfl (.cons rfl (.cons rfl (.nil rfl))))⟩
def totV (s : Shop) (n : Nat) : Int := ((s.keys.take n).map fun k => nv (strokeR s k)).foldl (· + ·) 0
theorem totV_succ {s : Shop} {n : Nat} {k : Tri} (h : s.keys[n]? = some k) : totV s (n + 1) = totV s n + nv (strokeR s k) := by
  unfold totV; rw [List.take_add_one, h, List.map_append, List.foldl_append]; rfl
theorem totV_is (s : Shop) : ∀ n, n ≤ s.keys.length → 0 ≤ totS s n ∧ totS s n ≤ 31 * n ∧ ((totV s n = totS s n ∧ ∀ i, i < n → spB s i = false) ∨ (1000 ≤ totV s n ∧ ∃ i, i < n ∧ spB s i = true)) := by
  intro n
  induction n with
  | zero => intro _; exact ⟨Int.le_refl _, Int.le_refl _, .inl ⟨rfl, fun i h => absurd h (Nat.not_lt_zero i)⟩⟩
  | succ n ih =>
    intro hn
    obtain ⟨k, hk⟩ := hk_has (s := s) (i := n) (by omega)
    obtain ⟨h0, h1, h2⟩ := ih (by omega)
    have hsb := stroke_b s k
    rw [tot_succ hk, totV_succ hk]
    refine ⟨by omega, by omega, ?_⟩
    have hnb := nv_b hsb
    by_cases h31 : strokeR s k = 31
    · right
      refine ⟨?_, n, by omega, by rw [spB_at hk]; exact decide_eq_true h31⟩
      rw [nv31 h31]
      rcases h2 with ⟨e, _⟩ | ⟨e, _⟩ <;> omega
    · rw [nv_ne h31]
      rcases h2 with ⟨e, h3⟩ | ⟨e, i, hi, h3⟩
      · left
        refine ⟨by omega, fun i hi => ?_⟩
        by_cases e2 : i = n
        · subst e2; rw [spB_at hk]; exact decide_eq_false h31
        · exact h3 i (by omega)
      · exact .inr ⟨by omega, i, by omega, h3⟩
theorem any_spB {s : Shop} (hn : s.keys.length ≤ 6) : anyB (spB s) = true ↔ ∃ i, i < s.keys.length ∧ spB s i = true := by
  constructor
  · intro h
    unfold anyB at h
    simp only [Bool.or_eq_true] at h
    have key : ∀ i, spB s i = true → ∃ i, i < s.keys.length ∧ spB s i = true := fun i hi => by
      refine ⟨i, ?_, hi⟩
      refine Classical.byContradiction fun hh => ?_
      rw [spB_far (by omega)] at hi; cases hi
    rcases h with h | h | h | h | h | h <;> exact key _ h
  · rintro ⟨i, hi, h⟩
    have e : i = 0 ∨ i = 1 ∨ i = 2 ∨ i = 3 ∨ i = 4 ∨ i = 5 := by omega
    unfold anyB
    rcases e with rfl | rfl | rfl | rfl | rfl | rfl <;> simp [h]
set_option maxHeartbeats 4000000 in
theorem ret27 (hi : Off is) {s : Shop} (hk : SOk s) : RetP Try.prog is orc 27 [s.u] (if anyB (spB s) = true then .tup [.int .i64 0, .int .i64 4] else .tup [.int .i64 (totS s s.keys.length), .int .i64 0]) := by
  have hnk := hk.nk
  have q17 := ret17 (orc := orc) hi s
  rw [chk_ok hk] at q17
  have q52 := ret52 (orc := orc) hi hk true
  refine ret_of body27 pure27 (hi 27 (by decide)) rfl rfl (dat_l1 (dat_shop s 5)) (by split <;> exact .inr ⟨_, rfl, dat_l2 (.int _ _ _) (.int _ _ _)⟩) ?_
  have q61 := fun (i : Nat) (q : Tri) (hq : s.keys[i]? = some q) => ret61 (orc := orc) hi hk hq
  generalize (rowsL s true 31).map rowU = L at q52 q61
  refine k_seq (k_region ?_)
  refine o_box rfl rfl ?_
  refine o_assign rfl ?_
  refine o_assign rfl ?_
  refine o_nil ?_
  refine k_gen [(1, U.box 0 0)] ([SB.box [U.lst Kd.ro 3 (trisU (Shop.tools s)), .int .i64 (Shop.flo s), .int .i64 (Shop.fhi s), U.lst Kd.ro 3 (trisU (Shop.keys s))]]) (.cons rfl (.nil rfl)) rfl fun fr => ?_
  refine k_seq ?_
  refine k_seq (k_region ?_)
  refine o_loadN rfl rfl rfl sh27 rfl ?_
  refine o_call rfl (q17) (.lrefl _) ?_
  refine o_assign rfl ?_
  refine o_nil ?_
  refine k_seq (k_region ?_)
  refine o_move rfl ?_
  refine o_neq rfl rfl rfl ?_
  refine o_nil ?_
  refine k_cF rfl rfl ?_
  refine k_skip ?_
  refine k_seq (k_region ?_)
  refine o_loadN rfl rfl rfl sh27 rfl ?_
  refine o_call rfl (q52) (.lrefl _) ?_
  refine o_assign rfl ?_
  refine o_nil ?_
  refine k_seq (k_region ?_)
  refine o_assign rfl ?_
  refine o_nil ?_
  refine k_seq ?_
  refine k_seq (k_region ?_)
  refine o_assign rfl ?_
  refine o_nil ?_
  refine k_gen [(1, U.box 0 0), (5, U.lst Kd.ro 1 L), (6, .int .i64 0), (7, .int .i64 0)] ([SB.box [U.lst Kd.ro 3 (trisU (Shop.tools s)), .int .i64 (Shop.flo s), .int .i64 (Shop.fhi s), U.lst Kd.ro 3 (trisU (Shop.keys s))]]) (.cons rfl (.cons rfl (.cons rfl (.cons rfl (.nil rfl))))) rfl fun fr => ?_
  refine k_block ?_
  refine k_loop (fun kk st => ∃ (i : Nat), kk + i = s.keys.length ∧ 0 ≤ totV s i ∧ totV s i ≤ 1000 * i ∧ st.st = [.box s.cs] ∧ Holds st [(1, .box 0 0), (5, .lst .ro 1 L), (6, .int .i64 (totV s i)), (7, .int .i64 i)]) (fun kk st hI => ?_) s.keys.length _ ?_
  · obtain ⟨i, hki, ht0, ht1, hst, hs⟩ := hI
    refine k_gen _ _ hs hst fun fr => ?_
    refine k_seq ?_
    refine k_seq (k_region ?_)
    refine o_move rfl ?_
    refine o_faddr rfl rfl fld27_2 ?_
    refine o_load1 rfl rfl rfl sh25 rfl ?_
    refine o_len rfl ty25 rfl (List.length_map _) ?_
    refine o_lss rfl rfl rfl ?_
    refine o_nil ?_
    refine k_cond rfl (fun h19 => ?_) (fun h19 => ?_)
    · refine k_skip ?_
      refine k_seq ?_
      refine k_block ?_
      refine k_region ?_
      refine o_move rfl ?_
      refine o_loadN rfl rfl rfl sh27 rfl ?_
      refine o_move rfl ?_
      refine o_move rfl ?_
      have hil : i < s.keys.length := by have := of_decide_eq_true h19; omega
      obtain ⟨q, hq⟩ := hk_has hil
      have hnb := nv_b (stroke_b s q)
      have hts := totV_succ hq
      refine o_call rfl (q61 i q hq) (.lrefl _) ?_
      refine o_add rfl rfl rfl (by unfold I64; omega) ?_
      refine o_assign rfl ?_
      refine o_nil ?_
      refine k_region ?_
      refine o_move rfl ?_
      refine o_add rfl rfl rfl (by unfold I64; omega) ?_
      refine o_assign rfl ?_
      refine o_nil ?_
      exact ⟨kk - 1, by omega, i + 1, by omega, by omega, by omega, rfl, .cons rfl (.cons rfl (.cons (by rw [hts]; rfl) (.cons rfl (.nil rfl))))⟩
    · refine k_exit ?_
      have hil : i = s.keys.length := by have := of_decide_eq_false h19; omega
      subst hil
      obtain ⟨h0, h1, h2⟩ := totV_is s s.keys.length (Nat.le_refl _)
      rcases h2 with ⟨e, h3⟩ | ⟨e, h3⟩
      · rw [if_neg (fun h => by obtain ⟨i, hi, h⟩ := (any_spB hnk).1 h; rw [h3 i hi] at h; cases h)]
        rw [e]
        refine k_seq ?_
        refine k_seq (k_region ?_)
        refine o_move rfl ?_
        refine o_geq rfl rfl rfl ?_
        refine o_nil ?_
        refine k_cF rfl (decide_eq_false (by omega)) ?_
        refine k_skip ?_
        refine k_seq (k_region ?_)
        refine o_move rfl ?_
        refine o_assign rfl ?_
        refine o_assign rfl ?_
        refine o_nil ?_
        refine k_ret ?_
        refine ⟨.inr rfl, _, .cons _ _ _ _ (.tmp 2) (.cons _ _ _ _ (.tmp 3) .nil), ?_⟩
        exact .refl _
      · rw [if_pos ((any_spB hnk).2 h3)]
        refine k_seq ?_
        refine k_seq (k_region ?_)
        refine o_move rfl ?_
        refine o_geq rfl rfl rfl ?_
        refine o_nil ?_
        refine k_cT rfl (decide_eq_true (by omega)) ?_
        refine k_seq (k_region ?_)
        refine o_assign rfl ?_
        refine o_assign rfl ?_
        refine o_nil ?_
        refine k_ret ?_
        refine ⟨.inr rfl, _, .cons _ _ _ _ (.tmp 2) (.cons _ _ _ _ (.tmp 3) .nil), ?_⟩
        exact .refl _
  · exact ⟨0, by omega, Int.le_refl _, Int.le_refl _, rfl, .cons rfl (.cons rfl (.cons rfl (.cons rfl (.nil rfl))))⟩
set_option maxHeartbeats 4000000 in
theorem ret29 (hi : Off is) {s : Shop} (hk : SOk s) {off : Int} (ho : offB off = true) : RetP Try.prog is orc 29 [s.u, .int .i64 off] (.tup [.int .i64 (needN s off), .int .i64 (needE s off)]) := by
  have q50 := ret50 (orc := orc) hi off 0
  rw [ho, show metB 0 = true from rfl] at q50
  have q49 := ret49 (orc := orc) hi s true
  rw [show askR s true = 0 by unfold askR; rw [chk_ok hk]; rfl] at q49
  have q52 := ret52 (orc := orc) hi hk true
  have hL := fun (m : Nat) (h : m < 31) => rows_get s true (n := 31) (k := m) h
  generalize rowsL s true 31 = L at q52 hL
  refine ret_of body29 pure29 (hi 29 (by decide)) rfl rfl (dat_l2 (dat_shop s 5) (.int _ _ _)) (.inr ⟨_, rfl, dat_l2 (.int _ _ _) (.int _ _ _)⟩) ?_
  refine k_seq (k_region ?_)
  refine o_box rfl rfl ?_
  refine o_assign rfl ?_
  refine o_assign rfl ?_
  refine o_nil ?_
  refine k_gen [(1, .int .i64 off), (2, U.box 0 0)] ([SB.box [U.lst Kd.ro 3 (trisU (Shop.tools s)), .int .i64 (Shop.flo s), .int .i64 (Shop.fhi s), U.lst Kd.ro 3 (trisU (Shop.keys s))]]) (.cons rfl (.cons rfl (.nil rfl))) rfl fun fr => ?_
  refine k_seq ?_
  refine k_seq ?_
  refine k_draw [.read true, .plain, .read false, .plain, .plain] (by kernel_rfl) (by kernel_rfl) (by kernel_rfl) ?_
  refine d_load rfl (o_loadN rfl rfl rfl sh27 rfl (o_nil rfl)) ?_
  refine d_plain (o_move rfl (o_nil rfl)) ?_
  refine d_callR rfl (q50) (.bool _) (.lrefl _) ?_
  refine d_plain (o_call rfl (q49) (.lrefl _) (o_nil rfl)) ?_
  refine d_plain (o_assign rfl (o_nil rfl)) ?_
  refine d_nil ?_
  refine k_seq (k_region ?_)
  refine o_move rfl ?_
  refine o_neq rfl rfl rfl ?_
  refine o_nil ?_
  refine k_cF rfl rfl ?_
  refine k_skip ?_
  refine k_seq (k_region ?_)
  refine o_loadN rfl rfl rfl sh27 rfl ?_
  refine o_call rfl (q52) (.lrefl _) ?_
  refine o_assign rfl ?_
  refine o_nil ?_
  refine k_seq ?_
  refine k_seq (k_region ?_)
  refine o_assign rfl ?_
  refine o_nil ?_
  refine k_gen [(1, .int .i64 off), (7, U.lst Kd.ro 1 (List.map rowU L)), (8, .int .i64 0)] ([SB.box [U.lst Kd.ro 3 (trisU (Shop.tools s)), .int .i64 (Shop.flo s), .int .i64 (Shop.fhi s), U.lst Kd.ro 3 (trisU (Shop.keys s))]]) (.cons rfl (.cons rfl (.cons rfl (.nil rfl)))) rfl fun fr => ?_
  refine k_block ?_
  refine k_loop (fun kk st => ∃ (m : Nat), kk + m = 31 ∧ (∀ j : Nat, j < m → decide ((cho s true off (j : Int)).2 ≠ 31) = false) ∧ st.st = [.box s.cs] ∧ Holds st [(1, .int .i64 off), (7, .lst .ro 1 (L.map rowU)), (8, .int .i64 m)]) (fun kk st hI => ?_) 31 _ ?_
  · obtain ⟨m, hkm, h0, hst, hs⟩ := hI
    refine k_gen _ _ hs hst fun fr => ?_
    have hcb := cho_b s true off m
    refine k_seq ?_
    refine k_seq (k_region ?_)
    refine o_move rfl ?_
    refine o_leq rfl rfl rfl ?_
    refine o_nil ?_
    refine k_cond rfl (fun h19 => ?_) (fun h19 => ?_)
    · refine k_skip ?_
      refine k_seq ?_
      refine k_block ?_
      refine k_seq (k_region ?_)
      refine o_move rfl ?_
      refine o_move rfl ?_
      have hd := of_decide_eq_true h19
      have hLm := hL m (by omega)
      refine o_idx (u := rowU (rowL s true m)) rfl ty84 rfl rfl (by omega) (by rw [List.getElem?_map, show ((m : Int)).toNat = m from rfl, hLm]; rfl) cl89 ?_
      refine o_loadRN rfl rfl sh89 rfl ?_
      refine o_move rfl ?_
      refine o_call rfl (ret56 hi hk (by omega)) (.lrefl _) ?_
      refine o_lss rfl rfl rfl ?_
      refine o_nil ?_
      refine k_cond rfl (fun h28 => ?_) (fun h28 => ?_)
      · refine k_seq (k_region ?_)
        refine o_move rfl ?_
        refine o_assign rfl ?_
        refine o_assign rfl ?_
        refine o_nil ?_
        refine k_ret ?_
        refine ⟨.inr rfl, _, .cons _ _ _ _ (.tmp 4) (.cons _ _ _ _ (.tmp 5) .nil), ?_⟩
        have h28 := of_decide_eq_true h28
        have h31 : (cho s true off m).2 ≠ 31 := fun e => by rw [nv31 e] at h28; omega
        have hf : needR s off = some m := find_range (by omega) h0 (decide_eq_true h31)
        rw [show needN s off = m by unfold needN; rw [hf], show needE s off = 0 by unfold needE; rw [hf]]; exact .refl _
      · refine k_skip ?_
        refine k_region ?_
        refine o_move rfl ?_
        refine o_add rfl rfl rfl (by unfold I64; omega) ?_
        refine o_assign rfl ?_
        refine o_nil ?_
        have h28 := of_decide_eq_false h28
        have h31 : (cho s true off m).2 = 31 := by
          refine Classical.byContradiction fun e => h28 ?_
          rw [nv_ne e]; have := hcb.2.1; omega
        refine ⟨kk - 1, by omega, m + 1, by omega, fun j hj => ?_, rfl, .cons rfl (.cons rfl (.cons rfl (.nil rfl)))⟩
        by_cases e : j = m
        · subst e; exact decide_eq_false (fun h => h h31)
        · exact h0 j (by omega)
    · refine k_exit ?_
      refine k_seq (k_region ?_)
      refine o_assign rfl ?_
      refine o_assign rfl ?_
      refine o_nil ?_
      refine k_ret ?_
      refine ⟨.inr rfl, _, .cons _ _ _ _ (.tmp 4) (.cons _ _ _ _ (.tmp 5) .nil), ?_⟩
      have hd := of_decide_eq_false h19
      have hm : m = 31 := by omega
      subst hm
      have hf : needR s off = none := find_none h0
      rw [show needN s off = 0 by unfold needN; rw [hf], show needE s off = 4 by unfold needE; rw [hf]]; exact .refl _
  · exact ⟨0, by omega, fun j hj => absurd hj (Nat.not_lt_zero j), rfl, .cons rfl (.cons rfl (.cons rfl (.nil rfl)))⟩
noncomputable def b4 : Code := (Try.f4.body).getD .skip
theorem body4 : bodyOf Try.prog 4 = some (95, b4, [.tmp 4]) := by kernel_rfl
theorem pure4 : pureFn Try.prog 4 = true := by kernel_rfl
set_option maxHeartbeats 4000000 in
theorem ret24e (hi : Off is) {s : Shop} (hc : checkR s.tools s.keys s.flo s.fhi = 30) : RetP Try.prog is orc 24 [s.u] (.tup [.lst .ro 1 (intsU []), .int .i64 30]) := by
  have q17 := ret17 (orc := orc) hi s
  rw [hc] at q17
  refine ret_of body24 pure24 (hi 24 (by decide)) rfl rfl (dat_l1 (dat_shop s 5)) (.inr ⟨_, rfl, dat_l2 (dat_ints 5 .ro (fun h => by cases h) 1 _) (.int _ _ _)⟩) ?_
  refine k_seq (k_region ?_)
  refine o_box rfl rfl ?_
  refine o_assign rfl ?_
  refine o_assign rfl ?_
  refine o_nil ?_
  refine k_gen [(1, U.box 0 0)] ([SB.box [U.lst Kd.ro 3 (trisU (Shop.tools s)), .int .i64 (Shop.flo s), .int .i64 (Shop.fhi s), U.lst Kd.ro 3 (trisU (Shop.keys s))]]) (.cons rfl (.nil rfl)) rfl fun fr => ?_
  refine k_seq ?_
  refine k_seq (k_region ?_)
  refine o_loadN rfl rfl rfl sh27 rfl ?_
  refine o_call rfl (q17) (.lrefl _) ?_
  refine o_assign rfl ?_
  refine o_nil ?_
  refine k_seq (k_region ?_)
  refine o_move rfl ?_
  refine o_neq rfl rfl rfl ?_
  refine o_nil ?_
  refine k_cT rfl rfl ?_
  refine k_seq (k_region ?_)
  refine o_move rfl ?_
  refine o_assign rfl ?_
  refine o_assign rfl ?_
  refine o_nil ?_
  refine k_ret ?_
  refine ⟨.inr rfl, _, .cons _ _ _ _ (.tmp 2) (.cons _ _ _ _ (.tmp 3) .nil), ?_⟩
  exact .tup _ _ (.lcons _ _ _ _ (.nil _ _ _) (.lrefl _))
set_option maxHeartbeats 4000000 in
theorem ret23f (hi : Off is) {s : Shop} (hc : checkR s.tools s.keys s.flo s.fhi = 30) : RetP Try.prog is orc 23 [s.u] (.tup [.lst .ro 1 (intsU []), .int .i64 30]) := by
  have hck := chk (orc := orc) hi s
  rw [hc] at hck
  refine ret_of body23 pure23 (hi 23 (by decide)) rfl rfl (dat_l1 (dat_shop s 5)) (.inr ⟨_, rfl, dat_l2 (dat_ints 5 .ro (fun h => by cases h) 1 _) (.int _ _ _)⟩) ?_
  refine k_seq (k_region ?_)
  refine o_box rfl rfl ?_
  refine o_assign rfl ?_
  refine o_assign rfl ?_
  refine o_nil ?_
  refine k_gen [(1, U.box 0 0)] ([SB.box [U.lst Kd.ro 3 (trisU (Shop.tools s)), .int .i64 (Shop.flo s), .int .i64 (Shop.fhi s), U.lst Kd.ro 3 (trisU (Shop.keys s))]]) (.cons rfl (.nil rfl)) rfl fun fr => ?_
  refine k_seq (k_region ?_)
  refine o_loadN rfl rfl rfl sh27 rfl ?_
  refine o_call rfl (ret46e s (by decide) hck true) (.lrefl _) ?_
  refine o_move rfl ?_
  refine o_extract rfl rfl rfl ?_
  refine o_extract rfl rfl rfl ?_
  refine o_alloc rfl ze73 ?_
  refine o_storeN rfl rfl sh73 rfl rfl rfl rfl rfl ?_
  refine o_assign rfl ?_
  refine o_nil ?_
  refine k_gen [(4, U.box 1 0), (5, .int .i64 30)] ([SB.box [U.lst Kd.ro 3 (trisU (Shop.tools s)), .int .i64 (Shop.flo s), .int .i64 (Shop.fhi s), U.lst Kd.ro 3 (trisU (Shop.keys s))], SB.box [U.lst Kd.full 0 [], .int .i64 0, .int .i64 0, U.lst Kd.full 0 [], U.nilf, U.nilf]]) (.cons rfl (.cons rfl (.nil rfl))) rfl fun fr => ?_
  refine k_seq ?_
  refine k_seq (k_region ?_)
  refine o_move rfl ?_
  refine o_neq rfl rfl rfl ?_
  refine o_nil ?_
  refine k_cT rfl rfl ?_
  refine k_seq (k_region ?_)
  refine o_move rfl ?_
  refine o_assign rfl ?_
  refine o_assign rfl ?_
  refine o_nil ?_
  refine k_ret ?_
  refine ⟨.inr rfl, _, .cons _ _ _ _ (.tmp 2) (.cons _ _ _ _ (.tmp 3) .nil), ?_⟩
  exact .tup _ _ (.lcons _ _ _ _ (.nil _ _ _) (.lrefl _))
set_option maxHeartbeats 4000000 in
theorem ret27e (hi : Off is) {s : Shop} (hc : checkR s.tools s.keys s.flo s.fhi = 30) : RetP Try.prog is orc 27 [s.u] (.tup [.int .i64 0, .int .i64 30]) := by
  have q17 := ret17 (orc := orc) hi s
  rw [hc] at q17
  refine ret_of body27 pure27 (hi 27 (by decide)) rfl rfl (dat_l1 (dat_shop s 5)) (.inr ⟨_, rfl, dat_l2 (.int _ _ _) (.int _ _ _)⟩) ?_
  refine k_seq (k_region ?_)
  refine o_box rfl rfl ?_
  refine o_assign rfl ?_
  refine o_assign rfl ?_
  refine o_nil ?_
  refine k_gen [(1, U.box 0 0)] ([SB.box [U.lst Kd.ro 3 (trisU (Shop.tools s)), .int .i64 (Shop.flo s), .int .i64 (Shop.fhi s), U.lst Kd.ro 3 (trisU (Shop.keys s))]]) (.cons rfl (.nil rfl)) rfl fun fr => ?_
  refine k_seq ?_
  refine k_seq (k_region ?_)
  refine o_loadN rfl rfl rfl sh27 rfl ?_
  refine o_call rfl (q17) (.lrefl _) ?_
  refine o_assign rfl ?_
  refine o_nil ?_
  refine k_seq (k_region ?_)
  refine o_move rfl ?_
  refine o_neq rfl rfl rfl ?_
  refine o_nil ?_
  refine k_cT rfl rfl ?_
  refine k_seq (k_region ?_)
  refine o_move rfl ?_
  refine o_assign rfl ?_
  refine o_assign rfl ?_
  refine o_nil ?_
  refine k_ret ?_
  refine ⟨.inr rfl, _, .cons _ _ _ _ (.tmp 2) (.cons _ _ _ _ (.tmp 3) .nil), ?_⟩
  exact .refl _
set_option maxHeartbeats 4000000 in
theorem ret26e (hi : Off is) {s : Shop} (hc : checkR s.tools s.keys s.flo s.fhi = 30) : RetP Try.prog is orc 26 [s.u] (.tup [.int .i64 0, .int .i64 30]) := by
  have hck := chk (orc := orc) hi s
  rw [hc] at hck
  refine ret_of body26 pure26 (hi 26 (by decide)) rfl rfl (dat_l1 (dat_shop s 5)) (.inr ⟨_, rfl, dat_l2 (.int _ _ _) (.int _ _ _)⟩) ?_
  refine k_seq (k_region ?_)
  refine o_box rfl rfl ?_
  refine o_assign rfl ?_
  refine o_assign rfl ?_
  refine o_nil ?_
  refine k_gen [(1, U.box 0 0)] ([SB.box [U.lst Kd.ro 3 (trisU (Shop.tools s)), .int .i64 (Shop.flo s), .int .i64 (Shop.fhi s), U.lst Kd.ro 3 (trisU (Shop.keys s))]]) (.cons rfl (.nil rfl)) rfl fun fr => ?_
  refine k_seq (k_region ?_)
  refine o_loadN rfl rfl rfl sh27 rfl ?_
  refine o_call rfl (ret46e s (by decide) hck true) (.lrefl _) ?_
  refine o_move rfl ?_
  refine o_extract rfl rfl rfl ?_
  refine o_extract rfl rfl rfl ?_
  refine o_alloc rfl ze73 ?_
  refine o_storeN rfl rfl sh73 rfl rfl rfl rfl rfl ?_
  refine o_assign rfl ?_
  refine o_nil ?_
  refine k_gen [(4, U.box 1 0), (5, .int .i64 30)] ([SB.box [U.lst Kd.ro 3 (trisU (Shop.tools s)), .int .i64 (Shop.flo s), .int .i64 (Shop.fhi s), U.lst Kd.ro 3 (trisU (Shop.keys s))], SB.box [U.lst Kd.full 0 [], .int .i64 0, .int .i64 0, U.lst Kd.full 0 [], U.nilf, U.nilf]]) (.cons rfl (.cons rfl (.nil rfl))) rfl fun fr => ?_
  refine k_seq ?_
  refine k_seq (k_region ?_)
  refine o_move rfl ?_
  refine o_neq rfl rfl rfl ?_
  refine o_nil ?_
  refine k_cT rfl rfl ?_
  refine k_seq (k_region ?_)
  refine o_move rfl ?_
  refine o_assign rfl ?_
  refine o_assign rfl ?_
  refine o_nil ?_
  refine k_ret ?_
  refine ⟨.inr rfl, _, .cons _ _ _ _ (.tmp 2) (.cons _ _ _ _ (.tmp 3) .nil), ?_⟩
  exact .refl _
set_option maxHeartbeats 4000000 in
theorem ret29e (hi : Off is) {s : Shop} {off : Int} (h : askR s (offB off) ≠ 0) : RetP Try.prog is orc 29 [s.u, .int .i64 off] (.tup [.int .i64 0, .int .i64 (askR s (offB off))]) := by
  have q50 := ret50 (orc := orc) hi off 0
  rw [show (offB off && metB 0) = offB off by rw [show metB 0 = true from rfl, Bool.and_true]] at q50
  have q49 := ret49 (orc := orc) hi s (offB off)
  generalize askR s (offB off) = c at h q49
  refine ret_of body29 pure29 (hi 29 (by decide)) rfl rfl (dat_l2 (dat_shop s 5) (.int _ _ _)) (.inr ⟨_, rfl, dat_l2 (.int _ _ _) (.int _ _ _)⟩) ?_
  refine k_seq (k_region ?_)
  refine o_box rfl rfl ?_
  refine o_assign rfl ?_
  refine o_assign rfl ?_
  refine o_nil ?_
  refine k_gen [(1, .int .i64 off), (2, U.box 0 0)] ([SB.box [U.lst Kd.ro 3 (trisU (Shop.tools s)), .int .i64 (Shop.flo s), .int .i64 (Shop.fhi s), U.lst Kd.ro 3 (trisU (Shop.keys s))]]) (.cons rfl (.cons rfl (.nil rfl))) rfl fun fr => ?_
  refine k_seq ?_
  refine k_seq ?_
  refine k_draw [.read true, .plain, .read false, .plain, .plain] (by kernel_rfl) (by kernel_rfl) (by kernel_rfl) ?_
  refine d_load rfl (o_loadN rfl rfl rfl sh27 rfl (o_nil rfl)) ?_
  refine d_plain (o_move rfl (o_nil rfl)) ?_
  refine d_callR rfl (q50) (.bool _) (.lrefl _) ?_
  refine d_plain (o_call rfl (q49) (.lrefl _) (o_nil rfl)) ?_
  refine d_plain (o_assign rfl (o_nil rfl)) ?_
  refine d_nil ?_
  refine k_seq (k_region ?_)
  refine o_move rfl ?_
  refine o_neq rfl rfl rfl ?_
  refine o_nil ?_
  refine k_cT rfl (decide_eq_true (by omega)) ?_
  refine k_seq (k_region ?_)
  refine o_move rfl ?_
  refine o_assign rfl ?_
  refine o_assign rfl ?_
  refine o_nil ?_
  refine k_ret ?_
  refine ⟨.inr rfl, _, .cons _ _ _ _ (.tmp 4) (.cons _ _ _ _ (.tmp 5) .nil), ?_⟩
  exact .refl _
set_option maxHeartbeats 4000000 in
theorem ret28x (hi : Off is) {s : Shop} {off : Int} (h : askR s (offB off) ≠ 0) : RetP Try.prog is orc 28 [s.u, .int .i64 off] (.tup [.int .i64 0, .int .i64 (askR s (offB off))]) := by
  have q46 := ask46 (orc := orc) hi h
  have q47 := ret47 (orc := orc) hi off
  rw [show (decide (-60 ≤ off) && decide (off ≤ 60)) = offB off from rfl] at q47
  generalize askR s (offB off) = c at h q46
  refine ret_of body28 pure28 (hi 28 (by decide)) rfl rfl (dat_l2 (dat_shop s 5) (.int _ _ _)) (.inr ⟨_, rfl, dat_l2 (.int _ _ _) (.int _ _ _)⟩) ?_
  refine k_seq (k_region ?_)
  refine o_box rfl rfl ?_
  refine o_assign rfl ?_
  refine o_assign rfl ?_
  refine o_nil ?_
  refine k_gen [(1, .int .i64 off), (2, U.box 0 0)] ([SB.box [U.lst Kd.ro 3 (trisU (Shop.tools s)), .int .i64 (Shop.flo s), .int .i64 (Shop.fhi s), U.lst Kd.ro 3 (trisU (Shop.keys s))]]) (.cons rfl (.cons rfl (.nil rfl))) rfl fun fr => ?_
  refine k_seq ?_
  refine k_draw [.read true, .plain, .read false, .quiet, .plain, .plain, .plain, .pre, .plain, .plain] (by kernel_rfl) (by kernel_rfl) (by kernel_rfl) ?_
  refine d_load rfl (o_loadN rfl rfl rfl sh27 rfl (o_nil rfl)) ?_
  refine d_plain (o_move rfl (o_nil rfl)) ?_
  refine d_callR rfl (q47) (.bool _) (.lrefl _) ?_
  refine d_callQ rfl (q46) (.lrefl _) ?_
  refine d_plain (o_move rfl (o_nil rfl)) ?_
  refine d_plain (o_extract rfl rfl rfl (o_nil rfl)) ?_
  refine d_plain (o_extract rfl rfl rfl (o_nil rfl)) ?_
  refine d_pre rfl ze73 ?_
  refine d_plain (o_storeN rfl rfl sh73 rfl rfl rfl rfl rfl (o_nil rfl)) ?_
  refine d_plain (o_assign rfl (o_nil rfl)) ?_
  refine d_nil ?_
  refine k_gen [(1, .int .i64 off), (6, U.box 1 0), (7, .int .i64 c)] ([SB.box [U.lst Kd.ro 3 (trisU (Shop.tools s)), .int .i64 (Shop.flo s), .int .i64 (Shop.fhi s), U.lst Kd.ro 3 (trisU (Shop.keys s))], SB.box [U.lst Kd.full 0 [], .int .i64 0, .int .i64 0, U.lst Kd.full 0 [], U.nilf, U.nilf]]) (.cons rfl (.cons rfl (.cons rfl (.nil rfl)))) rfl fun fr => ?_
  refine k_seq ?_
  refine k_seq (k_region ?_)
  refine o_move rfl ?_
  refine o_neq rfl rfl rfl ?_
  refine o_nil ?_
  refine k_cT rfl (decide_eq_true (by omega)) ?_
  refine k_seq (k_region ?_)
  refine o_move rfl ?_
  refine o_assign rfl ?_
  refine o_assign rfl ?_
  refine o_nil ?_
  refine k_ret ?_
  refine ⟨.inr rfl, _, .cons _ _ _ _ (.tmp 4) (.cons _ _ _ _ (.tmp 5) .nil), ?_⟩
  exact .refl _
set_option maxHeartbeats 4000000 in
theorem ret59k (hi : Off is) (s : Shop) (key : Int) : RetP Try.prog is orc 59 [s.u, .int .i64 key] (.bool (hkB s key)) := by
  unfold hkB
  refine ret_of body59 pure59 (hi 59 (by decide)) rfl rfl (dat_l2 (dat_shop s 5) (.int _ _ _)) (.inl (.bool _ _)) ?_
  by_cases h : 0 ≤ key
  · rw [decide_eq_true h]
    refine k_seq (k_region ?_)
    refine o_box rfl rfl ?_
    refine o_assign rfl ?_
    refine o_nil ?_
    refine k_gen [(1, .int .i64 key), (2, U.box 0 0)] ([SB.box [U.lst Kd.ro 3 (trisU (Shop.tools s)), .int .i64 (Shop.flo s), .int .i64 (Shop.fhi s), U.lst Kd.ro 3 (trisU (Shop.keys s))]]) (.cons rfl (.cons rfl (.nil rfl))) rfl fun fr => ?_
    refine k_seq (k_region ?_)
    refine o_move rfl ?_
    refine o_leq rfl rfl rfl ?_
    refine o_move rfl ?_
    refine o_gD rfl rfl rfl rfl (decide_eq_true (by omega)) ?_
    refine o_move rfl ?_
    refine o_gD rfl rfl rfl rfl (decide_eq_true (by omega)) ?_
    refine o_faddr rfl rfl fld27_2 ?_
    refine o_gD rfl rfl rfl rfl (decide_eq_true (by omega)) ?_
    refine o_load1 rfl rfl rfl sh25 rfl ?_
    refine o_gD rfl rfl rfl rfl (decide_eq_true (by omega)) ?_
    refine o_len rfl ty25 rfl (List.length_map _) ?_
    refine o_gD rfl rfl rfl rfl (decide_eq_true (by omega)) ?_
    refine o_lss rfl rfl rfl ?_
    refine o_pickT rfl rfl (decide_eq_true (by omega)) ?_
    refine o_assign rfl ?_
    refine o_nil ?_
    refine k_ret ?_
    refine ⟨.inr rfl, _, .cons _ _ _ _ (.tmp 4) .nil, ?_⟩
    exact .refl _
  · rw [decide_eq_false h]
    refine k_seq (k_region ?_)
    refine o_box rfl rfl ?_
    refine o_assign rfl ?_
    refine o_nil ?_
    refine k_gen [(1, .int .i64 key), (2, U.box 0 0)] ([SB.box [U.lst Kd.ro 3 (trisU (Shop.tools s)), .int .i64 (Shop.flo s), .int .i64 (Shop.fhi s), U.lst Kd.ro 3 (trisU (Shop.keys s))]]) (.cons rfl (.cons rfl (.nil rfl))) rfl fun fr => ?_
    refine k_seq (k_region ?_)
    refine o_move rfl ?_
    refine o_leq rfl rfl rfl ?_
    refine o_move rfl ?_
    refine o_gS rfl rfl rfl rfl (decide_eq_false (by omega)) ?_
    refine o_gS rfl rfl rfl rfl (decide_eq_false (by omega)) ?_
    refine o_gS rfl rfl rfl rfl (decide_eq_false (by omega)) ?_
    refine o_gS rfl rfl rfl rfl (decide_eq_false (by omega)) ?_
    refine o_gS rfl rfl rfl rfl (decide_eq_false (by omega)) ?_
    refine o_pickF rfl rfl (decide_eq_false (by omega)) ?_
    refine o_assign rfl ?_
    refine o_nil ?_
    refine k_ret ?_
    refine ⟨.inr rfl, _, .cons _ _ _ _ (.tmp 4) .nil, ?_⟩
    exact .refl _
set_option maxHeartbeats 4000000 in
theorem ret21x (hi : Off is) {s : Shop} {key : Int} (h : askR s (hkB s key) ≠ 0) : RetP Try.prog is orc 21 [s.u, .int .i64 key] (.tup [.int .i64 0, .int .i64 (askR s (hkB s key))]) := by
  have q46 := ask46 (orc := orc) hi h
  have q59 := ret59k (orc := orc) hi s key
  generalize askR s (hkB s key) = c at h q46
  refine ret_of body21 pure21 (hi 21 (by decide)) rfl rfl (dat_l2 (dat_shop s 5) (.int _ _ _)) (.inr ⟨_, rfl, dat_l2 (.int _ _ _) (.int _ _ _)⟩) ?_
  refine k_seq (k_region ?_)
  refine o_box rfl rfl ?_
  refine o_assign rfl ?_
  refine o_assign rfl ?_
  refine o_nil ?_
  refine k_gen [(1, .int .i64 key), (2, U.box 0 0)] ([SB.box [U.lst Kd.ro 3 (trisU (Shop.tools s)), .int .i64 (Shop.flo s), .int .i64 (Shop.fhi s), U.lst Kd.ro 3 (trisU (Shop.keys s))]]) (.cons rfl (.cons rfl (.nil rfl))) rfl fun fr => ?_
  refine k_seq ?_
  refine k_draw [.read true, .read true, .plain, .read false, .quiet, .plain, .plain, .plain, .pre, .plain, .plain] (by kernel_rfl) (by kernel_rfl) (by kernel_rfl) ?_
  refine d_load rfl (o_loadN rfl rfl rfl sh27 rfl (o_nil rfl)) ?_
  refine d_load rfl (o_loadN rfl rfl rfl sh27 rfl (o_nil rfl)) ?_
  refine d_plain (o_move rfl (o_nil rfl)) ?_
  refine d_callR rfl (q59) (.bool _) (.lrefl _) ?_
  refine d_callQ rfl (q46) (.lrefl _) ?_
  refine d_plain (o_move rfl (o_nil rfl)) ?_
  refine d_plain (o_extract rfl rfl rfl (o_nil rfl)) ?_
  refine d_plain (o_extract rfl rfl rfl (o_nil rfl)) ?_
  refine d_pre rfl ze73 ?_
  refine d_plain (o_storeN rfl rfl sh73 rfl rfl rfl rfl rfl (o_nil rfl)) ?_
  refine d_plain (o_assign rfl (o_nil rfl)) ?_
  refine d_nil ?_
  refine k_gen [(1, .int .i64 key), (6, U.box 1 0), (7, .int .i64 c)] ([SB.box [U.lst Kd.ro 3 (trisU (Shop.tools s)), .int .i64 (Shop.flo s), .int .i64 (Shop.fhi s), U.lst Kd.ro 3 (trisU (Shop.keys s))], SB.box [U.lst Kd.full 0 [], .int .i64 0, .int .i64 0, U.lst Kd.full 0 [], U.nilf, U.nilf]]) (.cons rfl (.cons rfl (.cons rfl (.nil rfl)))) rfl fun fr => ?_
  refine k_seq ?_
  refine k_seq (k_region ?_)
  refine o_move rfl ?_
  refine o_neq rfl rfl rfl ?_
  refine o_nil ?_
  refine k_cT rfl (decide_eq_true (by omega)) ?_
  refine k_seq (k_region ?_)
  refine o_move rfl ?_
  refine o_assign rfl ?_
  refine o_assign rfl ?_
  refine o_nil ?_
  refine k_ret ?_
  refine ⟨.inr rfl, _, .cons _ _ _ _ (.tmp 4) (.cons _ _ _ _ (.tmp 5) .nil), ?_⟩
  exact .refl _
theorem check_30 {s : Shop} (h : checkR s.tools s.keys s.flo s.fhi ≠ 0) : checkR s.tools s.keys s.flo s.fhi = 30 := by
  rw [check_is] at h ⊢; split <;> simp_all
theorem ask_zero {s : Shop} {b : Bool} (h : askR s b = 0) : checkR s.tools s.keys s.flo s.fhi = 0 ∧ b = true := by
  have hc : checkR s.tools s.keys s.flo s.fhi = 0 := by
    refine Classical.byContradiction fun hc => ?_
    unfold askR at h; rw [if_pos hc] at h; exact hc h
  refine ⟨hc, ?_⟩
  unfold askR at h; rw [hc] at h
  cases b with
  | true => rfl
  | false => exact absurd h (by decide)
set_option maxHeartbeats 4000000 in
theorem ret4 (hi : Off is) (s : Shop) (a b : Int) (r20 : RetP Try.prog is orc 20 [] (.bool true)) : RetP Try.prog is orc 4 [s.u, .agg [.int .i64 a, .int .i64 b]] (.bool true) := by
  obtain ⟨x1, x2, q21, q22⟩ : ∃ x1 x2 : Int, RetP Try.prog is orc 21 [s.u, .int .i64 a] (.tup [.int .i64 x1, .int .i64 x2]) ∧ RetP Try.prog is orc 22 [s.u, .int .i64 a] (.tup [.int .i64 x1, .int .i64 x2]) := by
    by_cases h : askR s (hkB s a) = 0
    · obtain ⟨hc, hb⟩ := ask_zero h
      obtain ⟨i, q, rfl, hq⟩ := hkB_key hb
      exact ⟨_, _, ret21 hi (ok_chk hc) hq, ret22 hi (ok_chk hc) hq⟩
    · exact ⟨_, _, ret21x hi h, ret22e hi h⟩
  obtain ⟨l, x3, q23, q24, hll⟩ : ∃ (l : List Int) (x3 : Int), RetP Try.prog is orc 23 [s.u] (.tup [.lst .ro 1 (intsU l), .int .i64 x3]) ∧ RetP Try.prog is orc 24 [s.u] (.tup [.lst .ro 1 (intsU l), .int .i64 x3]) ∧ l.length ≤ 4096 := by
    by_cases hc : checkR s.tools s.keys s.flo s.fhi = 0
    · exact ⟨_, _, ret23 hi (ok_chk hc), ret24 hi (ok_chk hc), lsB_le _⟩
    · exact ⟨[], 30, ret23f hi (check_30 hc), ret24e hi (check_30 hc), by decide⟩
  obtain ⟨x4, x5, q26, q27⟩ : ∃ x4 x5 : Int, RetP Try.prog is orc 26 [s.u] (.tup [.int .i64 x4, .int .i64 x5]) ∧ RetP Try.prog is orc 27 [s.u] (.tup [.int .i64 x4, .int .i64 x5]) := by
    by_cases hc : checkR s.tools s.keys s.flo s.fhi = 0
    · have h1 := ret26 (orc := orc) hi (ok_chk hc)
      have h2 := ret27 (orc := orc) hi (ok_chk hc)
      by_cases ha : anyB (spB s) = true
      · rw [if_pos ha] at h1 h2; exact ⟨_, _, h1, h2⟩
      · rw [if_neg ha] at h1 h2; exact ⟨_, _, h1, h2⟩
    · exact ⟨_, _, ret26e hi (check_30 hc), ret27e hi (check_30 hc)⟩
  obtain ⟨x6, x7, q28, q29⟩ : ∃ x6 x7 : Int, RetP Try.prog is orc 28 [s.u, .int .i64 b] (.tup [.int .i64 x6, .int .i64 x7]) ∧ RetP Try.prog is orc 29 [s.u, .int .i64 b] (.tup [.int .i64 x6, .int .i64 x7]) := by
    by_cases h : askR s (offB b) = 0
    · obtain ⟨hc, hb⟩ := ask_zero h
      exact ⟨_, _, ret28 hi (ok_chk hc) hb, ret29 hi (ok_chk hc) hb⟩
    · exact ⟨_, _, ret28x hi h, ret29e hi h⟩
  have q25 := ret25 (orc := orc) hi l l hll
  rw [decide_eq_true rfl] at q25
  refine ret_of body4 pure4 (hi 4 (by decide)) rfl rfl (dat_l2 (dat_shop s 5) (dat_span _ _ _)) (.inl (.bool _ _)) ?_
  refine k_seq (k_region ?_)
  refine o_box rfl rfl ?_
  refine o_box rfl rfl ?_
  refine o_assign rfl ?_
  refine o_nil ?_
  refine k_gen [(2, U.box 0 0), (3, U.box 1 0)] ([SB.box [U.lst Kd.ro 3 (trisU (Shop.tools s)), .int .i64 (Shop.flo s), .int .i64 (Shop.fhi s), U.lst Kd.ro 3 (trisU (Shop.keys s))], SB.box [.int .i64 a, .int .i64 b]]) (.cons rfl (.cons rfl (.nil rfl))) rfl fun fr => ?_
  refine k_seq (k_region ?_)
  refine o_loadN rfl rfl rfl sh27 rfl ?_
  refine o_idxA rfl ty28 rfl rfl (by omega) (by omega) cl3 ?_
  refine o_load1 rfl rfl rfl sh3 rfl ?_
  refine o_call rfl (q21) (.lrefl _) ?_
  refine o_move rfl ?_
  refine o_extract rfl rfl rfl ?_
  refine o_extract rfl rfl rfl ?_
  refine o_assign rfl ?_
  refine o_assign rfl ?_
  refine o_nil ?_
  refine k_seq (k_region ?_)
  refine o_loadN rfl rfl rfl sh27 rfl ?_
  refine o_idxA rfl ty28 rfl rfl (by omega) (by omega) cl3 ?_
  refine o_load1 rfl rfl rfl sh3 rfl ?_
  refine o_call rfl (q22) (.lrefl _) ?_
  refine o_move rfl ?_
  refine o_extract rfl rfl rfl ?_
  refine o_extract rfl rfl rfl ?_
  refine o_assign rfl ?_
  refine o_assign rfl ?_
  refine o_nil ?_
  refine k_gen [(2, U.box 0 0), (3, U.box 1 0), (5, .int .i64 x1), (6, .int .i64 x2), (7, .int .i64 x1), (8, .int .i64 x2)] ([SB.box [U.lst Kd.ro 3 (trisU (Shop.tools s)), .int .i64 (Shop.flo s), .int .i64 (Shop.fhi s), U.lst Kd.ro 3 (trisU (Shop.keys s))], SB.box [.int .i64 a, .int .i64 b]]) (.cons rfl (.cons rfl (.cons rfl (.cons rfl (.cons rfl (.cons rfl (.nil rfl))))))) rfl fun fr => ?_
  refine k_seq ?_
  refine k_seq (k_region ?_)
  refine o_move rfl ?_
  refine o_move rfl ?_
  refine o_neq rfl rfl rfl ?_
  refine o_move rfl ?_
  refine o_gD rfl rfl rfl rfl (decide_eq_false (by omega)) ?_
  refine o_move rfl ?_
  refine o_gD rfl rfl rfl rfl (decide_eq_false (by omega)) ?_
  refine o_move rfl ?_
  refine o_gD rfl rfl rfl rfl (decide_eq_false (by omega)) ?_
  refine o_neq rfl rfl rfl ?_
  refine o_pickF rfl rfl (decide_eq_false (by omega)) ?_
  refine o_nil ?_
  refine k_cF rfl (decide_eq_false (by omega)) ?_
  refine k_skip ?_
  refine k_seq (k_region ?_)
  refine o_loadN rfl rfl rfl sh27 rfl ?_
  refine o_call rfl (q23) (.lrefl _) ?_
  refine o_move rfl ?_
  refine o_extract rfl rfl rfl ?_
  refine o_extract rfl rfl rfl ?_
  refine o_assign rfl ?_
  refine o_assign rfl ?_
  refine o_nil ?_
  refine k_gen [(2, U.box 0 0), (3, U.box 1 0), (6, .int .i64 x3), (9, U.lst Kd.ro 1 (intsU l))] ([SB.box [U.lst Kd.ro 3 (trisU (Shop.tools s)), .int .i64 (Shop.flo s), .int .i64 (Shop.fhi s), U.lst Kd.ro 3 (trisU (Shop.keys s))], SB.box [.int .i64 a, .int .i64 b]]) (.cons rfl (.cons rfl (.cons rfl (.cons rfl (.nil rfl))))) rfl fun fr => ?_
  refine k_seq (k_region ?_)
  refine o_loadN rfl rfl rfl sh27 rfl ?_
  refine o_call rfl (q24) (.lrefl _) ?_
  refine o_move rfl ?_
  refine o_extract rfl rfl rfl ?_
  refine o_extract rfl rfl rfl ?_
  refine o_assign rfl ?_
  refine o_assign rfl ?_
  refine o_nil ?_
  refine k_seq ?_
  refine k_seq (k_region ?_)
  refine o_move rfl ?_
  refine o_move rfl ?_
  refine o_call rfl (q25) (.lrefl _) ?_
  refine o_not rfl rfl ?_
  refine o_move rfl ?_
  refine o_gD rfl rfl rfl rfl rfl ?_
  refine o_move rfl ?_
  refine o_gD rfl rfl rfl rfl rfl ?_
  refine o_move rfl ?_
  refine o_gD rfl rfl rfl rfl rfl ?_
  refine o_neq rfl rfl rfl ?_
  refine o_pickF rfl rfl rfl ?_
  refine o_nil ?_
  refine k_gen [(2, U.box 0 0), (3, U.box 1 0), (51, U.bool (Decidable.decide (x3 ≠ x3)))] ([SB.box [U.lst Kd.ro 3 (trisU (Shop.tools s)), .int .i64 (Shop.flo s), .int .i64 (Shop.fhi s), U.lst Kd.ro 3 (trisU (Shop.keys s))], SB.box [.int .i64 a, .int .i64 b]]) (.cons rfl (.cons rfl (.cons rfl (.nil rfl)))) rfl fun fr => ?_
  refine k_cF rfl (decide_eq_false (by omega)) ?_
  refine k_skip ?_
  refine k_seq (k_region ?_)
  refine o_loadN rfl rfl rfl sh27 rfl ?_
  refine o_call rfl (q26) (.lrefl _) ?_
  refine o_move rfl ?_
  refine o_extract rfl rfl rfl ?_
  refine o_extract rfl rfl rfl ?_
  refine o_assign rfl ?_
  refine o_assign rfl ?_
  refine o_nil ?_
  refine k_seq (k_region ?_)
  refine o_loadN rfl rfl rfl sh27 rfl ?_
  refine o_call rfl (q27) (.lrefl _) ?_
  refine o_move rfl ?_
  refine o_extract rfl rfl rfl ?_
  refine o_extract rfl rfl rfl ?_
  refine o_assign rfl ?_
  refine o_assign rfl ?_
  refine o_nil ?_
  refine k_gen [(2, U.box 0 0), (3, U.box 1 0), (5, .int .i64 x4), (6, .int .i64 x5), (7, .int .i64 x4), (8, .int .i64 x5)] ([SB.box [U.lst Kd.ro 3 (trisU (Shop.tools s)), .int .i64 (Shop.flo s), .int .i64 (Shop.fhi s), U.lst Kd.ro 3 (trisU (Shop.keys s))], SB.box [.int .i64 a, .int .i64 b]]) (.cons rfl (.cons rfl (.cons rfl (.cons rfl (.cons rfl (.cons rfl (.nil rfl))))))) rfl fun fr => ?_
  refine k_seq ?_
  refine k_seq (k_region ?_)
  refine o_move rfl ?_
  refine o_move rfl ?_
  refine o_neq rfl rfl rfl ?_
  refine o_move rfl ?_
  refine o_gD rfl rfl rfl rfl (decide_eq_false (by omega)) ?_
  refine o_move rfl ?_
  refine o_gD rfl rfl rfl rfl (decide_eq_false (by omega)) ?_
  refine o_move rfl ?_
  refine o_gD rfl rfl rfl rfl (decide_eq_false (by omega)) ?_
  refine o_neq rfl rfl rfl ?_
  refine o_pickF rfl rfl (decide_eq_false (by omega)) ?_
  refine o_nil ?_
  refine k_cF rfl (decide_eq_false (by omega)) ?_
  refine k_skip ?_
  refine k_seq (k_region ?_)
  refine o_loadN rfl rfl rfl sh27 rfl ?_
  refine o_idxA rfl ty28 rfl rfl (by omega) (by omega) cl3 ?_
  refine o_load1 rfl rfl rfl sh3 rfl ?_
  refine o_call rfl (q28) (.lrefl _) ?_
  refine o_move rfl ?_
  refine o_extract rfl rfl rfl ?_
  refine o_extract rfl rfl rfl ?_
  refine o_assign rfl ?_
  refine o_assign rfl ?_
  refine o_nil ?_
  refine k_gen [(2, U.box 0 0), (3, U.box 1 0), (5, .int .i64 x6), (6, .int .i64 x7)] ([SB.box [U.lst Kd.ro 3 (trisU (Shop.tools s)), .int .i64 (Shop.flo s), .int .i64 (Shop.fhi s), U.lst Kd.ro 3 (trisU (Shop.keys s))], SB.box [.int .i64 a, .int .i64 b]]) (.cons rfl (.cons rfl (.cons rfl (.cons rfl (.nil rfl))))) rfl fun fr => ?_
  refine k_seq (k_region ?_)
  refine o_loadN rfl rfl rfl sh27 rfl ?_
  refine o_idxA rfl ty28 rfl rfl (by omega) (by omega) cl3 ?_
  refine o_load1 rfl rfl rfl sh3 rfl ?_
  refine o_call rfl (q29) (.lrefl _) ?_
  refine o_move rfl ?_
  refine o_extract rfl rfl rfl ?_
  refine o_extract rfl rfl rfl ?_
  refine o_assign rfl ?_
  refine o_assign rfl ?_
  refine o_nil ?_
  refine k_seq (k_region ?_)
  refine o_move rfl ?_
  refine o_move rfl ?_
  refine o_eql rfl rfl rfl ?_
  refine o_move rfl ?_
  refine o_gD rfl rfl rfl rfl (decide_eq_true (by omega)) ?_
  refine o_move rfl ?_
  refine o_gD rfl rfl rfl rfl (decide_eq_true (by omega)) ?_
  refine o_move rfl ?_
  refine o_gD rfl rfl rfl rfl (decide_eq_true (by omega)) ?_
  refine o_eql rfl rfl rfl ?_
  refine o_pickT rfl rfl (decide_eq_true (by omega)) ?_
  refine o_move rfl ?_
  refine o_gD rfl rfl rfl rfl (decide_eq_true (by omega)) ?_
  refine o_call rfl (r20) (.lrefl _) ?_
  refine o_pickT rfl rfl (decide_eq_true (by omega)) ?_
  refine o_assign rfl ?_
  refine o_nil ?_
  refine k_ret ?_
  refine ⟨.inr rfl, _, .cons _ _ _ _ (.tmp 4) .nil, ?_⟩
  exact .refl _
theorem ret4_all {is : FuncId → Bool} {orc : Known} (hi : Off is) (r20 : RetP Try.prog is orc 20 [] (.bool true)) : ∀ us, ShpAs Try.prog [27, 28] us → RetP Try.prog is orc 4 us (.bool true) := shps_27_28 fun s a b => ret4 hi s a b r20
end Go.Proofs.Ytdahbimllmapkaa.raspKeys
