/- forge's functions, the specification's and the law's, by the logic of trees: what each gives back for all that it may be given. -/
import Derived.Test.YtniplfmjbjjocaaGreatVamLeft2
namespace Go.Proofs.YtniplfmjbjjocaaGreat.forgeLeft
open Vam
set_option linter.unusedVariables false
set_option linter.unusedSimpArgs false
set_option linter.constructorNameAsVariable false
variable {is : FuncId → Bool} {orc : Known}
noncomputable def b33 : Code := (Tryz.f33.body).getD .skip
theorem body33 : bodyOf Tryz.prog 33 = some (31, b33, [.tmp 4]) := by kernel_rfl
theorem pure33 : pureFn Tryz.prog 33 = true := by kernel_rfl
noncomputable def b27 : Code := (Tryz.f27.body).getD .skip
theorem body27 : bodyOf Tryz.prog 27 = some (19, b27, [.tmp 4]) := by kernel_rfl
theorem pure27 : pureFn Tryz.prog 27 = true := by kernel_rfl
noncomputable def b124 : Code := (Tryz.f124.body).getD .skip
theorem body124 : bodyOf Tryz.prog 124 = some (6, b124, [.tmp 2]) := by kernel_rfl
theorem pure124 : pureFn Tryz.prog 124 = true := by kernel_rfl
noncomputable def b113 : Code := (Tryz.f113.body).getD .skip
theorem body113 : bodyOf Tryz.prog 113 = some (20, b113, [.tmp 4]) := by kernel_rfl
theorem pure113 : pureFn Tryz.prog 113 = true := by kernel_rfl
noncomputable def b90 : Code := (Tryz.f90.body).getD .skip
theorem body90 : bodyOf Tryz.prog 90 = some (36, b90, [.tmp 4]) := by kernel_rfl
theorem pure90 : pureFn Tryz.prog 90 = true := by kernel_rfl
noncomputable def b72 : Code := (Tryz.f72.body).getD .skip
theorem body72 : bodyOf Tryz.prog 72 = some (19, b72, [.tmp 4]) := by kernel_rfl
theorem pure72 : pureFn Tryz.prog 72 = true := by kernel_rfl
noncomputable def b35 : Code := (Tryz.f35.body).getD .skip
theorem body35 : bodyOf Tryz.prog 35 = some (41, b35, [.tmp 4]) := by kernel_rfl
theorem pure35 : pureFn Tryz.prog 35 = true := by kernel_rfl
noncomputable def b62 : Code := (Tryz.f62.body).getD .skip
theorem body62 : bodyOf Tryz.prog 62 = some (10, b62, [.tmp 4]) := by kernel_rfl
theorem pure62 : pureFn Tryz.prog 62 = true := by kernel_rfl
theorem by3 : Program.bytesOf Tryz.prog 3 = 8 := by kernel_rfl
theorem ze3 : zeroL Tryz.prog 3 = some ((.cons (.int .i64 0) .nil) : V) := by kernel_rfl
theorem ap30_30 : AppT Tryz.prog 30 30 3 1 8 ((.cons (.int .i64 0) .nil) : V) := ⟨ty30, ⟨_, ty30⟩, cl3, by decide, by3, ze3, rfl⟩
noncomputable def b34 : Code := (Tryz.f34.body).getD .skip
theorem body34 : bodyOf Tryz.prog 34 = some (20, b34, [.tmp 4]) := by kernel_rfl
theorem pure34 : pureFn Tryz.prog 34 = true := by kernel_rfl
theorem dat_ints (k : Nat) (kd : Kd) (hk : kd ≠ .own) (z : Nat) (l : List Int) : Dat (k + 2) (.lst kd z (intsU l)) := .lst _ _ _ _ hk fun c hc => by
  obtain ⟨e, h1, h2⟩ := List.mem_flatMap.1 hc
  obtain ⟨q, _, rfl⟩ := List.mem_map.1 h1
  rw [List.mem_singleton.1 h2]; exact .int _ _ _
def accI (l : List Int) : U := match l with
  | [] => .lst .full 0 []
  | l => .lst .own 1 (intsU l)
theorem accI_snoc (x : Int) (l : List Int) : accI (l ++ [x]) = .lst .own 1 (intsU l ++ [.int .i64 x]) := by
  cases l with
  | nil => rfl
  | cons y l => show U.lst .own 1 (intsU (y :: (l ++ [x]))) = _; rw [show y :: (l ++ [x]) = (y :: l) ++ [x] from rfl, show intsU ((y :: l) ++ [x]) = intsU (y :: l) ++ intsU [x] from List.map_append ..]; rfl
def lsB (f : Nat → Bool) (n : Nat) : List Int := ((List.range n).filter f).map fun i : Nat => (i : Int)
theorem ls_len (f : Nat → Bool) (n : Nat) : (lsB f n).length ≤ n := by
  unfold lsB
  rw [List.length_map]
  exact Nat.le_trans (List.length_filter_le _ _) (by simp)
theorem ls_in {f : Nat → Bool} {n : Nat} (h : f n = true) : lsB f (n + 1) = lsB f n ++ [(n : Int)] := by
  unfold lsB
  rw [List.range_succ, List.filter_append, List.map_append]; simp [h]
theorem ls_out {f : Nat → Bool} {n : Nat} (h : f n = false) : lsB f (n + 1) = lsB f n := by
  unfold lsB
  rw [List.range_succ, List.filter_append, List.map_append]; simp [h]
def grB (last : Int) (m : Int) : List Int → Bool
  | [] => true
  | x :: r => if x ≤ last ∨ m ≤ x then false else grB x m r
theorem gr_range (f : Nat → Bool) (m : Int) : ∀ (n a : Nat) (last : Int), last < a → (a : Int) + n ≤ m → grB last m (((List.range' a n).filter f).map fun i : Nat => (i : Int)) = true := by
  intro n
  induction n with
  | zero => intro a last _ _; rfl
  | succ n ih =>
    intro a last h h2
    rw [List.range'_succ, List.filter_cons]
    by_cases e : f a = true
    · rw [if_pos e]
      show (if (a : Int) ≤ last ∨ m ≤ (a : Int) then false else grB a m _) = true
      rw [if_neg (by omega)]; exact ih (a + 1) a (by omega) (by omega)
    · rw [if_neg e]; exact ih (a + 1) last (by omega) (by omega)
theorem gr_lsB (f : Nat → Bool) (n : Nat) : grB (-1) n (lsB f n) = true := by
  unfold lsB
  rw [List.range_eq_range']
  exact gr_range f n n 0 (-1) (by omega) (by omega)
theorem gr_drop {l : List Int} {i : Nat} {x last m : Int} (h : l[i]? = some x) : grB last m (l.drop i) = if x ≤ last ∨ m ≤ x then false else grB x m (l.drop (i + 1)) := by
  have hil := (List.getElem?_eq_some_iff.1 h).1
  rw [List.drop_eq_getElem_cons hil, (List.getElem?_eq_some_iff.1 h).2]; rfl
set_option maxHeartbeats 4000000 in
theorem ret33 (hi : Off is) (l : List Int) (m : Int) (hl : l.length ≤ 4096) : RetP Tryz.prog is orc 33 [.lst .ro 1 (intsU l), .int .i64 m] (.bool (grB (-1) m l)) := by
  refine ret_of body33 pure33 (hi 33 (by decide)) rfl rfl (dat_l2 (dat_ints 6 .ro (fun h => by cases h) 1 l) (.int _ _ _)) (.inl (.bool _ _)) ?_
  refine k_seq (k_region ?_)
  refine o_assign rfl ?_
  refine o_nil ?_
  refine k_seq (k_region ?_)
  refine o_assign rfl ?_
  refine o_nil ?_
  refine k_seq ?_
  refine k_seq (k_region ?_)
  refine o_assign rfl ?_
  refine o_nil ?_
  refine k_block ?_
  refine k_loop (fun k st => ∃ (i : Nat) (last : Int), k + i = l.length ∧ grB (-1) m l = grB last m (l.drop i) ∧ st.st = [] ∧ Holds st [(0, .lst .ro 1 (intsU l)), (1, .int .i64 m), (5, .int .i64 last), (6, .int .i64 i)]) (fun k st hI => ?_) l.length _ ?_
  · obtain ⟨i, last, hki, hg, hst, hs⟩ := hI
    refine k_gen _ _ hs hst fun fr => ?_
    refine k_seq ?_
    refine k_seq (k_region ?_)
    refine o_move rfl ?_
    refine o_move rfl ?_
    refine o_len rfl ty30 rfl (List.length_map _) ?_
    refine o_lss rfl rfl rfl ?_
    refine o_nil ?_
    refine k_cond rfl (fun h10 => ?_) (fun h10 => ?_)
    · refine k_skip ?_
      refine k_seq ?_
      refine k_block ?_
      refine k_seq ?_
      refine k_seq (k_region ?_)
      refine o_move rfl ?_
      refine o_move rfl ?_
      have hil : i < l.length := by have := of_decide_eq_true h10; omega
      obtain ⟨x, hx⟩ : ∃ x, l[i]? = some x := ⟨l[i], List.getElem?_eq_getElem hil⟩
      rw [gr_drop hx] at hg
      refine o_idx (u := .int .i64 (x)) rfl ty30 rfl rfl (Int.natCast_nonneg _) (by simp [hx]) cl3 ?_
      refine o_loadR1 rfl rfl sh3 rfl ?_
      refine o_move rfl ?_
      refine o_leq rfl rfl rfl ?_
      refine o_move rfl ?_
      refine o_guardX rfl rfl rfl rfl (fun h19 => ?_) (fun h19 => ?_)
      · refine o_move rfl ?_
        refine o_gD rfl rfl rfl rfl (by assumption) ?_
        refine o_move rfl ?_
        refine o_genA [(0, U.lst Kd.ro 1 (intsU l)), (1, .int .i64 m), (6, .int .i64 ↑i), (19, U.bool (Decidable.decide (x ≤ last))), (20, U.lst Kd.ro 1 (intsU l)), (21, .int .i64 ↑i)] [] ([]) (.cons rfl (.cons rfl (.cons rfl (.cons rfl (.cons rfl (.cons rfl (.nil rfl))))))) rfl rfl fun fr => ?_
        refine o_gD rfl rfl rfl rfl (by assumption) ?_
        refine o_genA [(0, U.lst Kd.ro 1 (intsU l)), (1, .int .i64 m), (6, .int .i64 ↑i), (19, U.bool (Decidable.decide (x ≤ last))), (20, U.lst Kd.ro 1 (intsU l)), (21, .int .i64 ↑i)] [] ([]) (.cons rfl (.cons rfl (.cons rfl (.cons rfl (.cons rfl (.cons rfl (.nil rfl))))))) rfl rfl fun fr => ?_
        refine o_idx (u := .int .i64 (x)) rfl ty30 rfl rfl (Int.natCast_nonneg _) (by simp [hx]) cl3 ?_
        refine o_gD rfl rfl rfl rfl (by assumption) ?_
        refine o_loadR1 rfl rfl sh3 rfl ?_
        refine o_gD rfl rfl rfl rfl (by assumption) ?_
        refine o_move rfl ?_
        refine o_gD rfl rfl rfl rfl (by assumption) ?_
        refine o_geq rfl rfl rfl ?_
        refine o_pickF rfl rfl (by assumption) ?_
        refine o_nil ?_
        refine k_gen [(0, U.lst Kd.ro 1 (intsU l)), (1, .int .i64 m), (6, .int .i64 ↑i), (20, U.lst Kd.ro 1 (intsU l)), (21, .int .i64 ↑i), (22, U.eref [.int .i64 x] 0), (23, .int .i64 x), (24, .int .i64 m), (25, U.bool (Decidable.decide (m ≤ x))), (26, U.bool (Decidable.decide (m ≤ x)))] ([]) (.cons rfl (.cons rfl (.cons rfl (.cons rfl (.cons rfl (.cons rfl (.cons rfl (.cons rfl (.cons rfl (.cons rfl (.nil rfl))))))))))) rfl fun fr => ?_
        refine k_cond rfl (fun h26 => ?_) (fun h26 => ?_)
        · refine k_seq (k_region ?_)
          refine o_assign rfl ?_
          refine o_nil ?_
          refine k_ret ?_
          refine ⟨.inr rfl, _, .cons _ _ _ _ (.tmp 4) .nil, ?_⟩
          have a1 := of_decide_eq_true h26
          rw [hg, if_pos (.inr (by omega))]; exact .refl _
        · refine k_skip ?_
          refine k_region ?_
          refine o_move rfl ?_
          refine o_move rfl ?_
          refine o_idx (u := .int .i64 (x)) rfl ty30 rfl rfl (Int.natCast_nonneg _) (by simp [hx]) cl3 ?_
          refine o_loadR1 rfl rfl sh3 rfl ?_
          refine o_assign rfl ?_
          refine o_nil ?_
          refine k_region ?_
          refine o_move rfl ?_
          refine o_add rfl rfl rfl (by unfold I64; omega) ?_
          refine o_assign rfl ?_
          refine o_nil ?_
          have a1 := of_decide_eq_false h26
          have a2 := of_decide_eq_false h19
          rw [if_neg (by omega)] at hg
          exact ⟨k - 1, by omega, i + 1, x, by omega, hg, rfl, .cons rfl (.cons rfl (.cons rfl (.cons rfl (.nil rfl))))⟩
      · refine o_gS rfl rfl rfl rfl (by assumption) ?_
        refine o_genA [(0, U.lst Kd.ro 1 (intsU l)), (1, .int .i64 m), (6, .int .i64 ↑i), (19, U.bool (Decidable.decide (x ≤ last))), (20, U.tup []), (21, U.tup [])] [] ([]) (.cons rfl (.cons rfl (.cons rfl (.cons rfl (.cons rfl (.cons rfl (.nil rfl))))))) rfl rfl fun fr => ?_
        refine o_gS rfl rfl rfl rfl (by assumption) ?_
        refine o_gS rfl rfl rfl rfl (by assumption) ?_
        refine o_gS rfl rfl rfl rfl (by assumption) ?_
        refine o_gS rfl rfl rfl rfl (by assumption) ?_
        refine o_pickT rfl rfl (by assumption) ?_
        refine o_nil ?_
        refine k_gen [(0, U.lst Kd.ro 1 (intsU l)), (1, .int .i64 m), (6, .int .i64 ↑i), (20, U.tup []), (21, U.tup []), (22, U.tup []), (23, U.tup []), (24, U.tup []), (25, U.tup []), (26, U.bool Bool.true)] ([]) (.cons rfl (.cons rfl (.cons rfl (.cons rfl (.cons rfl (.cons rfl (.cons rfl (.cons rfl (.cons rfl (.cons rfl (.nil rfl))))))))))) rfl fun fr => ?_
        refine k_cT rfl rfl ?_
        refine k_seq (k_region ?_)
        refine o_assign rfl ?_
        refine o_nil ?_
        refine k_ret ?_
        refine ⟨.inr rfl, _, .cons _ _ _ _ (.tmp 4) .nil, ?_⟩
        have a2 := of_decide_eq_true h19
        rw [hg, if_pos (.inl (by omega))]; exact .refl _
    · refine k_exit ?_
      refine k_seq (k_region ?_)
      refine o_assign rfl ?_
      refine o_nil ?_
      refine k_ret ?_
      refine ⟨.inr rfl, _, .cons _ _ _ _ (.tmp 4) .nil, ?_⟩
      have hil : i = l.length := by have := of_decide_eq_false h10; omega
      subst hil
      rw [hg, List.drop_length]; exact .refl _
  · exact ⟨0, -1, by omega, rfl, rfl, .cons rfl (.cons rfl (.cons rfl (.cons rfl (.nil rfl))))⟩
theorem idx_at {l : List Int} {n : Int} : ∀ {i : Nat}, l[i]? = some n → n ∉ l.take i → l.idxOf n = i := by
  induction l with
  | nil => intro i h; cases h
  | cons x l ih =>
    intro i h h2
    cases i with
    | zero => cases h; simp
    | succ i =>
      rw [List.take_succ_cons, List.mem_cons, not_or] at h2
      rw [List.idxOf_cons, show (x == n) = false by simpa using fun e => h2.1 e.symm]; simp [ih h h2.2]
def whI (l : List Int) (n : Int) : Int := if n ∈ l then (l.idxOf n : Int) else -1
theorem wh_iff (l : List Int) (n : Int) : 0 ≤ whI l n ↔ n ∈ l := by
  unfold whI; split
  · exact ⟨fun _ => by assumption, fun _ => by omega⟩
  · exact ⟨fun h => absurd h (by omega), fun h => absurd h (by assumption)⟩
set_option maxHeartbeats 4000000 in
theorem ret27 (hi : Off is) (l : List Int) (n : Int) (hl : l.length ≤ 4096) : RetP Tryz.prog is orc 27 [.lst .ro 1 (intsU l), .int .i64 n] (.int .i64 (whI l n)) := by
  refine ret_of body27 pure27 (hi 27 (by decide)) rfl rfl (dat_l2 (dat_ints 6 .ro (fun h => by cases h) 1 l) (.int _ _ _)) (.inl (.int _ _ _)) ?_
  refine k_seq (k_region ?_)
  refine o_assign rfl ?_
  refine o_nil ?_
  refine k_seq ?_
  refine k_seq (k_region ?_)
  refine o_assign rfl ?_
  refine o_nil ?_
  refine k_block ?_
  refine k_loop (fun k st => ∃ (i : Nat), k + i = l.length ∧ n ∉ l.take i ∧ st.st = [] ∧ Holds st [(0, .lst .ro 1 (intsU l)), (1, .int .i64 n), (5, .int .i64 i)]) (fun k st hI => ?_) l.length _ ?_
  · obtain ⟨i, hki, hno, hst, hs⟩ := hI
    refine k_gen _ _ hs hst fun fr => ?_
    refine k_seq ?_
    refine k_seq (k_region ?_)
    refine o_move rfl ?_
    refine o_move rfl ?_
    refine o_len rfl ty30 rfl (List.length_map _) ?_
    refine o_lss rfl rfl rfl ?_
    refine o_nil ?_
    refine k_cond rfl (fun h9 => ?_) (fun h9 => ?_)
    · refine k_skip ?_
      refine k_seq ?_
      refine k_block ?_
      refine k_seq (k_region ?_)
      refine o_move rfl ?_
      refine o_move rfl ?_
      have hil : i < l.length := by have := of_decide_eq_true h9; omega
      obtain ⟨x, hx⟩ : ∃ x, l[i]? = some x := ⟨l[i], List.getElem?_eq_getElem hil⟩
      refine o_idx (u := .int .i64 (x)) rfl ty30 rfl rfl (Int.natCast_nonneg _) (by simp [hx]) cl3 ?_
      refine o_loadR1 rfl rfl sh3 rfl ?_
      refine o_move rfl ?_
      refine o_eql rfl rfl rfl ?_
      refine o_nil ?_
      refine k_cond rfl (fun h17 => ?_) (fun h17 => ?_)
      · refine k_seq (k_region ?_)
        refine o_move rfl ?_
        refine o_assign rfl ?_
        refine o_nil ?_
        refine k_ret ?_
        refine ⟨.inr rfl, _, .cons _ _ _ _ (.tmp 4) .nil, ?_⟩
        have h17 := of_decide_eq_true h17
        subst h17
        rw [show whI l x = (i : Int) by unfold whI; rw [if_pos (List.mem_of_getElem? hx), idx_at hx hno]]; exact .refl _
      · refine k_skip ?_
        refine k_region ?_
        refine o_move rfl ?_
        refine o_add rfl rfl rfl (by unfold I64; omega) ?_
        refine o_assign rfl ?_
        refine o_nil ?_
        have h17 := of_decide_eq_false h17
        refine ⟨k - 1, by omega, i + 1, by omega, ?_, rfl, .cons rfl (.cons rfl (.cons rfl (.nil rfl)))⟩
        rw [List.take_add_one, hx]; simp; exact ⟨hno, fun e => h17 e.symm⟩
    · refine k_exit ?_
      refine k_seq (k_region ?_)
      refine o_assign rfl ?_
      refine o_nil ?_
      refine k_ret ?_
      refine ⟨.inr rfl, _, .cons _ _ _ _ (.tmp 4) .nil, ?_⟩
      have hil : i = l.length := by have := of_decide_eq_false h9; omega
      subst hil
      rw [List.take_length] at hno
      rw [show whI l n = -1 from if_neg hno]; exact .refl _
  · exact ⟨0, by omega, by simp, rfl, .cons rfl (.cons rfl (.cons rfl (.nil rfl)))⟩
def cmpI (x y : Int) : Int := if x < y then -1 else if y < x then 1 else 0
set_option maxHeartbeats 4000000 in
theorem ret124 (hi : Off is) (n : Int) : RetP Tryz.prog is orc 124 [.int .i64 n] (.bool false) := by
  refine ret_of body124 pure124 (hi 124 (by decide)) rfl rfl (dat_l1 (.int _ _ _)) (.inl (.bool _ _)) ?_
  refine k_seq (k_region ?_)
  refine o_assign rfl ?_
  refine o_nil ?_
  refine k_seq (k_region ?_)
  refine o_move rfl ?_
  refine o_move rfl ?_
  refine o_neq rfl rfl rfl ?_
  refine o_assign rfl ?_
  refine o_nil ?_
  refine k_ret ?_
  refine ⟨.inr rfl, _, .cons _ _ _ _ (.tmp 2) .nil, ?_⟩
  show UW (.u (.bool (decide (n ≠ n)))) _
  rw [decide_eq_false (by simp)]; exact .refl _
set_option maxHeartbeats 4000000 in
theorem ret113 (hi : Off is) (x y : Int) : RetP Tryz.prog is orc 113 [.int .i64 x, .int .i64 y] (.int .i64 (cmpI x y)) := by
  refine ret_of body113 pure113 (hi 113 (by decide)) rfl rfl (dat_l2 (.int _ _ _) (.int _ _ _)) (.inl (.int _ _ _)) ?_
  refine k_seq (k_region ?_)
  refine o_assign rfl ?_
  refine o_nil ?_
  refine k_seq (k_region ?_)
  refine o_move rfl ?_
  refine o_call rfl (ret124 hi _) (.lrefl _) ?_
  refine o_assign rfl ?_
  refine o_nil ?_
  refine k_seq (k_region ?_)
  refine o_move rfl ?_
  refine o_call rfl (ret124 hi _) (.lrefl _) ?_
  refine o_assign rfl ?_
  refine o_nil ?_
  refine k_seq ?_
  refine k_seq (k_region ?_)
  refine o_move rfl ?_
  refine o_nil ?_
  refine k_cF rfl rfl ?_
  refine k_skip ?_
  refine k_seq ?_
  refine k_seq (k_region ?_)
  refine o_move rfl ?_
  refine o_nil ?_
  refine k_gen [(0, .int .i64 x), (1, .int .i64 y), (13, U.bool Bool.false)] ([]) (.cons rfl (.cons rfl (.cons rfl (.nil rfl)))) rfl fun fr => ?_
  refine k_cF rfl rfl ?_
  refine k_skip ?_
  refine k_seq ?_
  refine k_seq (k_region ?_)
  refine o_move rfl ?_
  refine o_move rfl ?_
  refine o_lss rfl rfl rfl ?_
  refine o_nil ?_
  refine k_cond rfl (fun h16 => ?_) (fun h16 => ?_)
  · refine k_seq (k_region ?_)
    refine o_assign rfl ?_
    refine o_nil ?_
    refine k_ret ?_
    refine ⟨.inr rfl, _, .cons _ _ _ _ (.tmp 4) .nil, ?_⟩
    rw [show cmpI x y = -1 from if_pos (of_decide_eq_true h16)]; exact .refl _
  · refine k_skip ?_
    refine k_seq ?_
    refine k_seq (k_region ?_)
    refine o_move rfl ?_
    refine o_move rfl ?_
    refine o_gtr rfl rfl rfl ?_
    refine o_nil ?_
    refine k_cond rfl (fun h19 => ?_) (fun h19 => ?_)
    · refine k_seq (k_region ?_)
      refine o_assign rfl ?_
      refine o_nil ?_
      refine k_ret ?_
      refine ⟨.inr rfl, _, .cons _ _ _ _ (.tmp 4) .nil, ?_⟩
      have h1 := of_decide_eq_false h16
      rw [show cmpI x y = 1 by unfold cmpI; rw [if_neg h1, if_pos (of_decide_eq_true h19)]]; exact .refl _
    · refine k_skip ?_
      refine k_seq (k_region ?_)
      refine o_assign rfl ?_
      refine o_nil ?_
      refine k_ret ?_
      refine ⟨.inr rfl, _, .cons _ _ _ _ (.tmp 4) .nil, ?_⟩
      have h1 := of_decide_eq_false h16
      have h2 := of_decide_eq_false h19
      rw [show cmpI x y = 0 by unfold cmpI; rw [if_neg h1, if_neg h2]]; exact .refl _
def cmpL : List Int → List Int → Int
  | [], [] => 0
  | [], _ :: _ => -1
  | _ :: _, [] => 1
  | x :: l, y :: m => if cmpI x y ≠ 0 then cmpI x y else cmpL l m
theorem cmp_drop {l m : List Int} {i : Nat} {x y : Int} (hx : l[i]? = some x) (hy : m[i]? = some y) : cmpL (l.drop i) (m.drop i) = if cmpI x y ≠ 0 then cmpI x y else cmpL (l.drop (i + 1)) (m.drop (i + 1)) := by
  have h1 := List.getElem?_eq_some_iff.1 hx
  have h2 := List.getElem?_eq_some_iff.1 hy
  rw [List.drop_eq_getElem_cons h1.1, List.drop_eq_getElem_cons h2.1, h1.2, h2.2]; rfl
theorem cmp_less {l m : List Int} {i : Nat} (h1 : i = m.length) (h2 : i < l.length) : cmpL (l.drop i) (m.drop i) = 1 := by
  rw [h1, List.drop_length, List.drop_eq_getElem_cons (by omega)]; rfl
theorem cmp_end {l m : List Int} {i : Nat} (h1 : i = l.length) (h2 : i ≤ m.length) : cmpL (l.drop i) (m.drop i) = if l.length < m.length then -1 else 0 := by
  rw [h1, List.drop_length]
  by_cases h : l.length < m.length
  · rw [if_pos h, List.drop_eq_getElem_cons h]; rfl
  · rw [if_neg h, List.drop_eq_nil_of_le (by omega)]; rfl
set_option maxHeartbeats 4000000 in
theorem ret90 (hi : Off is) (l m : List Int) (hl : l.length ≤ 4096) (hm : m.length ≤ 4096) : RetP Tryz.prog is orc 90 [.lst .ro 1 (intsU l), .lst .ro 1 (intsU m)] (.int .i64 (cmpL l m)) := by
  refine ret_of body90 pure90 (hi 90 (by decide)) rfl rfl (dat_l2 (dat_ints 6 .ro (fun h => by cases h) 1 l) (dat_ints 6 .ro (fun h => by cases h) 1 m)) (.inl (.int _ _ _)) ?_
  refine k_seq (k_region ?_)
  refine o_assign rfl ?_
  refine o_nil ?_
  refine k_seq ?_
  refine k_seq (k_region ?_)
  refine o_move rfl ?_
  refine o_len rfl ty30 rfl (List.length_map _) ?_
  refine o_move rfl ?_
  refine o_nil ?_
  refine k_block ?_
  refine k_loop (fun k st => ∃ (i : Nat), k + i = l.length ∧ i ≤ m.length ∧ cmpL l m = cmpL (l.drop i) (m.drop i) ∧ st.st = [] ∧ Holds st [(0, .lst .ro 1 (intsU l)), (1, .lst .ro 1 (intsU m)), (9, .lst .ro 1 (intsU l)), (10, .int .i64 l.length), (11, .int .i64 i)]) (fun k st hI => ?_) l.length _ ?_
  · obtain ⟨i, hki, him, hg, hst, hs⟩ := hI
    refine k_gen _ _ hs hst fun fr => ?_
    refine k_seq (k_region ?_)
    refine o_lss rfl rfl rfl ?_
    refine o_nil ?_
    refine k_seq ?_
    refine k_cond rfl (fun h12 => ?_) (fun h12 => ?_)
    · refine k_skip ?_
      refine k_seq ?_
      refine k_block ?_
      refine k_seq (k_region ?_)
      refine o_move rfl ?_
      have hil : i < l.length := by have := of_decide_eq_true h12; omega
      obtain ⟨x, hx⟩ : ∃ x, l[i]? = some x := ⟨l[i], List.getElem?_eq_getElem hil⟩
      refine o_idx (u := .int .i64 (x)) rfl ty30 rfl rfl (Int.natCast_nonneg _) (by simp [hx]) cl3 ?_
      refine o_loadR1 rfl rfl sh3 rfl ?_
      refine o_assign rfl ?_
      refine o_assign rfl ?_
      refine o_nil ?_
      refine k_seq ?_
      refine k_seq (k_region ?_)
      refine o_move rfl ?_
      refine o_move rfl ?_
      refine o_len rfl ty30 rfl (List.length_map _) ?_
      refine o_geq rfl rfl rfl ?_
      refine o_nil ?_
      refine k_cond rfl (fun h19 => ?_) (fun h19 => ?_)
      · refine k_seq (k_region ?_)
        refine o_assign rfl ?_
        refine o_nil ?_
        refine k_ret ?_
        refine ⟨.inr rfl, _, .cons _ _ _ _ (.tmp 4) .nil, ?_⟩
        have him2 : i = m.length := by have := of_decide_eq_true h19; omega
        rw [hg, cmp_less him2 hil]; exact .refl _
      · refine k_skip ?_
        refine k_seq (k_region ?_)
        refine o_move rfl ?_
        refine o_move rfl ?_
        have him2 : i < m.length := by have := of_decide_eq_false h19; omega
        obtain ⟨y, hy⟩ : ∃ y, m[i]? = some y := ⟨m[i], List.getElem?_eq_getElem him2⟩
        rw [cmp_drop hx hy] at hg
        refine o_idx (u := .int .i64 (y)) rfl ty30 rfl rfl (Int.natCast_nonneg _) (by simp [hy]) cl3 ?_
        refine o_loadR1 rfl rfl sh3 rfl ?_
        refine o_assign rfl ?_
        refine o_nil ?_
        refine k_seq (k_region ?_)
        refine o_move rfl ?_
        refine o_move rfl ?_
        refine o_call rfl (ret113 hi x y) (.lrefl _) ?_
        refine o_assign rfl ?_
        refine o_nil ?_
        refine k_seq (k_region ?_)
        refine o_move rfl ?_
        refine o_neq rfl rfl rfl ?_
        refine o_nil ?_
        refine k_gen [(0, U.lst Kd.ro 1 (intsU l)), (1, U.lst Kd.ro 1 (intsU m)), (8, .int .i64 (cmpI x y)), (9, U.lst Kd.ro 1 (intsU l)), (10, .int .i64 ↑(List.length l)), (11, .int .i64 ↑i), (28, U.bool (Decidable.decide (cmpI x y ≠ (0 : Int))))] ([]) (.cons rfl (.cons rfl (.cons rfl (.cons rfl (.cons rfl (.cons rfl (.cons rfl (.nil rfl)))))))) rfl fun fr => ?_
        refine k_cond rfl (fun h28 => ?_) (fun h28 => ?_)
        · refine k_seq (k_region ?_)
          refine o_move rfl ?_
          refine o_assign rfl ?_
          refine o_nil ?_
          refine k_ret ?_
          refine ⟨.inr rfl, _, .cons _ _ _ _ (.tmp 4) .nil, ?_⟩
          rw [hg, if_pos (of_decide_eq_true h28)]; exact .refl _
        · refine k_skip ?_
          refine k_region ?_
          refine o_add rfl rfl rfl (by unfold I64; omega) ?_
          refine o_move rfl ?_
          refine o_nil ?_
          rw [if_neg (of_decide_eq_false h28)] at hg
          exact ⟨k - 1, by omega, i + 1, by omega, by omega, hg, rfl, .cons rfl (.cons rfl (.cons rfl (.cons rfl (.cons rfl (.nil rfl)))))⟩
    · refine k_exit ?_
      refine k_seq ?_
      refine k_seq (k_region ?_)
      refine o_move rfl ?_
      refine o_len rfl ty30 rfl (List.length_map _) ?_
      refine o_move rfl ?_
      refine o_len rfl ty30 rfl (List.length_map _) ?_
      refine o_lss rfl rfl rfl ?_
      refine o_nil ?_
      refine k_cond rfl (fun h35 => ?_) (fun h35 => ?_)
      · refine k_seq (k_region ?_)
        refine o_assign rfl ?_
        refine o_nil ?_
        refine k_ret ?_
        refine ⟨.inr rfl, _, .cons _ _ _ _ (.tmp 4) .nil, ?_⟩
        have hil : i = l.length := by have := of_decide_eq_false h12; omega
        have h35 := of_decide_eq_true h35
        rw [hg, cmp_end hil him, if_pos (by omega)]; exact .refl _
      · refine k_skip ?_
        refine k_seq (k_region ?_)
        refine o_assign rfl ?_
        refine o_nil ?_
        refine k_ret ?_
        refine ⟨.inr rfl, _, .cons _ _ _ _ (.tmp 4) .nil, ?_⟩
        have hil : i = l.length := by have := of_decide_eq_false h12; omega
        have h35 := of_decide_eq_false h35
        rw [hg, cmp_end hil him, if_neg (by omega)]; exact .refl _
  · exact ⟨0, by omega, by omega, rfl, rfl, .cons rfl (.cons rfl (.cons rfl (.cons rfl (.cons rfl (.nil rfl)))))⟩
def befL (l m : List Int) : Bool := if (l.length : Int) ≠ (m.length : Int) then decide ((l.length : Int) < (m.length : Int)) else decide (cmpL l m < 0)
set_option maxHeartbeats 4000000 in
theorem ret72 (hi : Off is) (l m : List Int) (hl : l.length ≤ 4096) (hm : m.length ≤ 4096) : RetP Tryz.prog is orc 72 [.lst .ro 1 (intsU l), .lst .ro 1 (intsU m)] (.bool (befL l m)) := by
  refine ret_of body72 pure72 (hi 72 (by decide)) rfl rfl (dat_l2 (dat_ints 6 .ro (fun h => by cases h) 1 l) (dat_ints 6 .ro (fun h => by cases h) 1 m)) (.inl (.bool _ _)) ?_
  refine k_seq (k_region ?_)
  refine o_assign rfl ?_
  refine o_nil ?_
  refine k_seq ?_
  refine k_seq (k_region ?_)
  refine o_move rfl ?_
  refine o_len rfl ty30 rfl (List.length_map _) ?_
  refine o_move rfl ?_
  refine o_len rfl ty30 rfl (List.length_map _) ?_
  refine o_neq rfl rfl rfl ?_
  refine o_nil ?_
  refine k_cond rfl (fun h9 => ?_) (fun h9 => ?_)
  · refine k_seq (k_region ?_)
    refine o_move rfl ?_
    refine o_len rfl ty30 rfl (List.length_map _) ?_
    refine o_move rfl ?_
    refine o_len rfl ty30 rfl (List.length_map _) ?_
    refine o_lss rfl rfl rfl ?_
    refine o_assign rfl ?_
    refine o_nil ?_
    refine k_ret ?_
    refine ⟨.inr rfl, _, .cons _ _ _ _ (.tmp 4) .nil, ?_⟩
    rw [show befL l m = decide ((l.length : Int) < (m.length : Int)) from if_pos (of_decide_eq_true h9)]; exact .refl _
  · refine k_skip ?_
    refine k_seq (k_region ?_)
    refine o_move rfl ?_
    refine o_move rfl ?_
    refine o_call rfl (ret90 hi l m hl hm) (.lrefl _) ?_
    refine o_lss rfl rfl rfl ?_
    refine o_assign rfl ?_
    refine o_nil ?_
    refine k_ret ?_
    refine ⟨.inr rfl, _, .cons _ _ _ _ (.tmp 4) .nil, ?_⟩
    rw [show befL l m = decide (cmpL l m < 0) from if_neg (of_decide_eq_false h9)]; exact .refl _
set_option maxHeartbeats 4000000 in
theorem ret35 (hi : Off is) (l m : List Int) (hl : l.length ≤ 4096) (hm : m.length ≤ 4096) : RetP Tryz.prog is orc 35 [.lst .ro 1 (intsU l), .lst .ro 1 (intsU m)] (.bool (decide (cmpL l m < 0))) := by
  refine ret_of body35 pure35 (hi 35 (by decide)) rfl rfl (dat_l2 (dat_ints 6 .ro (fun h => by cases h) 1 l) (dat_ints 6 .ro (fun h => by cases h) 1 m)) (.inl (.bool _ _)) ?_
  refine k_seq (k_region ?_)
  refine o_assign rfl ?_
  refine o_nil ?_
  refine k_seq ?_
  refine k_seq (k_region ?_)
  refine o_assign rfl ?_
  refine o_nil ?_
  refine k_block ?_
  refine k_loop (fun k st => ∃ (i : Nat), k + i = l.length ∧ i ≤ m.length ∧ cmpL l m = cmpL (l.drop i) (m.drop i) ∧ st.st = [] ∧ Holds st [(0, .lst .ro 1 (intsU l)), (1, .lst .ro 1 (intsU m)), (5, .int .i64 i)]) (fun k st hI => ?_) l.length _ ?_
  · obtain ⟨i, hki, him, hg, hst, hs⟩ := hI
    refine k_gen _ _ hs hst fun fr => ?_
    refine k_seq ?_
    refine k_seq (k_region ?_)
    refine o_move rfl ?_
    refine o_move rfl ?_
    refine o_len rfl ty30 rfl (List.length_map _) ?_
    refine o_lss rfl rfl rfl ?_
    refine o_move rfl ?_
    refine o_guardX rfl rfl rfl rfl (fun h10 => ?_) (fun h10 => ?_)
    · refine o_move rfl ?_
      refine o_gD rfl rfl rfl rfl (by assumption) ?_
      refine o_move rfl ?_
      refine o_gD rfl rfl rfl rfl (by assumption) ?_
      refine o_len rfl ty30 rfl (List.length_map _) ?_
      refine o_gD rfl rfl rfl rfl (by assumption) ?_
      refine o_lss rfl rfl rfl ?_
      refine o_pickT rfl rfl (by assumption) ?_
      refine o_nil ?_
      refine k_cond rfl (fun h15 => ?_) (fun h15 => ?_)
      · refine k_skip ?_
        refine k_seq ?_
        refine k_block ?_
        refine k_seq ?_
        refine k_draw [.plain, .plain, .plain, .read true, .plain, .plain, .plain, .read true, .plain] (by kernel_rfl) (by kernel_rfl) (by kernel_rfl) ?_
        refine d_plain (o_move rfl (o_nil rfl)) ?_
        refine d_plain (o_move rfl (o_nil rfl)) ?_
        have hil : i < l.length := by have := of_decide_eq_true h10; omega
        have him2 : i < m.length := by have := of_decide_eq_true h15; omega
        obtain ⟨x, hx⟩ : ∃ x, l[i]? = some x := ⟨l[i], List.getElem?_eq_getElem hil⟩
        obtain ⟨y, hy⟩ : ∃ y, m[i]? = some y := ⟨m[i], List.getElem?_eq_getElem him2⟩
        rw [cmp_drop hx hy] at hg
        refine d_plain (o_idx (u := .int .i64 (x)) rfl ty30 rfl rfl (Int.natCast_nonneg _) (by simp [hx]) cl3 (o_nil rfl)) ?_
        refine d_load rfl (o_loadR1 rfl rfl sh3 rfl (o_nil rfl)) ?_
        refine d_plain (o_move rfl (o_nil rfl)) ?_
        refine d_plain (o_move rfl (o_nil rfl)) ?_
        refine d_plain (o_idx (u := .int .i64 (y)) rfl ty30 rfl rfl (Int.natCast_nonneg _) (by simp [hy]) cl3 (o_nil rfl)) ?_
        refine d_load rfl (o_loadR1 rfl rfl sh3 rfl (o_nil rfl)) ?_
        refine d_plain (o_neq rfl rfl rfl (o_nil rfl)) ?_
        refine d_nil ?_
        refine k_cond rfl (fun h26 => ?_) (fun h26 => ?_)
        · refine k_seq ?_
          refine k_draw [.plain, .plain, .plain, .read true, .plain, .plain, .plain, .read true, .plain, .plain] (by kernel_rfl) (by kernel_rfl) (by kernel_rfl) ?_
          refine d_plain (o_move rfl (o_nil rfl)) ?_
          refine d_plain (o_move rfl (o_nil rfl)) ?_
          refine d_plain (o_idx (u := .int .i64 (x)) rfl ty30 rfl rfl (Int.natCast_nonneg _) (by simp [hx]) cl3 (o_nil rfl)) ?_
          refine d_load rfl (o_loadR1 rfl rfl sh3 rfl (o_nil rfl)) ?_
          refine d_plain (o_move rfl (o_nil rfl)) ?_
          refine d_plain (o_move rfl (o_nil rfl)) ?_
          refine d_plain (o_idx (u := .int .i64 (y)) rfl ty30 rfl rfl (Int.natCast_nonneg _) (by simp [hy]) cl3 (o_nil rfl)) ?_
          refine d_load rfl (o_loadR1 rfl rfl sh3 rfl (o_nil rfl)) ?_
          refine d_plain (o_lss rfl rfl rfl (o_nil rfl)) ?_
          refine d_plain (o_assign rfl (o_nil rfl)) ?_
          refine d_nil ?_
          refine k_ret ?_
          refine ⟨.inr rfl, _, .cons _ _ _ _ (.tmp 4) .nil, ?_⟩
          have hne := of_decide_eq_true h26
          have hc : cmpI x y ≠ 0 ∧ (cmpI x y < 0 ↔ x < y) := by unfold cmpI; split <;> (try split) <;> omega
          rw [hg, if_pos hc.1, show decide (cmpI x y < 0) = decide (x < y) from decide_eq_decide.2 hc.2]; exact .refl _
        · refine k_skip ?_
          refine k_region ?_
          refine o_move rfl ?_
          refine o_add rfl rfl rfl (by unfold I64; omega) ?_
          refine o_assign rfl ?_
          refine o_nil ?_
          have hne := of_decide_eq_false h26
          have hc : ¬ cmpI x y ≠ 0 := by unfold cmpI; split <;> (try split) <;> omega
          rw [if_neg hc] at hg
          exact ⟨k - 1, by omega, i + 1, by omega, by omega, hg, rfl, .cons rfl (.cons rfl (.cons rfl (.nil rfl)))⟩
      · refine k_exit ?_
        refine k_seq (k_region ?_)
        refine o_move rfl ?_
        refine o_len rfl ty30 rfl (List.length_map _) ?_
        refine o_move rfl ?_
        refine o_len rfl ty30 rfl (List.length_map _) ?_
        refine o_lss rfl rfl rfl ?_
        refine o_assign rfl ?_
        refine o_nil ?_
        refine k_ret ?_
        refine ⟨.inr rfl, _, .cons _ _ _ _ (.tmp 4) .nil, ?_⟩
        have hil : i < l.length := by have := of_decide_eq_true h10; omega
        have him2 : i = m.length := by have := of_decide_eq_false h15; omega
        rw [hg, cmp_less him2 hil, show decide ((1 : Int) < 0) = decide ((l.length : Int) < (m.length : Int)) from decide_eq_decide.2 (by omega)]; exact .refl _
    · refine o_gS rfl rfl rfl rfl (by assumption) ?_
      refine o_gS rfl rfl rfl rfl (by assumption) ?_
      refine o_gS rfl rfl rfl rfl (by assumption) ?_
      refine o_pickF rfl rfl (by assumption) ?_
      refine o_nil ?_
      refine k_gen [(0, U.lst Kd.ro 1 (intsU l)), (1, U.lst Kd.ro 1 (intsU m)), (5, .int .i64 ↑i), (11, U.tup []), (12, U.tup []), (13, U.tup []), (14, U.tup []), (15, U.bool Bool.false)] ([]) (.cons rfl (.cons rfl (.cons rfl (.cons rfl (.cons rfl (.cons rfl (.cons rfl (.cons rfl (.nil rfl))))))))) rfl fun fr => ?_
      refine k_cF rfl rfl ?_
      refine k_exit ?_
      refine k_seq (k_region ?_)
      refine o_move rfl ?_
      refine o_len rfl ty30 rfl (List.length_map _) ?_
      refine o_move rfl ?_
      refine o_len rfl ty30 rfl (List.length_map _) ?_
      refine o_lss rfl rfl rfl ?_
      refine o_assign rfl ?_
      refine o_nil ?_
      refine k_ret ?_
      refine ⟨.inr rfl, _, .cons _ _ _ _ (.tmp 4) .nil, ?_⟩
      have hil : i = l.length := by have := of_decide_eq_false h10; omega
      have he : decide (cmpL l m < 0) = decide ((l.length : Int) < (m.length : Int)) := by
        rw [hg, cmp_end hil him]
        by_cases h : l.length < m.length
        · rw [if_pos h]; exact decide_eq_decide.2 (by omega)
        · rw [if_neg h]; exact decide_eq_decide.2 (by omega)
      rw [he]; exact .refl _
  · exact ⟨0, by omega, by omega, rfl, rfl, .cons rfl (.cons rfl (.cons rfl (.nil rfl)))⟩
def bitB (n : Int) (i : Nat) : Bool := decide ((n.fdiv (2 ^ i)) % 2 = 1)
set_option maxHeartbeats 4000000 in
theorem ret62b (hi : Off is) (n : Int) (i : Nat) (h : i ≤ 62) (hn : 0 ≤ n ∧ n ≤ 4096) : RetP Tryz.prog is orc 62 [.int .i64 n, .int .i64 i] (.bool (bitB n i)) := by
  refine ret_of body62 pure62 (hi 62 (by decide)) rfl rfl (dat_l2 (.int _ _ _) (.int _ _ _)) (.inl (.bool _ _)) ?_
  have hp : 0 ≤ Int.fdiv n ((2 : Int) ^ Int.toNat (i : Int)) ∧ Int.fdiv n ((2 : Int) ^ Int.toNat (i : Int)) ≤ 9223372036854775807 := by
    obtain ⟨a, rfl⟩ : ∃ a : Nat, n = a := ⟨n.toNat, by omega⟩
    rw [Int.toNat_natCast, show (2 : Int) ^ i = ((2 ^ i : Nat) : Int) by simp, ← Int.ofNat_fdiv]
    have := Nat.div_le_self a (2 ^ i)
    generalize a / 2 ^ i = q at this ⊢
    omega
  refine k_seq (k_region ?_)
  refine o_assign rfl ?_
  refine o_nil ?_
  refine k_seq (k_region ?_)
  refine o_move rfl ?_
  refine o_move rfl ?_
  refine o_shr rfl rfl rfl (by omega) ?_
  refine o_andOne rfl rfl rfl (by omega) ?_
  refine o_eql rfl rfl rfl ?_
  refine o_assign rfl ?_
  refine o_nil ?_
  refine k_ret ?_
  refine ⟨.inr rfl, _, .cons _ _ _ _ (.tmp 4) .nil, ?_⟩
  exact .refl _
set_option maxHeartbeats 4000000 in
theorem ret34 (hi : Off is) (n : Int) (m : Nat) (hm : m ≤ 8) (hn : 0 ≤ n ∧ n ≤ 4096) : RetP Tryz.prog is orc 34 [.int .i64 n, .int .i64 m] (.lst .ro 1 (intsU (lsB (bitB n) m))) := by
  refine ret_of body34 pure34 (hi 34 (by decide)) rfl rfl (dat_l2 (.int _ _ _) (.int _ _ _)) (.inl (dat_ints 6 .ro (fun h => by cases h) 1 _)) ?_
  refine k_seq (k_region ?_)
  refine o_assign rfl ?_
  refine o_nil ?_
  refine k_seq (k_region ?_)
  refine o_assign rfl ?_
  refine o_nil ?_
  refine k_seq ?_
  refine k_seq (k_region ?_)
  refine o_assign rfl ?_
  refine o_nil ?_
  refine k_block ?_
  refine k_loop (fun k st => ∃ (i : Nat), k + i = m ∧ st.st = [] ∧ Holds st [(0, .int .i64 n), (1, .int .i64 m), (5, accI (lsB (bitB n) i)), (6, .int .i64 i)]) (fun k st hI => ?_) m _ ?_
  · obtain ⟨i, hki, hst, hs⟩ := hI
    have hle := ls_len (bitB n) i
    have hin := fun h => ls_in (f := bitB n) (n := i) h
    have hout := fun h => ls_out (f := bitB n) (n := i) h
    generalize hR : lsB (bitB n) i = R at hs hle hin hout
    refine k_gen _ _ hs hst fun fr => ?_
    cases R with
    | nil =>
      refine k_seq ?_
      refine k_seq (k_region ?_)
      refine o_move rfl ?_
      refine o_move rfl ?_
      refine o_lss rfl rfl rfl ?_
      refine o_nil ?_
      refine k_cond rfl (fun h9 => ?_) (fun h9 => ?_)
      · refine k_skip ?_
        refine k_seq ?_
        refine k_block ?_
        refine k_seq (k_region ?_)
        refine o_move rfl ?_
        refine o_move rfl ?_
        refine o_call rfl (ret62b hi n i (by omega) hn) (.lrefl _) ?_
        refine o_nil ?_
        refine k_cond rfl (fun h14 => ?_) (fun h14 => ?_)
        · refine k_region ?_
          refine o_move rfl ?_
          refine o_move rfl ?_
          refine o_lit (es := [.int .i64 ↑i]) rfl ty30 ze3 cl3 rfl rfl rfl rfl rfl rfl rfl rfl ?_
          refine o_appendF rfl ap30_30 rfl rfl (by simp) (by simp) (by simp [flatU, cellsU, oneU]) (by simp) ?_
          refine o_assign rfl ?_
          refine o_nil ?_
          refine k_gen [(0, .int .i64 n), (1, .int .i64 ↑m), (5, U.lst Kd.own 1 [.int .i64 ↑i]), (6, .int .i64 ↑i)] ([]) (.cons rfl (.cons rfl (.cons rfl (.cons rfl (.nil rfl))))) rfl fun fr => ?_
          refine k_region ?_
          refine o_move rfl ?_
          refine o_add rfl rfl rfl (by unfold I64; omega) ?_
          refine o_assign rfl ?_
          refine o_nil ?_
          have hil := of_decide_eq_true h9
          refine ⟨k - 1, by omega, i + 1, by omega, rfl, .cons rfl (.cons rfl (.cons ?_ (.cons rfl (.nil rfl))))⟩
          rw [hin h14]; rfl
        · refine k_skip ?_
          refine k_region ?_
          refine o_move rfl ?_
          refine o_add rfl rfl rfl (by unfold I64; omega) ?_
          refine o_assign rfl ?_
          refine o_nil ?_
          have hil := of_decide_eq_true h9
          refine ⟨k - 1, by omega, i + 1, by omega, rfl, .cons rfl (.cons rfl (.cons ?_ (.cons rfl (.nil rfl))))⟩
          rw [hout h14]; rfl
      · refine k_exit ?_
        refine k_seq (k_region ?_)
        refine o_move rfl ?_
        refine o_assign rfl ?_
        refine o_nil ?_
        refine k_ret ?_
        refine ⟨.inr rfl, _, .cons _ _ _ _ (.tmp 4) .nil, ?_⟩
        have hil : i = m := by have := of_decide_eq_false h9; omega
        subst hil
        rw [hR]; exact .nil _ _ _
    | cons y R =>
      refine k_seq ?_
      refine k_seq (k_region ?_)
      refine o_move rfl ?_
      refine o_move rfl ?_
      refine o_lss rfl rfl rfl ?_
      refine o_nil ?_
      refine k_cond rfl (fun h9 => ?_) (fun h9 => ?_)
      · refine k_skip ?_
        refine k_seq ?_
        refine k_block ?_
        refine k_seq (k_region ?_)
        refine o_move rfl ?_
        refine o_move rfl ?_
        refine o_call rfl (ret62b hi n i (by omega) hn) (.lrefl _) ?_
        refine o_nil ?_
        refine k_cond rfl (fun h14 => ?_) (fun h14 => ?_)
        · refine k_region ?_
          refine o_move rfl ?_
          refine o_move rfl ?_
          refine o_lit (es := [.int .i64 ↑i]) rfl ty30 ze3 cl3 rfl rfl rfl rfl rfl rfl rfl rfl ?_
          refine o_appendS 5 rfl ap30_30 rfl rfl rfl (by simp) (by simp) (by simp [flatU, cellsU, oneU]) (by simp at hle ⊢; omega) ?_
          refine o_assign rfl ?_
          refine o_nil ?_
          refine k_gen [(0, .int .i64 n), (1, .int .i64 ↑m), (5, U.lst Kd.own 1 (.int .i64 y :: List.append (List.map (fun n ↦ .int .i64 n) R) [.int .i64 ↑i])), (6, .int .i64 ↑i)] ([]) (.cons rfl (.cons rfl (.cons rfl (.cons rfl (.nil rfl))))) rfl fun fr => ?_
          refine k_region ?_
          refine o_move rfl ?_
          refine o_add rfl rfl rfl (by unfold I64; omega) ?_
          refine o_assign rfl ?_
          refine o_nil ?_
          have hil := of_decide_eq_true h9
          refine ⟨k - 1, by omega, i + 1, by omega, rfl, .cons rfl (.cons rfl (.cons ?_ (.cons rfl (.nil rfl))))⟩
          rw [hin h14, accI_snoc]; rfl
        · refine k_skip ?_
          refine k_region ?_
          refine o_move rfl ?_
          refine o_add rfl rfl rfl (by unfold I64; omega) ?_
          refine o_assign rfl ?_
          refine o_nil ?_
          have hil := of_decide_eq_true h9
          refine ⟨k - 1, by omega, i + 1, by omega, rfl, .cons rfl (.cons rfl (.cons ?_ (.cons rfl (.nil rfl))))⟩
          rw [hout h14]; rfl
      · refine k_exit ?_
        refine k_seq (k_region ?_)
        refine o_move rfl ?_
        refine o_assign rfl ?_
        refine o_nil ?_
        refine k_ret ?_
        refine ⟨.inr rfl, _, .cons _ _ _ _ (.tmp 4) .nil, ?_⟩
        have hil : i = m := by have := of_decide_eq_false h9; omega
        subst hil
        rw [hR]; exact .ro _ _ _
  · exact ⟨0, by omega, rfl, .cons rfl (.cons rfl (.cons rfl (.cons rfl (.nil rfl))))⟩
noncomputable def b71 : Code := (Tryz.f71.body).getD .skip
theorem body71 : bodyOf Tryz.prog 71 = some (31, b71, [.tmp 4]) := by kernel_rfl
theorem pure71 : pureFn Tryz.prog 71 = true := by kernel_rfl
theorem sh30 : shOf Tryz.prog 30 = .one := by kernel_rfl
theorem sh4 : shOf Tryz.prog 4 = .one := by kernel_rfl
theorem ze30 : zeroL Tryz.prog 30 = some ((.cons .nils .nil) : V) := by kernel_rfl
theorem ze4 : zeroL Tryz.prog 4 = some ((.cons (.bool false) .nil) : V) := by kernel_rfl
noncomputable def b44 : Code := (Tryz.f44.body).getD .skip
theorem body44 : bodyOf Tryz.prog 44 = some (22, b44, [.tmp 2]) := by kernel_rfl
theorem pure44 : pureFn Tryz.prog 44 = true := by kernel_rfl
noncomputable def b13 : Code := (Tryz.f13.body).getD .skip
theorem body13 : bodyOf Tryz.prog 13 = some (16, b13, [.tmp 2, .tmp 3]) := by kernel_rfl
theorem pure13 : pureFn Tryz.prog 13 = true := by kernel_rfl
theorem grow {x : List SB} {e Y l : List SB} (hY : x ++ e = Y) : ∃ e', Y ++ l = x ++ e' := ⟨e ++ l, by rw [← hY, List.append_assoc]⟩
def blB (b : Bk) (q : Tri) (i : Nat) : Bool := match b.looks[i]? with
  | some p => bel b.thick q p
  | none => false
def blL (b : Bk) (q : Tri) : List Int := lsB (blB b q) b.looks.length
theorem lk_ok {b : Bk} (hb : Ok b) {p : Tri} {i : Nat} (h : b.looks[i]? = some p) : LOk p := by
  have := hb.looks p (List.mem_of_getElem? h)
  exact ⟨by omega, by omega, by omega⟩
set_option maxHeartbeats 8000000 in
theorem ret71 (hi : Off is) {b : Bk} (hb : Ok b) {q : Tri} (hd : DOk b.thick q) : RetP Tryz.prog is orc 71 [bkF b, discU b.thick q] (.lst .ro 1 (intsU (blL b q))) := by
  have hnk := hb.nk
  refine ret_of body71 pure71 (hi 71 (by decide)) rfl rfl (dat_l2 (dat_bkF b 5) (.agg _ _ (fun c hc => by
    simp only [List.mem_cons, List.not_mem_nil, or_false] at hc
    rcases hc with rfl | rfl | rfl | rfl <;> exact .int _ _ _))) (.inl (dat_ints 6 .ro (fun h => by cases h) 1 _)) ?_
  refine k_seq (k_region ?_)
  refine o_box rfl rfl ?_
  refine o_box rfl rfl ?_
  refine o_assign rfl ?_
  refine o_nil ?_
  refine k_gen [(2, U.box 0 0), (3, U.box 1 0)] ([SB.box [U.lst Kd.ro 3 (trisU (Bk.lots b)), .int .i64 (Bk.tlo b), .int .i64 (Bk.thi b), .int .i64 (Bk.thick b), .int .i64 (Bk.crack b), .int .i64 (Bk.glo b), .int .i64 (Bk.ghi b), U.lst Kd.ro 2 (twosU (Bk.thins b)), .int .i64 (Bk.hot b), .int .i64 (Bk.least b), .int .i64 (Bk.clo b), .int .i64 (Bk.chi b), .int .i64 (Bk.coal b), U.lst Kd.ro 3 (trisU (Bk.looks b)), .int .i64 (stk b (List.length (Bk.lots b)) 0), .int .i64 (stk b (List.length (Bk.lots b)) 1), .int .i64 (stk b (List.length (Bk.lots b)) 2), .int .i64 (stk b (List.length (Bk.lots b)) 3), U.lst Kd.full 0 []], SB.box [.int .i64 (Bk.thick b), .int .i64 (Tri.a q), .int .i64 (Tri.b q), .int .i64 (Tri.c q)]]) (.cons rfl (.cons rfl (.nil rfl))) rfl fun fr => ?_
  refine k_seq (k_region ?_)
  refine o_assign rfl ?_
  refine o_nil ?_
  refine k_seq ?_
  refine k_seq (k_region ?_)
  refine o_faddr rfl rfl fld67_0 ?_
  refine o_faddr rfl rfl fld28_10 ?_
  refine o_load1 rfl rfl rfl sh26 rfl ?_
  refine o_len rfl ty26 rfl (List.length_map _) ?_
  refine o_move rfl ?_
  refine o_nil ?_
  refine k_block ?_
  refine k_loop (fun k st => ∃ (i : Nat), k + i = b.looks.length ∧ (∃ e, st.st = [.box (bkN b b.lots.length), .box [.int .i64 b.thick, .int .i64 q.a, .int .i64 q.b, .int .i64 q.c]] ++ e) ∧ Holds st [(3, .box 1 0), (5, accI (lsB (blB b q) i)), (10, .lst .ro 3 (trisU b.looks)), (11, .int .i64 b.looks.length), (12, .int .i64 i)]) (fun k st hI => ?_) b.looks.length _ ?_
  · obtain ⟨i, hki, ⟨e, hst⟩, hs⟩ := hI
    have hle := ls_len (blB b q) i
    have hin := fun h => ls_in (f := blB b q) (n := i) h
    have hout := fun h => ls_out (f := blB b q) (n := i) h
    generalize hR : lsB (blB b q) i = R at hs hle hin hout
    generalize hY : [SB.box (bkN b b.lots.length), .box [.int .i64 b.thick, .int .i64 q.a, .int .i64 q.b, .int .i64 q.c]] ++ e = Y at hst
    have hY1 : Y[1]? = some (.box [.int .i64 b.thick, .int .i64 q.a, .int .i64 q.b, .int .i64 q.c]) := by rw [← hY]; rfl
    refine k_gen _ _ hs hst fun fr => ?_
    cases R with
    | nil =>
      refine k_seq (k_region ?_)
      refine o_lss rfl rfl rfl ?_
      refine o_nil ?_
      refine k_seq ?_
      refine k_cond rfl (fun h13 => ?_) (fun h13 => ?_)
      · refine k_skip ?_
        refine k_seq ?_
        refine k_block ?_
        refine k_seq (k_region ?_)
        refine o_move rfl ?_
        have hil : i < b.looks.length := by have := of_decide_eq_true h13; omega
        obtain ⟨p, hp⟩ : ∃ p, b.looks[i]? = some p := ⟨b.looks[i], List.getElem?_eq_getElem hil⟩
        have hlk := lk_ok hb hp
        have hh : blB b q i = bel b.thick q p := by unfold blB; rw [hp]
        refine o_idx (u := (p).u) rfl ty26 rfl rfl (Int.natCast_nonneg _) (by simp [hp]) cl56 ?_
        refine o_loadRN rfl rfl sh56 rfl ?_
        refine o_alloc rfl ze56 ?_
        refine o_assign rfl ?_
        refine o_storeN rfl (at_new _ _) sh56 rfl rfl rfl rfl rfl ?_
        refine o_nil ?_
        refine k_gen [(3, U.box 1 0), (5, accI []), (6, .int .i64 ↑i), (7, U.box (List.length Y) 0), (10, U.lst Kd.ro 3 (trisU (Bk.looks b))), (11, .int .i64 ↑(List.length (Bk.looks b))), (12, .int .i64 ↑i)] (Y ++ [SB.box [.int .i64 (Tri.a p), .int .i64 (Tri.b p), .int .i64 (Tri.c p)]]) (.cons rfl (.cons rfl (.cons rfl (.cons rfl (.cons rfl (.cons rfl (.cons rfl (.nil rfl)))))))) (set_end _ _ _) fun fr => ?_
        refine k_seq (k_region ?_)
        refine o_loadN rfl rfl (at_pre hY1) sh96 rfl ?_
        refine o_loadN rfl rfl (at_new _ _) sh56 rfl ?_
        refine o_call rfl (ret83 hi hd hlk) (.lrefl _) ?_
        refine o_nil ?_
        refine k_cond rfl (fun h19 => ?_) (fun h19 => ?_)
        · refine k_region ?_
          refine o_move rfl ?_
          refine o_move rfl ?_
          refine o_lit (es := [.int .i64 ↑i]) rfl ty30 ze3 cl3 rfl rfl rfl rfl rfl rfl rfl rfl ?_
          refine o_appendF rfl ap30_30 rfl rfl (by simp) (by simp) (by simp [flatU, cellsU, oneU]) (by simp) ?_
          refine o_assign rfl ?_
          refine o_nil ?_
          refine k_region ?_
          refine o_add rfl rfl rfl (by unfold I64; omega) ?_
          refine o_move rfl ?_
          refine o_nil ?_
          refine ⟨k - 1, by omega, i + 1, by omega, grow hY, .cons rfl (.cons ?_ (.cons rfl (.cons rfl (.cons rfl (.nil rfl)))))⟩
          rw [hin (by rw [hh]; exact h19)]; rfl
        · refine k_skip ?_
          refine k_region ?_
          refine o_add rfl rfl rfl (by unfold I64; omega) ?_
          refine o_move rfl ?_
          refine o_nil ?_
          refine ⟨k - 1, by omega, i + 1, by omega, grow hY, .cons rfl (.cons ?_ (.cons rfl (.cons rfl (.cons rfl (.nil rfl)))))⟩
          rw [hout (by rw [hh]; exact h19)]; rfl
      · refine k_exit ?_
        refine k_seq (k_region ?_)
        refine o_move rfl ?_
        refine o_move rfl ?_
        refine o_len rfl ty30 rfl rfl ?_
        refine o_move rfl ?_
        refine o_len rfl ty30 rfl rfl ?_
        refine o_slice0 rfl ty30 cl3 rfl (by simp) rfl rfl (Nat.le_refl _) ?_
        refine o_assign rfl ?_
        refine o_nil ?_
        refine k_ret ?_
        refine ⟨.inr rfl, _, .cons _ _ _ _ (.tmp 4) .nil, ?_⟩
        have hil : i = b.looks.length := by have := of_decide_eq_false h13; omega
        subst hil
        have huw : UW (.u (.lst .full 1 (List.take ([] : List Int).length (intsU [])))) (.u (.lst .ro 1 (intsU (blL b q)))) := by
          unfold blL; rw [hR, List.take_of_length_le (by simp)]; exact .ro _ _ _
        exact huw
    | cons y R =>
      refine k_seq (k_region ?_)
      refine o_lss rfl rfl rfl ?_
      refine o_nil ?_
      refine k_seq ?_
      refine k_cond rfl (fun h13 => ?_) (fun h13 => ?_)
      · refine k_skip ?_
        refine k_seq ?_
        refine k_block ?_
        refine k_seq (k_region ?_)
        refine o_move rfl ?_
        have hil : i < b.looks.length := by have := of_decide_eq_true h13; omega
        obtain ⟨p, hp⟩ : ∃ p, b.looks[i]? = some p := ⟨b.looks[i], List.getElem?_eq_getElem hil⟩
        have hlk := lk_ok hb hp
        have hh : blB b q i = bel b.thick q p := by unfold blB; rw [hp]
        refine o_idx (u := (p).u) rfl ty26 rfl rfl (Int.natCast_nonneg _) (by simp [hp]) cl56 ?_
        refine o_loadRN rfl rfl sh56 rfl ?_
        refine o_alloc rfl ze56 ?_
        refine o_assign rfl ?_
        refine o_storeN rfl (at_new _ _) sh56 rfl rfl rfl rfl rfl ?_
        refine o_nil ?_
        refine k_gen [(3, U.box 1 0), (5, accI (y :: R)), (6, .int .i64 ↑i), (7, U.box (List.length Y) 0), (10, U.lst Kd.ro 3 (trisU (Bk.looks b))), (11, .int .i64 ↑(List.length (Bk.looks b))), (12, .int .i64 ↑i)] (Y ++ [SB.box [.int .i64 (Tri.a p), .int .i64 (Tri.b p), .int .i64 (Tri.c p)]]) (.cons rfl (.cons rfl (.cons rfl (.cons rfl (.cons rfl (.cons rfl (.cons rfl (.nil rfl)))))))) (set_end _ _ _) fun fr => ?_
        refine k_seq (k_region ?_)
        refine o_loadN rfl rfl (at_pre hY1) sh96 rfl ?_
        refine o_loadN rfl rfl (at_new _ _) sh56 rfl ?_
        refine o_call rfl (ret83 hi hd hlk) (.lrefl _) ?_
        refine o_nil ?_
        refine k_cond rfl (fun h19 => ?_) (fun h19 => ?_)
        · refine k_region ?_
          refine o_move rfl ?_
          refine o_move rfl ?_
          refine o_lit (es := [.int .i64 ↑i]) rfl ty30 ze3 cl3 rfl rfl rfl rfl rfl rfl rfl rfl ?_
          refine o_appendS 5 rfl ap30_30 rfl rfl rfl (by simp) (by simp) (by simp [flatU, cellsU, oneU]) (by simp at hle ⊢; omega) ?_
          refine o_assign rfl ?_
          refine o_nil ?_
          refine k_region ?_
          refine o_add rfl rfl rfl (by unfold I64; omega) ?_
          refine o_move rfl ?_
          refine o_nil ?_
          refine ⟨k - 1, by omega, i + 1, by omega, grow hY, .cons rfl (.cons ?_ (.cons rfl (.cons rfl (.cons rfl (.nil rfl)))))⟩
          rw [hin (by rw [hh]; exact h19), accI_snoc]; rfl
        · refine k_skip ?_
          refine k_region ?_
          refine o_add rfl rfl rfl (by unfold I64; omega) ?_
          refine o_move rfl ?_
          refine o_nil ?_
          refine ⟨k - 1, by omega, i + 1, by omega, grow hY, .cons rfl (.cons ?_ (.cons rfl (.cons rfl (.cons rfl (.nil rfl)))))⟩
          rw [hout (by rw [hh]; exact h19)]; rfl
      · refine k_exit ?_
        refine k_seq (k_region ?_)
        refine o_move rfl ?_
        refine o_move rfl ?_
        refine o_len rfl ty30 rfl (List.length_map _) ?_
        refine o_move rfl ?_
        refine o_len rfl ty30 rfl (List.length_map _) ?_
        refine o_slice0 rfl ty30 cl3 rfl (by simp) rfl rfl (by simp) ?_
        refine o_assign rfl ?_
        refine o_nil ?_
        refine k_ret ?_
        refine ⟨.inr rfl, _, .cons _ _ _ _ (.tmp 4) .nil, ?_⟩
        have hil : i = b.looks.length := by have := of_decide_eq_false h13; omega
        subst hil
        have huw : UW (.u (.lst .full 1 (List.take ((y :: R) : List Int).length (intsU (y :: R))))) (.u (.lst .ro 1 (intsU (blL b q)))) := by
          unfold blL; rw [hR, List.take_of_length_le (by simp)]; exact .ro _ _ _
        exact huw
  · exact ⟨0, by omega, ⟨[], rfl⟩, .cons rfl (.cons rfl (.cons rfl (.cons rfl (.cons rfl (.nil rfl)))))⟩
def stB (b : Bk) (o : Option (List Int)) (q : Tri) : Option (List Int) := match o with
  | none => some (blL b q)
  | some w => if befL (blL b q) w = true then some (blL b q) else some w
def bstL (b : Bk) (l : List Tri) : Option (List Int) := l.foldl (stB b) none
theorem bst_snoc (b : Bk) (l : List Tri) (q : Tri) : bstL b (l ++ [q]) = stB b (bstL b l) q := by unfold bstL; rw [List.foldl_append]; rfl
theorem bst_len (b : Bk) (l : List Tri) : ∀ w, bstL b l = some w → w.length ≤ b.looks.length := by
  have key : ∀ (l : List Tri) (o : Option (List Int)), (∀ w, o = some w → w.length ≤ b.looks.length) → ∀ w, l.foldl (stB b) o = some w → w.length ≤ b.looks.length := by
    intro l
    induction l with
    | nil => intro o h; exact h
    | cons q l ih =>
      intro o h
      refine ih _ fun w hw => ?_
      unfold stB at hw
      cases o with
      | none => cases hw; exact ls_len _ _
      | some v =>
        dsimp only at hw
        split at hw
        · cases hw; exact ls_len _ _
        · cases hw; exact h _ rfl
  exact key l none (fun w h => by cases h)
def bestU (o : Option (List Int)) : U := match o with
  | none => .lst .full 0 []
  | some w => .lst .ro 1 (intsU w)
theorem bd_best (o : Option (List Int)) (m : Nat) : Bd m (bestU o) := by
  cases o with
  | none => exact Bd.lst fun c hc => by cases hc
  | some w => exact ((dat_ints 6 .ro (fun h => by cases h) 1 w).nb).bd m
noncomputable def rg44 : Code × Code := match b44 with
  | .seq _ (.seq _ (.seq _ (.seq (.seq _ (.block _ (.rangeFunc _ _ a b))) _))) => (a, b)
  | _ => (.skip, .skip)
noncomputable def lp44 : Lp := ⟨fun i => dg (lookU [(1, .box 0 0), (3, .box 1 0), (4, .box 2 0), (8, .fn 88 [] [.box 3 0])] i .junk), [9], rg44.1, rg44.2⟩
def Z44 (b : Bk) (n : Nat) (l : List Tri) : List SB := [.box (bkN b n), .box [bestU (bstL b l)], .box [.bool (bstL b l).isSome], .box (bkN b n)]
noncomputable abbrev Y44 (b : Bk) (n : Nat) (o : Option (List Int)) (s : Lq) : List SB := [.box (bkN b n), .box [bestU o], .box [.bool o.isSome], .box (bkN b n), .loop s lp44, .box [.yld 4], .box [.fn 89 [] [.box (4 + 1) 0, .box 3 0, .box (4 + 2) 0]]]
set_option maxHeartbeats 8000000 in
theorem yield44 (hi : Off is) {b : Bk} (hb : Ok b) (l : List Tri) (q : Tri) (e : List SB) (hd : DOk b.thick q) (hl : l.length < 8000) :
    WpY Tryz.prog is orc 4 lp44 [discU b.thick q] (X80 4 3 lp44 (Z44 b b.lots.length) l ++ e) fun u st' => u = .bool true ∧ ∃ e', Ext e' ∧ st' = X80 4 3 lp44 (Z44 b b.lots.length) (l ++ [q]) ++ (e ++ e') := by
  show Wp _ _ _ rg44.1 _ _
  have hnk := hb.nk
  have hlen0 := bst_len b l
  have hX : X80 4 3 lp44 (Z44 b b.lots.length) (l ++ [q]) = Y44 b b.lots.length (stB b (bstL b l) q) .ready := by
    show Y44 b b.lots.length (bstL b (l ++ [q])) .ready = _
    rw [bst_snoc]
  rw [hX]
  show Wp _ _ _ _ ⟨_, [], Y44 b b.lots.length (bstL b l) .ready ++ e⟩ _
  generalize bstL b l = A at hlen0
  generalize hY : Y44 b b.lots.length A .ready ++ e = Y
  have hlk : ∀ {i x}, (Y44 b b.lots.length A .ready)[i]? = some x → Y[i]? = some x := fun h => by rw [← hY]; exact at_pre h
  refine k_region ?_
  refine o_alloc rfl ze96 ?_
  refine o_storeN rfl (at_new _ _) sh96 rfl rfl rfl rfl rfl ?_
  refine o_nil ?_
  refine ⟨rfl, ?_, ?_⟩
  · show ((Y ++ [SB.box _]).set Y.length (SB.box _))[4]? = _
    rw [set_end]
    exact at_pre (hlk rfl)
  refine k_gen [(1, .box 0 0), (3, .box 1 0), (4, .box 2 0), (5, .box Y.length 0)] (Y44 b b.lots.length A .busy ++ (e ++ [.box [.int .i64 b.thick, .int .i64 q.a, .int .i64 q.b, .int .i64 q.c]])) (.cons rfl (.cons rfl (.cons rfl (.cons rfl (.nil rfl))))) (by
    show ((Y ++ [SB.box _]).set Y.length (SB.box _)).set 4 (.loop .busy lp44) = _
    rw [set_end, ← hY, List.append_assoc]; rfl) fun fr => ?_
  have hlen : Y.length = 7 + e.length := by rw [← hY]; simp; omega
  have hbx : ∀ P : List SB, P.length = 7 → (P ++ (e ++ [.box [.int .i64 b.thick, .int .i64 q.a, .int .i64 q.b, .int .i64 q.c]]))[Y.length]? = some (.box [.int .i64 b.thick, .int .i64 q.a, .int .i64 q.b, .int .i64 q.c]) := fun P hP => by
    rw [← List.append_assoc, show Y.length = (P ++ e).length by simp [hP, hlen]]; exact at_new _ _
  have hb5 := hbx (Y44 b b.lots.length A .busy) rfl
  have hq71 := ret71 (orc := orc) hi hb hd
  show Wp _ _ _ rg44.2 _ _
  cases A with
  | none =>
    have hs : stB b none q = some (blL b q) := rfl
    rw [hs]
    refine k_block ?_
    refine k_seq (k_region ?_)
    refine o_loadN rfl rfl rfl sh67 rfl ?_
    refine o_loadN rfl rfl hb5 sh96 rfl ?_
    refine o_call rfl (hq71) (.lrefl _) ?_
    refine o_assign rfl ?_
    refine o_nil ?_
    refine k_seq (k_region ?_)
    refine o_load1 rfl rfl rfl sh4 rfl ?_
    refine o_not rfl rfl ?_
    refine o_move rfl ?_
    refine o_gS rfl rfl rfl rfl rfl ?_
    refine o_gS rfl rfl rfl rfl rfl ?_
    refine o_gS rfl rfl rfl rfl rfl ?_
    refine o_pickT rfl rfl rfl ?_
    refine o_nil ?_
    refine k_cT rfl rfl ?_
    refine k_region ?_
    refine o_move rfl ?_
    refine o_store1 rfl rfl sh30 rfl rfl ?_
    refine o_store1 rfl rfl sh4 rfl rfl ?_
    refine o_nil ?_
    exact ⟨rfl, rfl, [_], Ext.snoc (l := []) .nil (nb_disc _ _), rfl⟩
  | some w =>
    have hw := hlen0 w rfl
    have hq72 := ret72 (orc := orc) hi (blL b q) w (by have := ls_len (blB b q) b.looks.length; unfold blL; omega) (by omega)
    have hs : stB b (some w) q = if befL (blL b q) w = true then some (blL b q) else some w := rfl
    rw [hs]
    generalize befL (blL b q) w = c at hq72
    cases c with
    | true =>
      refine k_block ?_
      refine k_seq (k_region ?_)
      refine o_loadN rfl rfl rfl sh67 rfl ?_
      refine o_loadN rfl rfl hb5 sh96 rfl ?_
      refine o_call rfl (hq71) (.lrefl _) ?_
      refine o_assign rfl ?_
      refine o_nil ?_
      refine k_seq (k_region ?_)
      refine o_load1 rfl rfl rfl sh4 rfl ?_
      refine o_not rfl rfl ?_
      refine o_move rfl ?_
      refine o_gD rfl rfl rfl rfl rfl ?_
      refine o_move rfl ?_
      refine o_gD rfl rfl rfl rfl rfl ?_
      refine o_load1 rfl rfl rfl sh30 rfl ?_
      refine o_gD rfl rfl rfl rfl rfl ?_
      refine o_call rfl (hq72) (.lrefl _) ?_
      refine o_pickF rfl rfl rfl ?_
      refine o_nil ?_
      refine k_cT rfl rfl ?_
      refine k_region ?_
      refine o_move rfl ?_
      refine o_store1 rfl rfl sh30 rfl rfl ?_
      refine o_store1 rfl rfl sh4 rfl rfl ?_
      refine o_nil ?_
      exact ⟨rfl, rfl, [_], Ext.snoc (l := []) .nil (nb_disc _ _), rfl⟩
    | false =>
      refine k_block ?_
      refine k_seq (k_region ?_)
      refine o_loadN rfl rfl rfl sh67 rfl ?_
      refine o_loadN rfl rfl hb5 sh96 rfl ?_
      refine o_call rfl (hq71) (.lrefl _) ?_
      refine o_assign rfl ?_
      refine o_nil ?_
      refine k_seq (k_region ?_)
      refine o_load1 rfl rfl rfl sh4 rfl ?_
      refine o_not rfl rfl ?_
      refine o_move rfl ?_
      refine o_gD rfl rfl rfl rfl rfl ?_
      refine o_move rfl ?_
      refine o_gD rfl rfl rfl rfl rfl ?_
      refine o_load1 rfl rfl rfl sh30 rfl ?_
      refine o_gD rfl rfl rfl rfl rfl ?_
      refine o_call rfl (hq72) (.lrefl _) ?_
      refine o_pickF rfl rfl rfl ?_
      refine o_nil ?_
      refine k_cF rfl rfl ?_
      refine k_skip ?_
      exact ⟨rfl, rfl, [_], Ext.snoc (l := []) .nil (nb_disc _ _), rfl⟩
theorem lp44_bd (i : Nat) : Bd 4 (lp44.fr i) := by
  refine lookU_all (p := fun u => Bd 4 (dg u)) ?_ (Bd.junk _) i
  intro x hx
  simp only [List.mem_cons, List.not_mem_nil, or_false] at hx
  rcases hx with rfl | rfl | rfl | rfl
  · exact Bd.box (by omega)
  · exact Bd.box (by omega)
  · exact Bd.box (by omega)
  · refine Bd.fn (fun u hu => by cases hu) fun u hu => ?_
    rcases List.mem_singleton.1 hu with rfl; exact Bd.box (by omega)
theorem seen0_44 (b : Bk) (n : Nat) : Seen0 b n 4 3 lp44 (Z44 b n) := by
  refine ⟨fun l => rfl, fun l x hx => ?_, fun l => rfl, by omega⟩
  simp only [Z44, List.mem_cons, List.not_mem_nil, or_false] at hx
  rcases hx with rfl | rfl | rfl | rfl
  · exact bd_bkN b n 4
  · intro c hc
    rcases List.mem_singleton.1 hc with rfl; exact bd_best _ _
  · intro c hc
    rcases List.mem_singleton.1 hc with rfl; exact Bd.bool _ _
  · exact bd_bkN b n 4
def wrL (b : Bk) : Option (List Int) := bstL b (lvs b 3 0 zeroTri)
theorem dat_best (o : Option (List Int)) (k : Nat) : Dat (k + 2) (bestU o) := by
  cases o with
  | none => exact .lst _ _ _ _ (fun h => by cases h) (fun c hc => by cases hc)
  | some w => exact dat_ints k .ro (fun h => by cases h) 1 w
set_option maxHeartbeats 4000000 in
theorem ret44 (hi : Off is) {b : Bk} (hb : Ok b) : RetP Tryz.prog is orc 44 [bkF b] (bestU (wrL b)) := by
  refine ret_of body44 pure44 (hi 44 (by decide)) rfl rfl (dat_l1 (dat_bkF b 5)) (.inl (dat_best _ 6)) ?_
  refine k_seq (k_region ?_)
  refine o_box rfl rfl ?_
  refine o_assign rfl ?_
  refine o_nil ?_
  refine k_gen [(1, U.box 0 0)] ([SB.box [U.lst Kd.ro 3 (trisU (Bk.lots b)), .int .i64 (Bk.tlo b), .int .i64 (Bk.thi b), .int .i64 (Bk.thick b), .int .i64 (Bk.crack b), .int .i64 (Bk.glo b), .int .i64 (Bk.ghi b), U.lst Kd.ro 2 (twosU (Bk.thins b)), .int .i64 (Bk.hot b), .int .i64 (Bk.least b), .int .i64 (Bk.clo b), .int .i64 (Bk.chi b), .int .i64 (Bk.coal b), U.lst Kd.ro 3 (trisU (Bk.looks b)), .int .i64 (stk b (List.length (Bk.lots b)) 0), .int .i64 (stk b (List.length (Bk.lots b)) 1), .int .i64 (stk b (List.length (Bk.lots b)) 2), .int .i64 (stk b (List.length (Bk.lots b)) 3), U.lst Kd.full 0 []]]) (.cons rfl (.nil rfl)) rfl fun fr => ?_
  refine k_seq (k_region ?_)
  refine o_alloc rfl ze30 ?_
  refine o_nil ?_
  refine k_gen [(1, U.box 0 0), (3, U.box 1 0)] ([SB.box [U.lst Kd.ro 3 (trisU (Bk.lots b)), .int .i64 (Bk.tlo b), .int .i64 (Bk.thi b), .int .i64 (Bk.thick b), .int .i64 (Bk.crack b), .int .i64 (Bk.glo b), .int .i64 (Bk.ghi b), U.lst Kd.ro 2 (twosU (Bk.thins b)), .int .i64 (Bk.hot b), .int .i64 (Bk.least b), .int .i64 (Bk.clo b), .int .i64 (Bk.chi b), .int .i64 (Bk.coal b), U.lst Kd.ro 3 (trisU (Bk.looks b)), .int .i64 (stk b (List.length (Bk.lots b)) 0), .int .i64 (stk b (List.length (Bk.lots b)) 1), .int .i64 (stk b (List.length (Bk.lots b)) 2), .int .i64 (stk b (List.length (Bk.lots b)) 3), U.lst Kd.full 0 []], SB.box [U.lst Kd.full 0 []]]) (.cons rfl (.cons rfl (.nil rfl))) rfl fun fr => ?_
  refine k_seq (k_region ?_)
  refine o_alloc rfl ze4 ?_
  refine o_store1 rfl rfl sh4 rfl rfl ?_
  refine o_nil ?_
  refine k_gen [(1, U.box 0 0), (3, U.box 1 0), (4, U.box 2 0)] ([SB.box [U.lst Kd.ro 3 (trisU (Bk.lots b)), .int .i64 (Bk.tlo b), .int .i64 (Bk.thi b), .int .i64 (Bk.thick b), .int .i64 (Bk.crack b), .int .i64 (Bk.glo b), .int .i64 (Bk.ghi b), U.lst Kd.ro 2 (twosU (Bk.thins b)), .int .i64 (Bk.hot b), .int .i64 (Bk.least b), .int .i64 (Bk.clo b), .int .i64 (Bk.chi b), .int .i64 (Bk.coal b), U.lst Kd.ro 3 (trisU (Bk.looks b)), .int .i64 (stk b (List.length (Bk.lots b)) 0), .int .i64 (stk b (List.length (Bk.lots b)) 1), .int .i64 (stk b (List.length (Bk.lots b)) 2), .int .i64 (stk b (List.length (Bk.lots b)) 3), U.lst Kd.full 0 []], SB.box [U.lst Kd.full 0 []], SB.box [U.bool Bool.false]]) (.cons rfl (.cons rfl (.cons rfl (.nil rfl)))) rfl fun fr => ?_
  refine k_seq ?_
  refine k_seq ?_
  refine k_region ?_
  refine o_loadN rfl rfl rfl sh67 rfl ?_
  refine o_callW rfl (wpc70 b b.lots.length _) (.lrefl _) (fun u st1 hM => ?_)
  obtain ⟨rfl, rfl⟩ := hM
  refine o_nil ?_
  refine k_block ?_
  refine k_forget [(1, .box 0 0), (3, .box 1 0), (4, .box 2 0), (8, .fn 88 [] [.box 3 0])] (Z44 b b.lots.length []) (.cons rfl (.cons rfl (.cons rfl (.cons rfl (.nil rfl))))) rfl ?_
  have h0 := seen0_44 b b.lots.length
  have hs := h0.seen lp44_bd (fun i => dg_noOwn _) ⟨9, rfl, rfl⟩ fun is orc hi l q e hd hl _ => yield44 hi hb l q e hd hl
  refine k_range (g := 88) rfl ((wpc88 hi hb h0 hs lp44_bd).mono fun _ st' hst => ⟨.ready, ?_, ?_, ?_⟩)
  · rw [hst]; rfl
  · rw [hst]
    exact h0.bd _
  · rw [hst]
    refine k_gen [(3, .box 1 0)] (Z44 b b.lots.length (lvs b 3 0 zeroTri)) (.cons rfl (.nil rfl)) rfl fun fr => ?_
    refine k_seq (k_region ?_)
    refine o_load1 rfl rfl rfl sh30 rfl ?_
    refine o_assign rfl ?_
    refine o_nil ?_
    refine k_ret ?_
    refine ⟨.inr rfl, _, .cons _ _ _ _ (.tmp 2) .nil, ?_⟩
    unfold wrL
    generalize bstL b (lvs b 3 0 zeroTri) = o
    cases o with
    | none => exact .refl _
    | some w => exact .refl _
set_option maxHeartbeats 4000000 in
theorem ret13 (hi : Off is) {b : Bk} (hb : Ok b) : RetP Tryz.prog is orc 13 [b.u] (.tup [bestU (wrL b), .int .i64 0]) := by
  refine ret_of body13 pure13 (hi 13 (by decide)) rfl rfl (dat_l1 (dat_bk b 5)) (.inr ⟨_, rfl, dat_l2 (dat_best _ 5) (.int _ _ _)⟩) ?_
  have q44 := ret44 (orc := orc) hi hb
  generalize wrL b = o at q44
  cases o with
  | none =>
    refine k_seq (k_region ?_)
    refine o_box rfl rfl ?_
    refine o_assign rfl ?_
    refine o_assign rfl ?_
    refine o_nil ?_
    refine k_gen [(1, U.box 0 0)] ([SB.box [U.lst Kd.ro 3 (trisU (Bk.lots b)), .int .i64 (Bk.tlo b), .int .i64 (Bk.thi b), .int .i64 (Bk.thick b), .int .i64 (Bk.crack b), .int .i64 (Bk.glo b), .int .i64 (Bk.ghi b), U.lst Kd.ro 2 (twosU (Bk.thins b)), .int .i64 (Bk.hot b), .int .i64 (Bk.least b), .int .i64 (Bk.clo b), .int .i64 (Bk.chi b), .int .i64 (Bk.coal b), U.lst Kd.ro 3 (trisU (Bk.looks b))]]) (.cons rfl (.nil rfl)) rfl fun fr => ?_
    refine k_seq (k_region ?_)
    refine o_loadN rfl rfl rfl sh28 rfl ?_
    refine o_call rfl (ret43 hi hb) (.lrefl _) ?_
    refine o_move rfl ?_
    refine o_extract rfl rfl rfl ?_
    refine o_extract rfl rfl rfl ?_
    refine o_alloc rfl ze67 ?_
    refine o_storeN rfl rfl sh67 rfl rfl rfl rfl rfl ?_
    refine o_assign rfl ?_
    refine o_nil ?_
    refine k_gen [(4, U.box 1 0), (5, .int .i64 0)] ([SB.box [U.lst Kd.ro 3 (trisU (Bk.lots b)), .int .i64 (Bk.tlo b), .int .i64 (Bk.thi b), .int .i64 (Bk.thick b), .int .i64 (Bk.crack b), .int .i64 (Bk.glo b), .int .i64 (Bk.ghi b), U.lst Kd.ro 2 (twosU (Bk.thins b)), .int .i64 (Bk.hot b), .int .i64 (Bk.least b), .int .i64 (Bk.clo b), .int .i64 (Bk.chi b), .int .i64 (Bk.coal b), U.lst Kd.ro 3 (trisU (Bk.looks b))], SB.box [U.lst Kd.ro 3 (trisU (Bk.lots b)), .int .i64 (Bk.tlo b), .int .i64 (Bk.thi b), .int .i64 (Bk.thick b), .int .i64 (Bk.crack b), .int .i64 (Bk.glo b), .int .i64 (Bk.ghi b), U.lst Kd.ro 2 (twosU (Bk.thins b)), .int .i64 (Bk.hot b), .int .i64 (Bk.least b), .int .i64 (Bk.clo b), .int .i64 (Bk.chi b), .int .i64 (Bk.coal b), U.lst Kd.ro 3 (trisU (Bk.looks b)), .int .i64 (stk b (List.length (Bk.lots b)) 0), .int .i64 (stk b (List.length (Bk.lots b)) 1), .int .i64 (stk b (List.length (Bk.lots b)) 2), .int .i64 (stk b (List.length (Bk.lots b)) 3), U.lst Kd.full 0 []]]) (.cons rfl (.cons rfl (.nil rfl))) rfl fun fr => ?_
    refine k_seq ?_
    refine k_seq (k_region ?_)
    refine o_move rfl ?_
    refine o_neq rfl rfl rfl ?_
    refine o_nil ?_
    refine k_cF rfl rfl ?_
    refine k_skip ?_
    refine k_seq (k_region ?_)
    refine o_loadN rfl rfl rfl sh67 rfl ?_
    refine o_call rfl (q44) (.lrefl _) ?_
    refine o_assign rfl ?_
    refine o_assign rfl ?_
    refine o_nil ?_
    refine k_ret ?_
    refine ⟨.inr rfl, _, .cons _ _ _ _ (.tmp 2) (.cons _ _ _ _ (.tmp 3) .nil), ?_⟩
    exact .refl _
  | some w =>
    refine k_seq (k_region ?_)
    refine o_box rfl rfl ?_
    refine o_assign rfl ?_
    refine o_assign rfl ?_
    refine o_nil ?_
    refine k_gen [(1, U.box 0 0)] ([SB.box [U.lst Kd.ro 3 (trisU (Bk.lots b)), .int .i64 (Bk.tlo b), .int .i64 (Bk.thi b), .int .i64 (Bk.thick b), .int .i64 (Bk.crack b), .int .i64 (Bk.glo b), .int .i64 (Bk.ghi b), U.lst Kd.ro 2 (twosU (Bk.thins b)), .int .i64 (Bk.hot b), .int .i64 (Bk.least b), .int .i64 (Bk.clo b), .int .i64 (Bk.chi b), .int .i64 (Bk.coal b), U.lst Kd.ro 3 (trisU (Bk.looks b))]]) (.cons rfl (.nil rfl)) rfl fun fr => ?_
    refine k_seq (k_region ?_)
    refine o_loadN rfl rfl rfl sh28 rfl ?_
    refine o_call rfl (ret43 hi hb) (.lrefl _) ?_
    refine o_move rfl ?_
    refine o_extract rfl rfl rfl ?_
    refine o_extract rfl rfl rfl ?_
    refine o_alloc rfl ze67 ?_
    refine o_storeN rfl rfl sh67 rfl rfl rfl rfl rfl ?_
    refine o_assign rfl ?_
    refine o_nil ?_
    refine k_gen [(4, U.box 1 0), (5, .int .i64 0)] ([SB.box [U.lst Kd.ro 3 (trisU (Bk.lots b)), .int .i64 (Bk.tlo b), .int .i64 (Bk.thi b), .int .i64 (Bk.thick b), .int .i64 (Bk.crack b), .int .i64 (Bk.glo b), .int .i64 (Bk.ghi b), U.lst Kd.ro 2 (twosU (Bk.thins b)), .int .i64 (Bk.hot b), .int .i64 (Bk.least b), .int .i64 (Bk.clo b), .int .i64 (Bk.chi b), .int .i64 (Bk.coal b), U.lst Kd.ro 3 (trisU (Bk.looks b))], SB.box [U.lst Kd.ro 3 (trisU (Bk.lots b)), .int .i64 (Bk.tlo b), .int .i64 (Bk.thi b), .int .i64 (Bk.thick b), .int .i64 (Bk.crack b), .int .i64 (Bk.glo b), .int .i64 (Bk.ghi b), U.lst Kd.ro 2 (twosU (Bk.thins b)), .int .i64 (Bk.hot b), .int .i64 (Bk.least b), .int .i64 (Bk.clo b), .int .i64 (Bk.chi b), .int .i64 (Bk.coal b), U.lst Kd.ro 3 (trisU (Bk.looks b)), .int .i64 (stk b (List.length (Bk.lots b)) 0), .int .i64 (stk b (List.length (Bk.lots b)) 1), .int .i64 (stk b (List.length (Bk.lots b)) 2), .int .i64 (stk b (List.length (Bk.lots b)) 3), U.lst Kd.full 0 []]]) (.cons rfl (.cons rfl (.nil rfl))) rfl fun fr => ?_
    refine k_seq ?_
    refine k_seq (k_region ?_)
    refine o_move rfl ?_
    refine o_neq rfl rfl rfl ?_
    refine o_nil ?_
    refine k_cF rfl rfl ?_
    refine k_skip ?_
    refine k_seq (k_region ?_)
    refine o_loadN rfl rfl rfl sh67 rfl ?_
    refine o_call rfl (q44) (.lrefl _) ?_
    refine o_assign rfl ?_
    refine o_assign rfl ?_
    refine o_nil ?_
    refine k_ret ?_
    refine ⟨.inr rfl, _, .cons _ _ _ _ (.tmp 2) (.cons _ _ _ _ (.tmp 3) .nil), ?_⟩
    exact .refl _
theorem check_20 {b : Bk} (hv : checkR b ≠ 0) : checkR b = 20 := by
  unfold checkR at hv ⊢
  split at hv
  · exact absurd rfl hv
  · rename_i h; rw [if_neg h]
set_option maxHeartbeats 4000000 in
theorem ret43j (hi : Off is) {b : Bk} (hv : checkR b = 20) : RetP Tryz.prog is orc 43 [b.u, .bool true] (.tup [zbk, .int .i64 20]) := by
  have q58 := ret58 (orc := orc) hi b
  rw [hv] at q58
  refine ret_of body43 pure43 (hi 43 (by decide)) rfl rfl (dat_l2 (dat_bk b 5) (.bool _ _)) (.inr ⟨_, rfl, dat_l2 (dat_zbk 4) (.int _ _ _)⟩) ?_
  refine k_seq (k_region ?_)
  refine o_box rfl rfl ?_
  refine o_alloc rfl ze67 ?_
  refine o_assign rfl ?_
  refine o_nil ?_
  refine k_gen [(1, U.bool Bool.true), (2, U.box 0 0), (4, U.box 1 0)] ([SB.box [U.lst Kd.ro 3 (trisU (Bk.lots b)), .int .i64 (Bk.tlo b), .int .i64 (Bk.thi b), .int .i64 (Bk.thick b), .int .i64 (Bk.crack b), .int .i64 (Bk.glo b), .int .i64 (Bk.ghi b), U.lst Kd.ro 2 (twosU (Bk.thins b)), .int .i64 (Bk.hot b), .int .i64 (Bk.least b), .int .i64 (Bk.clo b), .int .i64 (Bk.chi b), .int .i64 (Bk.coal b), U.lst Kd.ro 3 (trisU (Bk.looks b))], SB.box [U.lst Kd.full 0 [], .int .i64 0, .int .i64 0, .int .i64 0, .int .i64 0, .int .i64 0, .int .i64 0, U.lst Kd.full 0 [], .int .i64 0, .int .i64 0, .int .i64 0, .int .i64 0, .int .i64 0, U.lst Kd.full 0 [], .int .i64 0, .int .i64 0, .int .i64 0, .int .i64 0, U.lst Kd.full 0 []]]) (.cons rfl (.cons rfl (.cons rfl (.nil rfl)))) rfl fun fr => ?_
  refine k_seq ?_
  refine k_seq (k_region ?_)
  refine o_loadN rfl rfl rfl sh28 rfl ?_
  refine o_call rfl (q58) (.lrefl _) ?_
  refine o_assign rfl ?_
  refine o_nil ?_
  refine k_seq (k_region ?_)
  refine o_move rfl ?_
  refine o_neq rfl rfl rfl ?_
  refine o_nil ?_
  refine k_cT rfl rfl ?_
  refine k_seq (k_region ?_)
  refine o_build rfl ze67 pl67 rfl rfl ?_
  refine o_move rfl ?_
  refine o_storeN rfl rfl sh67 rfl rfl rfl rfl rfl ?_
  refine o_assign rfl ?_
  refine o_nil ?_
  refine k_ret ?_
  refine ⟨.inr rfl, _, .cons _ _ _ _ (.cellN 4 67 _ _ _ _ rfl rfl sh67 rfl) (.cons _ _ _ _ (.tmp 5) .nil), ?_⟩
  exact .refl _
set_option maxHeartbeats 4000000 in
theorem ret13i (hi : Off is) {b : Bk} (hv : checkR b = 20) : RetP Tryz.prog is orc 13 [b.u] (.tup [bestU none, .int .i64 20]) := by
  refine ret_of body13 pure13 (hi 13 (by decide)) rfl rfl (dat_l1 (dat_bk b 5)) (.inr ⟨_, rfl, dat_l2 (dat_best _ 5) (.int _ _ _)⟩) ?_
  refine k_seq (k_region ?_)
  refine o_box rfl rfl ?_
  refine o_assign rfl ?_
  refine o_assign rfl ?_
  refine o_nil ?_
  refine k_gen [(1, U.box 0 0)] ([SB.box [U.lst Kd.ro 3 (trisU (Bk.lots b)), .int .i64 (Bk.tlo b), .int .i64 (Bk.thi b), .int .i64 (Bk.thick b), .int .i64 (Bk.crack b), .int .i64 (Bk.glo b), .int .i64 (Bk.ghi b), U.lst Kd.ro 2 (twosU (Bk.thins b)), .int .i64 (Bk.hot b), .int .i64 (Bk.least b), .int .i64 (Bk.clo b), .int .i64 (Bk.chi b), .int .i64 (Bk.coal b), U.lst Kd.ro 3 (trisU (Bk.looks b))]]) (.cons rfl (.nil rfl)) rfl fun fr => ?_
  refine k_seq (k_region ?_)
  refine o_loadN rfl rfl rfl sh28 rfl ?_
  refine o_call rfl (ret43j hi hv) (.lrefl _) ?_
  refine o_move rfl ?_
  refine o_extract rfl rfl rfl ?_
  refine o_extract rfl rfl rfl ?_
  refine o_alloc rfl ze67 ?_
  refine o_storeN rfl rfl sh67 rfl rfl rfl rfl rfl ?_
  refine o_assign rfl ?_
  refine o_nil ?_
  refine k_gen [(4, U.box 1 0), (5, .int .i64 20)] ([SB.box [U.lst Kd.ro 3 (trisU (Bk.lots b)), .int .i64 (Bk.tlo b), .int .i64 (Bk.thi b), .int .i64 (Bk.thick b), .int .i64 (Bk.crack b), .int .i64 (Bk.glo b), .int .i64 (Bk.ghi b), U.lst Kd.ro 2 (twosU (Bk.thins b)), .int .i64 (Bk.hot b), .int .i64 (Bk.least b), .int .i64 (Bk.clo b), .int .i64 (Bk.chi b), .int .i64 (Bk.coal b), U.lst Kd.ro 3 (trisU (Bk.looks b))], SB.box [U.lst Kd.full 0 [], .int .i64 0, .int .i64 0, .int .i64 0, .int .i64 0, .int .i64 0, .int .i64 0, U.lst Kd.full 0 [], .int .i64 0, .int .i64 0, .int .i64 0, .int .i64 0, .int .i64 0, U.lst Kd.full 0 [], .int .i64 0, .int .i64 0, .int .i64 0, .int .i64 0, U.lst Kd.full 0 []]]) (.cons rfl (.cons rfl (.nil rfl))) rfl fun fr => ?_
  refine k_seq ?_
  refine k_seq (k_region ?_)
  refine o_move rfl ?_
  refine o_neq rfl rfl rfl ?_
  refine o_nil ?_
  refine k_cT rfl rfl ?_
  refine k_seq (k_region ?_)
  refine o_move rfl ?_
  refine o_assign rfl ?_
  refine o_assign rfl ?_
  refine o_nil ?_
  refine k_ret ?_
  refine ⟨.inr rfl, _, .cons _ _ _ _ (.tmp 2) (.cons _ _ _ _ (.tmp 3) .nil), ?_⟩
  exact .refl _
theorem by56 : Program.bytesOf Tryz.prog 56 = 24 := by kernel_rfl
theorem ze28 : zeroL Tryz.prog 28 = some ((.cons .nils (.cons (.int .i64 0) (.cons (.int .i64 0) (.cons (.int .i64 0) (.cons (.int .i64 0) (.cons (.int .i64 0) (.cons (.int .i64 0) (.cons .nils (.cons (.int .i64 0) (.cons (.int .i64 0) (.cons (.int .i64 0) (.cons (.int .i64 0) (.cons (.int .i64 0) (.cons .nils .nil)))))))))))))) : V) := by kernel_rfl
theorem ap26_26 : AppT Tryz.prog 26 26 56 3 24 ((.cons (.int .i64 0) (.cons (.int .i64 0) (.cons (.int .i64 0) .nil))) : V) := ⟨ty26, ⟨_, ty26⟩, cl56, by decide, by56, ze56, rfl⟩
noncomputable def b32 : Code := (Tryz.f32.body).getD .skip
theorem body32 : bodyOf Tryz.prog 32 = some (31, b32, [.cell 4 28]) := by kernel_rfl
theorem pure32 : pureFn Tryz.prog 32 = true := by kernel_rfl
def keepL (b : Bk) (l : List Int) : Nat → List Tri
  | 0 => []
  | n + 1 => match b.looks[n]? with
    | some p => if whI l n < 0 then keepL b l n ++ [p] else keepL b l n
    | none => keepL b l n
def woB (b : Bk) (l : List Int) : Bk := ⟨b.lots, b.tlo, b.thi, b.thick, b.crack, b.glo, b.ghi, b.thins, b.hot, b.least, b.clo, b.chi, b.coal, keepL b l b.looks.length⟩
def accT (l : List Tri) : U := match l with
  | [] => .lst .full 0 []
  | l => .lst .own 3 (trisU l)
theorem accT_snoc (x : Tri) (l : List Tri) : accT (l ++ [x]) = .lst .own 3 (trisU l ++ [x.u]) := by
  cases l with
  | nil => rfl
  | cons y l => show U.lst .own 3 (trisU (y :: (l ++ [x]))) = _; rw [show trisU (y :: (l ++ [x])) = trisU (y :: l) ++ [x.u] by simp]
theorem keep_len (b : Bk) (l : List Int) : ∀ n, (keepL b l n).length ≤ n := by
  intro n
  induction n with
  | zero => exact Nat.le_refl 0
  | succ n ih =>
    unfold keepL
    split
    · split
      · rw [List.length_append]; exact Nat.add_le_add_right ih 1
      · omega
    · omega
abbrev csK (b : Bk) (u : U) : List U := [.lst .ro 3 (trisU b.lots), .int .i64 b.tlo, .int .i64 b.thi, .int .i64 b.thick, .int .i64 b.crack, .int .i64 b.glo, .int .i64 b.ghi, .lst .ro 2 (twosU b.thins), .int .i64 b.hot, .int .i64 b.least, .int .i64 b.clo, .int .i64 b.chi, .int .i64 b.coal, u]
abbrev csZ : List U := [.lst .full 0 [], .int .i64 0, .int .i64 0, .int .i64 0, .int .i64 0, .int .i64 0, .int .i64 0, .lst .full 0 [], .int .i64 0, .int .i64 0, .int .i64 0, .int .i64 0, .int .i64 0, .lst .full 0 []]
theorem uw_bk (b : Bk) {u u' : U} (h : UW (.u u) (.u u')) : UW (.u (.agg (csK b u))) (.u (.agg (csK b u'))) := by
  refine .agg _ _ ?_
  iterate 13 refine .lcons _ _ _ _ (.refl _) ?_
  exact .lcons _ _ _ _ h (.lrefl _)
set_option maxHeartbeats 8000000 in
theorem ret32w (hi : Off is) (b : Bk) (l : List Int) (hnk : b.looks.length ≤ 8) (hl : l.length ≤ 4096) : RetP Tryz.prog is orc 32 [b.u, .lst .ro 1 (intsU l)] (woB b l).u := by
  refine ret_of body32 pure32 (hi 32 (by decide)) rfl rfl (dat_l2 (dat_bk b 5) (dat_ints 6 .ro (fun h => by cases h) 1 l)) (.inl (dat_bk _ 5)) ?_
  refine k_seq (k_region ?_)
  refine o_box rfl rfl ?_
  refine o_alloc rfl ze28 ?_
  refine o_nil ?_
  refine k_gen [(1, U.lst Kd.ro 1 (intsU l)), (2, U.box 0 0), (4, U.box 1 0)] ([SB.box [U.lst Kd.ro 3 (trisU (Bk.lots b)), .int .i64 (Bk.tlo b), .int .i64 (Bk.thi b), .int .i64 (Bk.thick b), .int .i64 (Bk.crack b), .int .i64 (Bk.glo b), .int .i64 (Bk.ghi b), U.lst Kd.ro 2 (twosU (Bk.thins b)), .int .i64 (Bk.hot b), .int .i64 (Bk.least b), .int .i64 (Bk.clo b), .int .i64 (Bk.chi b), .int .i64 (Bk.coal b), U.lst Kd.ro 3 (trisU (Bk.looks b))], SB.box [U.lst Kd.full 0 [], .int .i64 0, .int .i64 0, .int .i64 0, .int .i64 0, .int .i64 0, .int .i64 0, U.lst Kd.full 0 [], .int .i64 0, .int .i64 0, .int .i64 0, .int .i64 0, .int .i64 0, U.lst Kd.full 0 []]]) (.cons rfl (.cons rfl (.cons rfl (.nil rfl)))) rfl fun fr => ?_
  refine k_seq (k_region ?_)
  refine o_loadN rfl rfl rfl sh28 rfl ?_
  refine o_alloc rfl ze28 ?_
  refine o_storeN rfl rfl sh28 rfl rfl rfl rfl rfl ?_
  refine o_nil ?_
  refine k_gen [(1, U.lst Kd.ro 1 (intsU l)), (2, U.box 0 0), (4, U.box 1 0), (5, U.box 2 0)] ([SB.box [U.lst Kd.ro 3 (trisU (Bk.lots b)), .int .i64 (Bk.tlo b), .int .i64 (Bk.thi b), .int .i64 (Bk.thick b), .int .i64 (Bk.crack b), .int .i64 (Bk.glo b), .int .i64 (Bk.ghi b), U.lst Kd.ro 2 (twosU (Bk.thins b)), .int .i64 (Bk.hot b), .int .i64 (Bk.least b), .int .i64 (Bk.clo b), .int .i64 (Bk.chi b), .int .i64 (Bk.coal b), U.lst Kd.ro 3 (trisU (Bk.looks b))], SB.box [U.lst Kd.full 0 [], .int .i64 0, .int .i64 0, .int .i64 0, .int .i64 0, .int .i64 0, .int .i64 0, U.lst Kd.full 0 [], .int .i64 0, .int .i64 0, .int .i64 0, .int .i64 0, .int .i64 0, U.lst Kd.full 0 []], SB.box [U.lst Kd.ro 3 (trisU (Bk.lots b)), .int .i64 (Bk.tlo b), .int .i64 (Bk.thi b), .int .i64 (Bk.thick b), .int .i64 (Bk.crack b), .int .i64 (Bk.glo b), .int .i64 (Bk.ghi b), U.lst Kd.ro 2 (twosU (Bk.thins b)), .int .i64 (Bk.hot b), .int .i64 (Bk.least b), .int .i64 (Bk.clo b), .int .i64 (Bk.chi b), .int .i64 (Bk.coal b), U.lst Kd.ro 3 (trisU (Bk.looks b))]]) (.cons rfl (.cons rfl (.cons rfl (.cons rfl (.nil rfl))))) rfl fun fr => ?_
  refine k_seq (k_region ?_)
  refine o_faddr rfl rfl fld28_10 ?_
  refine o_store1 rfl rfl sh26 rfl rfl ?_
  refine o_nil ?_
  refine k_gen [(1, U.lst Kd.ro 1 (intsU l)), (2, U.box 0 0), (4, U.box 1 0), (5, U.box 2 0)] ([SB.box [U.lst Kd.ro 3 (trisU (Bk.lots b)), .int .i64 (Bk.tlo b), .int .i64 (Bk.thi b), .int .i64 (Bk.thick b), .int .i64 (Bk.crack b), .int .i64 (Bk.glo b), .int .i64 (Bk.ghi b), U.lst Kd.ro 2 (twosU (Bk.thins b)), .int .i64 (Bk.hot b), .int .i64 (Bk.least b), .int .i64 (Bk.clo b), .int .i64 (Bk.chi b), .int .i64 (Bk.coal b), U.lst Kd.ro 3 (trisU (Bk.looks b))], SB.box [U.lst Kd.full 0 [], .int .i64 0, .int .i64 0, .int .i64 0, .int .i64 0, .int .i64 0, .int .i64 0, U.lst Kd.full 0 [], .int .i64 0, .int .i64 0, .int .i64 0, .int .i64 0, .int .i64 0, U.lst Kd.full 0 []], SB.box [U.lst Kd.ro 3 (trisU (Bk.lots b)), .int .i64 (Bk.tlo b), .int .i64 (Bk.thi b), .int .i64 (Bk.thick b), .int .i64 (Bk.crack b), .int .i64 (Bk.glo b), .int .i64 (Bk.ghi b), U.lst Kd.ro 2 (twosU (Bk.thins b)), .int .i64 (Bk.hot b), .int .i64 (Bk.least b), .int .i64 (Bk.clo b), .int .i64 (Bk.chi b), .int .i64 (Bk.coal b), U.lst Kd.full 0 []]]) (.cons rfl (.cons rfl (.cons rfl (.cons rfl (.nil rfl))))) rfl fun fr => ?_
  refine k_seq ?_
  refine k_seq (k_region ?_)
  refine o_assign rfl ?_
  refine o_nil ?_
  refine k_block ?_
  refine k_loop (fun k st => ∃ (i : Nat), k + i = b.looks.length ∧ st.st = [.box (csK b (.lst .ro 3 (trisU b.looks))), .box csZ, .box (csK b (accT (keepL b l i)))] ∧ Holds st [(1, .lst .ro 1 (intsU l)), (2, .box 0 0), (4, .box 1 0), (5, .box 2 0), (6, .int .i64 i)]) (fun k st hI => ?_) b.looks.length _ ?_
  · obtain ⟨i, hki, hst, hs⟩ := hI
    have hle := keep_len b l i
    have hsucc : ∀ p, b.looks[i]? = some p → keepL b l (i + 1) = if whI l i < 0 then keepL b l i ++ [p] else keepL b l i := fun p hp => by
      show (match b.looks[i]? with | some p => _ | none => _) = _
      rw [hp]
    generalize hR : keepL b l i = R at hst hle hsucc
    refine k_gen _ _ hs hst fun fr => ?_
    cases R with
    | nil =>
      refine k_seq ?_
      refine k_seq (k_region ?_)
      refine o_move rfl ?_
      refine o_faddr rfl rfl fld28_10 ?_
      refine o_load1 rfl rfl rfl sh26 rfl ?_
      refine o_len rfl ty26 rfl (List.length_map _) ?_
      refine o_lss rfl rfl rfl ?_
      refine o_nil ?_
      refine k_cond rfl (fun h13 => ?_) (fun h13 => ?_)
      · refine k_skip ?_
        refine k_seq ?_
        refine k_block ?_
        refine k_seq (k_region ?_)
        refine o_move rfl ?_
        refine o_move rfl ?_
        refine o_call rfl (ret27 hi l i hl) (.lrefl _) ?_
        refine o_lss rfl rfl rfl ?_
        refine o_nil ?_
        refine k_cond rfl (fun h19 => ?_) (fun h19 => ?_)
        · refine k_draw [.plain, .read true, .plain, .read true, .plain, .plain, .read true, .lay, .plain, .plain, .plain] (by kernel_rfl) (by kernel_rfl) (by kernel_rfl) ?_
          refine d_plain (o_faddr rfl rfl fld28_10 (o_nil rfl)) ?_
          refine d_load rfl (o_load1 rfl rfl rfl sh26 rfl (o_nil rfl)) ?_
          refine d_plain (o_faddr rfl rfl fld28_10 (o_nil rfl)) ?_
          refine d_load rfl (o_load1 rfl rfl rfl sh26 rfl (o_nil rfl)) ?_
          refine d_plain (o_move rfl (o_nil rfl)) ?_
          have hil : i < b.looks.length := by have := of_decide_eq_true h13; omega
          obtain ⟨p, hp⟩ : ∃ p, b.looks[i]? = some p := ⟨b.looks[i], List.getElem?_eq_getElem hil⟩
          have hsp := hsucc p hp
          refine d_plain (o_idx (u := (p).u) rfl ty26 rfl rfl (Int.natCast_nonneg _) (by simp [hp]) cl56 (o_nil rfl)) ?_
          refine d_load rfl (o_loadRN rfl rfl sh56 rfl (o_nil rfl)) ?_
          refine d_lay (es := [U.agg [.int .i64 (Tri.a p), .int .i64 (Tri.b p), .int .i64 (Tri.c p)]]) rfl ty26 ze56 cl56 rfl rfl rfl rfl rfl rfl rfl rfl ?_
          refine d_plain (o_appendF rfl ap26_26 rfl rfl (by simp) (by simp) (by simp [flatU, cellsU, oneU]) (by simp) (o_nil rfl)) ?_
          refine d_plain (o_faddr rfl rfl fld28_10 (o_nil rfl)) ?_
          refine d_plain (o_store1 rfl rfl sh26 rfl rfl (o_nil rfl)) ?_
          refine d_nil ?_
          refine k_gen [(1, U.lst Kd.ro 1 (intsU l)), (2, U.box 0 0), (4, U.box 1 0), (5, U.box 2 0), (6, .int .i64 ↑i)] ([SB.box (csK b (U.lst Kd.ro 3 (trisU (Bk.looks b)))), SB.box csZ, SB.box (List.set (csK b (accT [])) (0 + 13) (U.lst Kd.own 3 [U.agg [.int .i64 (Tri.a p), .int .i64 (Tri.b p), .int .i64 (Tri.c p)]]))]) (.cons rfl (.cons rfl (.cons rfl (.cons rfl (.cons rfl (.nil rfl)))))) rfl fun fr => ?_
          refine k_region ?_
          refine o_move rfl ?_
          refine o_add rfl rfl rfl (by unfold I64; omega) ?_
          refine o_assign rfl ?_
          refine o_nil ?_
          refine ⟨k - 1, by omega, i + 1, by omega, ?_, .cons rfl (.cons rfl (.cons rfl (.cons rfl (.cons rfl (.nil rfl)))))⟩
          show _ = [SB.box (csK b (.lst .ro 3 (trisU b.looks))), .box csZ, .box (csK b (accT (keepL b l (i + 1))))]
          rw [hsp, if_pos (of_decide_eq_true h19)]; rfl
        · refine k_skip ?_
          refine k_region ?_
          refine o_move rfl ?_
          refine o_add rfl rfl rfl (by unfold I64; omega) ?_
          refine o_assign rfl ?_
          refine o_nil ?_
          have hil : i < b.looks.length := by have := of_decide_eq_true h13; omega
          obtain ⟨p, hp⟩ : ∃ p, b.looks[i]? = some p := ⟨b.looks[i], List.getElem?_eq_getElem hil⟩
          refine ⟨k - 1, by omega, i + 1, by omega, ?_, .cons rfl (.cons rfl (.cons rfl (.cons rfl (.cons rfl (.nil rfl)))))⟩
          show _ = [SB.box (csK b (.lst .ro 3 (trisU b.looks))), .box csZ, .box (csK b (accT (keepL b l (i + 1))))]
          rw [hsucc p hp, if_neg (of_decide_eq_false h19)]; rfl
      · refine k_exit ?_
        refine k_seq (k_region ?_)
        refine o_loadN rfl rfl rfl sh28 rfl ?_
        refine o_storeN rfl rfl sh28 rfl rfl rfl rfl rfl ?_
        refine o_nil ?_
        refine k_ret ?_
        refine ⟨.inr rfl, _, .cons _ _ _ _ (.cellN 4 28 _ _ _ _ rfl rfl sh28 rfl) .nil, ?_⟩
        have hil : i = b.looks.length := by have := of_decide_eq_false h13; omega
        subst hil
        show UW (.u (.agg (csK b _))) (.u (.agg (csK b (.lst .ro 3 (trisU (keepL b l b.looks.length))))))
        rw [hR]
        exact uw_bk b (.nil _ _ _)
    | cons y R =>
      refine k_seq ?_
      refine k_seq (k_region ?_)
      refine o_move rfl ?_
      refine o_faddr rfl rfl fld28_10 ?_
      refine o_load1 rfl rfl rfl sh26 rfl ?_
      refine o_len rfl ty26 rfl (List.length_map _) ?_
      refine o_lss rfl rfl rfl ?_
      refine o_nil ?_
      refine k_cond rfl (fun h13 => ?_) (fun h13 => ?_)
      · refine k_skip ?_
        refine k_seq ?_
        refine k_block ?_
        refine k_seq (k_region ?_)
        refine o_move rfl ?_
        refine o_move rfl ?_
        refine o_call rfl (ret27 hi l i hl) (.lrefl _) ?_
        refine o_lss rfl rfl rfl ?_
        refine o_nil ?_
        refine k_cond rfl (fun h19 => ?_) (fun h19 => ?_)
        · refine k_draw [.plain, .read true, .plain, .read true, .plain, .plain, .read true, .lay, .plain, .plain, .plain] (by kernel_rfl) (by kernel_rfl) (by kernel_rfl) ?_
          refine d_plain (o_faddr rfl rfl fld28_10 (o_nil rfl)) ?_
          refine d_load rfl (o_load1 rfl rfl rfl sh26 rfl (o_nil rfl)) ?_
          refine d_plain (o_faddr rfl rfl fld28_10 (o_nil rfl)) ?_
          refine d_load rfl (o_load1 rfl rfl rfl sh26 rfl (o_nil rfl)) ?_
          refine d_plain (o_move rfl (o_nil rfl)) ?_
          have hil : i < b.looks.length := by have := of_decide_eq_true h13; omega
          obtain ⟨p, hp⟩ : ∃ p, b.looks[i]? = some p := ⟨b.looks[i], List.getElem?_eq_getElem hil⟩
          have hsp := hsucc p hp
          refine d_plain (o_idx (u := (p).u) rfl ty26 rfl rfl (Int.natCast_nonneg _) (by simp [hp]) cl56 (o_nil rfl)) ?_
          refine d_load rfl (o_loadRN rfl rfl sh56 rfl (o_nil rfl)) ?_
          refine d_lay (es := [U.agg [.int .i64 (Tri.a p), .int .i64 (Tri.b p), .int .i64 (Tri.c p)]]) rfl ty26 ze56 cl56 rfl rfl rfl rfl rfl rfl rfl rfl ?_
          refine d_plain (o_appendC (2) 13 rfl ap26_26 rfl rfl rfl rfl (by simp) (by simp) (by simp [flatU, cellsU, oneU]) (by simp at hle ⊢; omega) (o_nil rfl)) ?_
          refine d_plain (o_faddr rfl rfl fld28_10 (o_nil rfl)) ?_
          refine d_plain (o_store1 rfl rfl sh26 rfl rfl (o_nil rfl)) ?_
          refine d_nil ?_
          refine k_gen [(1, U.lst Kd.ro 1 (intsU l)), (2, U.box 0 0), (4, U.box 1 0), (5, U.box 2 0), (6, .int .i64 ↑i)] ([SB.box (csK b (U.lst Kd.ro 3 (trisU (Bk.looks b)))), SB.box csZ, SB.box (List.set (List.set (csK b (accT (y :: R))) 13 (U.lst Kd.ro 3 (trisU (y :: R)))) (0 + 13) (U.lst Kd.own 3 (Tri.u y :: List.append (List.map Tri.u R) [U.agg [.int .i64 (Tri.a p), .int .i64 (Tri.b p), .int .i64 (Tri.c p)]])))]) (.cons rfl (.cons rfl (.cons rfl (.cons rfl (.cons rfl (.nil rfl)))))) rfl fun fr => ?_
          refine k_region ?_
          refine o_move rfl ?_
          refine o_add rfl rfl rfl (by unfold I64; omega) ?_
          refine o_assign rfl ?_
          refine o_nil ?_
          refine ⟨k - 1, by omega, i + 1, by omega, ?_, .cons rfl (.cons rfl (.cons rfl (.cons rfl (.cons rfl (.nil rfl)))))⟩
          show _ = [SB.box (csK b (.lst .ro 3 (trisU b.looks))), .box csZ, .box (csK b (accT (keepL b l (i + 1))))]
          rw [hsp, if_pos (of_decide_eq_true h19), accT_snoc]; rfl
        · refine k_skip ?_
          refine k_region ?_
          refine o_move rfl ?_
          refine o_add rfl rfl rfl (by unfold I64; omega) ?_
          refine o_assign rfl ?_
          refine o_nil ?_
          have hil : i < b.looks.length := by have := of_decide_eq_true h13; omega
          obtain ⟨p, hp⟩ : ∃ p, b.looks[i]? = some p := ⟨b.looks[i], List.getElem?_eq_getElem hil⟩
          refine ⟨k - 1, by omega, i + 1, by omega, ?_, .cons rfl (.cons rfl (.cons rfl (.cons rfl (.cons rfl (.nil rfl)))))⟩
          show _ = [SB.box (csK b (.lst .ro 3 (trisU b.looks))), .box csZ, .box (csK b (accT (keepL b l (i + 1))))]
          rw [hsucc p hp, if_neg (of_decide_eq_false h19)]; rfl
      · refine k_exit ?_
        refine k_seq (k_region ?_)
        refine o_loadN rfl rfl rfl sh28 rfl ?_
        refine o_storeN rfl rfl sh28 rfl rfl rfl rfl rfl ?_
        refine o_nil ?_
        refine k_ret ?_
        refine ⟨.inr rfl, _, .cons _ _ _ _ (.cellN 4 28 _ _ _ _ rfl rfl sh28 rfl) .nil, ?_⟩
        have hil : i = b.looks.length := by have := of_decide_eq_false h13; omega
        subst hil
        show UW (.u (.agg (csK b _))) (.u (.agg (csK b (.lst .ro 3 (trisU (keepL b l b.looks.length))))))
        rw [hR]
        exact uw_bk b (.refl _)
  · exact ⟨0, by omega, rfl, .cons rfl (.cons rfl (.cons rfl (.cons rfl (.cons rfl (.nil rfl)))))⟩
theorem ty4 : tyOf Tryz.prog 4 = .bool := by kernel_rfl
noncomputable def b7 : Code := (Tryz.f7.body).getD .skip
theorem body7 : bodyOf Tryz.prog 7 = some (105, b7, [.tmp 4]) := by kernel_rfl
theorem pure7 : pureFn Tryz.prog 7 = true := by kernel_rfl
theorem cmp_cons (x y : Int) (l m : List Int) : cmpL (x :: l) (y :: m) < 0 ↔ x < y ∨ (x = y ∧ cmpL l m < 0) := by
  show (if cmpI x y ≠ 0 then cmpI x y else cmpL l m) < 0 ↔ _
  unfold cmpI
  by_cases h1 : x < y
  · simp [h1]
  · by_cases h2 : y < x
    · simp [h1, h2]; omega
    · have : x = y := by omega
      simp [this]
theorem cmp_irr (l : List Int) : cmpL l l = 0 := by
  induction l with
  | nil => rfl
  | cons x l ih =>
    show (if cmpI x x ≠ 0 then cmpI x x else cmpL l l) = 0
    rw [show cmpI x x = 0 by unfold cmpI; simp]; simpa using ih
theorem cmp_trans : ∀ (x y z : List Int), cmpL x y < 0 → cmpL y z < 0 → cmpL x z < 0 := by
  intro x
  induction x with
  | nil =>
    intro y z h1 h2
    cases z with
    | nil => cases y with
      | nil => exact h1
      | cons b y => exact absurd h2 (by show ¬ ((1 : Int) < 0); omega)
    | cons c z => show (-1 : Int) < 0; omega
  | cons a x ih =>
    intro y z h1 h2
    cases y with
    | nil => exact absurd h1 (by show ¬ ((1 : Int) < 0); omega)
    | cons b y =>
      cases z with
      | nil => exact absurd h2 (by show ¬ ((1 : Int) < 0); omega)
      | cons c z =>
        rw [cmp_cons] at h1 h2 ⊢
        rcases h1 with h1 | ⟨h1, h3⟩ <;> rcases h2 with h2 | ⟨h2, h4⟩
        · exact .inl (by omega)
        · exact .inl (by omega)
        · exact .inl (by omega)
        · exact .inr ⟨by omega, ih y z h3 h4⟩
theorem bef_iff (l m : List Int) : befL l m = true ↔ l.length < m.length ∨ (l.length = m.length ∧ cmpL l m < 0) := by
  unfold befL
  by_cases h : (l.length : Int) ≠ (m.length : Int)
  · rw [if_pos h]; simp; omega
  · rw [if_neg h]; simp; omega
theorem bef_irr (l : List Int) : befL l l = false := by
  rw [← Bool.not_eq_true, bef_iff, cmp_irr]; omega
theorem bef_trans {x y z : List Int} (h1 : befL x y = true) (h2 : befL y z = true) : befL x z = true := by
  rw [bef_iff] at h1 h2 ⊢
  rcases h1 with h1 | ⟨h1, h3⟩ <;> rcases h2 with h2 | ⟨h2, h4⟩
  · exact .inl (by omega)
  · exact .inl (by omega)
  · exact .inl (by omega)
  · exact .inr ⟨by omega, cmp_trans x y z h3 h4⟩
def Least (b : Bk) (seen : List Tri) (o : Option (List Int)) : Prop := (o = none ∧ seen = []) ∨ ∃ w, o = some w ∧ (∃ d ∈ seen, w = blL b d) ∧ ∀ d ∈ seen, befL (blL b d) w = false
theorem least_step {b : Bk} {seen : List Tri} {o : Option (List Int)} (h : Least b seen o) (q : Tri) : Least b (seen ++ [q]) (stB b o q) := by
  rcases h with ⟨rfl, rfl⟩ | ⟨w, rfl, ⟨d0, h0, h1⟩, h2⟩
  · exact .inr ⟨blL b q, rfl, ⟨q, by simp, rfl⟩, fun d hd => by
      have : d = q := by simpa using hd
      subst this; exact bef_irr _⟩
  · right
    show ∃ w', (if befL (blL b q) w = true then some (blL b q) else some w) = some w' ∧ _
    by_cases h : befL (blL b q) w = true
    · rw [if_pos h]
      refine ⟨_, rfl, ⟨q, by simp, rfl⟩, fun d hd => ?_⟩
      rcases List.mem_append.1 hd with hd | hd
      · cases e : befL (blL b d) (blL b q) with
        | false => rfl
        | true => have := bef_trans e h; rw [h2 d hd] at this; cases this
      · have : d = q := by simpa using hd
        subst this; exact bef_irr _
    · rw [if_neg h]
      refine ⟨_, rfl, ⟨d0, by simp [h0], h1⟩, fun d hd => ?_⟩
      rcases List.mem_append.1 hd with hd | hd
      · exact h2 d hd
      · have : d = q := by simpa using hd
        subst this; simpa using h
theorem least_fold {b : Bk} : ∀ (l seen : List Tri) (o : Option (List Int)), Least b seen o → Least b (seen ++ l) (l.foldl (stB b) o) := by
  intro l
  induction l with
  | nil => intro seen o h; rw [List.append_nil]; exact h
  | cons q l ih =>
    intro seen o h
    have := ih (seen ++ [q]) _ (least_step h q)
    rw [List.append_assoc] at this; exact this
theorem lvs_ne {b : Bk} (hb : Ok b) : ∀ (r k : Nat) (q : Tri), lvs b r k q ≠ [] := by
  intro r
  induction r with
  | zero => intro k q h; cases h
  | succ r ih =>
    intro k q h
    have hw := wid_le hb k
    have h1 : 0 < widT b k := by unfold widT; omega
    have : lvs b r (k + 1) (setT q k (loT b k + (0 : Nat))) = [] := by
      have h2 : ∀ x ∈ List.range (widT b k), lvs b r (k + 1) (setT q k (loT b k + x)) = [] := by
        unfold lvs at h
        exact List.flatMap_eq_nil_iff.1 h
      exact h2 0 (List.mem_range.2 h1)
    exact ih _ _ this
abbrev dsc (b : Bk) : List Tri := lvs b 3 0 zeroTri
theorem wr_some {b : Bk} (hb : Ok b) : ∃ w, wrL b = some w ∧ (∃ d ∈ dsc b, w = blL b d) ∧ ∀ d ∈ dsc b, befL (blL b d) w = false := by
  have h : Least b ([] ++ dsc b) (wrL b) := least_fold (dsc b) [] none (.inl ⟨rfl, rfl⟩)
  rcases h with ⟨_, h⟩ | h
  · exact absurd h (lvs_ne hb 3 0 zeroTri)
  · exact h
theorem ls_mem {f : Nat → Bool} {n : Nat} {i : Nat} : (i : Int) ∈ lsB f n ↔ i < n ∧ f i = true := by
  unfold lsB
  rw [List.mem_map]
  constructor
  · rintro ⟨j, hj, e⟩
    have : j = i := by omega
    subst this
    obtain ⟨h1, h2⟩ := List.mem_filter.1 hj
    exact ⟨List.mem_range.1 h1, h2⟩
  · rintro ⟨h1, h2⟩
    exact ⟨i, List.mem_filter.2 ⟨List.mem_range.2 h1, h2⟩, rfl⟩
theorem ls_sub {f g : Nat → Bool} : ∀ (n : Nat), (∀ i, i < n → f i = true → g i = true) → (lsB f n).length ≤ (lsB g n).length ∧ ((lsB f n).length = (lsB g n).length → lsB f n = lsB g n) := by
  intro n
  induction n with
  | zero => intro _; exact ⟨Nat.le_refl _, fun _ => rfl⟩
  | succ n ih =>
    intro h
    obtain ⟨h1, h2⟩ := ih fun i hi => h i (by omega)
    by_cases hf : f n = true
    · have hg := h n (by omega) hf
      rw [ls_in hf, ls_in hg]
      simp only [List.length_append, List.length_singleton]
      exact ⟨by omega, fun e => by rw [h2 (by omega)]⟩
    · have hf : f n = false := by simpa using hf
      by_cases hg : g n = true
      · rw [ls_out hf, ls_in hg]
        simp only [List.length_append, List.length_singleton]
        exact ⟨by omega, fun e => by omega⟩
      · have hg : g n = false := by simpa using hg
        rw [ls_out hf, ls_out hg]; exact ⟨h1, h2⟩
theorem keep_mem {b : Bk} {l : List Int} {p : Tri} : ∀ {n : Nat}, p ∈ keepL b l n ↔ ∃ i, i < n ∧ b.looks[i]? = some p ∧ (i : Int) ∉ l := by
  intro n
  induction n with
  | zero => exact ⟨fun h => (by cases h), fun ⟨i, h, _⟩ => absurd h (Nat.not_lt_zero i)⟩
  | succ n ih =>
    have hw : whI l n < 0 ↔ (n : Int) ∉ l := by
      have := wh_iff l n
      constructor
      · intro h hm; have := this.2 hm; omega
      · intro h; exact Int.not_le.1 fun e => h (this.1 e)
    show p ∈ (match b.looks[n]? with | some p => if whI l n < 0 then keepL b l n ++ [p] else keepL b l n | none => keepL b l n) ↔ _
    have key : (∃ i, i < n + 1 ∧ b.looks[i]? = some p ∧ (i : Int) ∉ l) ↔ (∃ i, i < n ∧ b.looks[i]? = some p ∧ (i : Int) ∉ l) ∨ (b.looks[n]? = some p ∧ (n : Int) ∉ l) := by
      constructor
      · rintro ⟨i, h1, h2, h3⟩
        by_cases e : i = n
        · subst e; exact .inr ⟨h2, h3⟩
        · exact .inl ⟨i, by omega, h2, h3⟩
      · rintro (⟨i, h1, h2, h3⟩ | ⟨h2, h3⟩)
        · exact ⟨i, by omega, h2, h3⟩
        · exact ⟨n, by omega, h2, h3⟩
    rw [key, ← ih]
    cases hn : b.looks[n]? with
    | none => simp
    | some q =>
      by_cases h : whI l n < 0
      · simp only [if_pos h]
        rw [List.mem_append, List.mem_singleton]
        constructor
        · rintro (h1 | rfl)
          · exact .inl h1
          · exact .inr ⟨rfl, hw.1 h⟩
        · rintro (h1 | ⟨h1, _⟩)
          · exact .inl h1
          · cases h1; exact .inr rfl
      · simp only [if_neg h]
        constructor
        · exact .inl
        · rintro (h1 | ⟨_, h2⟩)
          · exact h1
          · exact absurd (hw.2 h2) h
theorem wo_ok {b : Bk} (hb : Ok b) (l : List Int) : Ok (woB b l) := by
  refine ⟨⟨hb.nl, hb.nt, ?_, hb.tin, hb.thick, hb.crack, hb.goal, hb.hot, hb.least, hb.cool, hb.coal⟩, hb.lots, hb.thins, fun p hp => ?_⟩
  · have := keep_len b l b.looks.length
    have := hb.nk
    show (keepL b l b.looks.length).length ≤ 8
    omega
  · obtain ⟨i, _, h, _⟩ := keep_mem.1 hp
    exact hb.looks p (List.mem_of_getElem? h)
theorem lvs_wo (b : Bk) (l : List Int) : ∀ (r k : Nat) (q : Tri), lvs (woB b l) r k q = lvs b r k q := by
  intro r
  induction r with
  | zero => intro k q; rfl
  | succ r ih =>
    intro k q
    show (List.range (widT b k)).flatMap (fun j : Nat => lvs (woB b l) r (k + 1) (setT q k (loT b k + j))) = _
    rw [show (fun j : Nat => lvs (woB b l) r (k + 1) (setT q k (loT b k + j))) = fun j : Nat => lvs b r (k + 1) (setT q k (loT b k + j)) from funext fun j => ih _ _]; rfl
theorem okd_wo (b : Bk) (l : List Int) (d : Tri) : okD (woB b l) d = true ↔ ∀ i, i < b.looks.length → blB b d i = true → (i : Int) ∈ l := by
  show (!((keepL b l b.looks.length).any (bel b.thick d))) = true ↔ _
  rw [Bool.not_eq_true', List.any_eq_false]
  constructor
  · intro h i hi hb
    unfold blB at hb
    cases e : b.looks[i]? with
    | none => rw [e] at hb; cases hb
    | some p =>
      rw [e] at hb
      exact Classical.byContradiction fun hn => h p (keep_mem.2 ⟨i, hi, e, hn⟩) hb
  · intro h p hp hb
    obtain ⟨i, hi, e, hn⟩ := keep_mem.1 hp
    exact hn (h i hi (by unfold blB; rw [e]; exact hb))
theorem trs_wo (b : Bk) (l : List Int) : trs (woB b l) = [] ↔ ∀ d ∈ dsc b, ¬ ∀ i, i < b.looks.length → blB b d i = true → (i : Int) ∈ l := by
  unfold trs
  rw [List.filter_eq_nil_iff, lvs_wo]
  exact forall_congr' fun d => imp_congr_right fun _ => by rw [okd_wo]
theorem trs_nil (b : Bk) : trs b = [] ↔ ∀ d ∈ dsc b, blL b d ≠ [] := by
  unfold trs
  rw [List.filter_eq_nil_iff]
  refine forall_congr' fun d => imp_congr_right fun _ => ?_
  have h1 : okD b d = true ↔ ∀ i, i < b.looks.length → blB b d i = false := by
    unfold okD
    rw [Bool.not_eq_true', List.any_eq_false]
    constructor
    · intro h i hi
      obtain ⟨p, hp⟩ : ∃ p, b.looks[i]? = some p := ⟨b.looks[i], List.getElem?_eq_getElem hi⟩
      unfold blB; rw [hp]; simpa using h p (List.mem_of_getElem? hp)
    · intro h p hp
      obtain ⟨i, hi⟩ := List.mem_iff_getElem?.1 hp
      have := h i (List.getElem?_eq_some_iff.1 hi).1
      unfold blB at this; rw [hi] at this
      simpa using this
  rw [h1]
  have h2 : blL b d = [] ↔ ∀ i, i < b.looks.length → blB b d i = false := by
    constructor
    · intro h i hi
      cases e : blB b d i with
      | false => rfl
      | true =>
        have : (i : Int) ∈ blL b d := ls_mem.2 ⟨hi, e⟩
        rw [h] at this; cases this
    · intro h
      unfold blL lsB
      rw [List.map_eq_nil_iff, List.filter_eq_nil_iff]
      intro i hi
      rw [h i (List.mem_range.1 hi)]; decide
  exact not_congr h2.symm
theorem wr_nil {b : Bk} {w : List Int} (h1 : ∃ d ∈ dsc b, w = blL b d) (h2 : ∀ d ∈ dsc b, befL (blL b d) w = false) : w = [] ↔ trs b ≠ [] := by
  rw [Ne, trs_nil]
  constructor
  · rintro rfl h
    obtain ⟨d, hd, e⟩ := h1
    exact h d hd e.symm
  · intro h
    obtain ⟨d, hd⟩ := Classical.not_forall.1 h
    obtain ⟨hd, e⟩ := Classical.not_imp.1 hd
    have e := Classical.not_not.1 e
    have := h2 d hd
    rw [e] at this
    cases w with
    | nil => rfl
    | cons x w =>
      have hb : befL [] (x :: w) = true := (bef_iff _ _).2 (.inl (by simp))
      rw [hb] at this; cases this
theorem wr_can {b : Bk} {w : List Int} (h1 : ∃ d ∈ dsc b, w = blL b d) : trs (woB b w) ≠ [] := by
  intro h
  obtain ⟨d, hd, rfl⟩ := h1
  exact (trs_wo b _).1 h d hd fun i hi e => ls_mem.2 ⟨hi, e⟩
theorem wr_cannot {b : Bk} {w : List Int} (h2 : ∀ d ∈ dsc b, befL (blL b d) w = false) (g : Nat → Bool) (h : befL (lsB g b.looks.length) w = true) : trs (woB b (lsB g b.looks.length)) = [] := by
  refine (trs_wo b _).2 fun d hd hs => ?_
  obtain ⟨l1, l2⟩ := ls_sub (f := blB b d) (g := g) b.looks.length fun i hi e => (ls_mem.1 (hs i hi e)).2
  have hn := h2 d hd
  rw [← Bool.not_eq_true, bef_iff] at hn
  rw [bef_iff] at h
  have hl : (blL b d).length = (lsB (blB b d) b.looks.length).length := rfl
  rcases h with h | ⟨h, h3⟩
  · exact hn (.inl (by omega))
  · by_cases e : (lsB (blB b d) b.looks.length).length = (lsB g b.looks.length).length
    · have := l2 e
      exact hn (.inr ⟨by omega, by show cmpL (lsB (blB b d) b.looks.length) w < 0; rw [this]; exact h3⟩)
    · exact hn (.inl (by omega))
theorem o_shl1 {all l : List Oper} {d : Nat} {x y : Operand} {xt yt t : TypeId} {p : String} {e : Array Edge} {Q : St → Prop} {s : St} {P : Program} {n : Nat} (hn : n ≤ 8) (hd : Nat.blt d 1024 = true) (hx : evalU s x = .int .i64 1) (hy : evalU s y = .int .i64 (n : Int))
    (hk : WpO P is orc all l (s.put d (.int .i64 ((2 ^ n : Nat) : Int))) Q) : WpO P is orc all (⟨some d, .binOp .shl xt x y yt, t, p, e, none⟩ :: l) s Q :=
  o_int hd hx hy (v := .int .i64 ((2 ^ n : Nat) : Int)) (by
    have h : n = 0 ∨ n = 1 ∨ n = 2 ∨ n = 3 ∨ n = 4 ∨ n = 5 ∨ n = 6 ∨ n = 7 ∨ n = 8 := by omega
    rcases h with rfl | rfl | rfl | rfl | rfl | rfl | rfl | rfl | rfl <;> rfl) rfl hk
set_option maxHeartbeats 16000000 in
theorem ret7 (hi : Off is) (b : Bk) (set : Int) (r15 : RetP Tryz.prog is orc 15 [] (.bool true)) : RetP Tryz.prog is orc 7 [b.u, .int .i64 set] (.bool true) := by
  refine ret_of body7 pure7 (hi 7 (by decide)) rfl rfl (dat_l2 (dat_bk b 5) (.int _ _ _)) (.inl (.bool _ _)) ?_
  by_cases hv : checkR b = 0
  · have hb := checkR_ok (fun h => h hv)
    have hnk := hb.nk
    obtain ⟨w, hw, hw1, hw2⟩ := wr_some hb
    have hwl : w.length ≤ b.looks.length := by
      obtain ⟨d, _, rfl⟩ := hw1; exact ls_len _ _
    have q13 := ret13 (orc := orc) hi hb
    rw [hw] at q13
    have q32 := ret32w (orc := orc) hi b w (by omega) (by omega)
    have hcan := wr_can hw1
    obtain ⟨d1, l1, ht1⟩ := List.exists_cons_of_ne_nil hcan
    have q11w := ret11 (orc := orc) hi (wo_ok hb w) ht1 0 (by decide)
    have hgr : grB (-1) b.looks.length w = true := by
      obtain ⟨d, _, rfl⟩ := hw1; exact gr_lsB _ _
    have q33 := ret33 (orc := orc) hi w b.looks.length (by omega)
    rw [hgr] at q33
    have hnil := wr_nil hw1 hw2
    have hp8 : (2 ^ b.looks.length : Nat) ≤ 256 := Nat.pow_le_pow_right (by decide) hnk
    have hp0 : 0 < (2 ^ b.looks.length : Nat) := Nat.pow_pos (by decide)
    have q24 := ret24 (orc := orc) hi set ((2 ^ b.looks.length : Nat) : Int) (by omega) (by omega)
    have hsb : 0 ≤ set % ((2 ^ b.looks.length : Nat) : Int) ∧ set % ((2 ^ b.looks.length : Nat) : Int) ≤ 4096 := by
      have h1 := Int.emod_nonneg set (b := ((2 ^ b.looks.length : Nat) : Int)) (by omega)
      have h2 := Int.emod_lt_of_pos set (b := ((2 ^ b.looks.length : Nat) : Int)) (by omega)
      omega
    generalize set % ((2 ^ b.looks.length : Nat) : Int) = z at hsb q24
    have q34 := ret34 (orc := orc) hi z b.looks.length hnk hsb
    have hcn := wr_cannot hw2 (bitB z)
    have hLl := ls_len (bitB z) b.looks.length
    generalize hL : lsB (bitB z) b.looks.length = L at q34 hcn hLl
    have q35 := ret35 (orc := orc) hi L w (by omega) (by omega)
    have q32L := ret32w (orc := orc) hi b L (by omega) (by omega)
    have hbf := bef_iff L w
    by_cases ht : trs b = []
    · have hwn : w ≠ [] := fun e => (hnil.1 e) ht
      obtain ⟨x, w', rfl⟩ := List.exists_cons_of_ne_nil hwn
      have q11 := ret11n (orc := orc) hi hb ht 0 (by decide)
      refine k_seq (k_region ?_)
      refine o_box rfl rfl ?_
      refine o_assign rfl ?_
      refine o_nil ?_
      refine k_gen [(1, .int .i64 set), (2, U.box 0 0)] ([SB.box [U.lst Kd.ro 3 (trisU (Bk.lots b)), .int .i64 (Bk.tlo b), .int .i64 (Bk.thi b), .int .i64 (Bk.thick b), .int .i64 (Bk.crack b), .int .i64 (Bk.glo b), .int .i64 (Bk.ghi b), U.lst Kd.ro 2 (twosU (Bk.thins b)), .int .i64 (Bk.hot b), .int .i64 (Bk.least b), .int .i64 (Bk.clo b), .int .i64 (Bk.chi b), .int .i64 (Bk.coal b), U.lst Kd.ro 3 (trisU (Bk.looks b))]]) (.cons rfl (.cons rfl (.nil rfl))) rfl fun fr => ?_
      refine k_seq (k_region ?_)
      refine o_loadN rfl rfl rfl sh28 rfl ?_
      refine o_call rfl (q13) (.lrefl _) ?_
      refine o_move rfl ?_
      refine o_extract rfl rfl rfl ?_
      refine o_extract rfl rfl rfl ?_
      refine o_assign rfl ?_
      refine o_assign rfl ?_
      refine o_nil ?_
      refine k_seq ?_
      refine k_seq (k_region ?_)
      refine o_loadN rfl rfl rfl sh28 rfl ?_
      refine o_call rfl (ret22 hi hb) (.lrefl _) ?_
      refine o_not rfl rfl ?_
      refine o_nil ?_
      refine k_cF rfl rfl ?_
      refine k_skip ?_
      refine k_seq (k_region ?_)
      refine o_loadN rfl rfl rfl sh28 rfl ?_
      refine o_call rfl (q11) (.lrefl _) ?_
      refine o_move rfl ?_
      refine o_extract rfl rfl rfl ?_
      refine o_extract rfl rfl rfl ?_
      refine o_alloc rfl ze24 ?_
      refine o_storeN rfl rfl sh24 rfl rfl rfl rfl rfl ?_
      refine o_assign rfl ?_
      refine o_nil ?_
      refine k_gen [(1, .int .i64 set), (2, U.box 0 0), (5, U.lst Kd.ro 1 (intsU (x :: w'))), (6, .int .i64 0), (8, .int .i64 22)] ([SB.box [U.lst Kd.ro 3 (trisU (Bk.lots b)), .int .i64 (Bk.tlo b), .int .i64 (Bk.thi b), .int .i64 (Bk.thick b), .int .i64 (Bk.crack b), .int .i64 (Bk.glo b), .int .i64 (Bk.ghi b), U.lst Kd.ro 2 (twosU (Bk.thins b)), .int .i64 (Bk.hot b), .int .i64 (Bk.least b), .int .i64 (Bk.clo b), .int .i64 (Bk.chi b), .int .i64 (Bk.coal b), U.lst Kd.ro 3 (trisU (Bk.looks b))], SB.box [.int .i64 0, .int .i64 0]]) (.cons rfl (.cons rfl (.cons rfl (.cons rfl (.cons rfl (.nil rfl)))))) rfl fun fr => ?_
      refine k_seq (k_region ?_)
      refine o_loadN rfl rfl rfl sh28 rfl ?_
      refine o_move rfl ?_
      refine o_call rfl (q32) (.lrefl _) ?_
      refine o_call rfl (q11w) (.lrefl _) ?_
      refine o_move rfl ?_
      refine o_extract rfl rfl rfl ?_
      refine o_extract rfl rfl rfl ?_
      refine o_alloc rfl ze24 ?_
      refine o_storeN rfl rfl sh24 rfl rfl rfl rfl rfl ?_
      refine o_assign rfl ?_
      refine o_nil ?_
      refine k_gen [(1, .int .i64 set), (2, U.box 0 0), (5, U.lst Kd.ro 1 (intsU (x :: w'))), (6, .int .i64 0), (8, .int .i64 22), (10, .int .i64 0)] ([SB.box [U.lst Kd.ro 3 (trisU (Bk.lots b)), .int .i64 (Bk.tlo b), .int .i64 (Bk.thi b), .int .i64 (Bk.thick b), .int .i64 (Bk.crack b), .int .i64 (Bk.glo b), .int .i64 (Bk.ghi b), U.lst Kd.ro 2 (twosU (Bk.thins b)), .int .i64 (Bk.hot b), .int .i64 (Bk.least b), .int .i64 (Bk.clo b), .int .i64 (Bk.chi b), .int .i64 (Bk.coal b), U.lst Kd.ro 3 (trisU (Bk.looks b))], SB.box [.int .i64 0, .int .i64 0], SB.box [.int .i64 (lowT (Bk.thick (woB b (x :: w'))) (d1 :: l1) (0 : Int)), .int .i64 (highT (Bk.thick (woB b (x :: w'))) (d1 :: l1) (0 : Int))]]) (.cons rfl (.cons rfl (.cons rfl (.cons rfl (.cons rfl (.cons rfl (.nil rfl))))))) rfl fun fr => ?_
      refine k_seq ?_
      refine k_seq (k_region ?_)
      refine o_move rfl ?_
      refine o_neq rfl rfl rfl ?_
      refine o_move rfl ?_
      refine o_gD rfl rfl rfl rfl rfl ?_
      refine o_move rfl ?_
      refine o_gD rfl rfl rfl rfl rfl ?_
      refine o_faddr rfl rfl fld28_10 ?_
      refine o_gD rfl rfl rfl rfl rfl ?_
      refine o_load1 rfl rfl rfl sh26 rfl ?_
      refine o_gD rfl rfl rfl rfl rfl ?_
      refine o_len rfl ty26 rfl (List.length_map _) ?_
      refine o_gD rfl rfl rfl rfl rfl ?_
      refine o_call rfl (q33) (.lrefl _) ?_
      refine o_gD rfl rfl rfl rfl rfl ?_
      refine o_not rfl rfl ?_
      refine o_genA [(1, .int .i64 set), (2, U.box 0 0), (5, U.lst Kd.ro 1 (intsU (x :: w'))), (8, .int .i64 22), (10, .int .i64 0), (44, U.bool (Decidable.decide ((0 : Int) ≠ (0 : Int)))), (50, U.bool !Bool.true)] [] ([SB.box [U.lst Kd.ro 3 (trisU (Bk.lots b)), .int .i64 (Bk.tlo b), .int .i64 (Bk.thi b), .int .i64 (Bk.thick b), .int .i64 (Bk.crack b), .int .i64 (Bk.glo b), .int .i64 (Bk.ghi b), U.lst Kd.ro 2 (twosU (Bk.thins b)), .int .i64 (Bk.hot b), .int .i64 (Bk.least b), .int .i64 (Bk.clo b), .int .i64 (Bk.chi b), .int .i64 (Bk.coal b), U.lst Kd.ro 3 (trisU (Bk.looks b))], SB.box [.int .i64 0, .int .i64 0], SB.box [.int .i64 (lowT (Bk.thick (woB b (x :: w'))) (d1 :: l1) (0 : Int)), .int .i64 (highT (Bk.thick (woB b (x :: w'))) (d1 :: l1) (0 : Int))]]) (.cons rfl (.cons rfl (.cons rfl (.cons rfl (.cons rfl (.cons rfl (.cons rfl (.nil rfl)))))))) rfl rfl fun fr => ?_
      refine o_pickF rfl rfl rfl ?_
      refine o_move rfl ?_
      refine o_gD rfl rfl rfl rfl rfl ?_
      refine o_move rfl ?_
      refine o_gD rfl rfl rfl rfl rfl ?_
      refine o_len rfl ty30 rfl (List.length_map _) ?_
      refine o_gD rfl rfl rfl rfl rfl ?_
      refine o_eql rfl rfl rfl ?_
      refine o_gD rfl rfl rfl rfl rfl ?_
      refine o_move rfl ?_
      refine o_gD rfl rfl rfl rfl rfl ?_
      refine o_eql rfl rfl rfl ?_
      refine o_gD rfl rfl rfl rfl rfl ?_
      refine o_neqB rfl ty4 rfl rfl ?_
      refine o_pickF rfl rfl rfl ?_
      refine o_genA [(1, .int .i64 set), (2, U.box 0 0), (5, U.lst Kd.ro 1 (intsU (x :: w'))), (10, .int .i64 0), (59, U.bool (Decidable.decide (Decidable.decide (↑(List.length (x :: w')) = (0 : Int)) ≠ Decidable.decide ((22 : Int) = (0 : Int)))))] [] ([SB.box [U.lst Kd.ro 3 (trisU (Bk.lots b)), .int .i64 (Bk.tlo b), .int .i64 (Bk.thi b), .int .i64 (Bk.thick b), .int .i64 (Bk.crack b), .int .i64 (Bk.glo b), .int .i64 (Bk.ghi b), U.lst Kd.ro 2 (twosU (Bk.thins b)), .int .i64 (Bk.hot b), .int .i64 (Bk.least b), .int .i64 (Bk.clo b), .int .i64 (Bk.chi b), .int .i64 (Bk.coal b), U.lst Kd.ro 3 (trisU (Bk.looks b))], SB.box [.int .i64 0, .int .i64 0], SB.box [.int .i64 (lowT (Bk.thick (woB b (x :: w'))) (d1 :: l1) (0 : Int)), .int .i64 (highT (Bk.thick (woB b (x :: w'))) (d1 :: l1) (0 : Int))]]) (.cons rfl (.cons rfl (.cons rfl (.cons rfl (.cons rfl (.nil rfl)))))) rfl rfl fun fr => ?_
      refine o_move rfl ?_
      refine o_guardX rfl rfl rfl rfl (fun h60 => ?_) (fun h60 => ?_)
      · refine o_move rfl ?_
        refine o_gD rfl rfl rfl rfl (by assumption) ?_
        refine o_neq rfl rfl rfl ?_
        refine o_pickF rfl rfl rfl ?_
        refine o_nil ?_
        refine k_gen [(1, .int .i64 set), (2, U.box 0 0), (5, U.lst Kd.ro 1 (intsU (x :: w'))), (63, U.bool (Decidable.decide ((0 : Int) ≠ (0 : Int))))] ([SB.box [U.lst Kd.ro 3 (trisU (Bk.lots b)), .int .i64 (Bk.tlo b), .int .i64 (Bk.thi b), .int .i64 (Bk.thick b), .int .i64 (Bk.crack b), .int .i64 (Bk.glo b), .int .i64 (Bk.ghi b), U.lst Kd.ro 2 (twosU (Bk.thins b)), .int .i64 (Bk.hot b), .int .i64 (Bk.least b), .int .i64 (Bk.clo b), .int .i64 (Bk.chi b), .int .i64 (Bk.coal b), U.lst Kd.ro 3 (trisU (Bk.looks b))], SB.box [.int .i64 0, .int .i64 0], SB.box [.int .i64 (lowT (Bk.thick (woB b (x :: w'))) (d1 :: l1) (0 : Int)), .int .i64 (highT (Bk.thick (woB b (x :: w'))) (d1 :: l1) (0 : Int))]]) (.cons rfl (.cons rfl (.cons rfl (.cons rfl (.nil rfl))))) rfl fun fr => ?_
        refine k_cF rfl rfl ?_
        refine k_skip ?_
        refine k_seq ?_
        refine k_draw [.plain, .plain, .read true, .read true, .plain, .read false, .plain, .read true, .read true, .plain, .plain] (by kernel_rfl) (by kernel_rfl) (by kernel_rfl) ?_
        refine d_plain (o_move rfl (o_nil rfl)) ?_
        refine d_plain (o_faddr rfl rfl fld28_10 (o_nil rfl)) ?_
        refine d_load rfl (o_load1 rfl rfl rfl sh26 rfl (o_nil rfl)) ?_
        refine d_load rfl (o_len rfl ty26 rfl (List.length_map _) (o_nil rfl)) ?_
        refine d_plain (o_shl1 hnk rfl rfl rfl (o_nil rfl)) ?_
        refine d_callR rfl (q24) (.int _ _) (.lrefl _) ?_
        refine d_plain (o_faddr rfl rfl fld28_10 (o_nil rfl)) ?_
        refine d_load rfl (o_load1 rfl rfl rfl sh26 rfl (o_nil rfl)) ?_
        refine d_load rfl (o_len rfl ty26 rfl (List.length_map _) (o_nil rfl)) ?_
        refine d_plain (o_call rfl (q34) (.lrefl _) (o_nil rfl)) ?_
        refine d_plain (o_assign rfl (o_nil rfl)) ?_
        refine d_nil ?_
        refine k_seq ?_
        refine k_seq (k_region ?_)
        refine o_move rfl ?_
        refine o_len rfl ty30 rfl (List.length_map _) ?_
        refine o_move rfl ?_
        refine o_len rfl ty30 rfl (List.length_map _) ?_
        refine o_gtr rfl rfl rfl ?_
        refine o_move rfl ?_
        refine o_guardX rfl rfl rfl rfl (fun h79 => ?_) (fun h79 => ?_)
        · refine o_move rfl ?_
          refine o_gD rfl rfl rfl rfl (by assumption) ?_
          refine o_len rfl ty30 rfl (List.length_map _) ?_
          refine o_gD rfl rfl rfl rfl (by assumption) ?_
          refine o_move rfl ?_
          refine o_gD rfl rfl rfl rfl (by assumption) ?_
          refine o_len rfl ty30 rfl (List.length_map _) ?_
          refine o_gD rfl rfl rfl rfl (by assumption) ?_
          refine o_eql rfl rfl rfl ?_
          refine o_gD rfl rfl rfl rfl (by assumption) ?_
          refine o_move rfl ?_
          refine o_guardX rfl rfl rfl rfl (fun h85 => ?_) (fun h85 => ?_)
          · refine o_move rfl ?_
            refine o_gD rfl rfl rfl rfl (by assumption) ?_
            refine o_move rfl ?_
            refine o_gD rfl rfl rfl rfl (by assumption) ?_
            refine o_call rfl (q35) (.lrefl _) ?_
            refine o_gD rfl rfl rfl rfl (by assumption) ?_
            refine o_not rfl rfl ?_
            refine o_gD rfl rfl rfl rfl (by assumption) ?_
            refine o_pickT rfl rfl (by assumption) ?_
            refine o_pickF rfl rfl (by assumption) ?_
            refine o_nil ?_
            refine k_gen [(2, U.box 0 0), (11, U.lst Kd.ro 1 (intsU L)), (91, U.bool !Decidable.decide (cmpL L (x :: w') < (0 : Int)))] ([SB.box [U.lst Kd.ro 3 (trisU (Bk.lots b)), .int .i64 (Bk.tlo b), .int .i64 (Bk.thi b), .int .i64 (Bk.thick b), .int .i64 (Bk.crack b), .int .i64 (Bk.glo b), .int .i64 (Bk.ghi b), U.lst Kd.ro 2 (twosU (Bk.thins b)), .int .i64 (Bk.hot b), .int .i64 (Bk.least b), .int .i64 (Bk.clo b), .int .i64 (Bk.chi b), .int .i64 (Bk.coal b), U.lst Kd.ro 3 (trisU (Bk.looks b))], SB.box [.int .i64 0, .int .i64 0], SB.box [.int .i64 (lowT (Bk.thick (woB b (x :: w'))) (d1 :: l1) (0 : Int)), .int .i64 (highT (Bk.thick (woB b (x :: w'))) (d1 :: l1) (0 : Int))]]) (.cons rfl (.cons rfl (.cons rfl (.nil rfl)))) rfl fun fr => ?_
            refine k_cond rfl (fun h91 => ?_) (fun h91 => ?_)
            · refine k_seq (k_region ?_)
              refine o_call rfl (r15) (.lrefl _) ?_
              refine o_assign rfl ?_
              refine o_nil ?_
              refine k_ret ?_
              refine ⟨.inr rfl, _, .cons _ _ _ _ (.tmp 4) .nil, ?_⟩
              exact .refl _
            · refine k_skip ?_
              have k1 := of_decide_eq_false h79
              have k2 := of_decide_eq_true h85
              have k3 : cmpL L (x :: w') < 0 := of_decide_eq_true (by simpa using h91)
              have hz := hcn (hbf.2 (.inr ⟨by omega, k3⟩))
              have q11L := ret11n (orc := orc) hi (wo_ok hb L) hz 0 (by decide)
              refine k_seq (k_region ?_)
              refine o_loadN rfl rfl rfl sh28 rfl ?_
              refine o_move rfl ?_
              refine o_call rfl (q32L) (.lrefl _) ?_
              refine o_call rfl (q11L) (.lrefl _) ?_
              refine o_move rfl ?_
              refine o_extract rfl rfl rfl ?_
              refine o_extract rfl rfl rfl ?_
              refine o_assign rfl ?_
              refine o_nil ?_
              refine k_seq (k_region ?_)
              refine o_move rfl ?_
              refine o_eql rfl rfl rfl ?_
              refine o_move rfl ?_
              refine o_gD rfl rfl rfl rfl rfl ?_
              refine o_call rfl (r15) (.lrefl _) ?_
              refine o_pickT rfl rfl rfl ?_
              refine o_assign rfl ?_
              refine o_nil ?_
              refine k_ret ?_
              refine ⟨.inr rfl, _, .cons _ _ _ _ (.tmp 4) .nil, ?_⟩
              exact .refl _
          · refine o_gS rfl rfl rfl rfl (by assumption) ?_
            refine o_gS rfl rfl rfl rfl (by assumption) ?_
            refine o_gS rfl rfl rfl rfl (by assumption) ?_
            refine o_gD rfl rfl rfl rfl (by assumption) ?_
            refine o_pickF rfl rfl (by assumption) ?_
            refine o_pickF rfl rfl (by assumption) ?_
            refine o_nil ?_
            refine k_gen [(2, U.box 0 0), (11, U.lst Kd.ro 1 (intsU L)), (91, U.bool Bool.false)] ([SB.box [U.lst Kd.ro 3 (trisU (Bk.lots b)), .int .i64 (Bk.tlo b), .int .i64 (Bk.thi b), .int .i64 (Bk.thick b), .int .i64 (Bk.crack b), .int .i64 (Bk.glo b), .int .i64 (Bk.ghi b), U.lst Kd.ro 2 (twosU (Bk.thins b)), .int .i64 (Bk.hot b), .int .i64 (Bk.least b), .int .i64 (Bk.clo b), .int .i64 (Bk.chi b), .int .i64 (Bk.coal b), U.lst Kd.ro 3 (trisU (Bk.looks b))], SB.box [.int .i64 0, .int .i64 0], SB.box [.int .i64 (lowT (Bk.thick (woB b (x :: w'))) (d1 :: l1) (0 : Int)), .int .i64 (highT (Bk.thick (woB b (x :: w'))) (d1 :: l1) (0 : Int))]]) (.cons rfl (.cons rfl (.cons rfl (.nil rfl)))) rfl fun fr => ?_
            refine k_cF rfl rfl ?_
            refine k_skip ?_
            have k1 := of_decide_eq_false h79
            have k2 := of_decide_eq_false h85
            have hz := hcn (hbf.2 (.inl (by omega)))
            have q11L := ret11n (orc := orc) hi (wo_ok hb L) hz 0 (by decide)
            refine k_seq (k_region ?_)
            refine o_loadN rfl rfl rfl sh28 rfl ?_
            refine o_move rfl ?_
            refine o_call rfl (q32L) (.lrefl _) ?_
            refine o_call rfl (q11L) (.lrefl _) ?_
            refine o_move rfl ?_
            refine o_extract rfl rfl rfl ?_
            refine o_extract rfl rfl rfl ?_
            refine o_assign rfl ?_
            refine o_nil ?_
            refine k_seq (k_region ?_)
            refine o_move rfl ?_
            refine o_eql rfl rfl rfl ?_
            refine o_move rfl ?_
            refine o_gD rfl rfl rfl rfl rfl ?_
            refine o_call rfl (r15) (.lrefl _) ?_
            refine o_pickT rfl rfl rfl ?_
            refine o_assign rfl ?_
            refine o_nil ?_
            refine k_ret ?_
            refine ⟨.inr rfl, _, .cons _ _ _ _ (.tmp 4) .nil, ?_⟩
            exact .refl _
        · refine o_gS rfl rfl rfl rfl (by assumption) ?_
          refine o_gS rfl rfl rfl rfl (by assumption) ?_
          refine o_gS rfl rfl rfl rfl (by assumption) ?_
          refine o_gS rfl rfl rfl rfl (by assumption) ?_
          refine o_gS rfl rfl rfl rfl (by assumption) ?_
          refine o_dead rfl rfl rfl rfl ?_
          refine o_dead rfl rfl rfl rfl ?_
          refine o_dead rfl rfl rfl rfl ?_
          refine o_dead rfl rfl rfl rfl ?_
          refine o_gS rfl rfl rfl rfl (by assumption) ?_
          refine o_pickT rfl rfl (by assumption) ?_
          refine o_nil ?_
          refine k_gen [(2, U.box 0 0), (11, U.lst Kd.ro 1 (intsU L)), (91, U.bool Bool.true)] ([SB.box [U.lst Kd.ro 3 (trisU (Bk.lots b)), .int .i64 (Bk.tlo b), .int .i64 (Bk.thi b), .int .i64 (Bk.thick b), .int .i64 (Bk.crack b), .int .i64 (Bk.glo b), .int .i64 (Bk.ghi b), U.lst Kd.ro 2 (twosU (Bk.thins b)), .int .i64 (Bk.hot b), .int .i64 (Bk.least b), .int .i64 (Bk.clo b), .int .i64 (Bk.chi b), .int .i64 (Bk.coal b), U.lst Kd.ro 3 (trisU (Bk.looks b))], SB.box [.int .i64 0, .int .i64 0], SB.box [.int .i64 (lowT (Bk.thick (woB b (x :: w'))) (d1 :: l1) (0 : Int)), .int .i64 (highT (Bk.thick (woB b (x :: w'))) (d1 :: l1) (0 : Int))]]) (.cons rfl (.cons rfl (.cons rfl (.nil rfl)))) rfl fun fr => ?_
          refine k_cT rfl rfl ?_
          refine k_seq (k_region ?_)
          refine o_call rfl (r15) (.lrefl _) ?_
          refine o_assign rfl ?_
          refine o_nil ?_
          refine k_ret ?_
          refine ⟨.inr rfl, _, .cons _ _ _ _ (.tmp 4) .nil, ?_⟩
          exact .refl _
      · refine o_gS rfl rfl rfl rfl (by assumption) ?_
        refine o_pickF rfl rfl rfl ?_
        refine o_nil ?_
        refine k_gen [(1, .int .i64 set), (2, U.box 0 0), (5, U.lst Kd.ro 1 (intsU (x :: w'))), (63, U.tup [])] ([SB.box [U.lst Kd.ro 3 (trisU (Bk.lots b)), .int .i64 (Bk.tlo b), .int .i64 (Bk.thi b), .int .i64 (Bk.thick b), .int .i64 (Bk.crack b), .int .i64 (Bk.glo b), .int .i64 (Bk.ghi b), U.lst Kd.ro 2 (twosU (Bk.thins b)), .int .i64 (Bk.hot b), .int .i64 (Bk.least b), .int .i64 (Bk.clo b), .int .i64 (Bk.chi b), .int .i64 (Bk.coal b), U.lst Kd.ro 3 (trisU (Bk.looks b))], SB.box [.int .i64 0, .int .i64 0], SB.box [.int .i64 (lowT (Bk.thick (woB b (x :: w'))) (d1 :: l1) (0 : Int)), .int .i64 (highT (Bk.thick (woB b (x :: w'))) (d1 :: l1) (0 : Int))]]) (.cons rfl (.cons rfl (.cons rfl (.cons rfl (.nil rfl))))) rfl fun fr => ?_
        exact absurd h60 (by simp; omega)
    · obtain ⟨d2, l2, ht2⟩ := List.exists_cons_of_ne_nil ht
      have hwn : w = [] := hnil.2 ht
      subst hwn
      have q11 := ret11 (orc := orc) hi hb ht2 0 (by decide)
      refine k_seq (k_region ?_)
      refine o_box rfl rfl ?_
      refine o_assign rfl ?_
      refine o_nil ?_
      refine k_gen [(1, .int .i64 set), (2, U.box 0 0)] ([SB.box [U.lst Kd.ro 3 (trisU (Bk.lots b)), .int .i64 (Bk.tlo b), .int .i64 (Bk.thi b), .int .i64 (Bk.thick b), .int .i64 (Bk.crack b), .int .i64 (Bk.glo b), .int .i64 (Bk.ghi b), U.lst Kd.ro 2 (twosU (Bk.thins b)), .int .i64 (Bk.hot b), .int .i64 (Bk.least b), .int .i64 (Bk.clo b), .int .i64 (Bk.chi b), .int .i64 (Bk.coal b), U.lst Kd.ro 3 (trisU (Bk.looks b))]]) (.cons rfl (.cons rfl (.nil rfl))) rfl fun fr => ?_
      refine k_seq (k_region ?_)
      refine o_loadN rfl rfl rfl sh28 rfl ?_
      refine o_call rfl (q13) (.lrefl _) ?_
      refine o_move rfl ?_
      refine o_extract rfl rfl rfl ?_
      refine o_extract rfl rfl rfl ?_
      refine o_assign rfl ?_
      refine o_assign rfl ?_
      refine o_nil ?_
      refine k_seq ?_
      refine k_seq (k_region ?_)
      refine o_loadN rfl rfl rfl sh28 rfl ?_
      refine o_call rfl (ret22 hi hb) (.lrefl _) ?_
      refine o_not rfl rfl ?_
      refine o_nil ?_
      refine k_cF rfl rfl ?_
      refine k_skip ?_
      refine k_seq (k_region ?_)
      refine o_loadN rfl rfl rfl sh28 rfl ?_
      refine o_call rfl (q11) (.lrefl _) ?_
      refine o_move rfl ?_
      refine o_extract rfl rfl rfl ?_
      refine o_extract rfl rfl rfl ?_
      refine o_alloc rfl ze24 ?_
      refine o_storeN rfl rfl sh24 rfl rfl rfl rfl rfl ?_
      refine o_assign rfl ?_
      refine o_nil ?_
      refine k_gen [(1, .int .i64 set), (2, U.box 0 0), (5, U.lst Kd.ro 1 (intsU [])), (6, .int .i64 0), (8, .int .i64 0)] ([SB.box [U.lst Kd.ro 3 (trisU (Bk.lots b)), .int .i64 (Bk.tlo b), .int .i64 (Bk.thi b), .int .i64 (Bk.thick b), .int .i64 (Bk.crack b), .int .i64 (Bk.glo b), .int .i64 (Bk.ghi b), U.lst Kd.ro 2 (twosU (Bk.thins b)), .int .i64 (Bk.hot b), .int .i64 (Bk.least b), .int .i64 (Bk.clo b), .int .i64 (Bk.chi b), .int .i64 (Bk.coal b), U.lst Kd.ro 3 (trisU (Bk.looks b))], SB.box [.int .i64 (lowT (Bk.thick b) (d2 :: l2) (0 : Int)), .int .i64 (highT (Bk.thick b) (d2 :: l2) (0 : Int))]]) (.cons rfl (.cons rfl (.cons rfl (.cons rfl (.cons rfl (.nil rfl)))))) rfl fun fr => ?_
      refine k_seq (k_region ?_)
      refine o_loadN rfl rfl rfl sh28 rfl ?_
      refine o_move rfl ?_
      refine o_call rfl (q32) (.lrefl _) ?_
      refine o_call rfl (q11w) (.lrefl _) ?_
      refine o_move rfl ?_
      refine o_extract rfl rfl rfl ?_
      refine o_extract rfl rfl rfl ?_
      refine o_alloc rfl ze24 ?_
      refine o_storeN rfl rfl sh24 rfl rfl rfl rfl rfl ?_
      refine o_assign rfl ?_
      refine o_nil ?_
      refine k_gen [(1, .int .i64 set), (2, U.box 0 0), (5, U.lst Kd.ro 1 (intsU [])), (6, .int .i64 0), (8, .int .i64 0), (10, .int .i64 0)] ([SB.box [U.lst Kd.ro 3 (trisU (Bk.lots b)), .int .i64 (Bk.tlo b), .int .i64 (Bk.thi b), .int .i64 (Bk.thick b), .int .i64 (Bk.crack b), .int .i64 (Bk.glo b), .int .i64 (Bk.ghi b), U.lst Kd.ro 2 (twosU (Bk.thins b)), .int .i64 (Bk.hot b), .int .i64 (Bk.least b), .int .i64 (Bk.clo b), .int .i64 (Bk.chi b), .int .i64 (Bk.coal b), U.lst Kd.ro 3 (trisU (Bk.looks b))], SB.box [.int .i64 (lowT (Bk.thick b) (d2 :: l2) (0 : Int)), .int .i64 (highT (Bk.thick b) (d2 :: l2) (0 : Int))], SB.box [.int .i64 (lowT (Bk.thick (woB b [])) (d1 :: l1) (0 : Int)), .int .i64 (highT (Bk.thick (woB b [])) (d1 :: l1) (0 : Int))]]) (.cons rfl (.cons rfl (.cons rfl (.cons rfl (.cons rfl (.cons rfl (.nil rfl))))))) rfl fun fr => ?_
      refine k_seq ?_
      refine k_seq (k_region ?_)
      refine o_move rfl ?_
      refine o_neq rfl rfl rfl ?_
      refine o_move rfl ?_
      refine o_gD rfl rfl rfl rfl rfl ?_
      refine o_move rfl ?_
      refine o_gD rfl rfl rfl rfl rfl ?_
      refine o_faddr rfl rfl fld28_10 ?_
      refine o_gD rfl rfl rfl rfl rfl ?_
      refine o_load1 rfl rfl rfl sh26 rfl ?_
      refine o_gD rfl rfl rfl rfl rfl ?_
      refine o_len rfl ty26 rfl (List.length_map _) ?_
      refine o_gD rfl rfl rfl rfl rfl ?_
      refine o_call rfl (q33) (.lrefl _) ?_
      refine o_gD rfl rfl rfl rfl rfl ?_
      refine o_not rfl rfl ?_
      refine o_genA [(1, .int .i64 set), (2, U.box 0 0), (5, U.lst Kd.ro 1 (intsU [])), (8, .int .i64 0), (10, .int .i64 0), (44, U.bool (Decidable.decide ((0 : Int) ≠ (0 : Int)))), (50, U.bool !Bool.true)] [] ([SB.box [U.lst Kd.ro 3 (trisU (Bk.lots b)), .int .i64 (Bk.tlo b), .int .i64 (Bk.thi b), .int .i64 (Bk.thick b), .int .i64 (Bk.crack b), .int .i64 (Bk.glo b), .int .i64 (Bk.ghi b), U.lst Kd.ro 2 (twosU (Bk.thins b)), .int .i64 (Bk.hot b), .int .i64 (Bk.least b), .int .i64 (Bk.clo b), .int .i64 (Bk.chi b), .int .i64 (Bk.coal b), U.lst Kd.ro 3 (trisU (Bk.looks b))], SB.box [.int .i64 (lowT (Bk.thick b) (d2 :: l2) (0 : Int)), .int .i64 (highT (Bk.thick b) (d2 :: l2) (0 : Int))], SB.box [.int .i64 (lowT (Bk.thick (woB b [])) (d1 :: l1) (0 : Int)), .int .i64 (highT (Bk.thick (woB b [])) (d1 :: l1) (0 : Int))]]) (.cons rfl (.cons rfl (.cons rfl (.cons rfl (.cons rfl (.cons rfl (.cons rfl (.nil rfl)))))))) rfl rfl fun fr => ?_
      refine o_pickF rfl rfl rfl ?_
      refine o_move rfl ?_
      refine o_gD rfl rfl rfl rfl rfl ?_
      refine o_move rfl ?_
      refine o_gD rfl rfl rfl rfl rfl ?_
      refine o_len rfl ty30 rfl (List.length_map _) ?_
      refine o_gD rfl rfl rfl rfl rfl ?_
      refine o_eql rfl rfl rfl ?_
      refine o_gD rfl rfl rfl rfl rfl ?_
      refine o_move rfl ?_
      refine o_gD rfl rfl rfl rfl rfl ?_
      refine o_eql rfl rfl rfl ?_
      refine o_gD rfl rfl rfl rfl rfl ?_
      refine o_neqB rfl ty4 rfl rfl ?_
      refine o_pickF rfl rfl rfl ?_
      refine o_genA [(1, .int .i64 set), (2, U.box 0 0), (5, U.lst Kd.ro 1 (intsU [])), (10, .int .i64 0), (59, U.bool (Decidable.decide (Decidable.decide (↑(List.length []) = (0 : Int)) ≠ Decidable.decide ((0 : Int) = (0 : Int)))))] [] ([SB.box [U.lst Kd.ro 3 (trisU (Bk.lots b)), .int .i64 (Bk.tlo b), .int .i64 (Bk.thi b), .int .i64 (Bk.thick b), .int .i64 (Bk.crack b), .int .i64 (Bk.glo b), .int .i64 (Bk.ghi b), U.lst Kd.ro 2 (twosU (Bk.thins b)), .int .i64 (Bk.hot b), .int .i64 (Bk.least b), .int .i64 (Bk.clo b), .int .i64 (Bk.chi b), .int .i64 (Bk.coal b), U.lst Kd.ro 3 (trisU (Bk.looks b))], SB.box [.int .i64 (lowT (Bk.thick b) (d2 :: l2) (0 : Int)), .int .i64 (highT (Bk.thick b) (d2 :: l2) (0 : Int))], SB.box [.int .i64 (lowT (Bk.thick (woB b [])) (d1 :: l1) (0 : Int)), .int .i64 (highT (Bk.thick (woB b [])) (d1 :: l1) (0 : Int))]]) (.cons rfl (.cons rfl (.cons rfl (.cons rfl (.cons rfl (.nil rfl)))))) rfl rfl fun fr => ?_
      refine o_move rfl ?_
      refine o_gD rfl rfl rfl rfl rfl ?_
      refine o_move rfl ?_
      refine o_gD rfl rfl rfl rfl rfl ?_
      refine o_neq rfl rfl rfl ?_
      refine o_pickF rfl rfl rfl ?_
      refine o_nil ?_
      refine k_gen [(1, .int .i64 set), (2, U.box 0 0), (5, U.lst Kd.ro 1 (intsU [])), (63, U.bool (Decidable.decide ((0 : Int) ≠ (0 : Int))))] ([SB.box [U.lst Kd.ro 3 (trisU (Bk.lots b)), .int .i64 (Bk.tlo b), .int .i64 (Bk.thi b), .int .i64 (Bk.thick b), .int .i64 (Bk.crack b), .int .i64 (Bk.glo b), .int .i64 (Bk.ghi b), U.lst Kd.ro 2 (twosU (Bk.thins b)), .int .i64 (Bk.hot b), .int .i64 (Bk.least b), .int .i64 (Bk.clo b), .int .i64 (Bk.chi b), .int .i64 (Bk.coal b), U.lst Kd.ro 3 (trisU (Bk.looks b))], SB.box [.int .i64 (lowT (Bk.thick b) (d2 :: l2) (0 : Int)), .int .i64 (highT (Bk.thick b) (d2 :: l2) (0 : Int))], SB.box [.int .i64 (lowT (Bk.thick (woB b [])) (d1 :: l1) (0 : Int)), .int .i64 (highT (Bk.thick (woB b [])) (d1 :: l1) (0 : Int))]]) (.cons rfl (.cons rfl (.cons rfl (.cons rfl (.nil rfl))))) rfl fun fr => ?_
      refine k_cF rfl rfl ?_
      refine k_skip ?_
      refine k_seq ?_
      refine k_draw [.plain, .plain, .read true, .read true, .plain, .read false, .plain, .read true, .read true, .plain, .plain] (by kernel_rfl) (by kernel_rfl) (by kernel_rfl) ?_
      refine d_plain (o_move rfl (o_nil rfl)) ?_
      refine d_plain (o_faddr rfl rfl fld28_10 (o_nil rfl)) ?_
      refine d_load rfl (o_load1 rfl rfl rfl sh26 rfl (o_nil rfl)) ?_
      refine d_load rfl (o_len rfl ty26 rfl (List.length_map _) (o_nil rfl)) ?_
      refine d_plain (o_shl1 hnk rfl rfl rfl (o_nil rfl)) ?_
      refine d_callR rfl (q24) (.int _ _) (.lrefl _) ?_
      refine d_plain (o_faddr rfl rfl fld28_10 (o_nil rfl)) ?_
      refine d_load rfl (o_load1 rfl rfl rfl sh26 rfl (o_nil rfl)) ?_
      refine d_load rfl (o_len rfl ty26 rfl (List.length_map _) (o_nil rfl)) ?_
      refine d_plain (o_call rfl (q34) (.lrefl _) (o_nil rfl)) ?_
      refine d_plain (o_assign rfl (o_nil rfl)) ?_
      refine d_nil ?_
      refine k_seq ?_
      refine k_seq (k_region ?_)
      refine o_move rfl ?_
      refine o_len rfl ty30 rfl (List.length_map _) ?_
      refine o_move rfl ?_
      refine o_len rfl ty30 rfl (List.length_map _) ?_
      refine o_gtr rfl rfl rfl ?_
      refine o_move rfl ?_
      refine o_guardX rfl rfl rfl rfl (fun h79 => ?_) (fun h79 => ?_)
      · refine o_move rfl ?_
        refine o_gD rfl rfl rfl rfl (by assumption) ?_
        refine o_len rfl ty30 rfl (List.length_map _) ?_
        refine o_gD rfl rfl rfl rfl (by assumption) ?_
        refine o_move rfl ?_
        refine o_gD rfl rfl rfl rfl (by assumption) ?_
        refine o_len rfl ty30 rfl (List.length_map _) ?_
        refine o_gD rfl rfl rfl rfl (by assumption) ?_
        refine o_eql rfl rfl rfl ?_
        refine o_gD rfl rfl rfl rfl (by assumption) ?_
        refine o_move rfl ?_
        refine o_guardX rfl rfl rfl rfl (fun h85 => ?_) (fun h85 => ?_)
        · refine o_move rfl ?_
          refine o_gD rfl rfl rfl rfl (by assumption) ?_
          refine o_move rfl ?_
          refine o_gD rfl rfl rfl rfl (by assumption) ?_
          refine o_call rfl (q35) (.lrefl _) ?_
          refine o_gD rfl rfl rfl rfl (by assumption) ?_
          refine o_not rfl rfl ?_
          refine o_gD rfl rfl rfl rfl (by assumption) ?_
          refine o_pickT rfl rfl (by assumption) ?_
          refine o_pickF rfl rfl (by assumption) ?_
          refine o_nil ?_
          refine k_gen [(2, U.box 0 0), (11, U.lst Kd.ro 1 (intsU L)), (91, U.bool !Decidable.decide (cmpL L [] < (0 : Int)))] ([SB.box [U.lst Kd.ro 3 (trisU (Bk.lots b)), .int .i64 (Bk.tlo b), .int .i64 (Bk.thi b), .int .i64 (Bk.thick b), .int .i64 (Bk.crack b), .int .i64 (Bk.glo b), .int .i64 (Bk.ghi b), U.lst Kd.ro 2 (twosU (Bk.thins b)), .int .i64 (Bk.hot b), .int .i64 (Bk.least b), .int .i64 (Bk.clo b), .int .i64 (Bk.chi b), .int .i64 (Bk.coal b), U.lst Kd.ro 3 (trisU (Bk.looks b))], SB.box [.int .i64 (lowT (Bk.thick b) (d2 :: l2) (0 : Int)), .int .i64 (highT (Bk.thick b) (d2 :: l2) (0 : Int))], SB.box [.int .i64 (lowT (Bk.thick (woB b [])) (d1 :: l1) (0 : Int)), .int .i64 (highT (Bk.thick (woB b [])) (d1 :: l1) (0 : Int))]]) (.cons rfl (.cons rfl (.cons rfl (.nil rfl)))) rfl fun fr => ?_
          refine k_cond rfl (fun h91 => ?_) (fun h91 => ?_)
          · refine k_seq (k_region ?_)
            refine o_call rfl (r15) (.lrefl _) ?_
            refine o_assign rfl ?_
            refine o_nil ?_
            refine k_ret ?_
            refine ⟨.inr rfl, _, .cons _ _ _ _ (.tmp 4) .nil, ?_⟩
            exact .refl _
          · refine k_skip ?_
            have k1 := of_decide_eq_false h79
            have k2 := of_decide_eq_true h85
            have k3 : cmpL L [] < 0 := of_decide_eq_true (by simpa using h91)
            have hz := hcn (hbf.2 (.inr ⟨by omega, k3⟩))
            have q11L := ret11n (orc := orc) hi (wo_ok hb L) hz 0 (by decide)
            refine k_seq (k_region ?_)
            refine o_loadN rfl rfl rfl sh28 rfl ?_
            refine o_move rfl ?_
            refine o_call rfl (q32L) (.lrefl _) ?_
            refine o_call rfl (q11L) (.lrefl _) ?_
            refine o_move rfl ?_
            refine o_extract rfl rfl rfl ?_
            refine o_extract rfl rfl rfl ?_
            refine o_assign rfl ?_
            refine o_nil ?_
            refine k_seq (k_region ?_)
            refine o_move rfl ?_
            refine o_eql rfl rfl rfl ?_
            refine o_move rfl ?_
            refine o_gD rfl rfl rfl rfl rfl ?_
            refine o_call rfl (r15) (.lrefl _) ?_
            refine o_pickT rfl rfl rfl ?_
            refine o_assign rfl ?_
            refine o_nil ?_
            refine k_ret ?_
            refine ⟨.inr rfl, _, .cons _ _ _ _ (.tmp 4) .nil, ?_⟩
            exact .refl _
        · refine o_gS rfl rfl rfl rfl (by assumption) ?_
          refine o_gS rfl rfl rfl rfl (by assumption) ?_
          refine o_gS rfl rfl rfl rfl (by assumption) ?_
          refine o_gD rfl rfl rfl rfl (by assumption) ?_
          refine o_pickF rfl rfl (by assumption) ?_
          refine o_pickF rfl rfl (by assumption) ?_
          refine o_nil ?_
          refine k_gen [(2, U.box 0 0), (11, U.lst Kd.ro 1 (intsU L)), (91, U.bool Bool.false)] ([SB.box [U.lst Kd.ro 3 (trisU (Bk.lots b)), .int .i64 (Bk.tlo b), .int .i64 (Bk.thi b), .int .i64 (Bk.thick b), .int .i64 (Bk.crack b), .int .i64 (Bk.glo b), .int .i64 (Bk.ghi b), U.lst Kd.ro 2 (twosU (Bk.thins b)), .int .i64 (Bk.hot b), .int .i64 (Bk.least b), .int .i64 (Bk.clo b), .int .i64 (Bk.chi b), .int .i64 (Bk.coal b), U.lst Kd.ro 3 (trisU (Bk.looks b))], SB.box [.int .i64 (lowT (Bk.thick b) (d2 :: l2) (0 : Int)), .int .i64 (highT (Bk.thick b) (d2 :: l2) (0 : Int))], SB.box [.int .i64 (lowT (Bk.thick (woB b [])) (d1 :: l1) (0 : Int)), .int .i64 (highT (Bk.thick (woB b [])) (d1 :: l1) (0 : Int))]]) (.cons rfl (.cons rfl (.cons rfl (.nil rfl)))) rfl fun fr => ?_
          refine k_cF rfl rfl ?_
          refine k_skip ?_
          have k1 := of_decide_eq_false h79
          have k2 := of_decide_eq_false h85
          have hz := hcn (hbf.2 (.inl (by omega)))
          have q11L := ret11n (orc := orc) hi (wo_ok hb L) hz 0 (by decide)
          refine k_seq (k_region ?_)
          refine o_loadN rfl rfl rfl sh28 rfl ?_
          refine o_move rfl ?_
          refine o_call rfl (q32L) (.lrefl _) ?_
          refine o_call rfl (q11L) (.lrefl _) ?_
          refine o_move rfl ?_
          refine o_extract rfl rfl rfl ?_
          refine o_extract rfl rfl rfl ?_
          refine o_assign rfl ?_
          refine o_nil ?_
          refine k_seq (k_region ?_)
          refine o_move rfl ?_
          refine o_eql rfl rfl rfl ?_
          refine o_move rfl ?_
          refine o_gD rfl rfl rfl rfl rfl ?_
          refine o_call rfl (r15) (.lrefl _) ?_
          refine o_pickT rfl rfl rfl ?_
          refine o_assign rfl ?_
          refine o_nil ?_
          refine k_ret ?_
          refine ⟨.inr rfl, _, .cons _ _ _ _ (.tmp 4) .nil, ?_⟩
          exact .refl _
      · refine o_gS rfl rfl rfl rfl (by assumption) ?_
        refine o_gS rfl rfl rfl rfl (by assumption) ?_
        refine o_gS rfl rfl rfl rfl (by assumption) ?_
        refine o_gS rfl rfl rfl rfl (by assumption) ?_
        refine o_gS rfl rfl rfl rfl (by assumption) ?_
        refine o_dead rfl rfl rfl rfl ?_
        refine o_dead rfl rfl rfl rfl ?_
        refine o_dead rfl rfl rfl rfl ?_
        refine o_dead rfl rfl rfl rfl ?_
        refine o_gS rfl rfl rfl rfl (by assumption) ?_
        refine o_pickT rfl rfl (by assumption) ?_
        refine o_nil ?_
        refine k_gen [(2, U.box 0 0), (11, U.lst Kd.ro 1 (intsU L)), (91, U.bool Bool.true)] ([SB.box [U.lst Kd.ro 3 (trisU (Bk.lots b)), .int .i64 (Bk.tlo b), .int .i64 (Bk.thi b), .int .i64 (Bk.thick b), .int .i64 (Bk.crack b), .int .i64 (Bk.glo b), .int .i64 (Bk.ghi b), U.lst Kd.ro 2 (twosU (Bk.thins b)), .int .i64 (Bk.hot b), .int .i64 (Bk.least b), .int .i64 (Bk.clo b), .int .i64 (Bk.chi b), .int .i64 (Bk.coal b), U.lst Kd.ro 3 (trisU (Bk.looks b))], SB.box [.int .i64 (lowT (Bk.thick b) (d2 :: l2) (0 : Int)), .int .i64 (highT (Bk.thick b) (d2 :: l2) (0 : Int))], SB.box [.int .i64 (lowT (Bk.thick (woB b [])) (d1 :: l1) (0 : Int)), .int .i64 (highT (Bk.thick (woB b [])) (d1 :: l1) (0 : Int))]]) (.cons rfl (.cons rfl (.cons rfl (.nil rfl)))) rfl fun fr => ?_
        refine k_cT rfl rfl ?_
        refine k_seq (k_region ?_)
        refine o_call rfl (r15) (.lrefl _) ?_
        refine o_assign rfl ?_
        refine o_nil ?_
        refine k_ret ?_
        refine ⟨.inr rfl, _, .cons _ _ _ _ (.tmp 4) .nil, ?_⟩
        exact .refl _
  · have hv2 := check_20 hv
    refine k_seq (k_region ?_)
    refine o_box rfl rfl ?_
    refine o_assign rfl ?_
    refine o_nil ?_
    refine k_gen [(1, .int .i64 set), (2, U.box 0 0)] ([SB.box [U.lst Kd.ro 3 (trisU (Bk.lots b)), .int .i64 (Bk.tlo b), .int .i64 (Bk.thi b), .int .i64 (Bk.thick b), .int .i64 (Bk.crack b), .int .i64 (Bk.glo b), .int .i64 (Bk.ghi b), U.lst Kd.ro 2 (twosU (Bk.thins b)), .int .i64 (Bk.hot b), .int .i64 (Bk.least b), .int .i64 (Bk.clo b), .int .i64 (Bk.chi b), .int .i64 (Bk.coal b), U.lst Kd.ro 3 (trisU (Bk.looks b))]]) (.cons rfl (.cons rfl (.nil rfl))) rfl fun fr => ?_
    refine k_seq (k_region ?_)
    refine o_loadN rfl rfl rfl sh28 rfl ?_
    refine o_call rfl (ret13i hi hv2) (.lrefl _) ?_
    refine o_move rfl ?_
    refine o_extract rfl rfl rfl ?_
    refine o_extract rfl rfl rfl ?_
    refine o_assign rfl ?_
    refine o_assign rfl ?_
    refine o_nil ?_
    refine k_seq ?_
    refine k_seq (k_region ?_)
    refine o_loadN rfl rfl rfl sh28 rfl ?_
    refine o_call rfl (ret22n hi hv) (.lrefl _) ?_
    refine o_not rfl rfl ?_
    refine o_nil ?_
    refine k_cT rfl rfl ?_
    refine k_seq (k_region ?_)
    refine o_move rfl ?_
    refine o_eql rfl rfl rfl ?_
    refine o_move rfl ?_
    refine o_gD rfl rfl rfl rfl rfl ?_
    refine o_move rfl ?_
    refine o_gD rfl rfl rfl rfl rfl ?_
    refine o_len rfl ty30 rfl rfl ?_
    refine o_gD rfl rfl rfl rfl rfl ?_
    refine o_eql rfl rfl rfl ?_
    refine o_pickT rfl rfl rfl ?_
    refine o_move rfl ?_
    refine o_gD rfl rfl rfl rfl rfl ?_
    refine o_call rfl (r15) (.lrefl _) ?_
    refine o_pickT rfl rfl rfl ?_
    refine o_assign rfl ?_
    refine o_nil ?_
    refine k_ret ?_
    refine ⟨.inr rfl, _, .cons _ _ _ _ (.tmp 4) .nil, ?_⟩
    exact .refl _
theorem shp_argsF {us : List U} (h : ShpAs Tryz.prog [28, 3] us) : ∃ (b : Bk) (n : Int), us = [b.u, .int .i64 n] := by
  cases h with
  | cons _ _ u us h1 h2 =>
    cases h2 with
    | cons _ _ v vs h3 h4 =>
      cases h4
      obtain ⟨fs, hu⟩ := und_struct (P := Tryz.prog) (t := 28) 11 (by kernel_rfl)
      unfold ShpA at h1 h3
      rw [hu] at h1
      rw [u3] at h3
      obtain ⟨cs, rfl, h1⟩ := h1
      obtain ⟨b, rfl⟩ := shp_book h1
      obtain ⟨n, e⟩ := shp_int h3
      cases e
      exact ⟨b, n, rfl⟩
theorem ret7_all (hi : Off is) (r15 : RetP Tryz.prog is orc 15 [] (.bool true)) : ∀ us, ShpAs Tryz.prog [28, 3] us → RetP Tryz.prog is orc 7 us (.bool true) := by
  intro us h
  obtain ⟨b, n, rfl⟩ := shp_argsF h
  exact ret7 hi b n r15
end Go.Proofs.YtniplfmjbjjocaaGreat.forgeLeft
