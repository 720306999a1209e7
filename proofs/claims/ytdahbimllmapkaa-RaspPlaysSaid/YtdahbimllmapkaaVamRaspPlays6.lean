/- rasp's functions and the law's, by the logic of trees: what each gives back for all that it may be given. -/
import Derived.Test.YtdahbimllmapkaaVamRaspPlays5
namespace Go.Proofs.Ytdahbimllmapkaa.raspPlays
open Vam
set_option linter.unusedVariables false
set_option linter.unusedSimpArgs false
set_option linter.constructorNameAsVariable false
variable {is : FuncId → Bool} {orc : Known}
set_option maxHeartbeats 4000000 in
theorem ret59k (hi : Off is) (s : Shop) (key : Int) : RetP Try.prog is orc 59 [s.u, .int .i64 key] (.bool (hkB s key)) := by
  unfold hkB
  refine ret_of body59 pure59 (hi 59 (by decide)) rfl rfl (dat_l2 (dat_shop s 5) (.int _ _ _)) (.inl (.bool _ _)) ?_
  by_cases h : 0 ≤ key
  · rw [decide_eq_true h]
    refine k_seq (k_region ?_)
    refine o_box rfl rfl ?_
    refine o_assign rfl ?_
    refine o_nil ?_
    refine k_gen [(1, .int .i64 key), (2, U.box 0 0)] ([SB.box [U.lst Kd.ro 3 (trisU (Shop.tools s)), .int .i64 (Shop.flo s), .int .i64 (Shop.fhi s), U.lst Kd.ro 3 (trisU (Shop.keys s))]]) (.cons rfl (.cons rfl (.nil rfl))) rfl fun fr => ?_
    refine k_seq (k_region ?_)
    refine o_move rfl ?_
    refine o_leq rfl rfl rfl ?_
    refine o_move rfl ?_
    refine o_gD rfl rfl rfl rfl (decide_eq_true (by omega)) ?_
    refine o_move rfl ?_
    refine o_gD rfl rfl rfl rfl (decide_eq_true (by omega)) ?_
    refine o_faddr rfl rfl fld27_2 ?_
    refine o_gD rfl rfl rfl rfl (decide_eq_true (by omega)) ?_
    refine o_load1 rfl rfl rfl sh25 rfl ?_
    refine o_gD rfl rfl rfl rfl (decide_eq_true (by omega)) ?_
    refine o_len rfl ty25 rfl (List.length_map _) ?_
    refine o_gD rfl rfl rfl rfl (decide_eq_true (by omega)) ?_
    refine o_lss rfl rfl rfl ?_
    refine o_pickT rfl rfl (decide_eq_true (by omega)) ?_
    refine o_assign rfl ?_
    refine o_nil ?_
    refine k_ret ?_
    refine ⟨.inr rfl, _, .cons _ _ _ _ (.tmp 4) .nil, ?_⟩
    exact .refl _
  · rw [decide_eq_false h]
    refine k_seq (k_region ?_)
    refine o_box rfl rfl ?_
    refine o_assign rfl ?_
    refine o_nil ?_
    refine k_gen [(1, .int .i64 key), (2, U.box 0 0)] ([SB.box [U.lst Kd.ro 3 (trisU (Shop.tools s)), .int .i64 (Shop.flo s), .int .i64 (Shop.fhi s), U.lst Kd.ro 3 (trisU (Shop.keys s))]]) (.cons rfl (.cons rfl (.nil rfl))) rfl fun fr => ?_
    refine k_seq (k_region ?_)
    refine o_move rfl ?_
    refine o_leq rfl rfl rfl ?_
    refine o_move rfl ?_
    refine o_gS rfl rfl rfl rfl (decide_eq_false (by omega)) ?_
    refine o_gS rfl rfl rfl rfl (decide_eq_false (by omega)) ?_
    refine o_gS rfl rfl rfl rfl (decide_eq_false (by omega)) ?_
    refine o_gS rfl rfl rfl rfl (decide_eq_false (by omega)) ?_
    refine o_gS rfl rfl rfl rfl (decide_eq_false (by omega)) ?_
    refine o_pickF rfl rfl (decide_eq_false (by omega)) ?_
    refine o_assign rfl ?_
    refine o_nil ?_
    refine k_ret ?_
    refine ⟨.inr rfl, _, .cons _ _ _ _ (.tmp 4) .nil, ?_⟩
    exact .refl _
theorem ask_zero {s : Shop} {b : Bool} (h : askR s b = 0) : checkR s.tools s.keys s.flo s.fhi = 0 ∧ b = true := by
  have hc : checkR s.tools s.keys s.flo s.fhi = 0 := by
    refine Classical.byContradiction fun hc => ?_
    unfold askR at h; rw [if_pos hc] at h; exact hc h
  refine ⟨hc, ?_⟩
  unfold askR at h; rw [hc] at h
  cases b with
  | true => rfl
  | false => exact absurd h (by decide)
end Go.Proofs.Ytdahbimllmapkaa.raspPlays
