/- forge's functions, the specification's and the law's, by the logic of trees: what each gives back for all that it may be given. -/
import Derived.Test.YtniplfmjbjjocaaVamReady2
namespace Go.Proofs.Ytniplfmjbjjocaa.forgeReady
open Vam
set_option linter.unusedVariables false
set_option linter.unusedSimpArgs false
set_option linter.constructorNameAsVariable false
variable {is : FuncId → Bool} {orc : Known}

theorem flat_sp (a b e : Int) : FlatU (.tup [spanU a b, .int .i64 e]) := .tup _ fun c hc => by
  simp only [List.mem_cons, List.not_mem_nil, or_false] at hc
  rcases hc with rfl | rfl
  · exact flat_span _ _
  · exact flat_int _

-- 5 saron/saronlaw02.ForgeReady params [28, 3] pure True
noncomputable def b5 : Code := (Try.f5.body).getD .skip
theorem body5 : bodyOf Try.prog 5 = some (190, b5, [.tmp 4]) := by kernel_rfl
theorem pure5 : pureFn Try.prog 5 = true := by kernel_rfl
set_option maxHeartbeats 4000000 in
theorem ret5n (hi : Off is) {b : Bk} (hv : checkR b ≠ 0) (fw : Int) (r8 : RetP Try.prog is orc 8 [] (.bool true)) : RetP Try.prog is orc 5 [b.u, .int .i64 fw] (.bool true) := by
  refine ret_of body5 pure5 (hi 5 (by decide)) rfl rfl (dat_l2 (dat_bk b 5) (.int _ _ _)) (.inl (.bool _ _)) ?_
  refine k_seq (k_region ?_)
  refine o_box rfl rfl ?_
  refine o_assign rfl ?_
  refine o_nil ?_
  refine k_seq ?_
  refine k_seq (k_region ?_)
  refine o_loadN rfl rfl rfl sh28 rfl ?_
  refine o_call rfl (ret7n hi hv) (.lrefl _) ?_
  refine o_not rfl rfl ?_
  refine o_nil ?_
  refine k_cT rfl rfl ?_
  refine k_seq (k_region ?_)
  refine o_call rfl (r8) (.lrefl _) ?_
  refine o_assign rfl ?_
  refine o_nil ?_
  refine k_ret ?_
  refine ⟨.inr rfl, _, .cons _ _ _ _ (.tmp 4) .nil, ?_⟩
  exact .refl _

set_option maxHeartbeats 4000000 in
theorem ret5e (hi : Off is) {b : Bk} (hb : Ok b) (hT : trs b = []) (fw : Int) (r8 : RetP Try.prog is orc 8 [] (.bool true)) : RetP Try.prog is orc 5 [b.u, .int .i64 fw] (.bool true) := by
  refine ret_of body5 pure5 (hi 5 (by decide)) rfl rfl (dat_l2 (dat_bk b 5) (.int _ _ _)) (.inl (.bool _ _)) ?_
  refine k_seq (k_region ?_)
  refine o_box rfl rfl ?_
  refine o_assign rfl ?_
  refine o_nil ?_
  refine k_seq ?_
  refine k_seq (k_region ?_)
  refine o_loadN rfl rfl rfl sh28 rfl ?_
  refine o_call rfl (ret7 hi hb) (.lrefl _) ?_
  refine o_not rfl rfl ?_
  refine o_nil ?_
  refine k_cF rfl rfl ?_
  refine k_skip ?_
  refine k_seq (k_region ?_)
  refine o_loadN rfl rfl rfl sh28 rfl ?_
  refine o_call rfl (ret19n hi hb hT) (.lrefl _) ?_
  refine o_move rfl ?_
  refine o_extract rfl rfl rfl ?_
  refine o_extract rfl rfl rfl ?_
  refine o_assign rfl ?_
  refine o_assign rfl ?_
  refine o_nil ?_
  refine k_seq (k_region ?_)
  refine o_loadN rfl rfl rfl sh28 rfl ?_
  refine o_call rfl (ret20n hi hb hT) (.lrefl _) ?_
  refine o_move rfl ?_
  refine o_extract rfl rfl rfl ?_
  refine o_extract rfl rfl rfl ?_
  refine o_assign rfl ?_
  refine o_assign rfl ?_
  refine o_nil ?_
  refine k_seq (k_region ?_)
  refine o_assign rfl ?_
  refine o_nil ?_
  refine k_seq ?_
  refine k_seq (k_region ?_)
  refine o_move rfl ?_
  refine o_eql rfl rfl rfl ?_
  refine o_nil ?_
  refine k_cF rfl (decide_eq_false (by decide : ¬ ((22 : Int) = 0))) ?_
  refine k_skip ?_
  refine k_seq ?_
  refine k_seq (k_region ?_)
  refine o_move rfl ?_
  refine o_eql rfl rfl rfl ?_
  refine o_move rfl ?_
  refine o_gS rfl rfl rfl rfl rfl ?_
  refine o_gS rfl rfl rfl rfl rfl ?_
  refine o_pickT rfl rfl rfl ?_
  refine o_nil ?_
  refine k_cond rfl (fun _ => ?_) (fun h => by cases h)
  refine k_seq (k_region ?_)
  refine o_move rfl ?_
  refine o_move rfl ?_
  refine o_eql rfl rfl rfl ?_
  refine o_move rfl ?_
  refine o_gD rfl rfl rfl rfl rfl ?_
  refine o_move rfl ?_
  refine o_gD rfl rfl rfl rfl rfl ?_
  refine o_eql rfl rfl rfl ?_
  refine o_pickT rfl rfl rfl ?_
  refine o_move rfl ?_
  refine o_gD rfl rfl rfl rfl rfl ?_
  refine o_move rfl ?_
  refine o_gD rfl rfl rfl rfl rfl ?_
  refine o_eql rfl rfl rfl ?_
  refine o_pickT rfl rfl rfl ?_
  refine o_move rfl ?_
  refine o_gD rfl rfl rfl rfl rfl ?_
  refine o_call rfl (r8) (.lrefl _) ?_
  refine o_pickT rfl rfl rfl ?_
  refine o_assign rfl ?_
  refine o_nil ?_
  refine k_ret ?_
  refine ⟨.inr rfl, _, .cons _ _ _ _ (.tmp 4) .nil, ?_⟩
  exact .refl _

set_option maxHeartbeats 4000000 in
theorem ret5a (hi : Off is) {b : Bk} (hb : Ok b) {q : Tri} {l : List Tri} (hT : trs b = q :: l) (fw : Int) (r8 : RetP Try.prog is orc 8 [] (.bool true)) {n : Nat} (h1 : fstN (fun i => doneT b (q :: l) i) 301 0 = some n) (hn : n ≤ 300) {k : Nat} (h2 : lstN (fun i => soundT b (q :: l) i) 301 = some k) (hk : k ≤ 300) (g102 : (!(decide (b.glo ≤ lowT b.thick (q :: l) (n : Int)) && decide (highT b.thick (q :: l) (n : Int) ≤ b.ghi))) = false) (g109 : decide (lowT b.thick (q :: l) (n : Int) < b.crack) = false) (g117 : decide ((k : Int) < (n : Int)) = false) (g119 : decide (0 < (n : Int)) = true) (g142 : (decide (b.glo ≤ lowT b.thick (q :: l) (fw % (n : Int))) && decide (highT b.thick (q :: l) (fw % (n : Int)) ≤ b.ghi)) = true → decide (b.crack ≤ lowT b.thick (q :: l) (fw % (n : Int))) = false) (g167 : decide (lowT b.thick (q :: l) (k : Int) < b.crack) = false) (g169 : decide ((k : Int) = 300) = false) (g187 : decide (lowT b.thick (q :: l) ((k : Int) + 1) < b.crack) = true) : RetP Try.prog is orc 5 [b.u, .int .i64 fw] (.bool true) := by
  refine ret_of body5 pure5 (hi 5 (by decide)) rfl rfl (dat_l2 (dat_bk b 5) (.int _ _ _)) (.inl (.bool _ _)) ?_
  have h19 : RetP Try.prog is orc 19 [b.u] (.tup [.int .i64 (n : Int), .int .i64 0]) := by have := ret19 (orc := orc) hi hb hT; rwa [h1] at this
  have h20 : RetP Try.prog is orc 20 [b.u] (.tup [.int .i64 (k : Int), .int .i64 0]) := by have := ret20 (orc := orc) hi hb hT; rwa [h2] at this
  have g80 : (!(decide (0 ≤ (n : Int)) && decide ((n : Int) ≤ 300))) = false := by simp; try omega
  have g84 : (!(decide (0 ≤ (k : Int)) && decide ((k : Int) ≤ 300))) = false := by simp; try omega
  have hu : 0 < (n : Int) := of_decide_eq_true g119
  have m0 := Int.emod_nonneg fw (show (n : Int) ≠ 0 by omega); have m1 := Int.emod_lt_of_pos fw hu
  have gk : ¬ ((k : Int)) = 300 := of_decide_eq_false g169
  refine k_seq (k_region ?_)
  refine o_box rfl rfl ?_
  refine o_assign rfl ?_
  refine o_nil ?_
  refine k_seq ?_
  refine k_seq (k_region ?_)
  refine o_loadN rfl rfl rfl sh28 rfl ?_
  refine o_call rfl (ret7 hi hb) (.lrefl _) ?_
  refine o_not rfl rfl ?_
  refine o_nil ?_
  refine k_cF rfl rfl ?_
  refine k_skip ?_
  refine k_seq (k_region ?_)
  refine o_loadN rfl rfl rfl sh28 rfl ?_
  refine o_call rfl (h19) (.lrefl _) ?_
  refine o_move rfl ?_
  refine o_extract rfl rfl rfl ?_
  refine o_extract rfl rfl rfl ?_
  refine o_assign rfl ?_
  refine o_assign rfl ?_
  refine o_nil ?_
  refine k_seq (k_region ?_)
  refine o_loadN rfl rfl rfl sh28 rfl ?_
  refine o_call rfl (h20) (.lrefl _) ?_
  refine o_move rfl ?_
  refine o_extract rfl rfl rfl ?_
  refine o_extract rfl rfl rfl ?_
  refine o_assign rfl ?_
  refine o_assign rfl ?_
  refine o_nil ?_
  refine k_seq (k_region ?_)
  refine o_assign rfl ?_
  refine o_nil ?_
  refine k_seq ?_
  refine k_seq (k_region ?_)
  refine o_move rfl ?_
  refine o_eql rfl rfl rfl ?_
  refine o_nil ?_
  refine k_cT rfl rfl ?_
  refine k_region ?_
  refine o_move rfl ?_
  refine o_assign rfl ?_
  refine o_nil ?_
  refine k_gen [(1, .int .i64 fw), (2, .box 0 0), (5, .int .i64 (n : Int)), (6, .int .i64 0), (7, .int .i64 (k : Int)), (8, .int .i64 0), (9, .int .i64 (n : Int))] [.box b.cs] (.cons rfl (.cons rfl (.cons rfl (.cons rfl (.cons rfl (.cons rfl (.cons rfl (.nil rfl)))))))) rfl fun fr => ?_
  refine k_seq ?_
  refine k_seq (k_region ?_)
  refine o_move rfl ?_
  refine o_eql rfl rfl rfl ?_
  refine o_move rfl ?_
  refine o_gD rfl rfl rfl rfl (decide_eq_false (by decide : ¬ ((0 : Int) = 22))) ?_
  refine o_move rfl ?_
  refine o_gD rfl rfl rfl rfl (decide_eq_false (by decide : ¬ ((0 : Int) = 22))) ?_
  refine o_eql rfl rfl rfl ?_
  refine o_pickF rfl rfl (decide_eq_false (by decide : ¬ ((0 : Int) = 22))) ?_
  refine o_nil ?_
  refine k_cF rfl (decide_eq_false (by decide : ¬ ((0 : Int) = 22))) ?_
  refine k_skip ?_
  refine k_gen [(1, .int .i64 fw), (2, .box 0 0), (5, .int .i64 (n : Int)), (6, .int .i64 0), (7, .int .i64 (k : Int)), (8, .int .i64 0), (9, .int .i64 (n : Int))] [.box b.cs] (.cons rfl (.cons rfl (.cons rfl (.cons rfl (.cons rfl (.cons rfl (.cons rfl (.nil rfl)))))))) rfl fun fr => ?_
  refine k_seq ?_
  refine k_seq (k_region ?_)
  refine o_move rfl ?_
  refine o_neq rfl rfl rfl ?_
  refine o_move rfl ?_
  refine o_gS rfl rfl rfl rfl (decide_eq_false (fun h => h rfl)) ?_
  refine o_gS rfl rfl rfl rfl (decide_eq_false (fun h => h rfl)) ?_
  refine o_gS rfl rfl rfl rfl (decide_eq_false (fun h => h rfl)) ?_
  refine o_dead rfl rfl rfl rfl ?_
  refine o_dead rfl rfl rfl rfl ?_
  refine o_gS rfl rfl rfl rfl (decide_eq_false (fun h => h rfl)) ?_
  refine o_pickF rfl rfl (decide_eq_false (fun h => h rfl)) ?_
  refine o_move rfl ?_
  refine o_gD rfl rfl rfl rfl rfl ?_
  refine o_move rfl ?_
  refine o_gD rfl rfl rfl rfl rfl ?_
  refine o_neq rfl rfl rfl ?_
  refine o_gD rfl rfl rfl rfl rfl ?_
  refine o_move rfl ?_
  refine o_gS rfl rfl rfl rfl (decide_eq_false (fun h => h rfl)) ?_
  refine o_gS rfl rfl rfl rfl (decide_eq_false (fun h => h rfl)) ?_
  refine o_gS rfl rfl rfl rfl (decide_eq_false (fun h => h rfl)) ?_
  refine o_dead rfl rfl rfl rfl ?_
  refine o_dead rfl rfl rfl rfl ?_
  refine o_gS rfl rfl rfl rfl (decide_eq_false (fun h => h rfl)) ?_
  refine o_gD rfl rfl rfl rfl rfl ?_
  refine o_pickF rfl rfl (decide_eq_false (fun h => h rfl)) ?_
  refine o_pickF rfl rfl rfl ?_
  refine o_move rfl ?_
  refine o_gD rfl rfl rfl rfl rfl ?_
  refine o_move rfl ?_
  refine o_gD rfl rfl rfl rfl rfl ?_
  refine o_call rfl (ret15 hi _ 0 300) (.lrefl _) ?_
  refine o_gD rfl rfl rfl rfl rfl ?_
  refine o_not rfl rfl ?_
  refine o_pickF rfl rfl rfl ?_
  refine o_move rfl ?_
  refine o_gD rfl rfl rfl rfl g80 ?_
  refine o_move rfl ?_
  refine o_gD rfl rfl rfl rfl g80 ?_
  refine o_call rfl (ret15 hi _ 0 300) (.lrefl _) ?_
  refine o_gD rfl rfl rfl rfl g80 ?_
  refine o_not rfl rfl ?_
  refine o_pickF rfl rfl g80 ?_
  refine o_nil ?_
  refine k_cF rfl g84 ?_
  refine k_skip ?_
  refine k_gen [(1, .int .i64 fw), (2, .box 0 0), (5, .int .i64 (n : Int)), (6, .int .i64 0), (7, .int .i64 (k : Int)), (8, .int .i64 0), (9, .int .i64 (n : Int))] [.box b.cs] (.cons rfl (.cons rfl (.cons rfl (.cons rfl (.cons rfl (.cons rfl (.cons rfl (.nil rfl)))))))) rfl fun fr => ?_
  refine k_seq ?_
  refine k_seq (k_region ?_)
  refine o_move rfl ?_
  refine o_eql rfl rfl rfl ?_
  refine o_nil ?_
  refine k_cT rfl rfl ?_
  refine k_seq (k_region ?_)
  refine o_loadN rfl rfl rfl sh28 rfl ?_
  refine o_move rfl ?_
  refine o_call rfl (ret13 hi hb hT (n : Int) (by omega)) (.lrefl _) ?_
  refine o_move rfl ?_
  refine o_extract rfl rfl rfl ?_
  refine o_extract rfl rfl rfl ?_
  refine o_alloc rfl ze24 ?_
  refine o_storeN rfl rfl sh24 rfl rfl rfl rfl rfl ?_
  refine o_assign rfl ?_
  refine o_nil ?_
  refine k_gen [(1, .int .i64 fw), (2, .box 0 0), (5, .int .i64 (n : Int)), (6, .int .i64 0), (7, .int .i64 (k : Int)), (8, .int .i64 0), (9, .int .i64 (n : Int)), (10, .box 1 0), (11, .int .i64 0)] [.box b.cs, .box [.int .i64 (lowT b.thick (q :: l) (n : Int)), .int .i64 (highT b.thick (q :: l) (n : Int))]] (.cons rfl (.cons rfl (.cons rfl (.cons rfl (.cons rfl (.cons rfl (.cons rfl (.cons rfl (.cons rfl (.nil rfl)))))))))) rfl fun fr => ?_
  refine k_seq (k_region ?_)
  refine o_move rfl ?_
  refine o_neq rfl rfl rfl ?_
  refine o_move rfl ?_
  refine o_gD rfl rfl rfl rfl (decide_eq_false (fun h => h rfl)) ?_
  refine o_loadN rfl rfl rfl sh24 rfl ?_
  refine o_gD rfl rfl rfl rfl (decide_eq_false (fun h => h rfl)) ?_
  refine o_faddr rfl rfl fld28_4 ?_
  refine o_gD rfl rfl rfl rfl (decide_eq_false (fun h => h rfl)) ?_
  refine o_loadN rfl rfl rfl sh24 rfl ?_
  refine o_gD rfl rfl rfl rfl (decide_eq_false (fun h => h rfl)) ?_
  refine o_call rfl (ret21 hi _ _ _ _) (.lrefl _) ?_
  refine o_gD rfl rfl rfl rfl (decide_eq_false (fun h => h rfl)) ?_
  refine o_not rfl rfl ?_
  refine o_pickF rfl rfl (decide_eq_false (fun h => h rfl)) ?_
  refine o_move rfl ?_
  refine o_gD rfl rfl rfl rfl g102 ?_
  refine o_faddr rfl rfl fld24_0 ?_
  refine o_gD rfl rfl rfl rfl g102 ?_
  refine o_load1 rfl rfl rfl sh3 rfl ?_
  refine o_gD rfl rfl rfl rfl g102 ?_
  refine o_faddr rfl rfl fld28_3 ?_
  refine o_gD rfl rfl rfl rfl g102 ?_
  refine o_load1 rfl rfl rfl sh3 rfl ?_
  refine o_gD rfl rfl rfl rfl g102 ?_
  refine o_lss rfl rfl rfl ?_
  refine o_pickF rfl rfl g102 ?_
  refine o_move rfl ?_
  refine o_gD rfl rfl rfl rfl g109 ?_
  refine o_move rfl ?_
  refine o_gD rfl rfl rfl rfl g109 ?_
  refine o_neq rfl rfl rfl ?_
  refine o_pickF rfl rfl g109 ?_
  refine o_move rfl ?_
  refine o_gD rfl rfl rfl rfl (decide_eq_false (fun h => h rfl)) ?_
  refine o_move rfl ?_
  refine o_gD rfl rfl rfl rfl (decide_eq_false (fun h => h rfl)) ?_
  refine o_move rfl ?_
  refine o_gD rfl rfl rfl rfl (decide_eq_false (fun h => h rfl)) ?_
  refine o_lss rfl rfl rfl ?_
  refine o_pickF rfl rfl (decide_eq_false (fun h => h rfl)) ?_
  refine o_nil ?_
  refine k_cF rfl g117 ?_
  refine k_skip ?_
  refine k_gen [(1, .int .i64 fw), (2, .box 0 0), (5, .int .i64 (n : Int)), (6, .int .i64 0), (7, .int .i64 (k : Int)), (8, .int .i64 0), (9, .int .i64 (n : Int))] [.box b.cs, .box [.int .i64 (lowT b.thick (q :: l) (n : Int)), .int .i64 (highT b.thick (q :: l) (n : Int))]] (.cons rfl (.cons rfl (.cons rfl (.cons rfl (.cons rfl (.cons rfl (.cons rfl (.nil rfl)))))))) rfl fun fr => ?_
  refine k_seq ?_
  refine k_seq (k_region ?_)
  refine o_move rfl ?_
  refine o_gtr rfl rfl rfl ?_
  refine o_nil ?_
  refine k_cT rfl g119 ?_
  refine k_seq ?_
  refine k_draw [.read true, .plain, .plain, .read false, .read false, .plain, .plain, .plain, .pre, .plain, .plain] (by kernel_rfl) (by kernel_rfl) (by kernel_rfl) ?_
  refine d_load rfl (o_loadN rfl rfl rfl sh28 rfl (o_nil rfl)) ?_
  refine d_plain (o_move rfl (o_nil rfl)) ?_
  refine d_plain (o_move rfl (o_nil rfl)) ?_
  refine d_callR rfl (ret11 hi fw (n : Int) hu (by omega)) (flat_int _) (.lrefl _) ?_
  refine d_callR rfl (ret13 hi hb hT (fw % (n : Int)) (by omega)) (flat_sp _ _ _) (.lrefl _) ?_
  refine d_plain (o_move rfl (o_nil rfl)) ?_
  refine d_plain (o_extract rfl rfl rfl (o_nil rfl)) ?_
  refine d_plain (o_extract rfl rfl rfl (o_nil rfl)) ?_
  refine d_pre rfl ze24 ?_
  refine d_plain (o_storeN rfl rfl sh24 rfl rfl rfl rfl rfl (o_nil rfl)) ?_
  refine d_plain (o_assign rfl (o_nil rfl)) ?_
  refine d_nil ?_
  refine k_gen [(1, .int .i64 fw), (2, .box 0 0), (5, .int .i64 (n : Int)), (6, .int .i64 0), (7, .int .i64 (k : Int)), (8, .int .i64 0), (9, .int .i64 (n : Int)), (12, .box 2 0), (13, .int .i64 0)] [.box b.cs, .box [.int .i64 (lowT b.thick (q :: l) (n : Int)), .int .i64 (highT b.thick (q :: l) (n : Int))], .box [.int .i64 (lowT b.thick (q :: l) (fw % (n : Int))), .int .i64 (highT b.thick (q :: l) (fw % (n : Int)))]] (.cons rfl (.cons rfl (.cons rfl (.cons rfl (.cons rfl (.cons rfl (.cons rfl (.cons rfl (.cons rfl (.nil rfl)))))))))) rfl fun fr => ?_
  refine k_seq (k_region ?_)
  refine o_move rfl ?_
  refine o_neq rfl rfl rfl ?_
  refine o_move rfl ?_
  refine o_gD rfl rfl rfl rfl (decide_eq_false (fun h => h rfl)) ?_
  refine o_loadN rfl rfl rfl sh24 rfl ?_
  refine o_gD rfl rfl rfl rfl (decide_eq_false (fun h => h rfl)) ?_
  refine o_faddr rfl rfl fld28_4 ?_
  refine o_gD rfl rfl rfl rfl (decide_eq_false (fun h => h rfl)) ?_
  refine o_loadN rfl rfl rfl sh24 rfl ?_
  refine o_gD rfl rfl rfl rfl (decide_eq_false (fun h => h rfl)) ?_
  refine o_call rfl (ret21 hi _ _ _ _) (.lrefl _) ?_
  refine o_gD rfl rfl rfl rfl (decide_eq_false (fun h => h rfl)) ?_
  refine o_move rfl ?_
  refine o_guard rfl rfl rfl rfl (fun h1 => ?_) (fun h1 => ?_)
  · refine o_faddr rfl rfl fld24_0 ?_
    refine o_gD rfl rfl rfl rfl h1 ?_
    refine o_load1 rfl rfl rfl sh3 rfl ?_
    refine o_gD rfl rfl rfl rfl h1 ?_
    refine o_faddr rfl rfl fld28_3 ?_
    refine o_gD rfl rfl rfl rfl h1 ?_
    refine o_load1 rfl rfl rfl sh3 rfl ?_
    refine o_gD rfl rfl rfl rfl h1 ?_
    refine o_geq rfl rfl rfl ?_
    refine o_gD rfl rfl rfl rfl (decide_eq_false (fun h => h rfl)) ?_
    refine o_pickT rfl rfl h1 ?_
    refine o_pickF rfl rfl (decide_eq_false (fun h => h rfl)) ?_
    refine o_nil ?_
    refine k_cF rfl (by first | exact g142 (by assumption) | rfl) ?_
    refine k_skip ?_
    refine k_gen [(1, .int .i64 fw), (2, .box 0 0), (5, .int .i64 (n : Int)), (6, .int .i64 0), (7, .int .i64 (k : Int)), (8, .int .i64 0), (9, .int .i64 (n : Int))] [.box b.cs, .box [.int .i64 (lowT b.thick (q :: l) (n : Int)), .int .i64 (highT b.thick (q :: l) (n : Int))], .box [.int .i64 (lowT b.thick (q :: l) (fw % (n : Int))), .int .i64 (highT b.thick (q :: l) (fw % (n : Int)))]] (.cons rfl (.cons rfl (.cons rfl (.cons rfl (.cons rfl (.cons rfl (.cons rfl (.nil rfl)))))))) rfl fun fr => ?_
    refine k_seq ?_
    refine k_seq (k_region ?_)
    refine o_move rfl ?_
    refine o_neq rfl rfl rfl ?_
    refine o_nil ?_
    refine k_cF rfl (decide_eq_false (fun h => h rfl)) ?_
    refine k_skip ?_
    refine k_seq (k_region ?_)
    refine o_loadN rfl rfl rfl sh28 rfl ?_
    refine o_move rfl ?_
    refine o_call rfl (ret13 hi hb hT (k : Int) (by omega)) (.lrefl _) ?_
    refine o_move rfl ?_
    refine o_extract rfl rfl rfl ?_
    refine o_extract rfl rfl rfl ?_
    refine o_alloc rfl ze24 ?_
    refine o_storeN rfl rfl sh24 rfl rfl rfl rfl rfl ?_
    refine o_assign rfl ?_
    refine o_nil ?_
    refine k_gen [(2, .box 0 0), (7, .int .i64 (k : Int)), (14, .box 3 0), (15, .int .i64 0)] [.box b.cs, .box [.int .i64 (lowT b.thick (q :: l) (n : Int)), .int .i64 (highT b.thick (q :: l) (n : Int))], .box [.int .i64 (lowT b.thick (q :: l) (fw % (n : Int))), .int .i64 (highT b.thick (q :: l) (fw % (n : Int)))], .box [.int .i64 (lowT b.thick (q :: l) (k : Int)), .int .i64 (highT b.thick (q :: l) (k : Int))]] (.cons rfl (.cons rfl (.cons rfl (.cons rfl (.nil rfl))))) rfl fun fr => ?_
    refine k_seq ?_
    refine k_seq (k_region ?_)
    refine o_move rfl ?_
    refine o_neq rfl rfl rfl ?_
    refine o_move rfl ?_
    refine o_gD rfl rfl rfl rfl (decide_eq_false (fun h => h rfl)) ?_
    refine o_faddr rfl rfl fld24_0 ?_
    refine o_gD rfl rfl rfl rfl (decide_eq_false (fun h => h rfl)) ?_
    refine o_load1 rfl rfl rfl sh3 rfl ?_
    refine o_gD rfl rfl rfl rfl (decide_eq_false (fun h => h rfl)) ?_
    refine o_faddr rfl rfl fld28_3 ?_
    refine o_gD rfl rfl rfl rfl (decide_eq_false (fun h => h rfl)) ?_
    refine o_load1 rfl rfl rfl sh3 rfl ?_
    refine o_gD rfl rfl rfl rfl (decide_eq_false (fun h => h rfl)) ?_
    refine o_lss rfl rfl rfl ?_
    refine o_pickF rfl rfl (decide_eq_false (fun h => h rfl)) ?_
    refine o_nil ?_
    refine k_cF rfl g167 ?_
    refine k_skip ?_
    refine k_gen [(2, .box 0 0), (7, .int .i64 (k : Int)), (14, .box 3 0), (15, .int .i64 0)] [.box b.cs, .box [.int .i64 (lowT b.thick (q :: l) (n : Int)), .int .i64 (highT b.thick (q :: l) (n : Int))], .box [.int .i64 (lowT b.thick (q :: l) (fw % (n : Int))), .int .i64 (highT b.thick (q :: l) (fw % (n : Int)))], .box [.int .i64 (lowT b.thick (q :: l) (k : Int)), .int .i64 (highT b.thick (q :: l) (k : Int))]] (.cons rfl (.cons rfl (.cons rfl (.cons rfl (.nil rfl))))) rfl fun fr => ?_
    refine k_seq ?_
    refine k_seq (k_region ?_)
    refine o_move rfl ?_
    refine o_eql rfl rfl rfl ?_
    refine o_nil ?_
    refine k_cF rfl g169 ?_
    refine k_skip ?_
    refine k_seq (k_region ?_)
    refine o_loadN rfl rfl rfl sh28 rfl ?_
    refine o_move rfl ?_
    refine o_add rfl rfl rfl (by unfold I64; omega) ?_
    refine o_call rfl (ret13 hi hb hT ((k : Int) + 1) (by omega)) (.lrefl _) ?_
    refine o_move rfl ?_
    refine o_extract rfl rfl rfl ?_
    refine o_extract rfl rfl rfl ?_
    refine o_storeN rfl rfl sh24 rfl rfl rfl rfl rfl ?_
    refine o_assign rfl ?_
    refine o_nil ?_
    refine k_seq (k_region ?_)
    refine o_move rfl ?_
    refine o_eql rfl rfl rfl ?_
    refine o_move rfl ?_
    refine o_gD rfl rfl rfl rfl rfl ?_
    refine o_faddr rfl rfl fld24_0 ?_
    refine o_gD rfl rfl rfl rfl rfl ?_
    refine o_load1 rfl rfl rfl sh3 rfl ?_
    refine o_gD rfl rfl rfl rfl rfl ?_
    refine o_faddr rfl rfl fld28_3 ?_
    refine o_gD rfl rfl rfl rfl rfl ?_
    refine o_load1 rfl rfl rfl sh3 rfl ?_
    refine o_gD rfl rfl rfl rfl rfl ?_
    refine o_lss rfl rfl rfl ?_
    refine o_pickT rfl rfl rfl ?_
    refine o_move rfl ?_
    refine o_gD rfl rfl rfl rfl g187 ?_
    refine o_call rfl (r8) (.lrefl _) ?_
    refine o_pickT rfl rfl g187 ?_
    refine o_assign rfl ?_
    refine o_nil ?_
    refine k_ret ?_
    refine ⟨.inr rfl, _, .cons _ _ _ _ (.tmp 4) .nil, ?_⟩
    exact .refl _
  · refine o_gS rfl rfl rfl rfl h1 ?_
    refine o_gS rfl rfl rfl rfl h1 ?_
    refine o_gS rfl rfl rfl rfl h1 ?_
    refine o_gS rfl rfl rfl rfl h1 ?_
    refine o_gD rfl rfl rfl rfl (decide_eq_false (fun h => h rfl)) ?_
    refine o_pickF rfl rfl h1 ?_
    refine o_pickF rfl rfl (decide_eq_false (fun h => h rfl)) ?_
    refine o_nil ?_
    refine k_cond rfl (fun h => by cases h) (fun _ => ?_)
    refine k_skip ?_
    refine k_gen [(1, .int .i64 fw), (2, .box 0 0), (5, .int .i64 (n : Int)), (6, .int .i64 0), (7, .int .i64 (k : Int)), (8, .int .i64 0), (9, .int .i64 (n : Int))] [.box b.cs, .box [.int .i64 (lowT b.thick (q :: l) (n : Int)), .int .i64 (highT b.thick (q :: l) (n : Int))], .box [.int .i64 (lowT b.thick (q :: l) (fw % (n : Int))), .int .i64 (highT b.thick (q :: l) (fw % (n : Int)))]] (.cons rfl (.cons rfl (.cons rfl (.cons rfl (.cons rfl (.cons rfl (.cons rfl (.nil rfl)))))))) rfl fun fr => ?_
    refine k_seq ?_
    refine k_seq (k_region ?_)
    refine o_move rfl ?_
    refine o_neq rfl rfl rfl ?_
    refine o_nil ?_
    refine k_cF rfl (decide_eq_false (fun h => h rfl)) ?_
    refine k_skip ?_
    refine k_seq (k_region ?_)
    refine o_loadN rfl rfl rfl sh28 rfl ?_
    refine o_move rfl ?_
    refine o_call rfl (ret13 hi hb hT (k : Int) (by omega)) (.lrefl _) ?_
    refine o_move rfl ?_
    refine o_extract rfl rfl rfl ?_
    refine o_extract rfl rfl rfl ?_
    refine o_alloc rfl ze24 ?_
    refine o_storeN rfl rfl sh24 rfl rfl rfl rfl rfl ?_
    refine o_assign rfl ?_
    refine o_nil ?_
    refine k_gen [(2, .box 0 0), (7, .int .i64 (k : Int)), (14, .box 3 0), (15, .int .i64 0)] [.box b.cs, .box [.int .i64 (lowT b.thick (q :: l) (n : Int)), .int .i64 (highT b.thick (q :: l) (n : Int))], .box [.int .i64 (lowT b.thick (q :: l) (fw % (n : Int))), .int .i64 (highT b.thick (q :: l) (fw % (n : Int)))], .box [.int .i64 (lowT b.thick (q :: l) (k : Int)), .int .i64 (highT b.thick (q :: l) (k : Int))]] (.cons rfl (.cons rfl (.cons rfl (.cons rfl (.nil rfl))))) rfl fun fr => ?_
    refine k_seq ?_
    refine k_seq (k_region ?_)
    refine o_move rfl ?_
    refine o_neq rfl rfl rfl ?_
    refine o_move rfl ?_
    refine o_gD rfl rfl rfl rfl (decide_eq_false (fun h => h rfl)) ?_
    refine o_faddr rfl rfl fld24_0 ?_
    refine o_gD rfl rfl rfl rfl (decide_eq_false (fun h => h rfl)) ?_
    refine o_load1 rfl rfl rfl sh3 rfl ?_
    refine o_gD rfl rfl rfl rfl (decide_eq_false (fun h => h rfl)) ?_
    refine o_faddr rfl rfl fld28_3 ?_
    refine o_gD rfl rfl rfl rfl (decide_eq_false (fun h => h rfl)) ?_
    refine o_load1 rfl rfl rfl sh3 rfl ?_
    refine o_gD rfl rfl rfl rfl (decide_eq_false (fun h => h rfl)) ?_
    refine o_lss rfl rfl rfl ?_
    refine o_pickF rfl rfl (decide_eq_false (fun h => h rfl)) ?_
    refine o_nil ?_
    refine k_cF rfl g167 ?_
    refine k_skip ?_
    refine k_gen [(2, .box 0 0), (7, .int .i64 (k : Int)), (14, .box 3 0), (15, .int .i64 0)] [.box b.cs, .box [.int .i64 (lowT b.thick (q :: l) (n : Int)), .int .i64 (highT b.thick (q :: l) (n : Int))], .box [.int .i64 (lowT b.thick (q :: l) (fw % (n : Int))), .int .i64 (highT b.thick (q :: l) (fw % (n : Int)))], .box [.int .i64 (lowT b.thick (q :: l) (k : Int)), .int .i64 (highT b.thick (q :: l) (k : Int))]] (.cons rfl (.cons rfl (.cons rfl (.cons rfl (.nil rfl))))) rfl fun fr => ?_
    refine k_seq ?_
    refine k_seq (k_region ?_)
    refine o_move rfl ?_
    refine o_eql rfl rfl rfl ?_
    refine o_nil ?_
    refine k_cF rfl g169 ?_
    refine k_skip ?_
    refine k_seq (k_region ?_)
    refine o_loadN rfl rfl rfl sh28 rfl ?_
    refine o_move rfl ?_
    refine o_add rfl rfl rfl (by unfold I64; omega) ?_
    refine o_call rfl (ret13 hi hb hT ((k : Int) + 1) (by omega)) (.lrefl _) ?_
    refine o_move rfl ?_
    refine o_extract rfl rfl rfl ?_
    refine o_extract rfl rfl rfl ?_
    refine o_storeN rfl rfl sh24 rfl rfl rfl rfl rfl ?_
    refine o_assign rfl ?_
    refine o_nil ?_
    refine k_seq (k_region ?_)
    refine o_move rfl ?_
    refine o_eql rfl rfl rfl ?_
    refine o_move rfl ?_
    refine o_gD rfl rfl rfl rfl rfl ?_
    refine o_faddr rfl rfl fld24_0 ?_
    refine o_gD rfl rfl rfl rfl rfl ?_
    refine o_load1 rfl rfl rfl sh3 rfl ?_
    refine o_gD rfl rfl rfl rfl rfl ?_
    refine o_faddr rfl rfl fld28_3 ?_
    refine o_gD rfl rfl rfl rfl rfl ?_
    refine o_load1 rfl rfl rfl sh3 rfl ?_
    refine o_gD rfl rfl rfl rfl rfl ?_
    refine o_lss rfl rfl rfl ?_
    refine o_pickT rfl rfl rfl ?_
    refine o_move rfl ?_
    refine o_gD rfl rfl rfl rfl g187 ?_
    refine o_call rfl (r8) (.lrefl _) ?_
    refine o_pickT rfl rfl g187 ?_
    refine o_assign rfl ?_
    refine o_nil ?_
    refine k_ret ?_
    refine ⟨.inr rfl, _, .cons _ _ _ _ (.tmp 4) .nil, ?_⟩
    exact .refl _

set_option maxHeartbeats 4000000 in
theorem ret5b (hi : Off is) {b : Bk} (hb : Ok b) {q : Tri} {l : List Tri} (hT : trs b = q :: l) (fw : Int) (r8 : RetP Try.prog is orc 8 [] (.bool true)) {n : Nat} (h1 : fstN (fun i => doneT b (q :: l) i) 301 0 = some n) (hn : n ≤ 300) {k : Nat} (h2 : lstN (fun i => soundT b (q :: l) i) 301 = some k) (hk : k ≤ 300) (g102 : (!(decide (b.glo ≤ lowT b.thick (q :: l) (n : Int)) && decide (highT b.thick (q :: l) (n : Int) ≤ b.ghi))) = false) (g109 : decide (lowT b.thick (q :: l) (n : Int) < b.crack) = false) (g117 : decide ((k : Int) < (n : Int)) = false) (g119 : decide (0 < (n : Int)) = false) (g167 : decide (lowT b.thick (q :: l) (k : Int) < b.crack) = false) (g169 : decide ((k : Int) = 300) = false) (g187 : decide (lowT b.thick (q :: l) ((k : Int) + 1) < b.crack) = true) : RetP Try.prog is orc 5 [b.u, .int .i64 fw] (.bool true) := by
  refine ret_of body5 pure5 (hi 5 (by decide)) rfl rfl (dat_l2 (dat_bk b 5) (.int _ _ _)) (.inl (.bool _ _)) ?_
  have h19 : RetP Try.prog is orc 19 [b.u] (.tup [.int .i64 (n : Int), .int .i64 0]) := by have := ret19 (orc := orc) hi hb hT; rwa [h1] at this
  have h20 : RetP Try.prog is orc 20 [b.u] (.tup [.int .i64 (k : Int), .int .i64 0]) := by have := ret20 (orc := orc) hi hb hT; rwa [h2] at this
  have g80 : (!(decide (0 ≤ (n : Int)) && decide ((n : Int) ≤ 300))) = false := by simp; try omega
  have g84 : (!(decide (0 ≤ (k : Int)) && decide ((k : Int) ≤ 300))) = false := by simp; try omega
  have gk : ¬ ((k : Int)) = 300 := of_decide_eq_false g169
  refine k_seq (k_region ?_)
  refine o_box rfl rfl ?_
  refine o_assign rfl ?_
  refine o_nil ?_
  refine k_seq ?_
  refine k_seq (k_region ?_)
  refine o_loadN rfl rfl rfl sh28 rfl ?_
  refine o_call rfl (ret7 hi hb) (.lrefl _) ?_
  refine o_not rfl rfl ?_
  refine o_nil ?_
  refine k_cF rfl rfl ?_
  refine k_skip ?_
  refine k_seq (k_region ?_)
  refine o_loadN rfl rfl rfl sh28 rfl ?_
  refine o_call rfl (h19) (.lrefl _) ?_
  refine o_move rfl ?_
  refine o_extract rfl rfl rfl ?_
  refine o_extract rfl rfl rfl ?_
  refine o_assign rfl ?_
  refine o_assign rfl ?_
  refine o_nil ?_
  refine k_seq (k_region ?_)
  refine o_loadN rfl rfl rfl sh28 rfl ?_
  refine o_call rfl (h20) (.lrefl _) ?_
  refine o_move rfl ?_
  refine o_extract rfl rfl rfl ?_
  refine o_extract rfl rfl rfl ?_
  refine o_assign rfl ?_
  refine o_assign rfl ?_
  refine o_nil ?_
  refine k_seq (k_region ?_)
  refine o_assign rfl ?_
  refine o_nil ?_
  refine k_seq ?_
  refine k_seq (k_region ?_)
  refine o_move rfl ?_
  refine o_eql rfl rfl rfl ?_
  refine o_nil ?_
  refine k_cT rfl rfl ?_
  refine k_region ?_
  refine o_move rfl ?_
  refine o_assign rfl ?_
  refine o_nil ?_
  refine k_gen [(1, .int .i64 fw), (2, .box 0 0), (5, .int .i64 (n : Int)), (6, .int .i64 0), (7, .int .i64 (k : Int)), (8, .int .i64 0), (9, .int .i64 (n : Int))] [.box b.cs] (.cons rfl (.cons rfl (.cons rfl (.cons rfl (.cons rfl (.cons rfl (.cons rfl (.nil rfl)))))))) rfl fun fr => ?_
  refine k_seq ?_
  refine k_seq (k_region ?_)
  refine o_move rfl ?_
  refine o_eql rfl rfl rfl ?_
  refine o_move rfl ?_
  refine o_gD rfl rfl rfl rfl (decide_eq_false (by decide : ¬ ((0 : Int) = 22))) ?_
  refine o_move rfl ?_
  refine o_gD rfl rfl rfl rfl (decide_eq_false (by decide : ¬ ((0 : Int) = 22))) ?_
  refine o_eql rfl rfl rfl ?_
  refine o_pickF rfl rfl (decide_eq_false (by decide : ¬ ((0 : Int) = 22))) ?_
  refine o_nil ?_
  refine k_cF rfl (decide_eq_false (by decide : ¬ ((0 : Int) = 22))) ?_
  refine k_skip ?_
  refine k_gen [(1, .int .i64 fw), (2, .box 0 0), (5, .int .i64 (n : Int)), (6, .int .i64 0), (7, .int .i64 (k : Int)), (8, .int .i64 0), (9, .int .i64 (n : Int))] [.box b.cs] (.cons rfl (.cons rfl (.cons rfl (.cons rfl (.cons rfl (.cons rfl (.cons rfl (.nil rfl)))))))) rfl fun fr => ?_
  refine k_seq ?_
  refine k_seq (k_region ?_)
  refine o_move rfl ?_
  refine o_neq rfl rfl rfl ?_
  refine o_move rfl ?_
  refine o_gS rfl rfl rfl rfl (decide_eq_false (fun h => h rfl)) ?_
  refine o_gS rfl rfl rfl rfl (decide_eq_false (fun h => h rfl)) ?_
  refine o_gS rfl rfl rfl rfl (decide_eq_false (fun h => h rfl)) ?_
  refine o_dead rfl rfl rfl rfl ?_
  refine o_dead rfl rfl rfl rfl ?_
  refine o_gS rfl rfl rfl rfl (decide_eq_false (fun h => h rfl)) ?_
  refine o_pickF rfl rfl (decide_eq_false (fun h => h rfl)) ?_
  refine o_move rfl ?_
  refine o_gD rfl rfl rfl rfl rfl ?_
  refine o_move rfl ?_
  refine o_gD rfl rfl rfl rfl rfl ?_
  refine o_neq rfl rfl rfl ?_
  refine o_gD rfl rfl rfl rfl rfl ?_
  refine o_move rfl ?_
  refine o_gS rfl rfl rfl rfl (decide_eq_false (fun h => h rfl)) ?_
  refine o_gS rfl rfl rfl rfl (decide_eq_false (fun h => h rfl)) ?_
  refine o_gS rfl rfl rfl rfl (decide_eq_false (fun h => h rfl)) ?_
  refine o_dead rfl rfl rfl rfl ?_
  refine o_dead rfl rfl rfl rfl ?_
  refine o_gS rfl rfl rfl rfl (decide_eq_false (fun h => h rfl)) ?_
  refine o_gD rfl rfl rfl rfl rfl ?_
  refine o_pickF rfl rfl (decide_eq_false (fun h => h rfl)) ?_
  refine o_pickF rfl rfl rfl ?_
  refine o_move rfl ?_
  refine o_gD rfl rfl rfl rfl rfl ?_
  refine o_move rfl ?_
  refine o_gD rfl rfl rfl rfl rfl ?_
  refine o_call rfl (ret15 hi _ 0 300) (.lrefl _) ?_
  refine o_gD rfl rfl rfl rfl rfl ?_
  refine o_not rfl rfl ?_
  refine o_pickF rfl rfl rfl ?_
  refine o_move rfl ?_
  refine o_gD rfl rfl rfl rfl g80 ?_
  refine o_move rfl ?_
  refine o_gD rfl rfl rfl rfl g80 ?_
  refine o_call rfl (ret15 hi _ 0 300) (.lrefl _) ?_
  refine o_gD rfl rfl rfl rfl g80 ?_
  refine o_not rfl rfl ?_
  refine o_pickF rfl rfl g80 ?_
  refine o_nil ?_
  refine k_cF rfl g84 ?_
  refine k_skip ?_
  refine k_gen [(1, .int .i64 fw), (2, .box 0 0), (5, .int .i64 (n : Int)), (6, .int .i64 0), (7, .int .i64 (k : Int)), (8, .int .i64 0), (9, .int .i64 (n : Int))] [.box b.cs] (.cons rfl (.cons rfl (.cons rfl (.cons rfl (.cons rfl (.cons rfl (.cons rfl (.nil rfl)))))))) rfl fun fr => ?_
  refine k_seq ?_
  refine k_seq (k_region ?_)
  refine o_move rfl ?_
  refine o_eql rfl rfl rfl ?_
  refine o_nil ?_
  refine k_cT rfl rfl ?_
  refine k_seq (k_region ?_)
  refine o_loadN rfl rfl rfl sh28 rfl ?_
  refine o_move rfl ?_
  refine o_call rfl (ret13 hi hb hT (n : Int) (by omega)) (.lrefl _) ?_
  refine o_move rfl ?_
  refine o_extract rfl rfl rfl ?_
  refine o_extract rfl rfl rfl ?_
  refine o_alloc rfl ze24 ?_
  refine o_storeN rfl rfl sh24 rfl rfl rfl rfl rfl ?_
  refine o_assign rfl ?_
  refine o_nil ?_
  refine k_gen [(1, .int .i64 fw), (2, .box 0 0), (5, .int .i64 (n : Int)), (6, .int .i64 0), (7, .int .i64 (k : Int)), (8, .int .i64 0), (9, .int .i64 (n : Int)), (10, .box 1 0), (11, .int .i64 0)] [.box b.cs, .box [.int .i64 (lowT b.thick (q :: l) (n : Int)), .int .i64 (highT b.thick (q :: l) (n : Int))]] (.cons rfl (.cons rfl (.cons rfl (.cons rfl (.cons rfl (.cons rfl (.cons rfl (.cons rfl (.cons rfl (.nil rfl)))))))))) rfl fun fr => ?_
  refine k_seq (k_region ?_)
  refine o_move rfl ?_
  refine o_neq rfl rfl rfl ?_
  refine o_move rfl ?_
  refine o_gD rfl rfl rfl rfl (decide_eq_false (fun h => h rfl)) ?_
  refine o_loadN rfl rfl rfl sh24 rfl ?_
  refine o_gD rfl rfl rfl rfl (decide_eq_false (fun h => h rfl)) ?_
  refine o_faddr rfl rfl fld28_4 ?_
  refine o_gD rfl rfl rfl rfl (decide_eq_false (fun h => h rfl)) ?_
  refine o_loadN rfl rfl rfl sh24 rfl ?_
  refine o_gD rfl rfl rfl rfl (decide_eq_false (fun h => h rfl)) ?_
  refine o_call rfl (ret21 hi _ _ _ _) (.lrefl _) ?_
  refine o_gD rfl rfl rfl rfl (decide_eq_false (fun h => h rfl)) ?_
  refine o_not rfl rfl ?_
  refine o_pickF rfl rfl (decide_eq_false (fun h => h rfl)) ?_
  refine o_move rfl ?_
  refine o_gD rfl rfl rfl rfl g102 ?_
  refine o_faddr rfl rfl fld24_0 ?_
  refine o_gD rfl rfl rfl rfl g102 ?_
  refine o_load1 rfl rfl rfl sh3 rfl ?_
  refine o_gD rfl rfl rfl rfl g102 ?_
  refine o_faddr rfl rfl fld28_3 ?_
  refine o_gD rfl rfl rfl rfl g102 ?_
  refine o_load1 rfl rfl rfl sh3 rfl ?_
  refine o_gD rfl rfl rfl rfl g102 ?_
  refine o_lss rfl rfl rfl ?_
  refine o_pickF rfl rfl g102 ?_
  refine o_move rfl ?_
  refine o_gD rfl rfl rfl rfl g109 ?_
  refine o_move rfl ?_
  refine o_gD rfl rfl rfl rfl g109 ?_
  refine o_neq rfl rfl rfl ?_
  refine o_pickF rfl rfl g109 ?_
  refine o_move rfl ?_
  refine o_gD rfl rfl rfl rfl (decide_eq_false (fun h => h rfl)) ?_
  refine o_move rfl ?_
  refine o_gD rfl rfl rfl rfl (decide_eq_false (fun h => h rfl)) ?_
  refine o_move rfl ?_
  refine o_gD rfl rfl rfl rfl (decide_eq_false (fun h => h rfl)) ?_
  refine o_lss rfl rfl rfl ?_
  refine o_pickF rfl rfl (decide_eq_false (fun h => h rfl)) ?_
  refine o_nil ?_
  refine k_cF rfl g117 ?_
  refine k_skip ?_
  refine k_gen [(1, .int .i64 fw), (2, .box 0 0), (5, .int .i64 (n : Int)), (6, .int .i64 0), (7, .int .i64 (k : Int)), (8, .int .i64 0), (9, .int .i64 (n : Int))] [.box b.cs, .box [.int .i64 (lowT b.thick (q :: l) (n : Int)), .int .i64 (highT b.thick (q :: l) (n : Int))]] (.cons rfl (.cons rfl (.cons rfl (.cons rfl (.cons rfl (.cons rfl (.cons rfl (.nil rfl)))))))) rfl fun fr => ?_
  refine k_seq ?_
  refine k_seq (k_region ?_)
  refine o_move rfl ?_
  refine o_gtr rfl rfl rfl ?_
  refine o_nil ?_
  refine k_cF rfl g119 ?_
  refine k_skip ?_
  refine k_gen [(1, .int .i64 fw), (2, .box 0 0), (5, .int .i64 (n : Int)), (6, .int .i64 0), (7, .int .i64 (k : Int)), (8, .int .i64 0), (9, .int .i64 (n : Int))] [.box b.cs, .box [.int .i64 (lowT b.thick (q :: l) (n : Int)), .int .i64 (highT b.thick (q :: l) (n : Int))]] (.cons rfl (.cons rfl (.cons rfl (.cons rfl (.cons rfl (.cons rfl (.cons rfl (.nil rfl)))))))) rfl fun fr => ?_
  refine k_seq ?_
  refine k_seq (k_region ?_)
  refine o_move rfl ?_
  refine o_neq rfl rfl rfl ?_
  refine o_nil ?_
  refine k_cF rfl (decide_eq_false (fun h => h rfl)) ?_
  refine k_skip ?_
  refine k_seq (k_region ?_)
  refine o_loadN rfl rfl rfl sh28 rfl ?_
  refine o_move rfl ?_
  refine o_call rfl (ret13 hi hb hT (k : Int) (by omega)) (.lrefl _) ?_
  refine o_move rfl ?_
  refine o_extract rfl rfl rfl ?_
  refine o_extract rfl rfl rfl ?_
  refine o_alloc rfl ze24 ?_
  refine o_storeN rfl rfl sh24 rfl rfl rfl rfl rfl ?_
  refine o_assign rfl ?_
  refine o_nil ?_
  refine k_gen [(2, .box 0 0), (7, .int .i64 (k : Int)), (14, .box 2 0), (15, .int .i64 0)] [.box b.cs, .box [.int .i64 (lowT b.thick (q :: l) (n : Int)), .int .i64 (highT b.thick (q :: l) (n : Int))], .box [.int .i64 (lowT b.thick (q :: l) (k : Int)), .int .i64 (highT b.thick (q :: l) (k : Int))]] (.cons rfl (.cons rfl (.cons rfl (.cons rfl (.nil rfl))))) rfl fun fr => ?_
  refine k_seq ?_
  refine k_seq (k_region ?_)
  refine o_move rfl ?_
  refine o_neq rfl rfl rfl ?_
  refine o_move rfl ?_
  refine o_gD rfl rfl rfl rfl (decide_eq_false (fun h => h rfl)) ?_
  refine o_faddr rfl rfl fld24_0 ?_
  refine o_gD rfl rfl rfl rfl (decide_eq_false (fun h => h rfl)) ?_
  refine o_load1 rfl rfl rfl sh3 rfl ?_
  refine o_gD rfl rfl rfl rfl (decide_eq_false (fun h => h rfl)) ?_
  refine o_faddr rfl rfl fld28_3 ?_
  refine o_gD rfl rfl rfl rfl (decide_eq_false (fun h => h rfl)) ?_
  refine o_load1 rfl rfl rfl sh3 rfl ?_
  refine o_gD rfl rfl rfl rfl (decide_eq_false (fun h => h rfl)) ?_
  refine o_lss rfl rfl rfl ?_
  refine o_pickF rfl rfl (decide_eq_false (fun h => h rfl)) ?_
  refine o_nil ?_
  refine k_cF rfl g167 ?_
  refine k_skip ?_
  refine k_gen [(2, .box 0 0), (7, .int .i64 (k : Int)), (14, .box 2 0), (15, .int .i64 0)] [.box b.cs, .box [.int .i64 (lowT b.thick (q :: l) (n : Int)), .int .i64 (highT b.thick (q :: l) (n : Int))], .box [.int .i64 (lowT b.thick (q :: l) (k : Int)), .int .i64 (highT b.thick (q :: l) (k : Int))]] (.cons rfl (.cons rfl (.cons rfl (.cons rfl (.nil rfl))))) rfl fun fr => ?_
  refine k_seq ?_
  refine k_seq (k_region ?_)
  refine o_move rfl ?_
  refine o_eql rfl rfl rfl ?_
  refine o_nil ?_
  refine k_cF rfl g169 ?_
  refine k_skip ?_
  refine k_seq (k_region ?_)
  refine o_loadN rfl rfl rfl sh28 rfl ?_
  refine o_move rfl ?_
  refine o_add rfl rfl rfl (by unfold I64; omega) ?_
  refine o_call rfl (ret13 hi hb hT ((k : Int) + 1) (by omega)) (.lrefl _) ?_
  refine o_move rfl ?_
  refine o_extract rfl rfl rfl ?_
  refine o_extract rfl rfl rfl ?_
  refine o_storeN rfl rfl sh24 rfl rfl rfl rfl rfl ?_
  refine o_assign rfl ?_
  refine o_nil ?_
  refine k_seq (k_region ?_)
  refine o_move rfl ?_
  refine o_eql rfl rfl rfl ?_
  refine o_move rfl ?_
  refine o_gD rfl rfl rfl rfl rfl ?_
  refine o_faddr rfl rfl fld24_0 ?_
  refine o_gD rfl rfl rfl rfl rfl ?_
  refine o_load1 rfl rfl rfl sh3 rfl ?_
  refine o_gD rfl rfl rfl rfl rfl ?_
  refine o_faddr rfl rfl fld28_3 ?_
  refine o_gD rfl rfl rfl rfl rfl ?_
  refine o_load1 rfl rfl rfl sh3 rfl ?_
  refine o_gD rfl rfl rfl rfl rfl ?_
  refine o_lss rfl rfl rfl ?_
  refine o_pickT rfl rfl rfl ?_
  refine o_move rfl ?_
  refine o_gD rfl rfl rfl rfl g187 ?_
  refine o_call rfl (r8) (.lrefl _) ?_
  refine o_pickT rfl rfl g187 ?_
  refine o_assign rfl ?_
  refine o_nil ?_
  refine k_ret ?_
  refine ⟨.inr rfl, _, .cons _ _ _ _ (.tmp 4) .nil, ?_⟩
  exact .refl _

set_option maxHeartbeats 4000000 in
theorem ret5c (hi : Off is) {b : Bk} (hb : Ok b) {q : Tri} {l : List Tri} (hT : trs b = q :: l) (fw : Int) (r8 : RetP Try.prog is orc 8 [] (.bool true)) {n : Nat} (h1 : fstN (fun i => doneT b (q :: l) i) 301 0 = some n) (hn : n ≤ 300) {k : Nat} (h2 : lstN (fun i => soundT b (q :: l) i) 301 = some k) (hk : k ≤ 300) (g102 : (!(decide (b.glo ≤ lowT b.thick (q :: l) (n : Int)) && decide (highT b.thick (q :: l) (n : Int) ≤ b.ghi))) = false) (g109 : decide (lowT b.thick (q :: l) (n : Int) < b.crack) = false) (g117 : decide ((k : Int) < (n : Int)) = false) (g119 : decide (0 < (n : Int)) = true) (g142 : (decide (b.glo ≤ lowT b.thick (q :: l) (fw % (n : Int))) && decide (highT b.thick (q :: l) (fw % (n : Int)) ≤ b.ghi)) = true → decide (b.crack ≤ lowT b.thick (q :: l) (fw % (n : Int))) = false) (g167 : decide (lowT b.thick (q :: l) (k : Int) < b.crack) = false) (g169 : decide ((k : Int) = 300) = true) : RetP Try.prog is orc 5 [b.u, .int .i64 fw] (.bool true) := by
  refine ret_of body5 pure5 (hi 5 (by decide)) rfl rfl (dat_l2 (dat_bk b 5) (.int _ _ _)) (.inl (.bool _ _)) ?_
  have h19 : RetP Try.prog is orc 19 [b.u] (.tup [.int .i64 (n : Int), .int .i64 0]) := by have := ret19 (orc := orc) hi hb hT; rwa [h1] at this
  have h20 : RetP Try.prog is orc 20 [b.u] (.tup [.int .i64 (k : Int), .int .i64 0]) := by have := ret20 (orc := orc) hi hb hT; rwa [h2] at this
  have g80 : (!(decide (0 ≤ (n : Int)) && decide ((n : Int) ≤ 300))) = false := by simp; try omega
  have g84 : (!(decide (0 ≤ (k : Int)) && decide ((k : Int) ≤ 300))) = false := by simp; try omega
  have hu : 0 < (n : Int) := of_decide_eq_true g119
  have m0 := Int.emod_nonneg fw (show (n : Int) ≠ 0 by omega); have m1 := Int.emod_lt_of_pos fw hu
  refine k_seq (k_region ?_)
  refine o_box rfl rfl ?_
  refine o_assign rfl ?_
  refine o_nil ?_
  refine k_seq ?_
  refine k_seq (k_region ?_)
  refine o_loadN rfl rfl rfl sh28 rfl ?_
  refine o_call rfl (ret7 hi hb) (.lrefl _) ?_
  refine o_not rfl rfl ?_
  refine o_nil ?_
  refine k_cF rfl rfl ?_
  refine k_skip ?_
  refine k_seq (k_region ?_)
  refine o_loadN rfl rfl rfl sh28 rfl ?_
  refine o_call rfl (h19) (.lrefl _) ?_
  refine o_move rfl ?_
  refine o_extract rfl rfl rfl ?_
  refine o_extract rfl rfl rfl ?_
  refine o_assign rfl ?_
  refine o_assign rfl ?_
  refine o_nil ?_
  refine k_seq (k_region ?_)
  refine o_loadN rfl rfl rfl sh28 rfl ?_
  refine o_call rfl (h20) (.lrefl _) ?_
  refine o_move rfl ?_
  refine o_extract rfl rfl rfl ?_
  refine o_extract rfl rfl rfl ?_
  refine o_assign rfl ?_
  refine o_assign rfl ?_
  refine o_nil ?_
  refine k_seq (k_region ?_)
  refine o_assign rfl ?_
  refine o_nil ?_
  refine k_seq ?_
  refine k_seq (k_region ?_)
  refine o_move rfl ?_
  refine o_eql rfl rfl rfl ?_
  refine o_nil ?_
  refine k_cT rfl rfl ?_
  refine k_region ?_
  refine o_move rfl ?_
  refine o_assign rfl ?_
  refine o_nil ?_
  refine k_gen [(1, .int .i64 fw), (2, .box 0 0), (5, .int .i64 (n : Int)), (6, .int .i64 0), (7, .int .i64 (k : Int)), (8, .int .i64 0), (9, .int .i64 (n : Int))] [.box b.cs] (.cons rfl (.cons rfl (.cons rfl (.cons rfl (.cons rfl (.cons rfl (.cons rfl (.nil rfl)))))))) rfl fun fr => ?_
  refine k_seq ?_
  refine k_seq (k_region ?_)
  refine o_move rfl ?_
  refine o_eql rfl rfl rfl ?_
  refine o_move rfl ?_
  refine o_gD rfl rfl rfl rfl (decide_eq_false (by decide : ¬ ((0 : Int) = 22))) ?_
  refine o_move rfl ?_
  refine o_gD rfl rfl rfl rfl (decide_eq_false (by decide : ¬ ((0 : Int) = 22))) ?_
  refine o_eql rfl rfl rfl ?_
  refine o_pickF rfl rfl (decide_eq_false (by decide : ¬ ((0 : Int) = 22))) ?_
  refine o_nil ?_
  refine k_cF rfl (decide_eq_false (by decide : ¬ ((0 : Int) = 22))) ?_
  refine k_skip ?_
  refine k_gen [(1, .int .i64 fw), (2, .box 0 0), (5, .int .i64 (n : Int)), (6, .int .i64 0), (7, .int .i64 (k : Int)), (8, .int .i64 0), (9, .int .i64 (n : Int))] [.box b.cs] (.cons rfl (.cons rfl (.cons rfl (.cons rfl (.cons rfl (.cons rfl (.cons rfl (.nil rfl)))))))) rfl fun fr => ?_
  refine k_seq ?_
  refine k_seq (k_region ?_)
  refine o_move rfl ?_
  refine o_neq rfl rfl rfl ?_
  refine o_move rfl ?_
  refine o_gS rfl rfl rfl rfl (decide_eq_false (fun h => h rfl)) ?_
  refine o_gS rfl rfl rfl rfl (decide_eq_false (fun h => h rfl)) ?_
  refine o_gS rfl rfl rfl rfl (decide_eq_false (fun h => h rfl)) ?_
  refine o_dead rfl rfl rfl rfl ?_
  refine o_dead rfl rfl rfl rfl ?_
  refine o_gS rfl rfl rfl rfl (decide_eq_false (fun h => h rfl)) ?_
  refine o_pickF rfl rfl (decide_eq_false (fun h => h rfl)) ?_
  refine o_move rfl ?_
  refine o_gD rfl rfl rfl rfl rfl ?_
  refine o_move rfl ?_
  refine o_gD rfl rfl rfl rfl rfl ?_
  refine o_neq rfl rfl rfl ?_
  refine o_gD rfl rfl rfl rfl rfl ?_
  refine o_move rfl ?_
  refine o_gS rfl rfl rfl rfl (decide_eq_false (fun h => h rfl)) ?_
  refine o_gS rfl rfl rfl rfl (decide_eq_false (fun h => h rfl)) ?_
  refine o_gS rfl rfl rfl rfl (decide_eq_false (fun h => h rfl)) ?_
  refine o_dead rfl rfl rfl rfl ?_
  refine o_dead rfl rfl rfl rfl ?_
  refine o_gS rfl rfl rfl rfl (decide_eq_false (fun h => h rfl)) ?_
  refine o_gD rfl rfl rfl rfl rfl ?_
  refine o_pickF rfl rfl (decide_eq_false (fun h => h rfl)) ?_
  refine o_pickF rfl rfl rfl ?_
  refine o_move rfl ?_
  refine o_gD rfl rfl rfl rfl rfl ?_
  refine o_move rfl ?_
  refine o_gD rfl rfl rfl rfl rfl ?_
  refine o_call rfl (ret15 hi _ 0 300) (.lrefl _) ?_
  refine o_gD rfl rfl rfl rfl rfl ?_
  refine o_not rfl rfl ?_
  refine o_pickF rfl rfl rfl ?_
  refine o_move rfl ?_
  refine o_gD rfl rfl rfl rfl g80 ?_
  refine o_move rfl ?_
  refine o_gD rfl rfl rfl rfl g80 ?_
  refine o_call rfl (ret15 hi _ 0 300) (.lrefl _) ?_
  refine o_gD rfl rfl rfl rfl g80 ?_
  refine o_not rfl rfl ?_
  refine o_pickF rfl rfl g80 ?_
  refine o_nil ?_
  refine k_cF rfl g84 ?_
  refine k_skip ?_
  refine k_gen [(1, .int .i64 fw), (2, .box 0 0), (5, .int .i64 (n : Int)), (6, .int .i64 0), (7, .int .i64 (k : Int)), (8, .int .i64 0), (9, .int .i64 (n : Int))] [.box b.cs] (.cons rfl (.cons rfl (.cons rfl (.cons rfl (.cons rfl (.cons rfl (.cons rfl (.nil rfl)))))))) rfl fun fr => ?_
  refine k_seq ?_
  refine k_seq (k_region ?_)
  refine o_move rfl ?_
  refine o_eql rfl rfl rfl ?_
  refine o_nil ?_
  refine k_cT rfl rfl ?_
  refine k_seq (k_region ?_)
  refine o_loadN rfl rfl rfl sh28 rfl ?_
  refine o_move rfl ?_
  refine o_call rfl (ret13 hi hb hT (n : Int) (by omega)) (.lrefl _) ?_
  refine o_move rfl ?_
  refine o_extract rfl rfl rfl ?_
  refine o_extract rfl rfl rfl ?_
  refine o_alloc rfl ze24 ?_
  refine o_storeN rfl rfl sh24 rfl rfl rfl rfl rfl ?_
  refine o_assign rfl ?_
  refine o_nil ?_
  refine k_gen [(1, .int .i64 fw), (2, .box 0 0), (5, .int .i64 (n : Int)), (6, .int .i64 0), (7, .int .i64 (k : Int)), (8, .int .i64 0), (9, .int .i64 (n : Int)), (10, .box 1 0), (11, .int .i64 0)] [.box b.cs, .box [.int .i64 (lowT b.thick (q :: l) (n : Int)), .int .i64 (highT b.thick (q :: l) (n : Int))]] (.cons rfl (.cons rfl (.cons rfl (.cons rfl (.cons rfl (.cons rfl (.cons rfl (.cons rfl (.cons rfl (.nil rfl)))))))))) rfl fun fr => ?_
  refine k_seq (k_region ?_)
  refine o_move rfl ?_
  refine o_neq rfl rfl rfl ?_
  refine o_move rfl ?_
  refine o_gD rfl rfl rfl rfl (decide_eq_false (fun h => h rfl)) ?_
  refine o_loadN rfl rfl rfl sh24 rfl ?_
  refine o_gD rfl rfl rfl rfl (decide_eq_false (fun h => h rfl)) ?_
  refine o_faddr rfl rfl fld28_4 ?_
  refine o_gD rfl rfl rfl rfl (decide_eq_false (fun h => h rfl)) ?_
  refine o_loadN rfl rfl rfl sh24 rfl ?_
  refine o_gD rfl rfl rfl rfl (decide_eq_false (fun h => h rfl)) ?_
  refine o_call rfl (ret21 hi _ _ _ _) (.lrefl _) ?_
  refine o_gD rfl rfl rfl rfl (decide_eq_false (fun h => h rfl)) ?_
  refine o_not rfl rfl ?_
  refine o_pickF rfl rfl (decide_eq_false (fun h => h rfl)) ?_
  refine o_move rfl ?_
  refine o_gD rfl rfl rfl rfl g102 ?_
  refine o_faddr rfl rfl fld24_0 ?_
  refine o_gD rfl rfl rfl rfl g102 ?_
  refine o_load1 rfl rfl rfl sh3 rfl ?_
  refine o_gD rfl rfl rfl rfl g102 ?_
  refine o_faddr rfl rfl fld28_3 ?_
  refine o_gD rfl rfl rfl rfl g102 ?_
  refine o_load1 rfl rfl rfl sh3 rfl ?_
  refine o_gD rfl rfl rfl rfl g102 ?_
  refine o_lss rfl rfl rfl ?_
  refine o_pickF rfl rfl g102 ?_
  refine o_move rfl ?_
  refine o_gD rfl rfl rfl rfl g109 ?_
  refine o_move rfl ?_
  refine o_gD rfl rfl rfl rfl g109 ?_
  refine o_neq rfl rfl rfl ?_
  refine o_pickF rfl rfl g109 ?_
  refine o_move rfl ?_
  refine o_gD rfl rfl rfl rfl (decide_eq_false (fun h => h rfl)) ?_
  refine o_move rfl ?_
  refine o_gD rfl rfl rfl rfl (decide_eq_false (fun h => h rfl)) ?_
  refine o_move rfl ?_
  refine o_gD rfl rfl rfl rfl (decide_eq_false (fun h => h rfl)) ?_
  refine o_lss rfl rfl rfl ?_
  refine o_pickF rfl rfl (decide_eq_false (fun h => h rfl)) ?_
  refine o_nil ?_
  refine k_cF rfl g117 ?_
  refine k_skip ?_
  refine k_gen [(1, .int .i64 fw), (2, .box 0 0), (5, .int .i64 (n : Int)), (6, .int .i64 0), (7, .int .i64 (k : Int)), (8, .int .i64 0), (9, .int .i64 (n : Int))] [.box b.cs, .box [.int .i64 (lowT b.thick (q :: l) (n : Int)), .int .i64 (highT b.thick (q :: l) (n : Int))]] (.cons rfl (.cons rfl (.cons rfl (.cons rfl (.cons rfl (.cons rfl (.cons rfl (.nil rfl)))))))) rfl fun fr => ?_
  refine k_seq ?_
  refine k_seq (k_region ?_)
  refine o_move rfl ?_
  refine o_gtr rfl rfl rfl ?_
  refine o_nil ?_
  refine k_cT rfl g119 ?_
  refine k_seq ?_
  refine k_draw [.read true, .plain, .plain, .read false, .read false, .plain, .plain, .plain, .pre, .plain, .plain] (by kernel_rfl) (by kernel_rfl) (by kernel_rfl) ?_
  refine d_load rfl (o_loadN rfl rfl rfl sh28 rfl (o_nil rfl)) ?_
  refine d_plain (o_move rfl (o_nil rfl)) ?_
  refine d_plain (o_move rfl (o_nil rfl)) ?_
  refine d_callR rfl (ret11 hi fw (n : Int) hu (by omega)) (flat_int _) (.lrefl _) ?_
  refine d_callR rfl (ret13 hi hb hT (fw % (n : Int)) (by omega)) (flat_sp _ _ _) (.lrefl _) ?_
  refine d_plain (o_move rfl (o_nil rfl)) ?_
  refine d_plain (o_extract rfl rfl rfl (o_nil rfl)) ?_
  refine d_plain (o_extract rfl rfl rfl (o_nil rfl)) ?_
  refine d_pre rfl ze24 ?_
  refine d_plain (o_storeN rfl rfl sh24 rfl rfl rfl rfl rfl (o_nil rfl)) ?_
  refine d_plain (o_assign rfl (o_nil rfl)) ?_
  refine d_nil ?_
  refine k_gen [(1, .int .i64 fw), (2, .box 0 0), (5, .int .i64 (n : Int)), (6, .int .i64 0), (7, .int .i64 (k : Int)), (8, .int .i64 0), (9, .int .i64 (n : Int)), (12, .box 2 0), (13, .int .i64 0)] [.box b.cs, .box [.int .i64 (lowT b.thick (q :: l) (n : Int)), .int .i64 (highT b.thick (q :: l) (n : Int))], .box [.int .i64 (lowT b.thick (q :: l) (fw % (n : Int))), .int .i64 (highT b.thick (q :: l) (fw % (n : Int)))]] (.cons rfl (.cons rfl (.cons rfl (.cons rfl (.cons rfl (.cons rfl (.cons rfl (.cons rfl (.cons rfl (.nil rfl)))))))))) rfl fun fr => ?_
  refine k_seq (k_region ?_)
  refine o_move rfl ?_
  refine o_neq rfl rfl rfl ?_
  refine o_move rfl ?_
  refine o_gD rfl rfl rfl rfl (decide_eq_false (fun h => h rfl)) ?_
  refine o_loadN rfl rfl rfl sh24 rfl ?_
  refine o_gD rfl rfl rfl rfl (decide_eq_false (fun h => h rfl)) ?_
  refine o_faddr rfl rfl fld28_4 ?_
  refine o_gD rfl rfl rfl rfl (decide_eq_false (fun h => h rfl)) ?_
  refine o_loadN rfl rfl rfl sh24 rfl ?_
  refine o_gD rfl rfl rfl rfl (decide_eq_false (fun h => h rfl)) ?_
  refine o_call rfl (ret21 hi _ _ _ _) (.lrefl _) ?_
  refine o_gD rfl rfl rfl rfl (decide_eq_false (fun h => h rfl)) ?_
  refine o_move rfl ?_
  refine o_guard rfl rfl rfl rfl (fun h1 => ?_) (fun h1 => ?_)
  · refine o_faddr rfl rfl fld24_0 ?_
    refine o_gD rfl rfl rfl rfl h1 ?_
    refine o_load1 rfl rfl rfl sh3 rfl ?_
    refine o_gD rfl rfl rfl rfl h1 ?_
    refine o_faddr rfl rfl fld28_3 ?_
    refine o_gD rfl rfl rfl rfl h1 ?_
    refine o_load1 rfl rfl rfl sh3 rfl ?_
    refine o_gD rfl rfl rfl rfl h1 ?_
    refine o_geq rfl rfl rfl ?_
    refine o_gD rfl rfl rfl rfl (decide_eq_false (fun h => h rfl)) ?_
    refine o_pickT rfl rfl h1 ?_
    refine o_pickF rfl rfl (decide_eq_false (fun h => h rfl)) ?_
    refine o_nil ?_
    refine k_cF rfl (by first | exact g142 (by assumption) | rfl) ?_
    refine k_skip ?_
    refine k_gen [(1, .int .i64 fw), (2, .box 0 0), (5, .int .i64 (n : Int)), (6, .int .i64 0), (7, .int .i64 (k : Int)), (8, .int .i64 0), (9, .int .i64 (n : Int))] [.box b.cs, .box [.int .i64 (lowT b.thick (q :: l) (n : Int)), .int .i64 (highT b.thick (q :: l) (n : Int))], .box [.int .i64 (lowT b.thick (q :: l) (fw % (n : Int))), .int .i64 (highT b.thick (q :: l) (fw % (n : Int)))]] (.cons rfl (.cons rfl (.cons rfl (.cons rfl (.cons rfl (.cons rfl (.cons rfl (.nil rfl)))))))) rfl fun fr => ?_
    refine k_seq ?_
    refine k_seq (k_region ?_)
    refine o_move rfl ?_
    refine o_neq rfl rfl rfl ?_
    refine o_nil ?_
    refine k_cF rfl (decide_eq_false (fun h => h rfl)) ?_
    refine k_skip ?_
    refine k_seq (k_region ?_)
    refine o_loadN rfl rfl rfl sh28 rfl ?_
    refine o_move rfl ?_
    refine o_call rfl (ret13 hi hb hT (k : Int) (by omega)) (.lrefl _) ?_
    refine o_move rfl ?_
    refine o_extract rfl rfl rfl ?_
    refine o_extract rfl rfl rfl ?_
    refine o_alloc rfl ze24 ?_
    refine o_storeN rfl rfl sh24 rfl rfl rfl rfl rfl ?_
    refine o_assign rfl ?_
    refine o_nil ?_
    refine k_gen [(2, .box 0 0), (7, .int .i64 (k : Int)), (14, .box 3 0), (15, .int .i64 0)] [.box b.cs, .box [.int .i64 (lowT b.thick (q :: l) (n : Int)), .int .i64 (highT b.thick (q :: l) (n : Int))], .box [.int .i64 (lowT b.thick (q :: l) (fw % (n : Int))), .int .i64 (highT b.thick (q :: l) (fw % (n : Int)))], .box [.int .i64 (lowT b.thick (q :: l) (k : Int)), .int .i64 (highT b.thick (q :: l) (k : Int))]] (.cons rfl (.cons rfl (.cons rfl (.cons rfl (.nil rfl))))) rfl fun fr => ?_
    refine k_seq ?_
    refine k_seq (k_region ?_)
    refine o_move rfl ?_
    refine o_neq rfl rfl rfl ?_
    refine o_move rfl ?_
    refine o_gD rfl rfl rfl rfl (decide_eq_false (fun h => h rfl)) ?_
    refine o_faddr rfl rfl fld24_0 ?_
    refine o_gD rfl rfl rfl rfl (decide_eq_false (fun h => h rfl)) ?_
    refine o_load1 rfl rfl rfl sh3 rfl ?_
    refine o_gD rfl rfl rfl rfl (decide_eq_false (fun h => h rfl)) ?_
    refine o_faddr rfl rfl fld28_3 ?_
    refine o_gD rfl rfl rfl rfl (decide_eq_false (fun h => h rfl)) ?_
    refine o_load1 rfl rfl rfl sh3 rfl ?_
    refine o_gD rfl rfl rfl rfl (decide_eq_false (fun h => h rfl)) ?_
    refine o_lss rfl rfl rfl ?_
    refine o_pickF rfl rfl (decide_eq_false (fun h => h rfl)) ?_
    refine o_nil ?_
    refine k_cF rfl g167 ?_
    refine k_skip ?_
    refine k_gen [(2, .box 0 0), (7, .int .i64 (k : Int)), (14, .box 3 0), (15, .int .i64 0)] [.box b.cs, .box [.int .i64 (lowT b.thick (q :: l) (n : Int)), .int .i64 (highT b.thick (q :: l) (n : Int))], .box [.int .i64 (lowT b.thick (q :: l) (fw % (n : Int))), .int .i64 (highT b.thick (q :: l) (fw % (n : Int)))], .box [.int .i64 (lowT b.thick (q :: l) (k : Int)), .int .i64 (highT b.thick (q :: l) (k : Int))]] (.cons rfl (.cons rfl (.cons rfl (.cons rfl (.nil rfl))))) rfl fun fr => ?_
    refine k_seq ?_
    refine k_seq (k_region ?_)
    refine o_move rfl ?_
    refine o_eql rfl rfl rfl ?_
    refine o_nil ?_
    refine k_cT rfl g169 ?_
    refine k_seq (k_region ?_)
    refine o_call rfl (r8) (.lrefl _) ?_
    refine o_assign rfl ?_
    refine o_nil ?_
    refine k_ret ?_
    refine ⟨.inr rfl, _, .cons _ _ _ _ (.tmp 4) .nil, ?_⟩
    exact .refl _
  · refine o_gS rfl rfl rfl rfl h1 ?_
    refine o_gS rfl rfl rfl rfl h1 ?_
    refine o_gS rfl rfl rfl rfl h1 ?_
    refine o_gS rfl rfl rfl rfl h1 ?_
    refine o_gD rfl rfl rfl rfl (decide_eq_false (fun h => h rfl)) ?_
    refine o_pickF rfl rfl h1 ?_
    refine o_pickF rfl rfl (decide_eq_false (fun h => h rfl)) ?_
    refine o_nil ?_
    refine k_cond rfl (fun h => by cases h) (fun _ => ?_)
    refine k_skip ?_
    refine k_gen [(1, .int .i64 fw), (2, .box 0 0), (5, .int .i64 (n : Int)), (6, .int .i64 0), (7, .int .i64 (k : Int)), (8, .int .i64 0), (9, .int .i64 (n : Int))] [.box b.cs, .box [.int .i64 (lowT b.thick (q :: l) (n : Int)), .int .i64 (highT b.thick (q :: l) (n : Int))], .box [.int .i64 (lowT b.thick (q :: l) (fw % (n : Int))), .int .i64 (highT b.thick (q :: l) (fw % (n : Int)))]] (.cons rfl (.cons rfl (.cons rfl (.cons rfl (.cons rfl (.cons rfl (.cons rfl (.nil rfl)))))))) rfl fun fr => ?_
    refine k_seq ?_
    refine k_seq (k_region ?_)
    refine o_move rfl ?_
    refine o_neq rfl rfl rfl ?_
    refine o_nil ?_
    refine k_cF rfl (decide_eq_false (fun h => h rfl)) ?_
    refine k_skip ?_
    refine k_seq (k_region ?_)
    refine o_loadN rfl rfl rfl sh28 rfl ?_
    refine o_move rfl ?_
    refine o_call rfl (ret13 hi hb hT (k : Int) (by omega)) (.lrefl _) ?_
    refine o_move rfl ?_
    refine o_extract rfl rfl rfl ?_
    refine o_extract rfl rfl rfl ?_
    refine o_alloc rfl ze24 ?_
    refine o_storeN rfl rfl sh24 rfl rfl rfl rfl rfl ?_
    refine o_assign rfl ?_
    refine o_nil ?_
    refine k_gen [(2, .box 0 0), (7, .int .i64 (k : Int)), (14, .box 3 0), (15, .int .i64 0)] [.box b.cs, .box [.int .i64 (lowT b.thick (q :: l) (n : Int)), .int .i64 (highT b.thick (q :: l) (n : Int))], .box [.int .i64 (lowT b.thick (q :: l) (fw % (n : Int))), .int .i64 (highT b.thick (q :: l) (fw % (n : Int)))], .box [.int .i64 (lowT b.thick (q :: l) (k : Int)), .int .i64 (highT b.thick (q :: l) (k : Int))]] (.cons rfl (.cons rfl (.cons rfl (.cons rfl (.nil rfl))))) rfl fun fr => ?_
    refine k_seq ?_
    refine k_seq (k_region ?_)
    refine o_move rfl ?_
    refine o_neq rfl rfl rfl ?_
    refine o_move rfl ?_
    refine o_gD rfl rfl rfl rfl (decide_eq_false (fun h => h rfl)) ?_
    refine o_faddr rfl rfl fld24_0 ?_
    refine o_gD rfl rfl rfl rfl (decide_eq_false (fun h => h rfl)) ?_
    refine o_load1 rfl rfl rfl sh3 rfl ?_
    refine o_gD rfl rfl rfl rfl (decide_eq_false (fun h => h rfl)) ?_
    refine o_faddr rfl rfl fld28_3 ?_
    refine o_gD rfl rfl rfl rfl (decide_eq_false (fun h => h rfl)) ?_
    refine o_load1 rfl rfl rfl sh3 rfl ?_
    refine o_gD rfl rfl rfl rfl (decide_eq_false (fun h => h rfl)) ?_
    refine o_lss rfl rfl rfl ?_
    refine o_pickF rfl rfl (decide_eq_false (fun h => h rfl)) ?_
    refine o_nil ?_
    refine k_cF rfl g167 ?_
    refine k_skip ?_
    refine k_gen [(2, .box 0 0), (7, .int .i64 (k : Int)), (14, .box 3 0), (15, .int .i64 0)] [.box b.cs, .box [.int .i64 (lowT b.thick (q :: l) (n : Int)), .int .i64 (highT b.thick (q :: l) (n : Int))], .box [.int .i64 (lowT b.thick (q :: l) (fw % (n : Int))), .int .i64 (highT b.thick (q :: l) (fw % (n : Int)))], .box [.int .i64 (lowT b.thick (q :: l) (k : Int)), .int .i64 (highT b.thick (q :: l) (k : Int))]] (.cons rfl (.cons rfl (.cons rfl (.cons rfl (.nil rfl))))) rfl fun fr => ?_
    refine k_seq ?_
    refine k_seq (k_region ?_)
    refine o_move rfl ?_
    refine o_eql rfl rfl rfl ?_
    refine o_nil ?_
    refine k_cT rfl g169 ?_
    refine k_seq (k_region ?_)
    refine o_call rfl (r8) (.lrefl _) ?_
    refine o_assign rfl ?_
    refine o_nil ?_
    refine k_ret ?_
    refine ⟨.inr rfl, _, .cons _ _ _ _ (.tmp 4) .nil, ?_⟩
    exact .refl _

set_option maxHeartbeats 4000000 in
theorem ret5d (hi : Off is) {b : Bk} (hb : Ok b) {q : Tri} {l : List Tri} (hT : trs b = q :: l) (fw : Int) (r8 : RetP Try.prog is orc 8 [] (.bool true)) {n : Nat} (h1 : fstN (fun i => doneT b (q :: l) i) 301 0 = some n) (hn : n ≤ 300) {k : Nat} (h2 : lstN (fun i => soundT b (q :: l) i) 301 = some k) (hk : k ≤ 300) (g102 : (!(decide (b.glo ≤ lowT b.thick (q :: l) (n : Int)) && decide (highT b.thick (q :: l) (n : Int) ≤ b.ghi))) = false) (g109 : decide (lowT b.thick (q :: l) (n : Int) < b.crack) = false) (g117 : decide ((k : Int) < (n : Int)) = false) (g119 : decide (0 < (n : Int)) = false) (g167 : decide (lowT b.thick (q :: l) (k : Int) < b.crack) = false) (g169 : decide ((k : Int) = 300) = true) : RetP Try.prog is orc 5 [b.u, .int .i64 fw] (.bool true) := by
  refine ret_of body5 pure5 (hi 5 (by decide)) rfl rfl (dat_l2 (dat_bk b 5) (.int _ _ _)) (.inl (.bool _ _)) ?_
  have h19 : RetP Try.prog is orc 19 [b.u] (.tup [.int .i64 (n : Int), .int .i64 0]) := by have := ret19 (orc := orc) hi hb hT; rwa [h1] at this
  have h20 : RetP Try.prog is orc 20 [b.u] (.tup [.int .i64 (k : Int), .int .i64 0]) := by have := ret20 (orc := orc) hi hb hT; rwa [h2] at this
  have g80 : (!(decide (0 ≤ (n : Int)) && decide ((n : Int) ≤ 300))) = false := by simp; try omega
  have g84 : (!(decide (0 ≤ (k : Int)) && decide ((k : Int) ≤ 300))) = false := by simp; try omega
  refine k_seq (k_region ?_)
  refine o_box rfl rfl ?_
  refine o_assign rfl ?_
  refine o_nil ?_
  refine k_seq ?_
  refine k_seq (k_region ?_)
  refine o_loadN rfl rfl rfl sh28 rfl ?_
  refine o_call rfl (ret7 hi hb) (.lrefl _) ?_
  refine o_not rfl rfl ?_
  refine o_nil ?_
  refine k_cF rfl rfl ?_
  refine k_skip ?_
  refine k_seq (k_region ?_)
  refine o_loadN rfl rfl rfl sh28 rfl ?_
  refine o_call rfl (h19) (.lrefl _) ?_
  refine o_move rfl ?_
  refine o_extract rfl rfl rfl ?_
  refine o_extract rfl rfl rfl ?_
  refine o_assign rfl ?_
  refine o_assign rfl ?_
  refine o_nil ?_
  refine k_seq (k_region ?_)
  refine o_loadN rfl rfl rfl sh28 rfl ?_
  refine o_call rfl (h20) (.lrefl _) ?_
  refine o_move rfl ?_
  refine o_extract rfl rfl rfl ?_
  refine o_extract rfl rfl rfl ?_
  refine o_assign rfl ?_
  refine o_assign rfl ?_
  refine o_nil ?_
  refine k_seq (k_region ?_)
  refine o_assign rfl ?_
  refine o_nil ?_
  refine k_seq ?_
  refine k_seq (k_region ?_)
  refine o_move rfl ?_
  refine o_eql rfl rfl rfl ?_
  refine o_nil ?_
  refine k_cT rfl rfl ?_
  refine k_region ?_
  refine o_move rfl ?_
  refine o_assign rfl ?_
  refine o_nil ?_
  refine k_gen [(1, .int .i64 fw), (2, .box 0 0), (5, .int .i64 (n : Int)), (6, .int .i64 0), (7, .int .i64 (k : Int)), (8, .int .i64 0), (9, .int .i64 (n : Int))] [.box b.cs] (.cons rfl (.cons rfl (.cons rfl (.cons rfl (.cons rfl (.cons rfl (.cons rfl (.nil rfl)))))))) rfl fun fr => ?_
  refine k_seq ?_
  refine k_seq (k_region ?_)
  refine o_move rfl ?_
  refine o_eql rfl rfl rfl ?_
  refine o_move rfl ?_
  refine o_gD rfl rfl rfl rfl (decide_eq_false (by decide : ¬ ((0 : Int) = 22))) ?_
  refine o_move rfl ?_
  refine o_gD rfl rfl rfl rfl (decide_eq_false (by decide : ¬ ((0 : Int) = 22))) ?_
  refine o_eql rfl rfl rfl ?_
  refine o_pickF rfl rfl (decide_eq_false (by decide : ¬ ((0 : Int) = 22))) ?_
  refine o_nil ?_
  refine k_cF rfl (decide_eq_false (by decide : ¬ ((0 : Int) = 22))) ?_
  refine k_skip ?_
  refine k_gen [(1, .int .i64 fw), (2, .box 0 0), (5, .int .i64 (n : Int)), (6, .int .i64 0), (7, .int .i64 (k : Int)), (8, .int .i64 0), (9, .int .i64 (n : Int))] [.box b.cs] (.cons rfl (.cons rfl (.cons rfl (.cons rfl (.cons rfl (.cons rfl (.cons rfl (.nil rfl)))))))) rfl fun fr => ?_
  refine k_seq ?_
  refine k_seq (k_region ?_)
  refine o_move rfl ?_
  refine o_neq rfl rfl rfl ?_
  refine o_move rfl ?_
  refine o_gS rfl rfl rfl rfl (decide_eq_false (fun h => h rfl)) ?_
  refine o_gS rfl rfl rfl rfl (decide_eq_false (fun h => h rfl)) ?_
  refine o_gS rfl rfl rfl rfl (decide_eq_false (fun h => h rfl)) ?_
  refine o_dead rfl rfl rfl rfl ?_
  refine o_dead rfl rfl rfl rfl ?_
  refine o_gS rfl rfl rfl rfl (decide_eq_false (fun h => h rfl)) ?_
  refine o_pickF rfl rfl (decide_eq_false (fun h => h rfl)) ?_
  refine o_move rfl ?_
  refine o_gD rfl rfl rfl rfl rfl ?_
  refine o_move rfl ?_
  refine o_gD rfl rfl rfl rfl rfl ?_
  refine o_neq rfl rfl rfl ?_
  refine o_gD rfl rfl rfl rfl rfl ?_
  refine o_move rfl ?_
  refine o_gS rfl rfl rfl rfl (decide_eq_false (fun h => h rfl)) ?_
  refine o_gS rfl rfl rfl rfl (decide_eq_false (fun h => h rfl)) ?_
  refine o_gS rfl rfl rfl rfl (decide_eq_false (fun h => h rfl)) ?_
  refine o_dead rfl rfl rfl rfl ?_
  refine o_dead rfl rfl rfl rfl ?_
  refine o_gS rfl rfl rfl rfl (decide_eq_false (fun h => h rfl)) ?_
  refine o_gD rfl rfl rfl rfl rfl ?_
  refine o_pickF rfl rfl (decide_eq_false (fun h => h rfl)) ?_
  refine o_pickF rfl rfl rfl ?_
  refine o_move rfl ?_
  refine o_gD rfl rfl rfl rfl rfl ?_
  refine o_move rfl ?_
  refine o_gD rfl rfl rfl rfl rfl ?_
  refine o_call rfl (ret15 hi _ 0 300) (.lrefl _) ?_
  refine o_gD rfl rfl rfl rfl rfl ?_
  refine o_not rfl rfl ?_
  refine o_pickF rfl rfl rfl ?_
  refine o_move rfl ?_
  refine o_gD rfl rfl rfl rfl g80 ?_
  refine o_move rfl ?_
  refine o_gD rfl rfl rfl rfl g80 ?_
  refine o_call rfl (ret15 hi _ 0 300) (.lrefl _) ?_
  refine o_gD rfl rfl rfl rfl g80 ?_
  refine o_not rfl rfl ?_
  refine o_pickF rfl rfl g80 ?_
  refine o_nil ?_
  refine k_cF rfl g84 ?_
  refine k_skip ?_
  refine k_gen [(1, .int .i64 fw), (2, .box 0 0), (5, .int .i64 (n : Int)), (6, .int .i64 0), (7, .int .i64 (k : Int)), (8, .int .i64 0), (9, .int .i64 (n : Int))] [.box b.cs] (.cons rfl (.cons rfl (.cons rfl (.cons rfl (.cons rfl (.cons rfl (.cons rfl (.nil rfl)))))))) rfl fun fr => ?_
  refine k_seq ?_
  refine k_seq (k_region ?_)
  refine o_move rfl ?_
  refine o_eql rfl rfl rfl ?_
  refine o_nil ?_
  refine k_cT rfl rfl ?_
  refine k_seq (k_region ?_)
  refine o_loadN rfl rfl rfl sh28 rfl ?_
  refine o_move rfl ?_
  refine o_call rfl (ret13 hi hb hT (n : Int) (by omega)) (.lrefl _) ?_
  refine o_move rfl ?_
  refine o_extract rfl rfl rfl ?_
  refine o_extract rfl rfl rfl ?_
  refine o_alloc rfl ze24 ?_
  refine o_storeN rfl rfl sh24 rfl rfl rfl rfl rfl ?_
  refine o_assign rfl ?_
  refine o_nil ?_
  refine k_gen [(1, .int .i64 fw), (2, .box 0 0), (5, .int .i64 (n : Int)), (6, .int .i64 0), (7, .int .i64 (k : Int)), (8, .int .i64 0), (9, .int .i64 (n : Int)), (10, .box 1 0), (11, .int .i64 0)] [.box b.cs, .box [.int .i64 (lowT b.thick (q :: l) (n : Int)), .int .i64 (highT b.thick (q :: l) (n : Int))]] (.cons rfl (.cons rfl (.cons rfl (.cons rfl (.cons rfl (.cons rfl (.cons rfl (.cons rfl (.cons rfl (.nil rfl)))))))))) rfl fun fr => ?_
  refine k_seq (k_region ?_)
  refine o_move rfl ?_
  refine o_neq rfl rfl rfl ?_
  refine o_move rfl ?_
  refine o_gD rfl rfl rfl rfl (decide_eq_false (fun h => h rfl)) ?_
  refine o_loadN rfl rfl rfl sh24 rfl ?_
  refine o_gD rfl rfl rfl rfl (decide_eq_false (fun h => h rfl)) ?_
  refine o_faddr rfl rfl fld28_4 ?_
  refine o_gD rfl rfl rfl rfl (decide_eq_false (fun h => h rfl)) ?_
  refine o_loadN rfl rfl rfl sh24 rfl ?_
  refine o_gD rfl rfl rfl rfl (decide_eq_false (fun h => h rfl)) ?_
  refine o_call rfl (ret21 hi _ _ _ _) (.lrefl _) ?_
  refine o_gD rfl rfl rfl rfl (decide_eq_false (fun h => h rfl)) ?_
  refine o_not rfl rfl ?_
  refine o_pickF rfl rfl (decide_eq_false (fun h => h rfl)) ?_
  refine o_move rfl ?_
  refine o_gD rfl rfl rfl rfl g102 ?_
  refine o_faddr rfl rfl fld24_0 ?_
  refine o_gD rfl rfl rfl rfl g102 ?_
  refine o_load1 rfl rfl rfl sh3 rfl ?_
  refine o_gD rfl rfl rfl rfl g102 ?_
  refine o_faddr rfl rfl fld28_3 ?_
  refine o_gD rfl rfl rfl rfl g102 ?_
  refine o_load1 rfl rfl rfl sh3 rfl ?_
  refine o_gD rfl rfl rfl rfl g102 ?_
  refine o_lss rfl rfl rfl ?_
  refine o_pickF rfl rfl g102 ?_
  refine o_move rfl ?_
  refine o_gD rfl rfl rfl rfl g109 ?_
  refine o_move rfl ?_
  refine o_gD rfl rfl rfl rfl g109 ?_
  refine o_neq rfl rfl rfl ?_
  refine o_pickF rfl rfl g109 ?_
  refine o_move rfl ?_
  refine o_gD rfl rfl rfl rfl (decide_eq_false (fun h => h rfl)) ?_
  refine o_move rfl ?_
  refine o_gD rfl rfl rfl rfl (decide_eq_false (fun h => h rfl)) ?_
  refine o_move rfl ?_
  refine o_gD rfl rfl rfl rfl (decide_eq_false (fun h => h rfl)) ?_
  refine o_lss rfl rfl rfl ?_
  refine o_pickF rfl rfl (decide_eq_false (fun h => h rfl)) ?_
  refine o_nil ?_
  refine k_cF rfl g117 ?_
  refine k_skip ?_
  refine k_gen [(1, .int .i64 fw), (2, .box 0 0), (5, .int .i64 (n : Int)), (6, .int .i64 0), (7, .int .i64 (k : Int)), (8, .int .i64 0), (9, .int .i64 (n : Int))] [.box b.cs, .box [.int .i64 (lowT b.thick (q :: l) (n : Int)), .int .i64 (highT b.thick (q :: l) (n : Int))]] (.cons rfl (.cons rfl (.cons rfl (.cons rfl (.cons rfl (.cons rfl (.cons rfl (.nil rfl)))))))) rfl fun fr => ?_
  refine k_seq ?_
  refine k_seq (k_region ?_)
  refine o_move rfl ?_
  refine o_gtr rfl rfl rfl ?_
  refine o_nil ?_
  refine k_cF rfl g119 ?_
  refine k_skip ?_
  refine k_gen [(1, .int .i64 fw), (2, .box 0 0), (5, .int .i64 (n : Int)), (6, .int .i64 0), (7, .int .i64 (k : Int)), (8, .int .i64 0), (9, .int .i64 (n : Int))] [.box b.cs, .box [.int .i64 (lowT b.thick (q :: l) (n : Int)), .int .i64 (highT b.thick (q :: l) (n : Int))]] (.cons rfl (.cons rfl (.cons rfl (.cons rfl (.cons rfl (.cons rfl (.cons rfl (.nil rfl)))))))) rfl fun fr => ?_
  refine k_seq ?_
  refine k_seq (k_region ?_)
  refine o_move rfl ?_
  refine o_neq rfl rfl rfl ?_
  refine o_nil ?_
  refine k_cF rfl (decide_eq_false (fun h => h rfl)) ?_
  refine k_skip ?_
  refine k_seq (k_region ?_)
  refine o_loadN rfl rfl rfl sh28 rfl ?_
  refine o_move rfl ?_
  refine o_call rfl (ret13 hi hb hT (k : Int) (by omega)) (.lrefl _) ?_
  refine o_move rfl ?_
  refine o_extract rfl rfl rfl ?_
  refine o_extract rfl rfl rfl ?_
  refine o_alloc rfl ze24 ?_
  refine o_storeN rfl rfl sh24 rfl rfl rfl rfl rfl ?_
  refine o_assign rfl ?_
  refine o_nil ?_
  refine k_gen [(2, .box 0 0), (7, .int .i64 (k : Int)), (14, .box 2 0), (15, .int .i64 0)] [.box b.cs, .box [.int .i64 (lowT b.thick (q :: l) (n : Int)), .int .i64 (highT b.thick (q :: l) (n : Int))], .box [.int .i64 (lowT b.thick (q :: l) (k : Int)), .int .i64 (highT b.thick (q :: l) (k : Int))]] (.cons rfl (.cons rfl (.cons rfl (.cons rfl (.nil rfl))))) rfl fun fr => ?_
  refine k_seq ?_
  refine k_seq (k_region ?_)
  refine o_move rfl ?_
  refine o_neq rfl rfl rfl ?_
  refine o_move rfl ?_
  refine o_gD rfl rfl rfl rfl (decide_eq_false (fun h => h rfl)) ?_
  refine o_faddr rfl rfl fld24_0 ?_
  refine o_gD rfl rfl rfl rfl (decide_eq_false (fun h => h rfl)) ?_
  refine o_load1 rfl rfl rfl sh3 rfl ?_
  refine o_gD rfl rfl rfl rfl (decide_eq_false (fun h => h rfl)) ?_
  refine o_faddr rfl rfl fld28_3 ?_
  refine o_gD rfl rfl rfl rfl (decide_eq_false (fun h => h rfl)) ?_
  refine o_load1 rfl rfl rfl sh3 rfl ?_
  refine o_gD rfl rfl rfl rfl (decide_eq_false (fun h => h rfl)) ?_
  refine o_lss rfl rfl rfl ?_
  refine o_pickF rfl rfl (decide_eq_false (fun h => h rfl)) ?_
  refine o_nil ?_
  refine k_cF rfl g167 ?_
  refine k_skip ?_
  refine k_gen [(2, .box 0 0), (7, .int .i64 (k : Int)), (14, .box 2 0), (15, .int .i64 0)] [.box b.cs, .box [.int .i64 (lowT b.thick (q :: l) (n : Int)), .int .i64 (highT b.thick (q :: l) (n : Int))], .box [.int .i64 (lowT b.thick (q :: l) (k : Int)), .int .i64 (highT b.thick (q :: l) (k : Int))]] (.cons rfl (.cons rfl (.cons rfl (.cons rfl (.nil rfl))))) rfl fun fr => ?_
  refine k_seq ?_
  refine k_seq (k_region ?_)
  refine o_move rfl ?_
  refine o_eql rfl rfl rfl ?_
  refine o_nil ?_
  refine k_cT rfl g169 ?_
  refine k_seq (k_region ?_)
  refine o_call rfl (r8) (.lrefl _) ?_
  refine o_assign rfl ?_
  refine o_nil ?_
  refine k_ret ?_
  refine ⟨.inr rfl, _, .cons _ _ _ _ (.tmp 4) .nil, ?_⟩
  exact .refl _

set_option maxHeartbeats 4000000 in
theorem ret5f (hi : Off is) {b : Bk} (hb : Ok b) {q : Tri} {l : List Tri} (hT : trs b = q :: l) (fw : Int) (r8 : RetP Try.prog is orc 8 [] (.bool true)) (h1 : fstN (fun i => doneT b (q :: l) i) 301 0 = none) {k : Nat} (h2 : lstN (fun i => soundT b (q :: l) i) 301 = some k) (hk : k ≤ 300) (g119 : decide (0 < (301 : Int)) = true) (g142 : (decide (b.glo ≤ lowT b.thick (q :: l) (fw % (301 : Int))) && decide (highT b.thick (q :: l) (fw % (301 : Int)) ≤ b.ghi)) = true → decide (b.crack ≤ lowT b.thick (q :: l) (fw % (301 : Int))) = false) (g167 : decide (lowT b.thick (q :: l) (k : Int) < b.crack) = false) (g169 : decide ((k : Int) = 300) = false) (g187 : decide (lowT b.thick (q :: l) ((k : Int) + 1) < b.crack) = true) : RetP Try.prog is orc 5 [b.u, .int .i64 fw] (.bool true) := by
  refine ret_of body5 pure5 (hi 5 (by decide)) rfl rfl (dat_l2 (dat_bk b 5) (.int _ _ _)) (.inl (.bool _ _)) ?_
  have h19 : RetP Try.prog is orc 19 [b.u] (.tup [.int .i64 (0 : Int), .int .i64 4]) := by have := ret19 (orc := orc) hi hb hT; rwa [h1] at this
  have h20 : RetP Try.prog is orc 20 [b.u] (.tup [.int .i64 (k : Int), .int .i64 0]) := by have := ret20 (orc := orc) hi hb hT; rwa [h2] at this
  have g80 : (!(decide (0 ≤ (0 : Int)) && decide ((0 : Int) ≤ 300))) = false := by simp; try omega
  have g84 : (!(decide (0 ≤ (k : Int)) && decide ((k : Int) ≤ 300))) = false := by simp; try omega
  have hu : 0 < (301 : Int) := of_decide_eq_true g119
  have m0 := Int.emod_nonneg fw (show (301 : Int) ≠ 0 by omega); have m1 := Int.emod_lt_of_pos fw hu
  have gk : ¬ ((k : Int)) = 300 := of_decide_eq_false g169
  refine k_seq (k_region ?_)
  refine o_box rfl rfl ?_
  refine o_assign rfl ?_
  refine o_nil ?_
  refine k_seq ?_
  refine k_seq (k_region ?_)
  refine o_loadN rfl rfl rfl sh28 rfl ?_
  refine o_call rfl (ret7 hi hb) (.lrefl _) ?_
  refine o_not rfl rfl ?_
  refine o_nil ?_
  refine k_cF rfl rfl ?_
  refine k_skip ?_
  refine k_seq (k_region ?_)
  refine o_loadN rfl rfl rfl sh28 rfl ?_
  refine o_call rfl (h19) (.lrefl _) ?_
  refine o_move rfl ?_
  refine o_extract rfl rfl rfl ?_
  refine o_extract rfl rfl rfl ?_
  refine o_assign rfl ?_
  refine o_assign rfl ?_
  refine o_nil ?_
  refine k_seq (k_region ?_)
  refine o_loadN rfl rfl rfl sh28 rfl ?_
  refine o_call rfl (h20) (.lrefl _) ?_
  refine o_move rfl ?_
  refine o_extract rfl rfl rfl ?_
  refine o_extract rfl rfl rfl ?_
  refine o_assign rfl ?_
  refine o_assign rfl ?_
  refine o_nil ?_
  refine k_seq (k_region ?_)
  refine o_assign rfl ?_
  refine o_nil ?_
  refine k_seq ?_
  refine k_seq (k_region ?_)
  refine o_move rfl ?_
  refine o_eql rfl rfl rfl ?_
  refine o_nil ?_
  refine k_cF rfl (decide_eq_false (by decide : ¬ ((4 : Int) = 0))) ?_
  refine k_skip ?_
  refine k_gen [(1, .int .i64 fw), (2, .box 0 0), (5, .int .i64 (0 : Int)), (6, .int .i64 4), (7, .int .i64 (k : Int)), (8, .int .i64 0), (9, .int .i64 (301 : Int))] [.box b.cs] (.cons rfl (.cons rfl (.cons rfl (.cons rfl (.cons rfl (.cons rfl (.cons rfl (.nil rfl)))))))) rfl fun fr => ?_
  refine k_seq ?_
  refine k_seq (k_region ?_)
  refine o_move rfl ?_
  refine o_eql rfl rfl rfl ?_
  refine o_move rfl ?_
  refine o_gD rfl rfl rfl rfl (decide_eq_false (by decide : ¬ ((4 : Int) = 22))) ?_
  refine o_move rfl ?_
  refine o_gD rfl rfl rfl rfl (decide_eq_false (by decide : ¬ ((4 : Int) = 22))) ?_
  refine o_eql rfl rfl rfl ?_
  refine o_pickF rfl rfl (decide_eq_false (by decide : ¬ ((4 : Int) = 22))) ?_
  refine o_nil ?_
  refine k_cF rfl (decide_eq_false (by decide : ¬ ((0 : Int) = 22))) ?_
  refine k_skip ?_
  refine k_gen [(1, .int .i64 fw), (2, .box 0 0), (5, .int .i64 (0 : Int)), (6, .int .i64 4), (7, .int .i64 (k : Int)), (8, .int .i64 0), (9, .int .i64 (301 : Int))] [.box b.cs] (.cons rfl (.cons rfl (.cons rfl (.cons rfl (.cons rfl (.cons rfl (.cons rfl (.nil rfl)))))))) rfl fun fr => ?_
  refine k_seq ?_
  refine k_seq (k_region ?_)
  refine o_move rfl ?_
  refine o_neq rfl rfl rfl ?_
  refine o_move rfl ?_
  refine o_gD rfl rfl rfl rfl (decide_eq_true (by decide : (4 : Int) ≠ 0)) ?_
  refine o_move rfl ?_
  refine o_gD rfl rfl rfl rfl (decide_eq_true (by decide : (4 : Int) ≠ 0)) ?_
  refine o_neq rfl rfl rfl ?_
  refine o_gD rfl rfl rfl rfl (decide_eq_true (by decide : (4 : Int) ≠ 0)) ?_
  refine o_move rfl ?_
  refine o_gD rfl rfl rfl rfl (decide_eq_false (fun h => h rfl)) ?_
  refine o_move rfl ?_
  refine o_gD rfl rfl rfl rfl (decide_eq_false (fun h => h rfl)) ?_
  refine o_neq rfl rfl rfl ?_
  refine o_gD rfl rfl rfl rfl (decide_eq_true (by decide : (4 : Int) ≠ 0)) ?_
  refine o_pickF rfl rfl (decide_eq_false (fun h => h rfl)) ?_
  refine o_pickT rfl rfl (decide_eq_true (by decide : (4 : Int) ≠ 0)) ?_
  refine o_move rfl ?_
  refine o_gD rfl rfl rfl rfl (decide_eq_false (fun h => h rfl)) ?_
  refine o_move rfl ?_
  refine o_gD rfl rfl rfl rfl (decide_eq_false (fun h => h rfl)) ?_
  refine o_neq rfl rfl rfl ?_
  refine o_gD rfl rfl rfl rfl (decide_eq_false (fun h => h rfl)) ?_
  refine o_move rfl ?_
  refine o_gS rfl rfl rfl rfl (decide_eq_false (fun h => h rfl)) ?_
  refine o_gS rfl rfl rfl rfl (decide_eq_false (fun h => h rfl)) ?_
  refine o_gS rfl rfl rfl rfl (decide_eq_false (fun h => h rfl)) ?_
  refine o_dead rfl rfl rfl rfl ?_
  refine o_dead rfl rfl rfl rfl ?_
  refine o_gS rfl rfl rfl rfl (decide_eq_false (fun h => h rfl)) ?_
  refine o_gD rfl rfl rfl rfl (decide_eq_false (fun h => h rfl)) ?_
  refine o_pickF rfl rfl (decide_eq_false (fun h => h rfl)) ?_
  refine o_pickF rfl rfl (decide_eq_false (fun h => h rfl)) ?_
  refine o_move rfl ?_
  refine o_gD rfl rfl rfl rfl rfl ?_
  refine o_move rfl ?_
  refine o_gD rfl rfl rfl rfl rfl ?_
  refine o_call rfl (ret15 hi _ 0 300) (.lrefl _) ?_
  refine o_gD rfl rfl rfl rfl rfl ?_
  refine o_not rfl rfl ?_
  refine o_pickF rfl rfl rfl ?_
  refine o_move rfl ?_
  refine o_gD rfl rfl rfl rfl g80 ?_
  refine o_move rfl ?_
  refine o_gD rfl rfl rfl rfl g80 ?_
  refine o_call rfl (ret15 hi _ 0 300) (.lrefl _) ?_
  refine o_gD rfl rfl rfl rfl g80 ?_
  refine o_not rfl rfl ?_
  refine o_pickF rfl rfl g80 ?_
  refine o_nil ?_
  refine k_cF rfl g84 ?_
  refine k_skip ?_
  refine k_gen [(1, .int .i64 fw), (2, .box 0 0), (5, .int .i64 (0 : Int)), (6, .int .i64 4), (7, .int .i64 (k : Int)), (8, .int .i64 0), (9, .int .i64 (301 : Int))] [.box b.cs] (.cons rfl (.cons rfl (.cons rfl (.cons rfl (.cons rfl (.cons rfl (.cons rfl (.nil rfl)))))))) rfl fun fr => ?_
  refine k_seq ?_
  refine k_seq (k_region ?_)
  refine o_move rfl ?_
  refine o_eql rfl rfl rfl ?_
  refine o_nil ?_
  refine k_cF rfl (decide_eq_false (by decide : ¬ ((4 : Int) = 0))) ?_
  refine k_skip ?_
  refine k_gen [(1, .int .i64 fw), (2, .box 0 0), (5, .int .i64 (0 : Int)), (6, .int .i64 4), (7, .int .i64 (k : Int)), (8, .int .i64 0), (9, .int .i64 (301 : Int))] [.box b.cs] (.cons rfl (.cons rfl (.cons rfl (.cons rfl (.cons rfl (.cons rfl (.cons rfl (.nil rfl)))))))) rfl fun fr => ?_
  refine k_seq ?_
  refine k_seq (k_region ?_)
  refine o_move rfl ?_
  refine o_gtr rfl rfl rfl ?_
  refine o_nil ?_
  refine k_cT rfl g119 ?_
  refine k_seq ?_
  refine k_draw [.read true, .plain, .plain, .read false, .read false, .plain, .plain, .plain, .pre, .plain, .plain] (by kernel_rfl) (by kernel_rfl) (by kernel_rfl) ?_
  refine d_load rfl (o_loadN rfl rfl rfl sh28 rfl (o_nil rfl)) ?_
  refine d_plain (o_move rfl (o_nil rfl)) ?_
  refine d_plain (o_move rfl (o_nil rfl)) ?_
  refine d_callR rfl (ret11 hi fw (301 : Int) hu (by omega)) (flat_int _) (.lrefl _) ?_
  refine d_callR rfl (ret13 hi hb hT (fw % (301 : Int)) (by omega)) (flat_sp _ _ _) (.lrefl _) ?_
  refine d_plain (o_move rfl (o_nil rfl)) ?_
  refine d_plain (o_extract rfl rfl rfl (o_nil rfl)) ?_
  refine d_plain (o_extract rfl rfl rfl (o_nil rfl)) ?_
  refine d_pre rfl ze24 ?_
  refine d_plain (o_storeN rfl rfl sh24 rfl rfl rfl rfl rfl (o_nil rfl)) ?_
  refine d_plain (o_assign rfl (o_nil rfl)) ?_
  refine d_nil ?_
  refine k_gen [(1, .int .i64 fw), (2, .box 0 0), (5, .int .i64 (0 : Int)), (6, .int .i64 4), (7, .int .i64 (k : Int)), (8, .int .i64 0), (9, .int .i64 (301 : Int)), (12, .box 1 0), (13, .int .i64 0)] [.box b.cs, .box [.int .i64 (lowT b.thick (q :: l) (fw % (301 : Int))), .int .i64 (highT b.thick (q :: l) (fw % (301 : Int)))]] (.cons rfl (.cons rfl (.cons rfl (.cons rfl (.cons rfl (.cons rfl (.cons rfl (.cons rfl (.cons rfl (.nil rfl)))))))))) rfl fun fr => ?_
  refine k_seq (k_region ?_)
  refine o_move rfl ?_
  refine o_neq rfl rfl rfl ?_
  refine o_move rfl ?_
  refine o_gD rfl rfl rfl rfl (decide_eq_false (fun h => h rfl)) ?_
  refine o_loadN rfl rfl rfl sh24 rfl ?_
  refine o_gD rfl rfl rfl rfl (decide_eq_false (fun h => h rfl)) ?_
  refine o_faddr rfl rfl fld28_4 ?_
  refine o_gD rfl rfl rfl rfl (decide_eq_false (fun h => h rfl)) ?_
  refine o_loadN rfl rfl rfl sh24 rfl ?_
  refine o_gD rfl rfl rfl rfl (decide_eq_false (fun h => h rfl)) ?_
  refine o_call rfl (ret21 hi _ _ _ _) (.lrefl _) ?_
  refine o_gD rfl rfl rfl rfl (decide_eq_false (fun h => h rfl)) ?_
  refine o_move rfl ?_
  refine o_guard rfl rfl rfl rfl (fun h1 => ?_) (fun h1 => ?_)
  · refine o_faddr rfl rfl fld24_0 ?_
    refine o_gD rfl rfl rfl rfl h1 ?_
    refine o_load1 rfl rfl rfl sh3 rfl ?_
    refine o_gD rfl rfl rfl rfl h1 ?_
    refine o_faddr rfl rfl fld28_3 ?_
    refine o_gD rfl rfl rfl rfl h1 ?_
    refine o_load1 rfl rfl rfl sh3 rfl ?_
    refine o_gD rfl rfl rfl rfl h1 ?_
    refine o_geq rfl rfl rfl ?_
    refine o_gD rfl rfl rfl rfl (decide_eq_false (fun h => h rfl)) ?_
    refine o_pickT rfl rfl h1 ?_
    refine o_pickF rfl rfl (decide_eq_false (fun h => h rfl)) ?_
    refine o_nil ?_
    refine k_cF rfl (by first | exact g142 (by assumption) | rfl) ?_
    refine k_skip ?_
    refine k_gen [(1, .int .i64 fw), (2, .box 0 0), (5, .int .i64 (0 : Int)), (6, .int .i64 4), (7, .int .i64 (k : Int)), (8, .int .i64 0), (9, .int .i64 (301 : Int))] [.box b.cs, .box [.int .i64 (lowT b.thick (q :: l) (fw % (301 : Int))), .int .i64 (highT b.thick (q :: l) (fw % (301 : Int)))]] (.cons rfl (.cons rfl (.cons rfl (.cons rfl (.cons rfl (.cons rfl (.cons rfl (.nil rfl)))))))) rfl fun fr => ?_
    refine k_seq ?_
    refine k_seq (k_region ?_)
    refine o_move rfl ?_
    refine o_neq rfl rfl rfl ?_
    refine o_nil ?_
    refine k_cF rfl (decide_eq_false (fun h => h rfl)) ?_
    refine k_skip ?_
    refine k_seq (k_region ?_)
    refine o_loadN rfl rfl rfl sh28 rfl ?_
    refine o_move rfl ?_
    refine o_call rfl (ret13 hi hb hT (k : Int) (by omega)) (.lrefl _) ?_
    refine o_move rfl ?_
    refine o_extract rfl rfl rfl ?_
    refine o_extract rfl rfl rfl ?_
    refine o_alloc rfl ze24 ?_
    refine o_storeN rfl rfl sh24 rfl rfl rfl rfl rfl ?_
    refine o_assign rfl ?_
    refine o_nil ?_
    refine k_gen [(2, .box 0 0), (7, .int .i64 (k : Int)), (14, .box 2 0), (15, .int .i64 0)] [.box b.cs, .box [.int .i64 (lowT b.thick (q :: l) (fw % (301 : Int))), .int .i64 (highT b.thick (q :: l) (fw % (301 : Int)))], .box [.int .i64 (lowT b.thick (q :: l) (k : Int)), .int .i64 (highT b.thick (q :: l) (k : Int))]] (.cons rfl (.cons rfl (.cons rfl (.cons rfl (.nil rfl))))) rfl fun fr => ?_
    refine k_seq ?_
    refine k_seq (k_region ?_)
    refine o_move rfl ?_
    refine o_neq rfl rfl rfl ?_
    refine o_move rfl ?_
    refine o_gD rfl rfl rfl rfl (decide_eq_false (fun h => h rfl)) ?_
    refine o_faddr rfl rfl fld24_0 ?_
    refine o_gD rfl rfl rfl rfl (decide_eq_false (fun h => h rfl)) ?_
    refine o_load1 rfl rfl rfl sh3 rfl ?_
    refine o_gD rfl rfl rfl rfl (decide_eq_false (fun h => h rfl)) ?_
    refine o_faddr rfl rfl fld28_3 ?_
    refine o_gD rfl rfl rfl rfl (decide_eq_false (fun h => h rfl)) ?_
    refine o_load1 rfl rfl rfl sh3 rfl ?_
    refine o_gD rfl rfl rfl rfl (decide_eq_false (fun h => h rfl)) ?_
    refine o_lss rfl rfl rfl ?_
    refine o_pickF rfl rfl (decide_eq_false (fun h => h rfl)) ?_
    refine o_nil ?_
    refine k_cF rfl g167 ?_
    refine k_skip ?_
    refine k_gen [(2, .box 0 0), (7, .int .i64 (k : Int)), (14, .box 2 0), (15, .int .i64 0)] [.box b.cs, .box [.int .i64 (lowT b.thick (q :: l) (fw % (301 : Int))), .int .i64 (highT b.thick (q :: l) (fw % (301 : Int)))], .box [.int .i64 (lowT b.thick (q :: l) (k : Int)), .int .i64 (highT b.thick (q :: l) (k : Int))]] (.cons rfl (.cons rfl (.cons rfl (.cons rfl (.nil rfl))))) rfl fun fr => ?_
    refine k_seq ?_
    refine k_seq (k_region ?_)
    refine o_move rfl ?_
    refine o_eql rfl rfl rfl ?_
    refine o_nil ?_
    refine k_cF rfl g169 ?_
    refine k_skip ?_
    refine k_seq (k_region ?_)
    refine o_loadN rfl rfl rfl sh28 rfl ?_
    refine o_move rfl ?_
    refine o_add rfl rfl rfl (by unfold I64; omega) ?_
    refine o_call rfl (ret13 hi hb hT ((k : Int) + 1) (by omega)) (.lrefl _) ?_
    refine o_move rfl ?_
    refine o_extract rfl rfl rfl ?_
    refine o_extract rfl rfl rfl ?_
    refine o_storeN rfl rfl sh24 rfl rfl rfl rfl rfl ?_
    refine o_assign rfl ?_
    refine o_nil ?_
    refine k_seq (k_region ?_)
    refine o_move rfl ?_
    refine o_eql rfl rfl rfl ?_
    refine o_move rfl ?_
    refine o_gD rfl rfl rfl rfl rfl ?_
    refine o_faddr rfl rfl fld24_0 ?_
    refine o_gD rfl rfl rfl rfl rfl ?_
    refine o_load1 rfl rfl rfl sh3 rfl ?_
    refine o_gD rfl rfl rfl rfl rfl ?_
    refine o_faddr rfl rfl fld28_3 ?_
    refine o_gD rfl rfl rfl rfl rfl ?_
    refine o_load1 rfl rfl rfl sh3 rfl ?_
    refine o_gD rfl rfl rfl rfl rfl ?_
    refine o_lss rfl rfl rfl ?_
    refine o_pickT rfl rfl rfl ?_
    refine o_move rfl ?_
    refine o_gD rfl rfl rfl rfl g187 ?_
    refine o_call rfl (r8) (.lrefl _) ?_
    refine o_pickT rfl rfl g187 ?_
    refine o_assign rfl ?_
    refine o_nil ?_
    refine k_ret ?_
    refine ⟨.inr rfl, _, .cons _ _ _ _ (.tmp 4) .nil, ?_⟩
    exact .refl _
  · refine o_gS rfl rfl rfl rfl h1 ?_
    refine o_gS rfl rfl rfl rfl h1 ?_
    refine o_gS rfl rfl rfl rfl h1 ?_
    refine o_gS rfl rfl rfl rfl h1 ?_
    refine o_gD rfl rfl rfl rfl (decide_eq_false (fun h => h rfl)) ?_
    refine o_pickF rfl rfl h1 ?_
    refine o_pickF rfl rfl (decide_eq_false (fun h => h rfl)) ?_
    refine o_nil ?_
    refine k_cond rfl (fun h => by cases h) (fun _ => ?_)
    refine k_skip ?_
    refine k_gen [(1, .int .i64 fw), (2, .box 0 0), (5, .int .i64 (0 : Int)), (6, .int .i64 4), (7, .int .i64 (k : Int)), (8, .int .i64 0), (9, .int .i64 (301 : Int))] [.box b.cs, .box [.int .i64 (lowT b.thick (q :: l) (fw % (301 : Int))), .int .i64 (highT b.thick (q :: l) (fw % (301 : Int)))]] (.cons rfl (.cons rfl (.cons rfl (.cons rfl (.cons rfl (.cons rfl (.cons rfl (.nil rfl)))))))) rfl fun fr => ?_
    refine k_seq ?_
    refine k_seq (k_region ?_)
    refine o_move rfl ?_
    refine o_neq rfl rfl rfl ?_
    refine o_nil ?_
    refine k_cF rfl (decide_eq_false (fun h => h rfl)) ?_
    refine k_skip ?_
    refine k_seq (k_region ?_)
    refine o_loadN rfl rfl rfl sh28 rfl ?_
    refine o_move rfl ?_
    refine o_call rfl (ret13 hi hb hT (k : Int) (by omega)) (.lrefl _) ?_
    refine o_move rfl ?_
    refine o_extract rfl rfl rfl ?_
    refine o_extract rfl rfl rfl ?_
    refine o_alloc rfl ze24 ?_
    refine o_storeN rfl rfl sh24 rfl rfl rfl rfl rfl ?_
    refine o_assign rfl ?_
    refine o_nil ?_
    refine k_gen [(2, .box 0 0), (7, .int .i64 (k : Int)), (14, .box 2 0), (15, .int .i64 0)] [.box b.cs, .box [.int .i64 (lowT b.thick (q :: l) (fw % (301 : Int))), .int .i64 (highT b.thick (q :: l) (fw % (301 : Int)))], .box [.int .i64 (lowT b.thick (q :: l) (k : Int)), .int .i64 (highT b.thick (q :: l) (k : Int))]] (.cons rfl (.cons rfl (.cons rfl (.cons rfl (.nil rfl))))) rfl fun fr => ?_
    refine k_seq ?_
    refine k_seq (k_region ?_)
    refine o_move rfl ?_
    refine o_neq rfl rfl rfl ?_
    refine o_move rfl ?_
    refine o_gD rfl rfl rfl rfl (decide_eq_false (fun h => h rfl)) ?_
    refine o_faddr rfl rfl fld24_0 ?_
    refine o_gD rfl rfl rfl rfl (decide_eq_false (fun h => h rfl)) ?_
    refine o_load1 rfl rfl rfl sh3 rfl ?_
    refine o_gD rfl rfl rfl rfl (decide_eq_false (fun h => h rfl)) ?_
    refine o_faddr rfl rfl fld28_3 ?_
    refine o_gD rfl rfl rfl rfl (decide_eq_false (fun h => h rfl)) ?_
    refine o_load1 rfl rfl rfl sh3 rfl ?_
    refine o_gD rfl rfl rfl rfl (decide_eq_false (fun h => h rfl)) ?_
    refine o_lss rfl rfl rfl ?_
    refine o_pickF rfl rfl (decide_eq_false (fun h => h rfl)) ?_
    refine o_nil ?_
    refine k_cF rfl g167 ?_
    refine k_skip ?_
    refine k_gen [(2, .box 0 0), (7, .int .i64 (k : Int)), (14, .box 2 0), (15, .int .i64 0)] [.box b.cs, .box [.int .i64 (lowT b.thick (q :: l) (fw % (301 : Int))), .int .i64 (highT b.thick (q :: l) (fw % (301 : Int)))], .box [.int .i64 (lowT b.thick (q :: l) (k : Int)), .int .i64 (highT b.thick (q :: l) (k : Int))]] (.cons rfl (.cons rfl (.cons rfl (.cons rfl (.nil rfl))))) rfl fun fr => ?_
    refine k_seq ?_
    refine k_seq (k_region ?_)
    refine o_move rfl ?_
    refine o_eql rfl rfl rfl ?_
    refine o_nil ?_
    refine k_cF rfl g169 ?_
    refine k_skip ?_
    refine k_seq (k_region ?_)
    refine o_loadN rfl rfl rfl sh28 rfl ?_
    refine o_move rfl ?_
    refine o_add rfl rfl rfl (by unfold I64; omega) ?_
    refine o_call rfl (ret13 hi hb hT ((k : Int) + 1) (by omega)) (.lrefl _) ?_
    refine o_move rfl ?_
    refine o_extract rfl rfl rfl ?_
    refine o_extract rfl rfl rfl ?_
    refine o_storeN rfl rfl sh24 rfl rfl rfl rfl rfl ?_
    refine o_assign rfl ?_
    refine o_nil ?_
    refine k_seq (k_region ?_)
    refine o_move rfl ?_
    refine o_eql rfl rfl rfl ?_
    refine o_move rfl ?_
    refine o_gD rfl rfl rfl rfl rfl ?_
    refine o_faddr rfl rfl fld24_0 ?_
    refine o_gD rfl rfl rfl rfl rfl ?_
    refine o_load1 rfl rfl rfl sh3 rfl ?_
    refine o_gD rfl rfl rfl rfl rfl ?_
    refine o_faddr rfl rfl fld28_3 ?_
    refine o_gD rfl rfl rfl rfl rfl ?_
    refine o_load1 rfl rfl rfl sh3 rfl ?_
    refine o_gD rfl rfl rfl rfl rfl ?_
    refine o_lss rfl rfl rfl ?_
    refine o_pickT rfl rfl rfl ?_
    refine o_move rfl ?_
    refine o_gD rfl rfl rfl rfl g187 ?_
    refine o_call rfl (r8) (.lrefl _) ?_
    refine o_pickT rfl rfl g187 ?_
    refine o_assign rfl ?_
    refine o_nil ?_
    refine k_ret ?_
    refine ⟨.inr rfl, _, .cons _ _ _ _ (.tmp 4) .nil, ?_⟩
    exact .refl _

set_option maxHeartbeats 4000000 in
theorem ret5g (hi : Off is) {b : Bk} (hb : Ok b) {q : Tri} {l : List Tri} (hT : trs b = q :: l) (fw : Int) (r8 : RetP Try.prog is orc 8 [] (.bool true)) (h1 : fstN (fun i => doneT b (q :: l) i) 301 0 = none) {k : Nat} (h2 : lstN (fun i => soundT b (q :: l) i) 301 = some k) (hk : k ≤ 300) (g119 : decide (0 < (301 : Int)) = true) (g142 : (decide (b.glo ≤ lowT b.thick (q :: l) (fw % (301 : Int))) && decide (highT b.thick (q :: l) (fw % (301 : Int)) ≤ b.ghi)) = true → decide (b.crack ≤ lowT b.thick (q :: l) (fw % (301 : Int))) = false) (g167 : decide (lowT b.thick (q :: l) (k : Int) < b.crack) = false) (g169 : decide ((k : Int) = 300) = true) : RetP Try.prog is orc 5 [b.u, .int .i64 fw] (.bool true) := by
  refine ret_of body5 pure5 (hi 5 (by decide)) rfl rfl (dat_l2 (dat_bk b 5) (.int _ _ _)) (.inl (.bool _ _)) ?_
  have h19 : RetP Try.prog is orc 19 [b.u] (.tup [.int .i64 (0 : Int), .int .i64 4]) := by have := ret19 (orc := orc) hi hb hT; rwa [h1] at this
  have h20 : RetP Try.prog is orc 20 [b.u] (.tup [.int .i64 (k : Int), .int .i64 0]) := by have := ret20 (orc := orc) hi hb hT; rwa [h2] at this
  have g80 : (!(decide (0 ≤ (0 : Int)) && decide ((0 : Int) ≤ 300))) = false := by simp; try omega
  have g84 : (!(decide (0 ≤ (k : Int)) && decide ((k : Int) ≤ 300))) = false := by simp; try omega
  have hu : 0 < (301 : Int) := of_decide_eq_true g119
  have m0 := Int.emod_nonneg fw (show (301 : Int) ≠ 0 by omega); have m1 := Int.emod_lt_of_pos fw hu
  refine k_seq (k_region ?_)
  refine o_box rfl rfl ?_
  refine o_assign rfl ?_
  refine o_nil ?_
  refine k_seq ?_
  refine k_seq (k_region ?_)
  refine o_loadN rfl rfl rfl sh28 rfl ?_
  refine o_call rfl (ret7 hi hb) (.lrefl _) ?_
  refine o_not rfl rfl ?_
  refine o_nil ?_
  refine k_cF rfl rfl ?_
  refine k_skip ?_
  refine k_seq (k_region ?_)
  refine o_loadN rfl rfl rfl sh28 rfl ?_
  refine o_call rfl (h19) (.lrefl _) ?_
  refine o_move rfl ?_
  refine o_extract rfl rfl rfl ?_
  refine o_extract rfl rfl rfl ?_
  refine o_assign rfl ?_
  refine o_assign rfl ?_
  refine o_nil ?_
  refine k_seq (k_region ?_)
  refine o_loadN rfl rfl rfl sh28 rfl ?_
  refine o_call rfl (h20) (.lrefl _) ?_
  refine o_move rfl ?_
  refine o_extract rfl rfl rfl ?_
  refine o_extract rfl rfl rfl ?_
  refine o_assign rfl ?_
  refine o_assign rfl ?_
  refine o_nil ?_
  refine k_seq (k_region ?_)
  refine o_assign rfl ?_
  refine o_nil ?_
  refine k_seq ?_
  refine k_seq (k_region ?_)
  refine o_move rfl ?_
  refine o_eql rfl rfl rfl ?_
  refine o_nil ?_
  refine k_cF rfl (decide_eq_false (by decide : ¬ ((4 : Int) = 0))) ?_
  refine k_skip ?_
  refine k_gen [(1, .int .i64 fw), (2, .box 0 0), (5, .int .i64 (0 : Int)), (6, .int .i64 4), (7, .int .i64 (k : Int)), (8, .int .i64 0), (9, .int .i64 (301 : Int))] [.box b.cs] (.cons rfl (.cons rfl (.cons rfl (.cons rfl (.cons rfl (.cons rfl (.cons rfl (.nil rfl)))))))) rfl fun fr => ?_
  refine k_seq ?_
  refine k_seq (k_region ?_)
  refine o_move rfl ?_
  refine o_eql rfl rfl rfl ?_
  refine o_move rfl ?_
  refine o_gD rfl rfl rfl rfl (decide_eq_false (by decide : ¬ ((4 : Int) = 22))) ?_
  refine o_move rfl ?_
  refine o_gD rfl rfl rfl rfl (decide_eq_false (by decide : ¬ ((4 : Int) = 22))) ?_
  refine o_eql rfl rfl rfl ?_
  refine o_pickF rfl rfl (decide_eq_false (by decide : ¬ ((4 : Int) = 22))) ?_
  refine o_nil ?_
  refine k_cF rfl (decide_eq_false (by decide : ¬ ((0 : Int) = 22))) ?_
  refine k_skip ?_
  refine k_gen [(1, .int .i64 fw), (2, .box 0 0), (5, .int .i64 (0 : Int)), (6, .int .i64 4), (7, .int .i64 (k : Int)), (8, .int .i64 0), (9, .int .i64 (301 : Int))] [.box b.cs] (.cons rfl (.cons rfl (.cons rfl (.cons rfl (.cons rfl (.cons rfl (.cons rfl (.nil rfl)))))))) rfl fun fr => ?_
  refine k_seq ?_
  refine k_seq (k_region ?_)
  refine o_move rfl ?_
  refine o_neq rfl rfl rfl ?_
  refine o_move rfl ?_
  refine o_gD rfl rfl rfl rfl (decide_eq_true (by decide : (4 : Int) ≠ 0)) ?_
  refine o_move rfl ?_
  refine o_gD rfl rfl rfl rfl (decide_eq_true (by decide : (4 : Int) ≠ 0)) ?_
  refine o_neq rfl rfl rfl ?_
  refine o_gD rfl rfl rfl rfl (decide_eq_true (by decide : (4 : Int) ≠ 0)) ?_
  refine o_move rfl ?_
  refine o_gD rfl rfl rfl rfl (decide_eq_false (fun h => h rfl)) ?_
  refine o_move rfl ?_
  refine o_gD rfl rfl rfl rfl (decide_eq_false (fun h => h rfl)) ?_
  refine o_neq rfl rfl rfl ?_
  refine o_gD rfl rfl rfl rfl (decide_eq_true (by decide : (4 : Int) ≠ 0)) ?_
  refine o_pickF rfl rfl (decide_eq_false (fun h => h rfl)) ?_
  refine o_pickT rfl rfl (decide_eq_true (by decide : (4 : Int) ≠ 0)) ?_
  refine o_move rfl ?_
  refine o_gD rfl rfl rfl rfl (decide_eq_false (fun h => h rfl)) ?_
  refine o_move rfl ?_
  refine o_gD rfl rfl rfl rfl (decide_eq_false (fun h => h rfl)) ?_
  refine o_neq rfl rfl rfl ?_
  refine o_gD rfl rfl rfl rfl (decide_eq_false (fun h => h rfl)) ?_
  refine o_move rfl ?_
  refine o_gS rfl rfl rfl rfl (decide_eq_false (fun h => h rfl)) ?_
  refine o_gS rfl rfl rfl rfl (decide_eq_false (fun h => h rfl)) ?_
  refine o_gS rfl rfl rfl rfl (decide_eq_false (fun h => h rfl)) ?_
  refine o_dead rfl rfl rfl rfl ?_
  refine o_dead rfl rfl rfl rfl ?_
  refine o_gS rfl rfl rfl rfl (decide_eq_false (fun h => h rfl)) ?_
  refine o_gD rfl rfl rfl rfl (decide_eq_false (fun h => h rfl)) ?_
  refine o_pickF rfl rfl (decide_eq_false (fun h => h rfl)) ?_
  refine o_pickF rfl rfl (decide_eq_false (fun h => h rfl)) ?_
  refine o_move rfl ?_
  refine o_gD rfl rfl rfl rfl rfl ?_
  refine o_move rfl ?_
  refine o_gD rfl rfl rfl rfl rfl ?_
  refine o_call rfl (ret15 hi _ 0 300) (.lrefl _) ?_
  refine o_gD rfl rfl rfl rfl rfl ?_
  refine o_not rfl rfl ?_
  refine o_pickF rfl rfl rfl ?_
  refine o_move rfl ?_
  refine o_gD rfl rfl rfl rfl g80 ?_
  refine o_move rfl ?_
  refine o_gD rfl rfl rfl rfl g80 ?_
  refine o_call rfl (ret15 hi _ 0 300) (.lrefl _) ?_
  refine o_gD rfl rfl rfl rfl g80 ?_
  refine o_not rfl rfl ?_
  refine o_pickF rfl rfl g80 ?_
  refine o_nil ?_
  refine k_cF rfl g84 ?_
  refine k_skip ?_
  refine k_gen [(1, .int .i64 fw), (2, .box 0 0), (5, .int .i64 (0 : Int)), (6, .int .i64 4), (7, .int .i64 (k : Int)), (8, .int .i64 0), (9, .int .i64 (301 : Int))] [.box b.cs] (.cons rfl (.cons rfl (.cons rfl (.cons rfl (.cons rfl (.cons rfl (.cons rfl (.nil rfl)))))))) rfl fun fr => ?_
  refine k_seq ?_
  refine k_seq (k_region ?_)
  refine o_move rfl ?_
  refine o_eql rfl rfl rfl ?_
  refine o_nil ?_
  refine k_cF rfl (decide_eq_false (by decide : ¬ ((4 : Int) = 0))) ?_
  refine k_skip ?_
  refine k_gen [(1, .int .i64 fw), (2, .box 0 0), (5, .int .i64 (0 : Int)), (6, .int .i64 4), (7, .int .i64 (k : Int)), (8, .int .i64 0), (9, .int .i64 (301 : Int))] [.box b.cs] (.cons rfl (.cons rfl (.cons rfl (.cons rfl (.cons rfl (.cons rfl (.cons rfl (.nil rfl)))))))) rfl fun fr => ?_
  refine k_seq ?_
  refine k_seq (k_region ?_)
  refine o_move rfl ?_
  refine o_gtr rfl rfl rfl ?_
  refine o_nil ?_
  refine k_cT rfl g119 ?_
  refine k_seq ?_
  refine k_draw [.read true, .plain, .plain, .read false, .read false, .plain, .plain, .plain, .pre, .plain, .plain] (by kernel_rfl) (by kernel_rfl) (by kernel_rfl) ?_
  refine d_load rfl (o_loadN rfl rfl rfl sh28 rfl (o_nil rfl)) ?_
  refine d_plain (o_move rfl (o_nil rfl)) ?_
  refine d_plain (o_move rfl (o_nil rfl)) ?_
  refine d_callR rfl (ret11 hi fw (301 : Int) hu (by omega)) (flat_int _) (.lrefl _) ?_
  refine d_callR rfl (ret13 hi hb hT (fw % (301 : Int)) (by omega)) (flat_sp _ _ _) (.lrefl _) ?_
  refine d_plain (o_move rfl (o_nil rfl)) ?_
  refine d_plain (o_extract rfl rfl rfl (o_nil rfl)) ?_
  refine d_plain (o_extract rfl rfl rfl (o_nil rfl)) ?_
  refine d_pre rfl ze24 ?_
  refine d_plain (o_storeN rfl rfl sh24 rfl rfl rfl rfl rfl (o_nil rfl)) ?_
  refine d_plain (o_assign rfl (o_nil rfl)) ?_
  refine d_nil ?_
  refine k_gen [(1, .int .i64 fw), (2, .box 0 0), (5, .int .i64 (0 : Int)), (6, .int .i64 4), (7, .int .i64 (k : Int)), (8, .int .i64 0), (9, .int .i64 (301 : Int)), (12, .box 1 0), (13, .int .i64 0)] [.box b.cs, .box [.int .i64 (lowT b.thick (q :: l) (fw % (301 : Int))), .int .i64 (highT b.thick (q :: l) (fw % (301 : Int)))]] (.cons rfl (.cons rfl (.cons rfl (.cons rfl (.cons rfl (.cons rfl (.cons rfl (.cons rfl (.cons rfl (.nil rfl)))))))))) rfl fun fr => ?_
  refine k_seq (k_region ?_)
  refine o_move rfl ?_
  refine o_neq rfl rfl rfl ?_
  refine o_move rfl ?_
  refine o_gD rfl rfl rfl rfl (decide_eq_false (fun h => h rfl)) ?_
  refine o_loadN rfl rfl rfl sh24 rfl ?_
  refine o_gD rfl rfl rfl rfl (decide_eq_false (fun h => h rfl)) ?_
  refine o_faddr rfl rfl fld28_4 ?_
  refine o_gD rfl rfl rfl rfl (decide_eq_false (fun h => h rfl)) ?_
  refine o_loadN rfl rfl rfl sh24 rfl ?_
  refine o_gD rfl rfl rfl rfl (decide_eq_false (fun h => h rfl)) ?_
  refine o_call rfl (ret21 hi _ _ _ _) (.lrefl _) ?_
  refine o_gD rfl rfl rfl rfl (decide_eq_false (fun h => h rfl)) ?_
  refine o_move rfl ?_
  refine o_guard rfl rfl rfl rfl (fun h1 => ?_) (fun h1 => ?_)
  · refine o_faddr rfl rfl fld24_0 ?_
    refine o_gD rfl rfl rfl rfl h1 ?_
    refine o_load1 rfl rfl rfl sh3 rfl ?_
    refine o_gD rfl rfl rfl rfl h1 ?_
    refine o_faddr rfl rfl fld28_3 ?_
    refine o_gD rfl rfl rfl rfl h1 ?_
    refine o_load1 rfl rfl rfl sh3 rfl ?_
    refine o_gD rfl rfl rfl rfl h1 ?_
    refine o_geq rfl rfl rfl ?_
    refine o_gD rfl rfl rfl rfl (decide_eq_false (fun h => h rfl)) ?_
    refine o_pickT rfl rfl h1 ?_
    refine o_pickF rfl rfl (decide_eq_false (fun h => h rfl)) ?_
    refine o_nil ?_
    refine k_cF rfl (by first | exact g142 (by assumption) | rfl) ?_
    refine k_skip ?_
    refine k_gen [(1, .int .i64 fw), (2, .box 0 0), (5, .int .i64 (0 : Int)), (6, .int .i64 4), (7, .int .i64 (k : Int)), (8, .int .i64 0), (9, .int .i64 (301 : Int))] [.box b.cs, .box [.int .i64 (lowT b.thick (q :: l) (fw % (301 : Int))), .int .i64 (highT b.thick (q :: l) (fw % (301 : Int)))]] (.cons rfl (.cons rfl (.cons rfl (.cons rfl (.cons rfl (.cons rfl (.cons rfl (.nil rfl)))))))) rfl fun fr => ?_
    refine k_seq ?_
    refine k_seq (k_region ?_)
    refine o_move rfl ?_
    refine o_neq rfl rfl rfl ?_
    refine o_nil ?_
    refine k_cF rfl (decide_eq_false (fun h => h rfl)) ?_
    refine k_skip ?_
    refine k_seq (k_region ?_)
    refine o_loadN rfl rfl rfl sh28 rfl ?_
    refine o_move rfl ?_
    refine o_call rfl (ret13 hi hb hT (k : Int) (by omega)) (.lrefl _) ?_
    refine o_move rfl ?_
    refine o_extract rfl rfl rfl ?_
    refine o_extract rfl rfl rfl ?_
    refine o_alloc rfl ze24 ?_
    refine o_storeN rfl rfl sh24 rfl rfl rfl rfl rfl ?_
    refine o_assign rfl ?_
    refine o_nil ?_
    refine k_gen [(2, .box 0 0), (7, .int .i64 (k : Int)), (14, .box 2 0), (15, .int .i64 0)] [.box b.cs, .box [.int .i64 (lowT b.thick (q :: l) (fw % (301 : Int))), .int .i64 (highT b.thick (q :: l) (fw % (301 : Int)))], .box [.int .i64 (lowT b.thick (q :: l) (k : Int)), .int .i64 (highT b.thick (q :: l) (k : Int))]] (.cons rfl (.cons rfl (.cons rfl (.cons rfl (.nil rfl))))) rfl fun fr => ?_
    refine k_seq ?_
    refine k_seq (k_region ?_)
    refine o_move rfl ?_
    refine o_neq rfl rfl rfl ?_
    refine o_move rfl ?_
    refine o_gD rfl rfl rfl rfl (decide_eq_false (fun h => h rfl)) ?_
    refine o_faddr rfl rfl fld24_0 ?_
    refine o_gD rfl rfl rfl rfl (decide_eq_false (fun h => h rfl)) ?_
    refine o_load1 rfl rfl rfl sh3 rfl ?_
    refine o_gD rfl rfl rfl rfl (decide_eq_false (fun h => h rfl)) ?_
    refine o_faddr rfl rfl fld28_3 ?_
    refine o_gD rfl rfl rfl rfl (decide_eq_false (fun h => h rfl)) ?_
    refine o_load1 rfl rfl rfl sh3 rfl ?_
    refine o_gD rfl rfl rfl rfl (decide_eq_false (fun h => h rfl)) ?_
    refine o_lss rfl rfl rfl ?_
    refine o_pickF rfl rfl (decide_eq_false (fun h => h rfl)) ?_
    refine o_nil ?_
    refine k_cF rfl g167 ?_
    refine k_skip ?_
    refine k_gen [(2, .box 0 0), (7, .int .i64 (k : Int)), (14, .box 2 0), (15, .int .i64 0)] [.box b.cs, .box [.int .i64 (lowT b.thick (q :: l) (fw % (301 : Int))), .int .i64 (highT b.thick (q :: l) (fw % (301 : Int)))], .box [.int .i64 (lowT b.thick (q :: l) (k : Int)), .int .i64 (highT b.thick (q :: l) (k : Int))]] (.cons rfl (.cons rfl (.cons rfl (.cons rfl (.nil rfl))))) rfl fun fr => ?_
    refine k_seq ?_
    refine k_seq (k_region ?_)
    refine o_move rfl ?_
    refine o_eql rfl rfl rfl ?_
    refine o_nil ?_
    refine k_cT rfl g169 ?_
    refine k_seq (k_region ?_)
    refine o_call rfl (r8) (.lrefl _) ?_
    refine o_assign rfl ?_
    refine o_nil ?_
    refine k_ret ?_
    refine ⟨.inr rfl, _, .cons _ _ _ _ (.tmp 4) .nil, ?_⟩
    exact .refl _
  · refine o_gS rfl rfl rfl rfl h1 ?_
    refine o_gS rfl rfl rfl rfl h1 ?_
    refine o_gS rfl rfl rfl rfl h1 ?_
    refine o_gS rfl rfl rfl rfl h1 ?_
    refine o_gD rfl rfl rfl rfl (decide_eq_false (fun h => h rfl)) ?_
    refine o_pickF rfl rfl h1 ?_
    refine o_pickF rfl rfl (decide_eq_false (fun h => h rfl)) ?_
    refine o_nil ?_
    refine k_cond rfl (fun h => by cases h) (fun _ => ?_)
    refine k_skip ?_
    refine k_gen [(1, .int .i64 fw), (2, .box 0 0), (5, .int .i64 (0 : Int)), (6, .int .i64 4), (7, .int .i64 (k : Int)), (8, .int .i64 0), (9, .int .i64 (301 : Int))] [.box b.cs, .box [.int .i64 (lowT b.thick (q :: l) (fw % (301 : Int))), .int .i64 (highT b.thick (q :: l) (fw % (301 : Int)))]] (.cons rfl (.cons rfl (.cons rfl (.cons rfl (.cons rfl (.cons rfl (.cons rfl (.nil rfl)))))))) rfl fun fr => ?_
    refine k_seq ?_
    refine k_seq (k_region ?_)
    refine o_move rfl ?_
    refine o_neq rfl rfl rfl ?_
    refine o_nil ?_
    refine k_cF rfl (decide_eq_false (fun h => h rfl)) ?_
    refine k_skip ?_
    refine k_seq (k_region ?_)
    refine o_loadN rfl rfl rfl sh28 rfl ?_
    refine o_move rfl ?_
    refine o_call rfl (ret13 hi hb hT (k : Int) (by omega)) (.lrefl _) ?_
    refine o_move rfl ?_
    refine o_extract rfl rfl rfl ?_
    refine o_extract rfl rfl rfl ?_
    refine o_alloc rfl ze24 ?_
    refine o_storeN rfl rfl sh24 rfl rfl rfl rfl rfl ?_
    refine o_assign rfl ?_
    refine o_nil ?_
    refine k_gen [(2, .box 0 0), (7, .int .i64 (k : Int)), (14, .box 2 0), (15, .int .i64 0)] [.box b.cs, .box [.int .i64 (lowT b.thick (q :: l) (fw % (301 : Int))), .int .i64 (highT b.thick (q :: l) (fw % (301 : Int)))], .box [.int .i64 (lowT b.thick (q :: l) (k : Int)), .int .i64 (highT b.thick (q :: l) (k : Int))]] (.cons rfl (.cons rfl (.cons rfl (.cons rfl (.nil rfl))))) rfl fun fr => ?_
    refine k_seq ?_
    refine k_seq (k_region ?_)
    refine o_move rfl ?_
    refine o_neq rfl rfl rfl ?_
    refine o_move rfl ?_
    refine o_gD rfl rfl rfl rfl (decide_eq_false (fun h => h rfl)) ?_
    refine o_faddr rfl rfl fld24_0 ?_
    refine o_gD rfl rfl rfl rfl (decide_eq_false (fun h => h rfl)) ?_
    refine o_load1 rfl rfl rfl sh3 rfl ?_
    refine o_gD rfl rfl rfl rfl (decide_eq_false (fun h => h rfl)) ?_
    refine o_faddr rfl rfl fld28_3 ?_
    refine o_gD rfl rfl rfl rfl (decide_eq_false (fun h => h rfl)) ?_
    refine o_load1 rfl rfl rfl sh3 rfl ?_
    refine o_gD rfl rfl rfl rfl (decide_eq_false (fun h => h rfl)) ?_
    refine o_lss rfl rfl rfl ?_
    refine o_pickF rfl rfl (decide_eq_false (fun h => h rfl)) ?_
    refine o_nil ?_
    refine k_cF rfl g167 ?_
    refine k_skip ?_
    refine k_gen [(2, .box 0 0), (7, .int .i64 (k : Int)), (14, .box 2 0), (15, .int .i64 0)] [.box b.cs, .box [.int .i64 (lowT b.thick (q :: l) (fw % (301 : Int))), .int .i64 (highT b.thick (q :: l) (fw % (301 : Int)))], .box [.int .i64 (lowT b.thick (q :: l) (k : Int)), .int .i64 (highT b.thick (q :: l) (k : Int))]] (.cons rfl (.cons rfl (.cons rfl (.cons rfl (.nil rfl))))) rfl fun fr => ?_
    refine k_seq ?_
    refine k_seq (k_region ?_)
    refine o_move rfl ?_
    refine o_eql rfl rfl rfl ?_
    refine o_nil ?_
    refine k_cT rfl g169 ?_
    refine k_seq (k_region ?_)
    refine o_call rfl (r8) (.lrefl _) ?_
    refine o_assign rfl ?_
    refine o_nil ?_
    refine k_ret ?_
    refine ⟨.inr rfl, _, .cons _ _ _ _ (.tmp 4) .nil, ?_⟩
    exact .refl _

set_option maxHeartbeats 4000000 in
theorem ret5h (hi : Off is) {b : Bk} (hb : Ok b) {q : Tri} {l : List Tri} (hT : trs b = q :: l) (fw : Int) (r8 : RetP Try.prog is orc 8 [] (.bool true)) (h1 : fstN (fun i => doneT b (q :: l) i) 301 0 = none) (h2 : lstN (fun i => soundT b (q :: l) i) 301 = none) (g119 : decide (0 < (301 : Int)) = true) (g142 : (decide (b.glo ≤ lowT b.thick (q :: l) (fw % (301 : Int))) && decide (highT b.thick (q :: l) (fw % (301 : Int)) ≤ b.ghi)) = true → decide (b.crack ≤ lowT b.thick (q :: l) (fw % (301 : Int))) = false) (g150 : decide (b.thick < b.crack) = true) : RetP Try.prog is orc 5 [b.u, .int .i64 fw] (.bool true) := by
  refine ret_of body5 pure5 (hi 5 (by decide)) rfl rfl (dat_l2 (dat_bk b 5) (.int _ _ _)) (.inl (.bool _ _)) ?_
  have h19 : RetP Try.prog is orc 19 [b.u] (.tup [.int .i64 (0 : Int), .int .i64 4]) := by have := ret19 (orc := orc) hi hb hT; rwa [h1] at this
  have h20 : RetP Try.prog is orc 20 [b.u] (.tup [.int .i64 (0 : Int), .int .i64 4]) := by have := ret20 (orc := orc) hi hb hT; rwa [h2] at this
  have g80 : (!(decide (0 ≤ (0 : Int)) && decide ((0 : Int) ≤ 300))) = false := by simp; try omega
  have g84 : (!(decide (0 ≤ (0 : Int)) && decide ((0 : Int) ≤ 300))) = false := by simp; try omega
  have hu : 0 < (301 : Int) := of_decide_eq_true g119
  have m0 := Int.emod_nonneg fw (show (301 : Int) ≠ 0 by omega); have m1 := Int.emod_lt_of_pos fw hu
  refine k_seq (k_region ?_)
  refine o_box rfl rfl ?_
  refine o_assign rfl ?_
  refine o_nil ?_
  refine k_seq ?_
  refine k_seq (k_region ?_)
  refine o_loadN rfl rfl rfl sh28 rfl ?_
  refine o_call rfl (ret7 hi hb) (.lrefl _) ?_
  refine o_not rfl rfl ?_
  refine o_nil ?_
  refine k_cF rfl rfl ?_
  refine k_skip ?_
  refine k_seq (k_region ?_)
  refine o_loadN rfl rfl rfl sh28 rfl ?_
  refine o_call rfl (h19) (.lrefl _) ?_
  refine o_move rfl ?_
  refine o_extract rfl rfl rfl ?_
  refine o_extract rfl rfl rfl ?_
  refine o_assign rfl ?_
  refine o_assign rfl ?_
  refine o_nil ?_
  refine k_seq (k_region ?_)
  refine o_loadN rfl rfl rfl sh28 rfl ?_
  refine o_call rfl (h20) (.lrefl _) ?_
  refine o_move rfl ?_
  refine o_extract rfl rfl rfl ?_
  refine o_extract rfl rfl rfl ?_
  refine o_assign rfl ?_
  refine o_assign rfl ?_
  refine o_nil ?_
  refine k_seq (k_region ?_)
  refine o_assign rfl ?_
  refine o_nil ?_
  refine k_seq ?_
  refine k_seq (k_region ?_)
  refine o_move rfl ?_
  refine o_eql rfl rfl rfl ?_
  refine o_nil ?_
  refine k_cF rfl (decide_eq_false (by decide : ¬ ((4 : Int) = 0))) ?_
  refine k_skip ?_
  refine k_gen [(1, .int .i64 fw), (2, .box 0 0), (5, .int .i64 (0 : Int)), (6, .int .i64 4), (7, .int .i64 (0 : Int)), (8, .int .i64 4), (9, .int .i64 (301 : Int))] [.box b.cs] (.cons rfl (.cons rfl (.cons rfl (.cons rfl (.cons rfl (.cons rfl (.cons rfl (.nil rfl)))))))) rfl fun fr => ?_
  refine k_seq ?_
  refine k_seq (k_region ?_)
  refine o_move rfl ?_
  refine o_eql rfl rfl rfl ?_
  refine o_move rfl ?_
  refine o_gD rfl rfl rfl rfl (decide_eq_false (by decide : ¬ ((4 : Int) = 22))) ?_
  refine o_move rfl ?_
  refine o_gD rfl rfl rfl rfl (decide_eq_false (by decide : ¬ ((4 : Int) = 22))) ?_
  refine o_eql rfl rfl rfl ?_
  refine o_pickF rfl rfl (decide_eq_false (by decide : ¬ ((4 : Int) = 22))) ?_
  refine o_nil ?_
  refine k_cF rfl (decide_eq_false (by decide : ¬ ((4 : Int) = 22))) ?_
  refine k_skip ?_
  refine k_gen [(1, .int .i64 fw), (2, .box 0 0), (5, .int .i64 (0 : Int)), (6, .int .i64 4), (7, .int .i64 (0 : Int)), (8, .int .i64 4), (9, .int .i64 (301 : Int))] [.box b.cs] (.cons rfl (.cons rfl (.cons rfl (.cons rfl (.cons rfl (.cons rfl (.cons rfl (.nil rfl)))))))) rfl fun fr => ?_
  refine k_seq ?_
  refine k_seq (k_region ?_)
  refine o_move rfl ?_
  refine o_neq rfl rfl rfl ?_
  refine o_move rfl ?_
  refine o_gD rfl rfl rfl rfl (decide_eq_true (by decide : (4 : Int) ≠ 0)) ?_
  refine o_move rfl ?_
  refine o_gD rfl rfl rfl rfl (decide_eq_true (by decide : (4 : Int) ≠ 0)) ?_
  refine o_neq rfl rfl rfl ?_
  refine o_gD rfl rfl rfl rfl (decide_eq_true (by decide : (4 : Int) ≠ 0)) ?_
  refine o_move rfl ?_
  refine o_gD rfl rfl rfl rfl (decide_eq_false (fun h => h rfl)) ?_
  refine o_move rfl ?_
  refine o_gD rfl rfl rfl rfl (decide_eq_false (fun h => h rfl)) ?_
  refine o_neq rfl rfl rfl ?_
  refine o_gD rfl rfl rfl rfl (decide_eq_true (by decide : (4 : Int) ≠ 0)) ?_
  refine o_pickF rfl rfl (decide_eq_false (fun h => h rfl)) ?_
  refine o_pickT rfl rfl (decide_eq_true (by decide : (4 : Int) ≠ 0)) ?_
  refine o_move rfl ?_
  refine o_gD rfl rfl rfl rfl (decide_eq_false (fun h => h rfl)) ?_
  refine o_move rfl ?_
  refine o_gD rfl rfl rfl rfl (decide_eq_false (fun h => h rfl)) ?_
  refine o_neq rfl rfl rfl ?_
  refine o_gD rfl rfl rfl rfl (decide_eq_false (fun h => h rfl)) ?_
  refine o_move rfl ?_
  refine o_gD rfl rfl rfl rfl (decide_eq_true (by decide : (4 : Int) ≠ 0)) ?_
  refine o_move rfl ?_
  refine o_gD rfl rfl rfl rfl (decide_eq_true (by decide : (4 : Int) ≠ 0)) ?_
  refine o_neq rfl rfl rfl ?_
  refine o_gD rfl rfl rfl rfl (decide_eq_true (by decide : (4 : Int) ≠ 0)) ?_
  refine o_move rfl ?_
  refine o_gD rfl rfl rfl rfl (decide_eq_false (fun h => h rfl)) ?_
  refine o_move rfl ?_
  refine o_gD rfl rfl rfl rfl (decide_eq_false (fun h => h rfl)) ?_
  refine o_neq rfl rfl rfl ?_
  refine o_gD rfl rfl rfl rfl (decide_eq_true (by decide : (4 : Int) ≠ 0)) ?_
  refine o_pickF rfl rfl (decide_eq_false (fun h => h rfl)) ?_
  refine o_gD rfl rfl rfl rfl (decide_eq_false (fun h => h rfl)) ?_
  refine o_pickT rfl rfl (decide_eq_true (by decide : (4 : Int) ≠ 0)) ?_
  refine o_pickF rfl rfl (decide_eq_false (fun h => h rfl)) ?_
  refine o_move rfl ?_
  refine o_gD rfl rfl rfl rfl (decide_eq_false (fun h => h rfl)) ?_
  refine o_move rfl ?_
  refine o_gD rfl rfl rfl rfl (decide_eq_false (fun h => h rfl)) ?_
  refine o_call rfl (ret15 hi _ 0 300) (.lrefl _) ?_
  refine o_gD rfl rfl rfl rfl (decide_eq_false (fun h => h rfl)) ?_
  refine o_not rfl rfl ?_
  refine o_pickF rfl rfl (decide_eq_false (fun h => h rfl)) ?_
  refine o_move rfl ?_
  refine o_gD rfl rfl rfl rfl g80 ?_
  refine o_move rfl ?_
  refine o_gD rfl rfl rfl rfl g80 ?_
  refine o_call rfl (ret15 hi _ 0 300) (.lrefl _) ?_
  refine o_gD rfl rfl rfl rfl g80 ?_
  refine o_not rfl rfl ?_
  refine o_pickF rfl rfl g80 ?_
  refine o_nil ?_
  refine k_cF rfl g84 ?_
  refine k_skip ?_
  refine k_gen [(1, .int .i64 fw), (2, .box 0 0), (5, .int .i64 (0 : Int)), (6, .int .i64 4), (7, .int .i64 (0 : Int)), (8, .int .i64 4), (9, .int .i64 (301 : Int))] [.box b.cs] (.cons rfl (.cons rfl (.cons rfl (.cons rfl (.cons rfl (.cons rfl (.cons rfl (.nil rfl)))))))) rfl fun fr => ?_
  refine k_seq ?_
  refine k_seq (k_region ?_)
  refine o_move rfl ?_
  refine o_eql rfl rfl rfl ?_
  refine o_nil ?_
  refine k_cF rfl (decide_eq_false (by decide : ¬ ((4 : Int) = 0))) ?_
  refine k_skip ?_
  refine k_gen [(1, .int .i64 fw), (2, .box 0 0), (5, .int .i64 (0 : Int)), (6, .int .i64 4), (7, .int .i64 (0 : Int)), (8, .int .i64 4), (9, .int .i64 (301 : Int))] [.box b.cs] (.cons rfl (.cons rfl (.cons rfl (.cons rfl (.cons rfl (.cons rfl (.cons rfl (.nil rfl)))))))) rfl fun fr => ?_
  refine k_seq ?_
  refine k_seq (k_region ?_)
  refine o_move rfl ?_
  refine o_gtr rfl rfl rfl ?_
  refine o_nil ?_
  refine k_cT rfl g119 ?_
  refine k_seq ?_
  refine k_draw [.read true, .plain, .plain, .read false, .read false, .plain, .plain, .plain, .pre, .plain, .plain] (by kernel_rfl) (by kernel_rfl) (by kernel_rfl) ?_
  refine d_load rfl (o_loadN rfl rfl rfl sh28 rfl (o_nil rfl)) ?_
  refine d_plain (o_move rfl (o_nil rfl)) ?_
  refine d_plain (o_move rfl (o_nil rfl)) ?_
  refine d_callR rfl (ret11 hi fw (301 : Int) hu (by omega)) (flat_int _) (.lrefl _) ?_
  refine d_callR rfl (ret13 hi hb hT (fw % (301 : Int)) (by omega)) (flat_sp _ _ _) (.lrefl _) ?_
  refine d_plain (o_move rfl (o_nil rfl)) ?_
  refine d_plain (o_extract rfl rfl rfl (o_nil rfl)) ?_
  refine d_plain (o_extract rfl rfl rfl (o_nil rfl)) ?_
  refine d_pre rfl ze24 ?_
  refine d_plain (o_storeN rfl rfl sh24 rfl rfl rfl rfl rfl (o_nil rfl)) ?_
  refine d_plain (o_assign rfl (o_nil rfl)) ?_
  refine d_nil ?_
  refine k_gen [(1, .int .i64 fw), (2, .box 0 0), (5, .int .i64 (0 : Int)), (6, .int .i64 4), (7, .int .i64 (0 : Int)), (8, .int .i64 4), (9, .int .i64 (301 : Int)), (12, .box 1 0), (13, .int .i64 0)] [.box b.cs, .box [.int .i64 (lowT b.thick (q :: l) (fw % (301 : Int))), .int .i64 (highT b.thick (q :: l) (fw % (301 : Int)))]] (.cons rfl (.cons rfl (.cons rfl (.cons rfl (.cons rfl (.cons rfl (.cons rfl (.cons rfl (.cons rfl (.nil rfl)))))))))) rfl fun fr => ?_
  refine k_seq (k_region ?_)
  refine o_move rfl ?_
  refine o_neq rfl rfl rfl ?_
  refine o_move rfl ?_
  refine o_gD rfl rfl rfl rfl (decide_eq_false (fun h => h rfl)) ?_
  refine o_loadN rfl rfl rfl sh24 rfl ?_
  refine o_gD rfl rfl rfl rfl (decide_eq_false (fun h => h rfl)) ?_
  refine o_faddr rfl rfl fld28_4 ?_
  refine o_gD rfl rfl rfl rfl (decide_eq_false (fun h => h rfl)) ?_
  refine o_loadN rfl rfl rfl sh24 rfl ?_
  refine o_gD rfl rfl rfl rfl (decide_eq_false (fun h => h rfl)) ?_
  refine o_call rfl (ret21 hi _ _ _ _) (.lrefl _) ?_
  refine o_gD rfl rfl rfl rfl (decide_eq_false (fun h => h rfl)) ?_
  refine o_move rfl ?_
  refine o_guard rfl rfl rfl rfl (fun h1 => ?_) (fun h1 => ?_)
  · refine o_faddr rfl rfl fld24_0 ?_
    refine o_gD rfl rfl rfl rfl h1 ?_
    refine o_load1 rfl rfl rfl sh3 rfl ?_
    refine o_gD rfl rfl rfl rfl h1 ?_
    refine o_faddr rfl rfl fld28_3 ?_
    refine o_gD rfl rfl rfl rfl h1 ?_
    refine o_load1 rfl rfl rfl sh3 rfl ?_
    refine o_gD rfl rfl rfl rfl h1 ?_
    refine o_geq rfl rfl rfl ?_
    refine o_gD rfl rfl rfl rfl (decide_eq_false (fun h => h rfl)) ?_
    refine o_pickT rfl rfl h1 ?_
    refine o_pickF rfl rfl (decide_eq_false (fun h => h rfl)) ?_
    refine o_nil ?_
    refine k_cF rfl (by first | exact g142 (by assumption) | rfl) ?_
    refine k_skip ?_
    refine k_gen [(1, .int .i64 fw), (2, .box 0 0), (5, .int .i64 (0 : Int)), (6, .int .i64 4), (7, .int .i64 (0 : Int)), (8, .int .i64 4), (9, .int .i64 (301 : Int))] [.box b.cs, .box [.int .i64 (lowT b.thick (q :: l) (fw % (301 : Int))), .int .i64 (highT b.thick (q :: l) (fw % (301 : Int)))]] (.cons rfl (.cons rfl (.cons rfl (.cons rfl (.cons rfl (.cons rfl (.cons rfl (.nil rfl)))))))) rfl fun fr => ?_
    refine k_seq ?_
    refine k_seq (k_region ?_)
    refine o_move rfl ?_
    refine o_neq rfl rfl rfl ?_
    refine o_nil ?_
    refine k_cT rfl (decide_eq_true (by decide : (4 : Int) ≠ 0)) ?_
    refine k_seq (k_region ?_)
    refine o_faddr rfl rfl fld28_2 ?_
    refine o_load1 rfl rfl rfl sh3 rfl ?_
    refine o_faddr rfl rfl fld28_3 ?_
    refine o_load1 rfl rfl rfl sh3 rfl ?_
    refine o_lss rfl rfl rfl ?_
    refine o_move rfl ?_
    refine o_gD rfl rfl rfl rfl g150 ?_
    refine o_call rfl (r8) (.lrefl _) ?_
    refine o_pickT rfl rfl g150 ?_
    refine o_assign rfl ?_
    refine o_nil ?_
    refine k_ret ?_
    refine ⟨.inr rfl, _, .cons _ _ _ _ (.tmp 4) .nil, ?_⟩
    exact .refl _
  · refine o_gS rfl rfl rfl rfl h1 ?_
    refine o_gS rfl rfl rfl rfl h1 ?_
    refine o_gS rfl rfl rfl rfl h1 ?_
    refine o_gS rfl rfl rfl rfl h1 ?_
    refine o_gD rfl rfl rfl rfl (decide_eq_false (fun h => h rfl)) ?_
    refine o_pickF rfl rfl h1 ?_
    refine o_pickF rfl rfl (decide_eq_false (fun h => h rfl)) ?_
    refine o_nil ?_
    refine k_cond rfl (fun h => by cases h) (fun _ => ?_)
    refine k_skip ?_
    refine k_gen [(1, .int .i64 fw), (2, .box 0 0), (5, .int .i64 (0 : Int)), (6, .int .i64 4), (7, .int .i64 (0 : Int)), (8, .int .i64 4), (9, .int .i64 (301 : Int))] [.box b.cs, .box [.int .i64 (lowT b.thick (q :: l) (fw % (301 : Int))), .int .i64 (highT b.thick (q :: l) (fw % (301 : Int)))]] (.cons rfl (.cons rfl (.cons rfl (.cons rfl (.cons rfl (.cons rfl (.cons rfl (.nil rfl)))))))) rfl fun fr => ?_
    refine k_seq ?_
    refine k_seq (k_region ?_)
    refine o_move rfl ?_
    refine o_neq rfl rfl rfl ?_
    refine o_nil ?_
    refine k_cT rfl (decide_eq_true (by decide : (4 : Int) ≠ 0)) ?_
    refine k_seq (k_region ?_)
    refine o_faddr rfl rfl fld28_2 ?_
    refine o_load1 rfl rfl rfl sh3 rfl ?_
    refine o_faddr rfl rfl fld28_3 ?_
    refine o_load1 rfl rfl rfl sh3 rfl ?_
    refine o_lss rfl rfl rfl ?_
    refine o_move rfl ?_
    refine o_gD rfl rfl rfl rfl g150 ?_
    refine o_call rfl (r8) (.lrefl _) ?_
    refine o_pickT rfl rfl g150 ?_
    refine o_assign rfl ?_
    refine o_nil ?_
    refine k_ret ?_
    refine ⟨.inr rfl, _, .cons _ _ _ _ (.tmp 4) .nil, ?_⟩
    exact .refl _

theorem done_iff {b : Bk} {q : Tri} {l : List Tri} {n : Int} : doneT b (q :: l) n = true ↔ b.glo ≤ lowT b.thick (q :: l) n ∧ highT b.thick (q :: l) n ≤ b.ghi ∧ b.crack ≤ lowT b.thick (q :: l) n := by
  have h := (low_spec b.thick q l n).1
  unfold doneT wi
  simp only [Bool.and_eq_true, decide_eq_true_eq]
  omega
theorem sound_iff {b : Bk} {T : List Tri} {n : Int} : soundT b T n = true ↔ b.crack ≤ lowT b.thick T n := by
  unfold soundT
  simp only [decide_eq_true_eq]
theorem under_iff {b : Bk} {T : List Tri} {n : Int} : (decide (b.glo ≤ lowT b.thick T n) && decide (highT b.thick T n ≤ b.ghi)) = true ↔ b.glo ≤ lowT b.thick T n ∧ highT b.thick T n ≤ b.ghi := by
  simp only [Bool.and_eq_true, decide_eq_true_eq]
theorem ret5 (hi : Off is) {b : Bk} (hb : Ok b) (fw : Int) (r8 : RetP Try.prog is orc 8 [] (.bool true)) : RetP Try.prog is orc 5 [b.u, .int .i64 fw] (.bool true) := by
  cases hT : trs b with
  | nil => exact ret5e hi hb hT fw r8
  | cons q l =>
    -- not done at any number before the first one
    have k142 : ∀ (u : Int), 0 < u → (∀ j : Nat, (j : Int) < u → doneT b (q :: l) j = false) → (decide (b.glo ≤ lowT b.thick (q :: l) (fw % u)) && decide (highT b.thick (q :: l) (fw % u) ≤ b.ghi)) = true → decide (b.crack ≤ lowT b.thick (q :: l) (fw % u)) = false := by
      intro u hu hj hun
      have m0 := Int.emod_nonneg fw (show u ≠ 0 by omega)
      have m1 := Int.emod_lt_of_pos fw hu
      have h1 := hj (fw % u).toNat (by omega)
      rw [show (((fw % u).toNat : Nat) : Int) = fw % u by omega] at h1
      rw [under_iff] at hun
      refine decide_eq_false fun hc => ?_
      rw [done_iff.2 ⟨hun.1, hun.2, hc⟩] at h1; cases h1
    cases h2 : lstN (fun i => soundT b (q :: l) i) 301 with
    | none =>
      have hs := lst_none h2
      cases h1 : fstN (fun i => doneT b (q :: l) i) 301 0 with
      | some n =>
        obtain ⟨_, a2, a3, _⟩ := fst_some h1
        have := hs n (by omega)
        have a3 := done_iff.1 a3
        rw [show soundT b (q :: l) (n : Int) = true from sound_iff.2 a3.2.2] at this; cases this
      | none =>
        have hd := fst_none h1
        refine ret5h hi hb hT fw r8 h1 h2 (by decide) (k142 301 (by decide) fun j hj => hd j (Nat.zero_le _) (by omega)) ?_
        have h0 := hs 0 (by omega)
        obtain ⟨_, _, ⟨d, _, e⟩, _⟩ := low_spec b.thick q l 0
        rw [aft_zero] at e
        refine decide_eq_true ?_
        rcases Int.lt_or_le b.thick b.crack with h | h
        · exact h
        · have : soundT b (q :: l) ((0 : Nat) : Int) = true := sound_iff.2 (by show b.crack ≤ lowT b.thick (q :: l) 0; omega)
          rw [this] at h0; cases h0
    | some k =>
      obtain ⟨c1, c2, c3⟩ := lst_some h2
      have c2 : b.crack ≤ lowT b.thick (q :: l) (k : Int) := sound_iff.1 c2
      have g167 : decide (lowT b.thick (q :: l) (k : Int) < b.crack) = false := decide_eq_false (by omega)
      have g187 : ¬ (k : Int) = 300 → decide (lowT b.thick (q :: l) ((k : Int) + 1) < b.crack) = true := fun hk => by
        have h := c3 (k + 1) (by omega) (by omega)
        refine decide_eq_true ?_
        rcases Int.lt_or_le (lowT b.thick (q :: l) ((k : Int) + 1)) b.crack with h' | h'
        · exact h'
        · rw [show soundT b (q :: l) ((k + 1 : Nat) : Int) = true from sound_iff.2 h'] at h; cases h
      cases h1 : fstN (fun i => doneT b (q :: l) i) 301 0 with
      | none =>
        have hd := fst_none h1
        have g142 := k142 301 (by decide) fun j hj => hd j (Nat.zero_le _) (by omega)
        by_cases hk : (k : Int) = 300
        · exact ret5g hi hb hT fw r8 h1 h2 (by omega) (by decide) g142 g167 (decide_eq_true hk)
        · exact ret5f hi hb hT fw r8 h1 h2 (by omega) (by decide) g142 g167 (decide_eq_false hk) (g187 hk)
      | some n =>
        obtain ⟨_, a2, a3, a4⟩ := fst_some h1
        have a3 := done_iff.1 a3
        have hnk : n ≤ k := by
          rcases Nat.lt_or_ge k n with h | h
          · have := c3 n h (by omega)
            rw [show soundT b (q :: l) (n : Int) = true from sound_iff.2 a3.2.2] at this; cases this
          · exact h
        have g102 : (!(decide (b.glo ≤ lowT b.thick (q :: l) (n : Int)) && decide (highT b.thick (q :: l) (n : Int) ≤ b.ghi))) = false := by rw [under_iff.2 ⟨a3.1, a3.2.1⟩]; rfl
        have g109 : decide (lowT b.thick (q :: l) (n : Int) < b.crack) = false := decide_eq_false (by omega)
        have g117 : decide ((k : Int) < n) = false := decide_eq_false (by omega)
        by_cases hn : 0 < (n : Int)
        · have g142 := k142 n hn fun j hj => a4 j (Nat.zero_le _) (by omega)
          by_cases hk : (k : Int) = 300
          · exact ret5c hi hb hT fw r8 h1 (by omega) h2 (by omega) g102 g109 g117 (decide_eq_true hn) g142 g167 (decide_eq_true hk)
          · exact ret5a hi hb hT fw r8 h1 (by omega) h2 (by omega) g102 g109 g117 (decide_eq_true hn) g142 g167 (decide_eq_false hk) (g187 hk)
        · by_cases hk : (k : Int) = 300
          · exact ret5d hi hb hT fw r8 h1 (by omega) h2 (by omega) g102 g109 g117 (decide_eq_false hn) g167 (decide_eq_true hk)
          · exact ret5b hi hb hT fw r8 h1 (by omega) h2 (by omega) g102 g109 g117 (decide_eq_false hn) g167 (decide_eq_false hk) (g187 hk)
set_option linter.constructorNameAsVariable false
theorem shp_argsR {us : List U} (h : ShpAs Try.prog [28, 3] us) : ∃ (b : Bk) (n : Int), us = [b.u, .int .i64 n] := by
  cases h with
  | cons _ _ u us h1 h2 =>
    cases h2 with
    | cons _ _ v vs h3 h4 =>
      cases h4
      obtain ⟨fs, hu⟩ := und_struct (P := Try.prog) (t := 28) 11 (by kernel_rfl)
      unfold ShpA at h1 h3
      rw [hu] at h1
      rw [u3] at h3
      obtain ⟨cs, rfl, h1⟩ := h1
      obtain ⟨b, rfl⟩ := shp_book h1
      obtain ⟨n, e⟩ := shp_int h3
      cases e
      exact ⟨b, n, rfl⟩
theorem ret5_all (hi : Off is) (r8 : RetP Try.prog is orc 8 [] (.bool true)) : ∀ us, ShpAs Try.prog [28, 3] us → RetP Try.prog is orc 5 us (.bool true) := by
  intro us h
  obtain ⟨b, n, rfl⟩ := shp_argsR h
  by_cases hv : checkR b ≠ 0
  · exact ret5n hi hv n r8
  · exact ret5 hi (checkR_ok hv) n r8
end Go.Proofs.Ytniplfmjbjjocaa.forgeReady
