/- forge's functions, the specification's and the law's, by the logic of trees: what each gives back for all that it may be given. -/
import Derived.Test.YtoldkckmenjknaaGreatVamTin7
namespace Go.Proofs.YtoldkckmenjknaaGreat.forgeTin
open Vam
set_option linter.unusedVariables false
set_option linter.unusedSimpArgs false
set_option linter.constructorNameAsVariable false
variable {is : FuncId → Bool} {orc : Known}
def castE (b : Bk) (many : Int) : Int := if eqQ (castQ b many) zQ = true then 4 else 0
def castL (b : Bk) (many : Int) : List Int := if eqQ (castQ b many) zQ = true then [] else lstQ (castQ b many) b.lots.length
set_option maxHeartbeats 8000000 in
theorem ret11 (hi : Off is) {b : Bk} (hb : Ok b) (many : Int) (hm : 1 ≤ many ∧ many ≤ 24) : RetP Tryz.prog is orc 11 [b.u, .int .i64 many] (.tup [.lst .ro 1 (intsU (castL b many)), .int .i64 (castE b many)]) := by
  refine ret_of body11 pure11 (hi 11 (by decide)) rfl rfl (dat_l2 (dat_bk b 5) (.int _ _ _)) (.inr ⟨_, rfl, dat_l2 (dat_ints 5 .ro (fun h => by cases h) 1 _) (.int _ _ _)⟩) ?_
  have hnl := hb.nl
  have q38 : RetP Tryz.prog is orc 34 [spanU 1 24, .int .i64 many] (.bool true) := by
    have := ret34 (orc := orc) hi 1 24 many
    rwa [show (decide (1 ≤ many) && decide (many ≤ 24)) = true by simp; omega] at this
  have q45 := ret35 (orc := orc) hi hb many (by omega)
  unfold castL castE
  cases hz : eqQ (castQ b many) zQ with
  | true =>
    rw [if_pos rfl, if_pos rfl]
    refine k_seq (k_region ?_)
    refine o_box rfl rfl ?_
    refine o_assign rfl ?_
    refine o_assign rfl ?_
    refine o_nil ?_
    refine k_gen [(1, .int .i64 many), (2, U.box 0 0)] ([SB.box [U.lst Kd.ro 3 (trisU (Bk.lots b)), .int .i64 (Bk.tlo b), .int .i64 (Bk.thi b), .int .i64 (Bk.thick b), .int .i64 (Bk.crack b), .int .i64 (Bk.glo b), .int .i64 (Bk.ghi b), U.lst Kd.ro 2 (twosU (Bk.thins b)), .int .i64 (Bk.hot b), .int .i64 (Bk.least b), .int .i64 (Bk.clo b), .int .i64 (Bk.chi b), .int .i64 (Bk.coal b), U.lst Kd.ro 3 (trisU (Bk.looks b))]]) (.cons rfl (.cons rfl (.nil rfl))) rfl fun fr => ?_
    refine k_seq ?_
    refine k_draw [.read true, .plain, .plain, .read false, .quiet, .plain, .plain, .plain, .pre, .plain, .plain] (by kernel_rfl) (by kernel_rfl) (by kernel_rfl) ?_
    refine d_load rfl (o_loadN rfl rfl rfl sh28 rfl (o_nil rfl)) ?_
    refine d_plain (o_build rfl ze24 pl24 rfl rfl (o_nil rfl)) ?_
    refine d_plain (o_move rfl (o_nil rfl)) ?_
    refine d_callR rfl (q38) (.bool _) (.lrefl _) ?_
    refine d_callQ rfl (ret29 hi hb) (.lrefl _) ?_
    refine d_plain (o_move rfl (o_nil rfl)) ?_
    refine d_plain (o_extract rfl rfl rfl (o_nil rfl)) ?_
    refine d_plain (o_extract rfl rfl rfl (o_nil rfl)) ?_
    refine d_pre rfl ze60 ?_
    refine d_plain (o_storeN rfl rfl sh60 rfl rfl rfl rfl rfl (o_nil rfl)) ?_
    refine d_plain (o_assign rfl (o_nil rfl)) ?_
    refine d_nil ?_
    refine k_gen [(1, .int .i64 many), (2, U.box 0 0), (6, U.box 1 0), (7, .int .i64 0)] ([SB.box [U.lst Kd.ro 3 (trisU (Bk.lots b)), .int .i64 (Bk.tlo b), .int .i64 (Bk.thi b), .int .i64 (Bk.thick b), .int .i64 (Bk.crack b), .int .i64 (Bk.glo b), .int .i64 (Bk.ghi b), U.lst Kd.ro 2 (twosU (Bk.thins b)), .int .i64 (Bk.hot b), .int .i64 (Bk.least b), .int .i64 (Bk.clo b), .int .i64 (Bk.chi b), .int .i64 (Bk.coal b), U.lst Kd.ro 3 (trisU (Bk.looks b))], SB.box [U.lst Kd.ro 3 (trisU (Bk.lots b)), .int .i64 (Bk.tlo b), .int .i64 (Bk.thi b), .int .i64 (Bk.thick b), .int .i64 (Bk.crack b), .int .i64 (Bk.glo b), .int .i64 (Bk.ghi b), U.lst Kd.ro 2 (twosU (Bk.thins b)), .int .i64 (Bk.hot b), .int .i64 (Bk.least b), .int .i64 (Bk.clo b), .int .i64 (Bk.chi b), .int .i64 (Bk.coal b), U.lst Kd.ro 3 (trisU (Bk.looks b)), .int .i64 (stk b (List.length (Bk.lots b)) 0), .int .i64 (stk b (List.length (Bk.lots b)) 1), .int .i64 (stk b (List.length (Bk.lots b)) 2), .int .i64 (stk b (List.length (Bk.lots b)) 3), U.lst Kd.full 0 []]]) (.cons rfl (.cons rfl (.cons rfl (.cons rfl (.nil rfl))))) rfl fun fr => ?_
    refine k_seq ?_
    refine k_seq (k_region ?_)
    refine o_move rfl ?_
    refine o_neq rfl rfl rfl ?_
    refine o_nil ?_
    refine k_cF rfl rfl ?_
    refine k_skip ?_
    refine k_seq (k_region ?_)
    refine o_loadN rfl rfl rfl sh60 rfl ?_
    refine o_move rfl ?_
    refine o_call rfl (q45) (.lrefl _) ?_
    refine o_alloc rfl ze57 ?_
    refine o_storeN rfl rfl sh57 rfl rfl rfl rfl rfl ?_
    refine o_nil ?_
    refine k_gen [(2, U.box 0 0), (8, U.box 2 0)] ([SB.box [U.lst Kd.ro 3 (trisU (Bk.lots b)), .int .i64 (Bk.tlo b), .int .i64 (Bk.thi b), .int .i64 (Bk.thick b), .int .i64 (Bk.crack b), .int .i64 (Bk.glo b), .int .i64 (Bk.ghi b), U.lst Kd.ro 2 (twosU (Bk.thins b)), .int .i64 (Bk.hot b), .int .i64 (Bk.least b), .int .i64 (Bk.clo b), .int .i64 (Bk.chi b), .int .i64 (Bk.coal b), U.lst Kd.ro 3 (trisU (Bk.looks b))], SB.box [U.lst Kd.ro 3 (trisU (Bk.lots b)), .int .i64 (Bk.tlo b), .int .i64 (Bk.thi b), .int .i64 (Bk.thick b), .int .i64 (Bk.crack b), .int .i64 (Bk.glo b), .int .i64 (Bk.ghi b), U.lst Kd.ro 2 (twosU (Bk.thins b)), .int .i64 (Bk.hot b), .int .i64 (Bk.least b), .int .i64 (Bk.clo b), .int .i64 (Bk.chi b), .int .i64 (Bk.coal b), U.lst Kd.ro 3 (trisU (Bk.looks b)), .int .i64 (stk b (List.length (Bk.lots b)) 0), .int .i64 (stk b (List.length (Bk.lots b)) 1), .int .i64 (stk b (List.length (Bk.lots b)) 2), .int .i64 (stk b (List.length (Bk.lots b)) 3), U.lst Kd.full 0 []], SB.box [.int .i64 (Qd.a (castQ b many)), .int .i64 (Qd.b (castQ b many)), .int .i64 (Qd.c (castQ b many)), .int .i64 (Qd.d (castQ b many))]]) (.cons rfl (.cons rfl (.nil rfl))) rfl fun fr => ?_
    refine k_seq ?_
    refine k_seq (k_region ?_)
    refine o_loadN rfl rfl rfl sh57 rfl ?_
    refine o_build rfl ze57 pl57 rfl rfl ?_
    refine o_binK rfl rfl rfl rfl rfl ((eql_q _ zQ).trans (by rw [hz])) ?_
    refine o_nil ?_
    refine k_cT rfl rfl ?_
    refine k_seq (k_region ?_)
    refine o_assign rfl ?_
    refine o_assign rfl ?_
    refine o_nil ?_
    refine k_ret ?_
    refine ⟨.inr rfl, _, .cons _ _ _ _ (.tmp 4) (.cons _ _ _ _ (.tmp 5) .nil), ?_⟩
    exact .tup _ _ (.lcons _ _ _ _ (.nil _ _ _) (.lrefl _))
  | false =>
    rw [if_neg (by simp), if_neg (by simp)]
    refine k_seq (k_region ?_)
    refine o_box rfl rfl ?_
    refine o_assign rfl ?_
    refine o_assign rfl ?_
    refine o_nil ?_
    refine k_gen [(1, .int .i64 many), (2, U.box 0 0)] ([SB.box [U.lst Kd.ro 3 (trisU (Bk.lots b)), .int .i64 (Bk.tlo b), .int .i64 (Bk.thi b), .int .i64 (Bk.thick b), .int .i64 (Bk.crack b), .int .i64 (Bk.glo b), .int .i64 (Bk.ghi b), U.lst Kd.ro 2 (twosU (Bk.thins b)), .int .i64 (Bk.hot b), .int .i64 (Bk.least b), .int .i64 (Bk.clo b), .int .i64 (Bk.chi b), .int .i64 (Bk.coal b), U.lst Kd.ro 3 (trisU (Bk.looks b))]]) (.cons rfl (.cons rfl (.nil rfl))) rfl fun fr => ?_
    refine k_seq ?_
    refine k_draw [.read true, .plain, .plain, .read false, .quiet, .plain, .plain, .plain, .pre, .plain, .plain] (by kernel_rfl) (by kernel_rfl) (by kernel_rfl) ?_
    refine d_load rfl (o_loadN rfl rfl rfl sh28 rfl (o_nil rfl)) ?_
    refine d_plain (o_build rfl ze24 pl24 rfl rfl (o_nil rfl)) ?_
    refine d_plain (o_move rfl (o_nil rfl)) ?_
    refine d_callR rfl (q38) (.bool _) (.lrefl _) ?_
    refine d_callQ rfl (ret29 hi hb) (.lrefl _) ?_
    refine d_plain (o_move rfl (o_nil rfl)) ?_
    refine d_plain (o_extract rfl rfl rfl (o_nil rfl)) ?_
    refine d_plain (o_extract rfl rfl rfl (o_nil rfl)) ?_
    refine d_pre rfl ze60 ?_
    refine d_plain (o_storeN rfl rfl sh60 rfl rfl rfl rfl rfl (o_nil rfl)) ?_
    refine d_plain (o_assign rfl (o_nil rfl)) ?_
    refine d_nil ?_
    refine k_gen [(1, .int .i64 many), (2, U.box 0 0), (6, U.box 1 0), (7, .int .i64 0)] ([SB.box [U.lst Kd.ro 3 (trisU (Bk.lots b)), .int .i64 (Bk.tlo b), .int .i64 (Bk.thi b), .int .i64 (Bk.thick b), .int .i64 (Bk.crack b), .int .i64 (Bk.glo b), .int .i64 (Bk.ghi b), U.lst Kd.ro 2 (twosU (Bk.thins b)), .int .i64 (Bk.hot b), .int .i64 (Bk.least b), .int .i64 (Bk.clo b), .int .i64 (Bk.chi b), .int .i64 (Bk.coal b), U.lst Kd.ro 3 (trisU (Bk.looks b))], SB.box [U.lst Kd.ro 3 (trisU (Bk.lots b)), .int .i64 (Bk.tlo b), .int .i64 (Bk.thi b), .int .i64 (Bk.thick b), .int .i64 (Bk.crack b), .int .i64 (Bk.glo b), .int .i64 (Bk.ghi b), U.lst Kd.ro 2 (twosU (Bk.thins b)), .int .i64 (Bk.hot b), .int .i64 (Bk.least b), .int .i64 (Bk.clo b), .int .i64 (Bk.chi b), .int .i64 (Bk.coal b), U.lst Kd.ro 3 (trisU (Bk.looks b)), .int .i64 (stk b (List.length (Bk.lots b)) 0), .int .i64 (stk b (List.length (Bk.lots b)) 1), .int .i64 (stk b (List.length (Bk.lots b)) 2), .int .i64 (stk b (List.length (Bk.lots b)) 3), U.lst Kd.full 0 []]]) (.cons rfl (.cons rfl (.cons rfl (.cons rfl (.nil rfl))))) rfl fun fr => ?_
    refine k_seq ?_
    refine k_seq (k_region ?_)
    refine o_move rfl ?_
    refine o_neq rfl rfl rfl ?_
    refine o_nil ?_
    refine k_cF rfl rfl ?_
    refine k_skip ?_
    refine k_seq (k_region ?_)
    refine o_loadN rfl rfl rfl sh60 rfl ?_
    refine o_move rfl ?_
    refine o_call rfl (q45) (.lrefl _) ?_
    refine o_alloc rfl ze57 ?_
    refine o_storeN rfl rfl sh57 rfl rfl rfl rfl rfl ?_
    refine o_nil ?_
    refine k_gen [(2, U.box 0 0), (8, U.box 2 0)] ([SB.box [U.lst Kd.ro 3 (trisU (Bk.lots b)), .int .i64 (Bk.tlo b), .int .i64 (Bk.thi b), .int .i64 (Bk.thick b), .int .i64 (Bk.crack b), .int .i64 (Bk.glo b), .int .i64 (Bk.ghi b), U.lst Kd.ro 2 (twosU (Bk.thins b)), .int .i64 (Bk.hot b), .int .i64 (Bk.least b), .int .i64 (Bk.clo b), .int .i64 (Bk.chi b), .int .i64 (Bk.coal b), U.lst Kd.ro 3 (trisU (Bk.looks b))], SB.box [U.lst Kd.ro 3 (trisU (Bk.lots b)), .int .i64 (Bk.tlo b), .int .i64 (Bk.thi b), .int .i64 (Bk.thick b), .int .i64 (Bk.crack b), .int .i64 (Bk.glo b), .int .i64 (Bk.ghi b), U.lst Kd.ro 2 (twosU (Bk.thins b)), .int .i64 (Bk.hot b), .int .i64 (Bk.least b), .int .i64 (Bk.clo b), .int .i64 (Bk.chi b), .int .i64 (Bk.coal b), U.lst Kd.ro 3 (trisU (Bk.looks b)), .int .i64 (stk b (List.length (Bk.lots b)) 0), .int .i64 (stk b (List.length (Bk.lots b)) 1), .int .i64 (stk b (List.length (Bk.lots b)) 2), .int .i64 (stk b (List.length (Bk.lots b)) 3), U.lst Kd.full 0 []], SB.box [.int .i64 (Qd.a (castQ b many)), .int .i64 (Qd.b (castQ b many)), .int .i64 (Qd.c (castQ b many)), .int .i64 (Qd.d (castQ b many))]]) (.cons rfl (.cons rfl (.nil rfl))) rfl fun fr => ?_
    refine k_seq ?_
    refine k_seq (k_region ?_)
    refine o_loadN rfl rfl rfl sh57 rfl ?_
    refine o_build rfl ze57 pl57 rfl rfl ?_
    refine o_binK rfl rfl rfl rfl rfl ((eql_q _ zQ).trans (by rw [hz])) ?_
    refine o_nil ?_
    refine k_cF rfl rfl ?_
    refine k_skip ?_
    refine k_seq (k_region ?_)
    refine o_loadN rfl rfl rfl sh57 rfl ?_
    refine o_faddr rfl rfl fld28_0 ?_
    refine o_load1 rfl rfl rfl sh22 rfl ?_
    refine o_len rfl ty22 rfl (List.length_map _) ?_
    refine o_call rfl (ret36 hi (castQ b many) b.lots.length (by omega)) (.lrefl _) ?_
    refine o_assign rfl ?_
    refine o_assign rfl ?_
    refine o_nil ?_
    refine k_ret ?_
    refine ⟨.inr rfl, _, .cons _ _ _ _ (.tmp 4) (.cons _ _ _ _ (.tmp 5) .nil), ?_⟩
    exact .refl _
end Go.Proofs.YtoldkckmenjknaaGreat.forgeTin
