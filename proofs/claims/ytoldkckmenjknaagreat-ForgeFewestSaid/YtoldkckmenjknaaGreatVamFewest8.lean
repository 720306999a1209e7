/- forge's functions, the specification's and the law's, by the logic of trees: what each gives back for all that it may be given. -/
import Derived.Test.YtoldkckmenjknaaGreatVamFewest7
namespace Go.Proofs.YtoldkckmenjknaaGreat.forgeFewest
open Vam
set_option linter.unusedVariables false
set_option linter.unusedSimpArgs false
set_option linter.constructorNameAsVariable false
variable {is : FuncId → Bool} {orc : Known}
noncomputable def b14 : Code := (Tryz.f14.body).getD .skip
theorem body14 : bodyOf Tryz.prog 14 = some (25, b14, [.tmp 2, .tmp 3]) := by kernel_rfl
theorem pure14 : pureFn Tryz.prog 14 = true := by kernel_rfl
def castE (b : Bk) (many : Int) : Int := if eqQ (castQ b many) zQ = true then 4 else 0
def castL (b : Bk) (many : Int) : List Int := if eqQ (castQ b many) zQ = true then [] else lstQ (castQ b many) b.lots.length
set_option maxHeartbeats 8000000 in
theorem ret11 (hi : Off is) {b : Bk} (hb : Ok b) (many : Int) (hm : 1 ≤ many ∧ many ≤ 24) : RetP Tryz.prog is orc 11 [b.u, .int .i64 many] (.tup [.lst .ro 1 (intsU (castL b many)), .int .i64 (castE b many)]) := by
  refine ret_of body11 pure11 (hi 11 (by decide)) rfl rfl (dat_l2 (dat_bk b 5) (.int _ _ _)) (.inr ⟨_, rfl, dat_l2 (dat_ints 5 .ro (fun h => by cases h) 1 _) (.int _ _ _)⟩) ?_
  have hnl := hb.nl
  have q38 : RetP Tryz.prog is orc 34 [spanU 1 24, .int .i64 many] (.bool true) := by
    have := ret34 (orc := orc) hi 1 24 many
    rwa [show (decide (1 ≤ many) && decide (many ≤ 24)) = true by simp; omega] at this
  have q45 := ret35 (orc := orc) hi hb many (by omega)
  unfold castL castE
  cases hz : eqQ (castQ b many) zQ with
  | true =>
    rw [if_pos rfl, if_pos rfl]
    refine k_seq (k_region ?_)
    refine o_box rfl rfl ?_
    refine o_assign rfl ?_
    refine o_assign rfl ?_
    refine o_nil ?_
    refine k_gen [(1, .int .i64 many), (2, U.box 0 0)] ([SB.box [U.lst Kd.ro 3 (trisU (Bk.lots b)), .int .i64 (Bk.tlo b), .int .i64 (Bk.thi b), .int .i64 (Bk.thick b), .int .i64 (Bk.crack b), .int .i64 (Bk.glo b), .int .i64 (Bk.ghi b), U.lst Kd.ro 2 (twosU (Bk.thins b)), .int .i64 (Bk.hot b), .int .i64 (Bk.least b), .int .i64 (Bk.clo b), .int .i64 (Bk.chi b), .int .i64 (Bk.coal b), U.lst Kd.ro 3 (trisU (Bk.looks b))]]) (.cons rfl (.cons rfl (.nil rfl))) rfl fun fr => ?_
    refine k_seq ?_
    refine k_draw [.read true, .plain, .plain, .read false, .quiet, .plain, .plain, .plain, .pre, .plain, .plain] (by kernel_rfl) (by kernel_rfl) (by kernel_rfl) ?_
    refine d_load rfl (o_loadN rfl rfl rfl sh28 rfl (o_nil rfl)) ?_
    refine d_plain (o_build rfl ze24 pl24 rfl rfl (o_nil rfl)) ?_
    refine d_plain (o_move rfl (o_nil rfl)) ?_
    refine d_callR rfl (q38) (.bool _) (.lrefl _) ?_
    refine d_callQ rfl (ret29 hi hb) (.lrefl _) ?_
    refine d_plain (o_move rfl (o_nil rfl)) ?_
    refine d_plain (o_extract rfl rfl rfl (o_nil rfl)) ?_
    refine d_plain (o_extract rfl rfl rfl (o_nil rfl)) ?_
    refine d_pre rfl ze60 ?_
    refine d_plain (o_storeN rfl rfl sh60 rfl rfl rfl rfl rfl (o_nil rfl)) ?_
    refine d_plain (o_assign rfl (o_nil rfl)) ?_
    refine d_nil ?_
    refine k_gen [(1, .int .i64 many), (2, U.box 0 0), (6, U.box 1 0), (7, .int .i64 0)] ([SB.box [U.lst Kd.ro 3 (trisU (Bk.lots b)), .int .i64 (Bk.tlo b), .int .i64 (Bk.thi b), .int .i64 (Bk.thick b), .int .i64 (Bk.crack b), .int .i64 (Bk.glo b), .int .i64 (Bk.ghi b), U.lst Kd.ro 2 (twosU (Bk.thins b)), .int .i64 (Bk.hot b), .int .i64 (Bk.least b), .int .i64 (Bk.clo b), .int .i64 (Bk.chi b), .int .i64 (Bk.coal b), U.lst Kd.ro 3 (trisU (Bk.looks b))], SB.box [U.lst Kd.ro 3 (trisU (Bk.lots b)), .int .i64 (Bk.tlo b), .int .i64 (Bk.thi b), .int .i64 (Bk.thick b), .int .i64 (Bk.crack b), .int .i64 (Bk.glo b), .int .i64 (Bk.ghi b), U.lst Kd.ro 2 (twosU (Bk.thins b)), .int .i64 (Bk.hot b), .int .i64 (Bk.least b), .int .i64 (Bk.clo b), .int .i64 (Bk.chi b), .int .i64 (Bk.coal b), U.lst Kd.ro 3 (trisU (Bk.looks b)), .int .i64 (stk b (List.length (Bk.lots b)) 0), .int .i64 (stk b (List.length (Bk.lots b)) 1), .int .i64 (stk b (List.length (Bk.lots b)) 2), .int .i64 (stk b (List.length (Bk.lots b)) 3), U.lst Kd.full 0 []]]) (.cons rfl (.cons rfl (.cons rfl (.cons rfl (.nil rfl))))) rfl fun fr => ?_
    refine k_seq ?_
    refine k_seq (k_region ?_)
    refine o_move rfl ?_
    refine o_neq rfl rfl rfl ?_
    refine o_nil ?_
    refine k_cF rfl rfl ?_
    refine k_skip ?_
    refine k_seq (k_region ?_)
    refine o_loadN rfl rfl rfl sh60 rfl ?_
    refine o_move rfl ?_
    refine o_call rfl (q45) (.lrefl _) ?_
    refine o_alloc rfl ze57 ?_
    refine o_storeN rfl rfl sh57 rfl rfl rfl rfl rfl ?_
    refine o_nil ?_
    refine k_gen [(2, U.box 0 0), (8, U.box 2 0)] ([SB.box [U.lst Kd.ro 3 (trisU (Bk.lots b)), .int .i64 (Bk.tlo b), .int .i64 (Bk.thi b), .int .i64 (Bk.thick b), .int .i64 (Bk.crack b), .int .i64 (Bk.glo b), .int .i64 (Bk.ghi b), U.lst Kd.ro 2 (twosU (Bk.thins b)), .int .i64 (Bk.hot b), .int .i64 (Bk.least b), .int .i64 (Bk.clo b), .int .i64 (Bk.chi b), .int .i64 (Bk.coal b), U.lst Kd.ro 3 (trisU (Bk.looks b))], SB.box [U.lst Kd.ro 3 (trisU (Bk.lots b)), .int .i64 (Bk.tlo b), .int .i64 (Bk.thi b), .int .i64 (Bk.thick b), .int .i64 (Bk.crack b), .int .i64 (Bk.glo b), .int .i64 (Bk.ghi b), U.lst Kd.ro 2 (twosU (Bk.thins b)), .int .i64 (Bk.hot b), .int .i64 (Bk.least b), .int .i64 (Bk.clo b), .int .i64 (Bk.chi b), .int .i64 (Bk.coal b), U.lst Kd.ro 3 (trisU (Bk.looks b)), .int .i64 (stk b (List.length (Bk.lots b)) 0), .int .i64 (stk b (List.length (Bk.lots b)) 1), .int .i64 (stk b (List.length (Bk.lots b)) 2), .int .i64 (stk b (List.length (Bk.lots b)) 3), U.lst Kd.full 0 []], SB.box [.int .i64 (Qd.a (castQ b many)), .int .i64 (Qd.b (castQ b many)), .int .i64 (Qd.c (castQ b many)), .int .i64 (Qd.d (castQ b many))]]) (.cons rfl (.cons rfl (.nil rfl))) rfl fun fr => ?_
    refine k_seq ?_
    refine k_seq (k_region ?_)
    refine o_loadN rfl rfl rfl sh57 rfl ?_
    refine o_build rfl ze57 pl57 rfl rfl ?_
    refine o_binK rfl rfl rfl rfl rfl ((eql_q _ zQ).trans (by rw [hz])) ?_
    refine o_nil ?_
    refine k_cT rfl rfl ?_
    refine k_seq (k_region ?_)
    refine o_assign rfl ?_
    refine o_assign rfl ?_
    refine o_nil ?_
    refine k_ret ?_
    refine ⟨.inr rfl, _, .cons _ _ _ _ (.tmp 4) (.cons _ _ _ _ (.tmp 5) .nil), ?_⟩
    exact .tup _ _ (.lcons _ _ _ _ (.nil _ _ _) (.lrefl _))
  | false =>
    rw [if_neg (by simp), if_neg (by simp)]
    refine k_seq (k_region ?_)
    refine o_box rfl rfl ?_
    refine o_assign rfl ?_
    refine o_assign rfl ?_
    refine o_nil ?_
    refine k_gen [(1, .int .i64 many), (2, U.box 0 0)] ([SB.box [U.lst Kd.ro 3 (trisU (Bk.lots b)), .int .i64 (Bk.tlo b), .int .i64 (Bk.thi b), .int .i64 (Bk.thick b), .int .i64 (Bk.crack b), .int .i64 (Bk.glo b), .int .i64 (Bk.ghi b), U.lst Kd.ro 2 (twosU (Bk.thins b)), .int .i64 (Bk.hot b), .int .i64 (Bk.least b), .int .i64 (Bk.clo b), .int .i64 (Bk.chi b), .int .i64 (Bk.coal b), U.lst Kd.ro 3 (trisU (Bk.looks b))]]) (.cons rfl (.cons rfl (.nil rfl))) rfl fun fr => ?_
    refine k_seq ?_
    refine k_draw [.read true, .plain, .plain, .read false, .quiet, .plain, .plain, .plain, .pre, .plain, .plain] (by kernel_rfl) (by kernel_rfl) (by kernel_rfl) ?_
    refine d_load rfl (o_loadN rfl rfl rfl sh28 rfl (o_nil rfl)) ?_
    refine d_plain (o_build rfl ze24 pl24 rfl rfl (o_nil rfl)) ?_
    refine d_plain (o_move rfl (o_nil rfl)) ?_
    refine d_callR rfl (q38) (.bool _) (.lrefl _) ?_
    refine d_callQ rfl (ret29 hi hb) (.lrefl _) ?_
    refine d_plain (o_move rfl (o_nil rfl)) ?_
    refine d_plain (o_extract rfl rfl rfl (o_nil rfl)) ?_
    refine d_plain (o_extract rfl rfl rfl (o_nil rfl)) ?_
    refine d_pre rfl ze60 ?_
    refine d_plain (o_storeN rfl rfl sh60 rfl rfl rfl rfl rfl (o_nil rfl)) ?_
    refine d_plain (o_assign rfl (o_nil rfl)) ?_
    refine d_nil ?_
    refine k_gen [(1, .int .i64 many), (2, U.box 0 0), (6, U.box 1 0), (7, .int .i64 0)] ([SB.box [U.lst Kd.ro 3 (trisU (Bk.lots b)), .int .i64 (Bk.tlo b), .int .i64 (Bk.thi b), .int .i64 (Bk.thick b), .int .i64 (Bk.crack b), .int .i64 (Bk.glo b), .int .i64 (Bk.ghi b), U.lst Kd.ro 2 (twosU (Bk.thins b)), .int .i64 (Bk.hot b), .int .i64 (Bk.least b), .int .i64 (Bk.clo b), .int .i64 (Bk.chi b), .int .i64 (Bk.coal b), U.lst Kd.ro 3 (trisU (Bk.looks b))], SB.box [U.lst Kd.ro 3 (trisU (Bk.lots b)), .int .i64 (Bk.tlo b), .int .i64 (Bk.thi b), .int .i64 (Bk.thick b), .int .i64 (Bk.crack b), .int .i64 (Bk.glo b), .int .i64 (Bk.ghi b), U.lst Kd.ro 2 (twosU (Bk.thins b)), .int .i64 (Bk.hot b), .int .i64 (Bk.least b), .int .i64 (Bk.clo b), .int .i64 (Bk.chi b), .int .i64 (Bk.coal b), U.lst Kd.ro 3 (trisU (Bk.looks b)), .int .i64 (stk b (List.length (Bk.lots b)) 0), .int .i64 (stk b (List.length (Bk.lots b)) 1), .int .i64 (stk b (List.length (Bk.lots b)) 2), .int .i64 (stk b (List.length (Bk.lots b)) 3), U.lst Kd.full 0 []]]) (.cons rfl (.cons rfl (.cons rfl (.cons rfl (.nil rfl))))) rfl fun fr => ?_
    refine k_seq ?_
    refine k_seq (k_region ?_)
    refine o_move rfl ?_
    refine o_neq rfl rfl rfl ?_
    refine o_nil ?_
    refine k_cF rfl rfl ?_
    refine k_skip ?_
    refine k_seq (k_region ?_)
    refine o_loadN rfl rfl rfl sh60 rfl ?_
    refine o_move rfl ?_
    refine o_call rfl (q45) (.lrefl _) ?_
    refine o_alloc rfl ze57 ?_
    refine o_storeN rfl rfl sh57 rfl rfl rfl rfl rfl ?_
    refine o_nil ?_
    refine k_gen [(2, U.box 0 0), (8, U.box 2 0)] ([SB.box [U.lst Kd.ro 3 (trisU (Bk.lots b)), .int .i64 (Bk.tlo b), .int .i64 (Bk.thi b), .int .i64 (Bk.thick b), .int .i64 (Bk.crack b), .int .i64 (Bk.glo b), .int .i64 (Bk.ghi b), U.lst Kd.ro 2 (twosU (Bk.thins b)), .int .i64 (Bk.hot b), .int .i64 (Bk.least b), .int .i64 (Bk.clo b), .int .i64 (Bk.chi b), .int .i64 (Bk.coal b), U.lst Kd.ro 3 (trisU (Bk.looks b))], SB.box [U.lst Kd.ro 3 (trisU (Bk.lots b)), .int .i64 (Bk.tlo b), .int .i64 (Bk.thi b), .int .i64 (Bk.thick b), .int .i64 (Bk.crack b), .int .i64 (Bk.glo b), .int .i64 (Bk.ghi b), U.lst Kd.ro 2 (twosU (Bk.thins b)), .int .i64 (Bk.hot b), .int .i64 (Bk.least b), .int .i64 (Bk.clo b), .int .i64 (Bk.chi b), .int .i64 (Bk.coal b), U.lst Kd.ro 3 (trisU (Bk.looks b)), .int .i64 (stk b (List.length (Bk.lots b)) 0), .int .i64 (stk b (List.length (Bk.lots b)) 1), .int .i64 (stk b (List.length (Bk.lots b)) 2), .int .i64 (stk b (List.length (Bk.lots b)) 3), U.lst Kd.full 0 []], SB.box [.int .i64 (Qd.a (castQ b many)), .int .i64 (Qd.b (castQ b many)), .int .i64 (Qd.c (castQ b many)), .int .i64 (Qd.d (castQ b many))]]) (.cons rfl (.cons rfl (.nil rfl))) rfl fun fr => ?_
    refine k_seq ?_
    refine k_seq (k_region ?_)
    refine o_loadN rfl rfl rfl sh57 rfl ?_
    refine o_build rfl ze57 pl57 rfl rfl ?_
    refine o_binK rfl rfl rfl rfl rfl ((eql_q _ zQ).trans (by rw [hz])) ?_
    refine o_nil ?_
    refine k_cF rfl rfl ?_
    refine k_skip ?_
    refine k_seq (k_region ?_)
    refine o_loadN rfl rfl rfl sh57 rfl ?_
    refine o_faddr rfl rfl fld28_0 ?_
    refine o_load1 rfl rfl rfl sh22 rfl ?_
    refine o_len rfl ty22 rfl (List.length_map _) ?_
    refine o_call rfl (ret36 hi (castQ b many) b.lots.length (by omega)) (.lrefl _) ?_
    refine o_assign rfl ?_
    refine o_assign rfl ?_
    refine o_nil ?_
    refine k_ret ?_
    refine ⟨.inr rfl, _, .cons _ _ _ _ (.tmp 4) (.cons _ _ _ _ (.tmp 5) .nil), ?_⟩
    exact .refl _
theorem neq_q (m n : Qd) : binV Tryz.prog 57 .neq (valK m.u) (valK n.u) = some (.bool (!(eqQ m n))) := by
  have h : binV Tryz.prog 57 .neq (valK m.u) (valK n.u) = opt none (fun x => some (V.bool (!x))) (Vam.cond (ieq m.a n.a) (Vam.cond (ieq m.b n.b) (Vam.cond (ieq m.c n.c) (Vam.cond (ieq m.d n.d) (some true) (some false)) (some false)) (some false)) (some false)) := by kernel_rfl
  rw [h, ieq_eq, ieq_eq, ieq_eq, ieq_eq]
  have key : ∀ x y : Int, (x == y) = decide (x = y) := fun x y => by by_cases h : x = y <;> simp [h]
  rw [key, key, key, key]
  unfold eqQ
  generalize decide (m.a = n.a) = p1
  generalize decide (m.b = n.b) = p2
  generalize decide (m.c = n.c) = p3
  generalize decide (m.d = n.d) = p4
  cases p1 <;> cases p2 <;> cases p3 <;> cases p4 <;> rfl
def mostI (b : Bk) : Nat → Int
  | 0 => 0
  | n + 1 => if eqQ (castQ b (n + 1 : Nat)) zQ = true then mostI b n else (n + 1 : Nat)
set_option maxHeartbeats 8000000 in
theorem ret14 (hi : Off is) {b : Bk} (hb : Ok b) : RetP Tryz.prog is orc 14 [b.u] (.tup [.int .i64 (mostI b 24), .int .i64 (if mostI b 24 = 0 then 4 else 0)]) := by
  refine ret_of body14 pure14 (hi 14 (by decide)) rfl rfl (dat_l1 (dat_bk b 5)) (.inr ⟨_, rfl, dat_l2 (k := 7) (.int _ _ _) (.int _ _ _)⟩) ?_
  refine k_seq (k_region ?_)
  refine o_box rfl rfl ?_
  refine o_assign rfl ?_
  refine o_assign rfl ?_
  refine o_nil ?_
  refine k_gen [(1, U.box 0 0)] ([SB.box [U.lst Kd.ro 3 (trisU (Bk.lots b)), .int .i64 (Bk.tlo b), .int .i64 (Bk.thi b), .int .i64 (Bk.thick b), .int .i64 (Bk.crack b), .int .i64 (Bk.glo b), .int .i64 (Bk.ghi b), U.lst Kd.ro 2 (twosU (Bk.thins b)), .int .i64 (Bk.hot b), .int .i64 (Bk.least b), .int .i64 (Bk.clo b), .int .i64 (Bk.chi b), .int .i64 (Bk.coal b), U.lst Kd.ro 3 (trisU (Bk.looks b))]]) (.cons rfl (.nil rfl)) rfl fun fr => ?_
  refine k_seq (k_region ?_)
  refine o_loadN rfl rfl rfl sh28 rfl ?_
  refine o_call rfl (ret29 hi hb) (.lrefl _) ?_
  refine o_move rfl ?_
  refine o_extract rfl rfl rfl ?_
  refine o_extract rfl rfl rfl ?_
  refine o_alloc rfl ze60 ?_
  refine o_storeN rfl rfl sh60 rfl rfl rfl rfl rfl ?_
  refine o_assign rfl ?_
  refine o_nil ?_
  refine k_gen [(4, U.box 1 0), (5, .int .i64 0)] ([SB.box [U.lst Kd.ro 3 (trisU (Bk.lots b)), .int .i64 (Bk.tlo b), .int .i64 (Bk.thi b), .int .i64 (Bk.thick b), .int .i64 (Bk.crack b), .int .i64 (Bk.glo b), .int .i64 (Bk.ghi b), U.lst Kd.ro 2 (twosU (Bk.thins b)), .int .i64 (Bk.hot b), .int .i64 (Bk.least b), .int .i64 (Bk.clo b), .int .i64 (Bk.chi b), .int .i64 (Bk.coal b), U.lst Kd.ro 3 (trisU (Bk.looks b))], SB.box [U.lst Kd.ro 3 (trisU (Bk.lots b)), .int .i64 (Bk.tlo b), .int .i64 (Bk.thi b), .int .i64 (Bk.thick b), .int .i64 (Bk.crack b), .int .i64 (Bk.glo b), .int .i64 (Bk.ghi b), U.lst Kd.ro 2 (twosU (Bk.thins b)), .int .i64 (Bk.hot b), .int .i64 (Bk.least b), .int .i64 (Bk.clo b), .int .i64 (Bk.chi b), .int .i64 (Bk.coal b), U.lst Kd.ro 3 (trisU (Bk.looks b)), .int .i64 (stk b (List.length (Bk.lots b)) 0), .int .i64 (stk b (List.length (Bk.lots b)) 1), .int .i64 (stk b (List.length (Bk.lots b)) 2), .int .i64 (stk b (List.length (Bk.lots b)) 3), U.lst Kd.full 0 []]]) (.cons rfl (.cons rfl (.nil rfl))) rfl fun fr => ?_
  refine k_seq ?_
  refine k_seq (k_region ?_)
  refine o_move rfl ?_
  refine o_neq rfl rfl rfl ?_
  refine o_nil ?_
  refine k_cF rfl rfl ?_
  refine k_skip ?_
  refine k_seq ?_
  refine k_seq (k_region ?_)
  refine o_assign rfl ?_
  refine o_nil ?_
  refine k_block ?_
  refine k_loop (fun k st => ∃ (n : Nat), k = n ∧ n ≤ 24 ∧ mostI b 24 = mostI b n ∧ st.st = [.box b.cs, .box (bkN b b.lots.length)] ∧ Holds st [(4, .box 1 0), (6, .int .i64 n)]) (fun k st hI => ?_) 24 _ ?_
  · obtain ⟨n, hkn, hn, hmo, hst, hs⟩ := hI
    cases n with
    | zero =>
      rw [hmo]
      refine k_gen _ _ hs hst fun fr => ?_
      refine k_seq ?_
      refine k_seq (k_region ?_)
      refine o_move rfl ?_
      refine o_gtr rfl rfl rfl ?_
      refine o_nil ?_
      refine k_cF rfl rfl ?_
      refine k_exit ?_
      refine k_seq (k_region ?_)
      refine o_assign rfl ?_
      refine o_assign rfl ?_
      refine o_nil ?_
      refine k_ret ?_
      refine ⟨.inr rfl, _, .cons _ _ _ _ (.tmp 2) (.cons _ _ _ _ (.tmp 3) .nil), ?_⟩
      exact .refl _
    | succ n =>
      have q45 := ret35 (orc := orc) hi hb ((n + 1 : Nat) : Int) (by omega)
      refine k_gen _ _ hs hst fun fr => ?_
      cases hz : eqQ (castQ b ((n + 1 : Nat) : Int)) zQ with
      | true =>
        refine k_seq ?_
        refine k_seq (k_region ?_)
        refine o_move rfl ?_
        refine o_gtr rfl rfl rfl ?_
        refine o_nil ?_
        refine k_cT rfl (decide_eq_true (by omega)) ?_
        refine k_skip ?_
        refine k_seq ?_
        refine k_block ?_
        refine k_seq (k_region ?_)
        refine o_loadN rfl rfl rfl sh60 rfl ?_
        refine o_move rfl ?_
        refine o_call rfl (q45) (.lrefl _) ?_
        refine o_build rfl ze57 pl57 rfl rfl ?_
        refine o_binK rfl rfl rfl rfl rfl ((neq_q _ zQ).trans (by rw [hz])) ?_
        refine o_nil ?_
        refine k_cF rfl rfl ?_
        refine k_skip ?_
        refine k_region ?_
        refine o_move rfl ?_
        refine o_sub rfl rfl rfl (by unfold I64; omega) ?_
        refine o_assign rfl ?_
        refine o_nil ?_
        refine ⟨k - 1, by omega, n, by omega, by omega, (by rw [hmo]; show (if eqQ (castQ b (n + 1 : Nat)) zQ = true then mostI b n else (n + 1 : Nat)) = _; rw [if_pos hz]), rfl, .cons rfl (.cons (congrArg (U.int .i64) (by omega)) (.nil rfl))⟩
      | false =>
        have hm1 : mostI b 24 = ((n + 1 : Nat) : Int) := by rw [hmo]; show (if eqQ (castQ b (n + 1 : Nat)) zQ = true then mostI b n else (n + 1 : Nat)) = _; rw [if_neg (by rw [hz]; simp)]
        rw [hm1, if_neg (by omega)]
        refine k_seq ?_
        refine k_seq (k_region ?_)
        refine o_move rfl ?_
        refine o_gtr rfl rfl rfl ?_
        refine o_nil ?_
        refine k_cT rfl (decide_eq_true (by omega)) ?_
        refine k_skip ?_
        refine k_seq ?_
        refine k_block ?_
        refine k_seq (k_region ?_)
        refine o_loadN rfl rfl rfl sh60 rfl ?_
        refine o_move rfl ?_
        refine o_call rfl (q45) (.lrefl _) ?_
        refine o_build rfl ze57 pl57 rfl rfl ?_
        refine o_binK rfl rfl rfl rfl rfl ((neq_q _ zQ).trans (by rw [hz])) ?_
        refine o_nil ?_
        refine k_cT rfl rfl ?_
        refine k_seq (k_region ?_)
        refine o_move rfl ?_
        refine o_assign rfl ?_
        refine o_assign rfl ?_
        refine o_nil ?_
        refine k_ret ?_
        refine ⟨.inr rfl, _, .cons _ _ _ _ (.tmp 2) (.cons _ _ _ _ (.tmp 3) .nil), ?_⟩
        exact .refl _
  · exact ⟨24, rfl, by omega, rfl, rfl, .cons rfl (.cons rfl (.nil rfl))⟩
end Go.Proofs.YtoldkckmenjknaaGreat.forgeFewest
