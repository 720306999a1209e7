/- rasp's functions and the law's, by the logic of trees: what each gives back for all that it may be given. -/
import Derived.Test.YtdahbimllmapkaaVamRaspPlays7
namespace Go.Proofs.Ytdahbimllmapkaa.raspPlays
open Vam
set_option linter.unusedVariables false
set_option linter.unusedSimpArgs false
set_option linter.constructorNameAsVariable false
variable {is : FuncId → Bool} {orc : Known}
noncomputable def b31 : Code := (Try.f31.body).getD .skip
theorem body31 : bodyOf Try.prog 31 = some (110, b31, [.tmp 8, .tmp 9, .tmp 10]) := by kernel_rfl
theorem pure31 : pureFn Try.prog 31 = true := by kernel_rfl
theorem get_at {p : Nat} {ms r : List Int} {x : Int} (h : ms.drop p = x :: r) : ms[p]? = some x := by
  have := congrArg (fun l => l[0]?) h
  simpa using this
theorem drop_at {p : Nat} {ms r : List Int} {x : Int} (h : ms.drop p = x :: r) : ms.drop (p + 1) = r := by
  rw [← List.drop_drop, h]; rfl
set_option maxHeartbeats 8000000 in
theorem ret31 (hi : Off is) {s : Shop} (hk : SOk s) {i : Nat} {q : Tri} (hq : s.keys[i]? = some q) {off : Int} (hin : inB q off = true) (ms : List Int) : RetP Try.prog is orc 31 [s.u, .int .i64 i, .int .i64 off, .lst .ro 1 (intsU ms)] (playA s q off ms) := by
  have hil := (List.getElem?_eq_some_iff.1 hq).1
  have hqb := hk.keys q (List.mem_of_getElem? hq)
  have hnk := hk.nk
  have q34 := ret34 (orc := orc) hi i 0 ((s.keys.length : Int) - 1)
  rw [decide_eq_true (by omega : (0 : Int) ≤ (i : Int)), decide_eq_true (by omega : (i : Int) ≤ (s.keys.length : Int) - 1)] at q34
  have q49 := ret49 (orc := orc) hi s true
  rw [show askR s true = 0 by unfold askR; rw [chk_ok hk]; rfl] at q49
  have q35 := ret35 (orc := orc) hi q.a q.b off
  rw [show (decide (q.a ≤ off) && decide (off ≤ q.b)) = true from hin] at q35
  have q52 := ret52 (orc := orc) hi hk true
  have hoq : q.a ≤ off ∧ off ≤ q.b := by unfold inB at hin; simpa using hin
  have ho : offB off = true := by unfold offB; simp; omega
  have hL := row_for s (m := q.c) (by omega)
  have hcb := cho_b s true off q.c
  have q51 := fun (o m : Int) (h1 : -60 ≤ o ∧ o ≤ 60) (h2 : 0 ≤ m ∧ m ≤ 30) => ret51 (orc := orc) hi hk (w := true) h1 h2 (rowsL s true 31) (fun k h => rows_get s true (by omega))
  generalize rowsL s true 31 = L at q52 hL q51
  refine ret_of body31 pure31 (hi 31 (by decide)) rfl rfl (dat_l4 (dat_shop s 5) (.int _ _ _) (.int _ _ _) (dat_ints 6 .ro (fun h => by cases h) 1 ms)) (dat_play s q off ms) ?_
  refine k_seq (k_region ?_)
  refine o_box rfl rfl ?_
  refine o_assign rfl ?_
  refine o_assign rfl ?_
  refine o_assign rfl ?_
  refine o_nil ?_
  refine k_gen [(1, .int .i64 ↑i), (2, .int .i64 off), (3, U.lst Kd.ro 1 (intsU ms)), (4, U.box 0 0)] ([SB.box [U.lst Kd.ro 3 (trisU (Shop.tools s)), .int .i64 (Shop.flo s), .int .i64 (Shop.fhi s), U.lst Kd.ro 3 (trisU (Shop.keys s))]]) (.cons rfl (.cons rfl (.cons rfl (.cons rfl (.nil rfl))))) rfl fun fr => ?_
  refine k_seq ?_
  refine k_seq ?_
  refine k_draw [.read true, .plain, .plain, .read true, .read true, .plain, .read false, .plain, .plain, .read true, .plain, .plain, .plain, .read true, .plain, .read false, .plain, .plain, .plain] (by kernel_rfl) (by kernel_rfl) (by kernel_rfl) ?_
  refine d_load rfl (o_loadN rfl rfl rfl sh27 rfl (o_nil rfl)) ?_
  refine d_plain (o_move rfl (o_nil rfl)) ?_
  refine d_plain (o_faddr rfl rfl fld27_2 (o_nil rfl)) ?_
  refine d_load rfl (o_load1 rfl rfl rfl sh25 rfl (o_nil rfl)) ?_
  refine d_load rfl (o_len rfl ty25 rfl (List.length_map _) (o_nil rfl)) ?_
  refine d_plain (o_sub rfl rfl rfl (by unfold I64; omega) (o_nil rfl)) ?_
  refine d_callR rfl (q34) (.bool _) (.lrefl _) ?_
  refine d_plain (o_move rfl (o_nil rfl)) ?_
  refine d_gD rfl rfl rfl rfl rfl ?_
  refine d_plain (o_faddr rfl rfl fld27_2 (o_nil rfl)) ?_
  refine d_genA [(1, .int .i64 ↑i), (2, .int .i64 off), (3, U.lst Kd.ro 1 (intsU ms)), (4, U.box 0 0), (18, U.agg [U.lst Kd.ro 3 (trisU (Shop.tools s)), .int .i64 (Shop.flo s), .int .i64 (Shop.fhi s), U.lst Kd.ro 3 (trisU (Shop.keys s))]), (25, U.bool (Bool.true && Bool.true)), (26, U.box 0 3)] [] ([SB.box [U.lst Kd.ro 3 (trisU (Shop.tools s)), .int .i64 (Shop.flo s), .int .i64 (Shop.fhi s), U.lst Kd.ro 3 (trisU (Shop.keys s))]]) (.cons rfl (.cons rfl (.cons rfl (.cons rfl (.cons rfl (.cons rfl (.cons rfl (.nil rfl)))))))) rfl rfl fun fr => ?_
  refine d_gD rfl rfl rfl rfl rfl ?_
  refine d_genA [(1, .int .i64 ↑i), (2, .int .i64 off), (3, U.lst Kd.ro 1 (intsU ms)), (4, U.box 0 0), (18, U.agg [U.lst Kd.ro 3 (trisU (Shop.tools s)), .int .i64 (Shop.flo s), .int .i64 (Shop.fhi s), U.lst Kd.ro 3 (trisU (Shop.keys s))]), (25, U.bool (Bool.true && Bool.true)), (26, U.box 0 3)] [] ([SB.box [U.lst Kd.ro 3 (trisU (Shop.tools s)), .int .i64 (Shop.flo s), .int .i64 (Shop.fhi s), U.lst Kd.ro 3 (trisU (Shop.keys s))]]) (.cons rfl (.cons rfl (.cons rfl (.cons rfl (.cons rfl (.cons rfl (.cons rfl (.nil rfl)))))))) rfl rfl fun fr => ?_
  refine d_load rfl (o_load1 rfl rfl rfl sh25 rfl (o_nil rfl)) ?_
  refine d_gD rfl rfl rfl rfl rfl ?_
  refine d_plain (o_move rfl (o_nil rfl)) ?_
  refine d_gD rfl rfl rfl rfl rfl ?_
  refine d_plain (o_idx (u := (q).u) rfl ty25 rfl rfl (Int.natCast_nonneg _) (by simp [hq]) cl64 (o_nil rfl)) ?_
  refine d_gD rfl rfl rfl rfl rfl ?_
  refine d_plain (o_faddrR rfl rfl fld64_0 (o_nil rfl)) ?_
  refine d_gD rfl rfl rfl rfl rfl ?_
  refine d_load rfl (o_loadRN rfl rfl sh24 rfl (o_nil rfl)) ?_
  refine d_gD rfl rfl rfl rfl rfl ?_
  refine d_plain (o_move rfl (o_nil rfl)) ?_
  refine d_gD rfl rfl rfl rfl rfl ?_
  refine d_callR rfl (q35) (.bool _) (.lrefl _) ?_
  refine d_plain (o_pickT rfl rfl rfl (o_nil rfl)) ?_
  refine d_plain (o_call rfl (q49) (.lrefl _) (o_nil rfl)) ?_
  refine d_genA [(1, .int .i64 ↑i), (2, .int .i64 off), (3, U.lst Kd.ro 1 (intsU ms)), (4, U.box 0 0), (35, .int .i64 0)] [] ([SB.box [U.lst Kd.ro 3 (trisU (Shop.tools s)), .int .i64 (Shop.flo s), .int .i64 (Shop.fhi s), U.lst Kd.ro 3 (trisU (Shop.keys s))]]) (.cons rfl (.cons rfl (.cons rfl (.cons rfl (.cons rfl (.nil rfl)))))) rfl rfl fun fr => ?_
  refine d_plain (o_assign rfl (o_nil rfl)) ?_
  refine d_nil ?_
  refine k_gen [(1, .int .i64 ↑i), (2, .int .i64 off), (3, U.lst Kd.ro 1 (intsU ms)), (4, U.box 0 0), (11, .int .i64 0)] ([SB.box [U.lst Kd.ro 3 (trisU (Shop.tools s)), .int .i64 (Shop.flo s), .int .i64 (Shop.fhi s), U.lst Kd.ro 3 (trisU (Shop.keys s))]]) (.cons rfl (.cons rfl (.cons rfl (.cons rfl (.cons rfl (.nil rfl)))))) rfl fun fr => ?_
  refine k_seq (k_region ?_)
  refine o_move rfl ?_
  refine o_neq rfl rfl rfl ?_
  refine o_nil ?_
  refine k_cF rfl rfl ?_
  refine k_skip ?_
  refine k_seq (k_region ?_)
  refine o_loadN rfl rfl rfl sh27 rfl ?_
  refine o_call rfl (q52) (.lrefl _) ?_
  refine o_assign rfl ?_
  refine o_nil ?_
  refine k_seq (k_region ?_)
  refine o_faddr rfl rfl fld27_2 ?_
  refine o_load1 rfl rfl rfl sh25 rfl ?_
  refine o_move rfl ?_
  refine o_idx (u := (q).u) rfl ty25 rfl rfl (Int.natCast_nonneg _) (by simp [hq]) cl64 ?_
  refine o_faddrR rfl rfl fld64_1 ?_
  refine o_loadR1 rfl rfl sh3 rfl ?_
  refine o_assign rfl ?_
  refine o_nil ?_
  refine k_gen [(2, .int .i64 off), (3, U.lst Kd.ro 1 (intsU ms)), (4, U.box 0 0), (12, U.lst Kd.ro 1 (List.map rowU L)), (13, .int .i64 (Tri.c q))] ([SB.box [U.lst Kd.ro 3 (trisU (Shop.tools s)), .int .i64 (Shop.flo s), .int .i64 (Shop.fhi s), U.lst Kd.ro 3 (trisU (Shop.keys s))]]) (.cons rfl (.cons rfl (.cons rfl (.cons rfl (.cons rfl (.nil rfl)))))) rfl fun fr => ?_
  refine k_seq ?_
  refine k_seq (k_region ?_)
  refine o_move rfl ?_
  refine o_move rfl ?_
  refine o_idx (u := rowU (rowL s true q.c)) rfl ty84 rfl rfl (by omega) (by rw [List.getElem?_map, hL]; rfl) cl89 ?_
  by_cases h31 : (cho s true off q.c).2 = 31
  · rw [show playA s q off ms = .tup [.lst .ro 1 (intsU []), .int .i64 0, .int .i64 4] from if_pos h31]
    have q56 := ret56 (orc := orc) hi hk (w := true) (m := q.c) (off := off) (by omega)
    rw [nv31 h31] at q56
    refine o_loadRN rfl rfl sh89 rfl ?_
    refine o_move rfl ?_
    refine o_call rfl (q56) (.lrefl _) ?_
    refine o_eql rfl rfl rfl ?_
    refine o_nil ?_
    refine k_cT rfl rfl ?_
    refine k_seq (k_region ?_)
    refine o_assign rfl ?_
    refine o_assign rfl ?_
    refine o_assign rfl ?_
    refine o_nil ?_
    refine k_ret ?_
    refine ⟨.inr rfl, _, .cons _ _ _ _ (.tmp 8) (.cons _ _ _ _ (.tmp 9) (.cons _ _ _ _ (.tmp 10) .nil)), ?_⟩
    exact uw_nil3 _ _
  · rw [show playA s q off ms = playT (playR s ms off q.c) from if_neg h31]
    have q56 := ret56 (orc := orc) hi hk (w := true) (m := q.c) (off := off) (by omega)
    rw [nv_ne h31] at q56
    have hne : ¬ (cho s true off q.c).2 = 1000 := by have := hcb.2.1; omega
    have hway : OnWay s off q.c 0 := ⟨ho, by omega, by omega, h31⟩
    refine o_loadRN rfl rfl sh89 rfl ?_
    refine o_move rfl ?_
    refine o_call rfl (q56) (.lrefl _) ?_
    refine o_eql rfl rfl rfl ?_
    refine o_nil ?_
    refine k_cF rfl (decide_eq_false (by omega)) ?_
    refine k_skip ?_
    refine k_seq (k_region ?_)
    refine o_assign rfl ?_
    refine o_nil ?_
    refine k_seq ?_
    refine k_block ?_
    refine k_loop (fun kk st => ∃ (j : Nat) (p : List Int) (o m : Int), (kk : Int) = m ∧ p.length = j ∧ OnWay s o m j ∧ j ≤ ms.length ∧ playR s ms off q.c = preO p (playR s (ms.drop j) o m) ∧ (∃ e, st.st = [.box s.cs] ++ e) ∧ Holds st [(2, .int .i64 o), (3, .lst .ro 1 (intsU ms)), (4, .box 0 0), (12, .lst .ro 1 (L.map rowU)), (13, .int .i64 m), (14, accI p)]) (fun kk st hI => ?_) q.c.toNat _ ?_
    · obtain ⟨j, p, o, m, hkm, hp, hway, hjl, hpl, ⟨e, hst⟩, hs⟩ := hI
      subst hp
      generalize hY : [SB.box s.cs] ++ e = Y at hst
      have hY0 : Y[0]? = some (.box s.cs) := by rw [← hY]; rfl
      have hwy := hway
      obtain ⟨wo, wm0, wmi, w31⟩ := hwy
      have hbo : -60 ≤ o ∧ o ≤ 60 := by unfold offB at wo; simpa using wo
      have q51 := q51 o m hbo (by omega)
      unfold bst at q51
      refine k_gen _ _ hs hst fun fr => ?_
      have q35 := ret35 (orc := orc) hi s.flo s.fhi o
      cases hf : fineB s o with
      | true =>
        rw [show (decide (s.flo ≤ o) && decide (o ≤ s.fhi)) = true from hf] at q35
        cases p with
        | nil =>
          refine k_seq ?_
          refine k_seq (k_region ?_)
          refine o_faddr rfl rfl fld27_1 ?_
          refine o_loadN rfl rfl hY0 sh24 rfl ?_
          refine o_move rfl ?_
          refine o_call rfl (q35) (.lrefl _) ?_
          refine o_not rfl rfl ?_
          refine o_nil ?_
          refine k_cF rfl rfl ?_
          refine k_exit ?_
          refine k_seq ?_
          refine k_seq (k_region ?_)
          refine o_move rfl ?_
          refine o_len rfl ty38 rfl rfl ?_
          refine o_move rfl ?_
          refine o_len rfl ty38 rfl (List.length_map _) ?_
          refine o_lss rfl rfl rfl ?_
          refine o_nil ?_
          refine k_cond rfl (fun h107 => ?_) (fun h107 => ?_)
          · refine k_seq (k_region ?_)
            refine o_assign rfl ?_
            refine o_assign rfl ?_
            refine o_assign rfl ?_
            refine o_nil ?_
            refine k_ret ?_
            refine ⟨.inr rfl, _, .cons _ _ _ _ (.tmp 8) (.cons _ _ _ _ (.tmp 9) (.cons _ _ _ _ (.tmp 10) .nil)), ?_⟩
            have a1 := of_decide_eq_true h107
            have hres : playR s ms off q.c = none := by
              rw [hpl]
              cases hr : ms.drop (([] : List Int)).length with
              | nil => have := List.drop_eq_nil_iff.1 hr; omega
              | cons m1 r => unfold playR; rw [if_pos hf]; rfl
            rw [hres]; exact uw_nil3 _ _
          · refine k_skip ?_
            refine k_seq (k_region ?_)
            refine o_move rfl ?_
            refine o_move rfl ?_
            refine o_assign rfl ?_
            refine o_assign rfl ?_
            refine o_assign rfl ?_
            refine o_nil ?_
            refine k_ret ?_
            refine ⟨.inr rfl, _, .cons _ _ _ _ (.tmp 8) (.cons _ _ _ _ (.tmp 9) (.cons _ _ _ _ (.tmp 10) .nil)), ?_⟩
            have a1 := of_decide_eq_false h107
            have hres : playR s ms off q.c = some (([] : List Int), o) := by
              rw [hpl, List.drop_eq_nil_iff.2 (by omega)]
              unfold playR; rw [if_pos hf]
              show some (([] : List Int) ++ [], o) = _; rw [List.append_nil]
            rw [hres]
            exact .tup _ _ (.lcons _ _ _ _ (uw_dgI (([] : List Int))) (.lrefl _))
        | cons y p =>
          refine k_seq ?_
          refine k_seq (k_region ?_)
          refine o_faddr rfl rfl fld27_1 ?_
          refine o_loadN rfl rfl hY0 sh24 rfl ?_
          refine o_move rfl ?_
          refine o_call rfl (q35) (.lrefl _) ?_
          refine o_not rfl rfl ?_
          refine o_nil ?_
          refine k_cF rfl rfl ?_
          refine k_exit ?_
          refine k_seq ?_
          refine k_seq (k_region ?_)
          refine o_move rfl ?_
          refine o_len rfl ty38 rfl (List.length_map _) ?_
          refine o_move rfl ?_
          refine o_len rfl ty38 rfl (List.length_map _) ?_
          refine o_lss rfl rfl rfl ?_
          refine o_nil ?_
          refine k_cond rfl (fun h107 => ?_) (fun h107 => ?_)
          · refine k_seq (k_region ?_)
            refine o_assign rfl ?_
            refine o_assign rfl ?_
            refine o_assign rfl ?_
            refine o_nil ?_
            refine k_ret ?_
            refine ⟨.inr rfl, _, .cons _ _ _ _ (.tmp 8) (.cons _ _ _ _ (.tmp 9) (.cons _ _ _ _ (.tmp 10) .nil)), ?_⟩
            have a1 := of_decide_eq_true h107
            have hres : playR s ms off q.c = none := by
              rw [hpl]
              cases hr : ms.drop (y :: p).length with
              | nil => have := List.drop_eq_nil_iff.1 hr; omega
              | cons m1 r => unfold playR; rw [if_pos hf]; rfl
            rw [hres]; exact uw_nil3 _ _
          · refine k_skip ?_
            refine k_seq (k_region ?_)
            refine o_move rfl ?_
            refine o_move rfl ?_
            refine o_assign rfl ?_
            refine o_assign rfl ?_
            refine o_assign rfl ?_
            refine o_nil ?_
            refine k_ret ?_
            refine ⟨.inr rfl, _, .cons _ _ _ _ (.tmp 8) (.cons _ _ _ _ (.tmp 9) (.cons _ _ _ _ (.tmp 10) .nil)), ?_⟩
            have a1 := of_decide_eq_false h107
            have hres : playR s ms off q.c = some (y :: p, o) := by
              rw [hpl, List.drop_eq_nil_iff.2 (by omega)]
              unfold playR; rw [if_pos hf]
              show some (y :: p ++ [], o) = _; rw [List.append_nil]
            rw [hres]
            exact .tup _ _ (.lcons _ _ _ _ (uw_dgI (y :: p)) (.lrefl _))
      | false =>
        rw [show (decide (s.flo ≤ o) && decide (o ≤ s.fhi)) = false from hf] at q35
        obtain ⟨jt, t, hj, hqt, hnext⟩ := way_next hk hway hf
        have htb := hk.tools t (List.mem_of_getElem? hqt)
        rw [hj] at q51
        have hstep : ∀ m1 r, playR s (m1 :: r) o m = if t.a ≤ m1 ∧ m1 ≤ t.b then (playR s r (o + m1) (m - t.c)).map fun x : List Int × Int => ((jt : Int) :: x.1, x.2) else none := fun m1 r => by
          show (if fineB s o = true then none else match s.tools[(cho s true o m).1.toNat]? with | some t => if t.a ≤ m1 ∧ m1 ≤ t.b then (playR s r (o + m1) (m - t.c)).map fun x : List Int × Int => ((cho s true o m).1 :: x.1, x.2) else none | none => none) = _
          rw [if_neg (by rw [hf]; decide), hj]
          show (match s.tools[((jt : Int)).toNat]? with | some t => if t.a ≤ m1 ∧ m1 ≤ t.b then (playR s r (o + m1) (m - t.c)).map fun x : List Int × Int => ((jt : Int) :: x.1, x.2) else none | none => none) = _
          rw [show ((jt : Int)).toNat = jt from rfl, hqt]
        cases p with
        | nil =>
          cases hr : ms.drop (([] : List Int)).length with
          | nil =>
            have hjm : ms.length ≤ (([] : List Int)).length := List.drop_eq_nil_iff.1 hr
            have k76 : decide (((([] : List Int)).length : Int) = (ms.length : Int)) = true := decide_eq_true (by omega)
            refine k_seq ?_
            refine k_seq (k_region ?_)
            refine o_faddr rfl rfl fld27_1 ?_
            refine o_loadN rfl rfl hY0 sh24 rfl ?_
            refine o_move rfl ?_
            refine o_call rfl (q35) (.lrefl _) ?_
            refine o_not rfl rfl ?_
            refine o_nil ?_
            refine k_cT rfl rfl ?_
            refine k_skip ?_
            refine k_block ?_
            refine k_seq (k_region ?_)
            refine o_loadN rfl rfl hY0 sh27 rfl ?_
            refine o_move rfl ?_
            refine o_move rfl ?_
            refine o_move rfl ?_
            refine o_call rfl (q51) (.lrefl _) ?_
            refine o_move rfl ?_
            refine o_extract rfl rfl rfl ?_
            refine o_extract rfl rfl rfl ?_
            refine o_assign rfl ?_
            refine o_assign rfl ?_
            refine o_nil ?_
            refine k_gen [(2, .int .i64 o), (3, U.lst Kd.ro 1 (intsU ms)), (4, U.box 0 0), (12, U.lst Kd.ro 1 (List.map rowU L)), (13, .int .i64 m), (14, accI []), (15, .int .i64 ↑jt)] (Y) (.cons rfl (.cons rfl (.cons rfl (.cons rfl (.cons rfl (.cons rfl (.cons rfl (.nil rfl)))))))) rfl fun fr => ?_
            refine k_seq (k_region ?_)
            refine o_faddr rfl rfl fld27_0 ?_
            refine o_load1 rfl rfl hY0 sh22 rfl ?_
            refine o_move rfl ?_
            refine o_idx (u := (t).u) rfl ty22 rfl rfl (Int.natCast_nonneg _) (by simp [hqt]) cl52 ?_
            refine o_loadRN rfl rfl sh52 rfl ?_
            refine o_alloc rfl ze52 ?_
            refine o_storeN rfl (at_new _ _) sh52 rfl rfl rfl rfl rfl ?_
            refine o_nil ?_
            refine k_gen [(2, .int .i64 o), (3, U.lst Kd.ro 1 (intsU ms)), (4, U.box 0 0), (12, U.lst Kd.ro 1 (List.map rowU L)), (13, .int .i64 m), (14, accI []), (15, .int .i64 ↑jt), (17, U.box (List.length Y) 0)] (Y ++ [SB.box [.int .i64 (Tri.a t), .int .i64 (Tri.b t), .int .i64 (Tri.c t)]]) (.cons rfl (.cons rfl (.cons rfl (.cons rfl (.cons rfl (.cons rfl (.cons rfl (.cons rfl (.nil rfl))))))))) (set_end _ _ _) fun fr => ?_
            refine k_seq ?_
            refine k_seq ?_
            refine k_draw [.plain, .read true, .plain, .read true, .plain, .plain, .plain, .read true, .plain, .plain, .read true, .plain, .read true, .plain, .plain, .plain] (by kernel_rfl) (by kernel_rfl) (by kernel_rfl) ?_
            refine d_plain (o_move rfl (o_nil rfl)) ?_
            refine d_load rfl (o_len rfl ty38 rfl rfl (o_nil rfl)) ?_
            refine d_plain (o_move rfl (o_nil rfl)) ?_
            refine d_load rfl (o_len rfl ty38 rfl (List.length_map _) (o_nil rfl)) ?_
            refine d_plain (o_eql rfl rfl rfl (o_nil rfl)) ?_
            refine d_plain (o_move rfl (o_nil rfl)) ?_
            refine d_gS rfl rfl rfl rfl (by assumption) ?_
            refine d_gS rfl rfl rfl rfl (by assumption) ?_
            refine d_gS rfl rfl rfl rfl (by assumption) ?_
            refine d_gS rfl rfl rfl rfl (by assumption) ?_
            refine d_gS rfl rfl rfl rfl (by assumption) ?_
            refine d_gS rfl rfl rfl rfl (by assumption) ?_
            refine d_gS rfl rfl rfl rfl (by assumption) ?_
            refine d_gS rfl rfl rfl rfl (by assumption) ?_
            refine d_gS rfl rfl rfl rfl (by assumption) ?_
            refine d_plain (o_pickT rfl rfl (by assumption) (o_nil rfl)) ?_
            refine d_nil ?_
            refine k_gen [(2, .int .i64 o), (3, U.lst Kd.ro 1 (intsU ms)), (4, U.box 0 0), (12, U.lst Kd.ro 1 (List.map rowU L)), (13, .int .i64 m), (14, accI []), (15, .int .i64 ↑jt), (17, U.box (List.length Y) 0), (78, U.tup []), (79, U.tup []), (80, U.tup []), (81, U.tup []), (82, U.tup []), (83, U.tup []), (84, U.tup []), (85, U.tup []), (86, U.tup []), (87, U.bool Bool.true)] (Y ++ [SB.box [.int .i64 (Tri.a t), .int .i64 (Tri.b t), .int .i64 (Tri.c t)]]) (.cons rfl (.cons rfl (.cons rfl (.cons rfl (.cons rfl (.cons rfl (.cons rfl (.cons rfl (.cons rfl (.cons rfl (.cons rfl (.cons rfl (.cons rfl (.cons rfl (.cons rfl (.cons rfl (.cons rfl (.cons rfl (.nil rfl))))))))))))))))))) rfl fun fr => ?_
            refine k_cT rfl rfl ?_
            refine k_seq (k_region ?_)
            refine o_assign rfl ?_
            refine o_assign rfl ?_
            refine o_assign rfl ?_
            refine o_nil ?_
            refine k_ret ?_
            refine ⟨.inr rfl, _, .cons _ _ _ _ (.tmp 8) (.cons _ _ _ _ (.tmp 9) (.cons _ _ _ _ (.tmp 10) .nil)), ?_⟩
            have hres : playR s ms off q.c = none := by
              rw [hpl, hr]; unfold playR; rw [if_neg (by rw [hf]; decide)]; rfl
            rw [hres]; exact uw_nil3 _ _
          | cons m1 r =>
            have hm1 := get_at hr
            have hdr := drop_at hr
            have hjl2 := (List.getElem?_eq_some_iff.1 hm1).1
            have k76 : decide (((([] : List Int)).length : Int) = (ms.length : Int)) = false := decide_eq_false (by omega)
            have hacc := accI_snoc (jt : Int) (([] : List Int))
            rw [hr, hstep] at hpl
            refine k_seq ?_
            refine k_seq (k_region ?_)
            refine o_faddr rfl rfl fld27_1 ?_
            refine o_loadN rfl rfl hY0 sh24 rfl ?_
            refine o_move rfl ?_
            refine o_call rfl (q35) (.lrefl _) ?_
            refine o_not rfl rfl ?_
            refine o_nil ?_
            refine k_cT rfl rfl ?_
            refine k_skip ?_
            refine k_block ?_
            refine k_seq (k_region ?_)
            refine o_loadN rfl rfl hY0 sh27 rfl ?_
            refine o_move rfl ?_
            refine o_move rfl ?_
            refine o_move rfl ?_
            refine o_call rfl (q51) (.lrefl _) ?_
            refine o_move rfl ?_
            refine o_extract rfl rfl rfl ?_
            refine o_extract rfl rfl rfl ?_
            refine o_assign rfl ?_
            refine o_assign rfl ?_
            refine o_nil ?_
            refine k_gen [(2, .int .i64 o), (3, U.lst Kd.ro 1 (intsU ms)), (4, U.box 0 0), (12, U.lst Kd.ro 1 (List.map rowU L)), (13, .int .i64 m), (14, accI []), (15, .int .i64 ↑jt)] (Y) (.cons rfl (.cons rfl (.cons rfl (.cons rfl (.cons rfl (.cons rfl (.cons rfl (.nil rfl)))))))) rfl fun fr => ?_
            refine k_seq (k_region ?_)
            refine o_faddr rfl rfl fld27_0 ?_
            refine o_load1 rfl rfl hY0 sh22 rfl ?_
            refine o_move rfl ?_
            refine o_idx (u := (t).u) rfl ty22 rfl rfl (Int.natCast_nonneg _) (by simp [hqt]) cl52 ?_
            refine o_loadRN rfl rfl sh52 rfl ?_
            refine o_alloc rfl ze52 ?_
            refine o_storeN rfl (at_new _ _) sh52 rfl rfl rfl rfl rfl ?_
            refine o_nil ?_
            refine k_gen [(2, .int .i64 o), (3, U.lst Kd.ro 1 (intsU ms)), (4, U.box 0 0), (12, U.lst Kd.ro 1 (List.map rowU L)), (13, .int .i64 m), (14, accI []), (15, .int .i64 ↑jt), (17, U.box (List.length Y) 0)] (Y ++ [SB.box [.int .i64 (Tri.a t), .int .i64 (Tri.b t), .int .i64 (Tri.c t)]]) (.cons rfl (.cons rfl (.cons rfl (.cons rfl (.cons rfl (.cons rfl (.cons rfl (.cons rfl (.nil rfl))))))))) (set_end _ _ _) fun fr => ?_
            refine k_seq ?_
            refine k_seq ?_
            refine k_draw [.plain, .read true, .plain, .read true, .plain, .plain, .plain, .read true, .plain, .plain, .read true, .plain, .read true, .plain, .plain, .plain] (by kernel_rfl) (by kernel_rfl) (by kernel_rfl) ?_
            refine d_plain (o_move rfl (o_nil rfl)) ?_
            refine d_load rfl (o_len rfl ty38 rfl rfl (o_nil rfl)) ?_
            refine d_plain (o_move rfl (o_nil rfl)) ?_
            refine d_load rfl (o_len rfl ty38 rfl (List.length_map _) (o_nil rfl)) ?_
            refine d_plain (o_eql rfl rfl rfl (o_nil rfl)) ?_
            refine d_plain (o_move rfl (o_nil rfl)) ?_
            refine d_gD rfl rfl rfl rfl (by assumption) ?_
            refine d_plain (o_faddr rfl rfl fld52_0 (o_nil rfl)) ?_
            refine d_gD rfl rfl rfl rfl (by assumption) ?_
            refine d_load rfl (o_loadN rfl rfl (at_new _ _) sh24 rfl (o_nil rfl)) ?_
            refine d_gD rfl rfl rfl rfl (by assumption) ?_
            refine d_plain (o_move rfl (o_nil rfl)) ?_
            refine d_gD rfl rfl rfl rfl (by assumption) ?_
            refine d_plain (o_move rfl (o_nil rfl)) ?_
            refine d_gD rfl rfl rfl rfl (by assumption) ?_
            refine d_load rfl (o_len rfl ty38 rfl rfl (o_nil rfl)) ?_
            refine d_gD rfl rfl rfl rfl (by assumption) ?_
            refine d_plain (o_idx (u := .int .i64 m1) rfl ty38 rfl rfl (Int.natCast_nonneg _) (by show (intsU ms)[(([] : List Int)).length]? = _; rw [List.getElem?_map, hm1]; rfl) cl3 (o_nil rfl)) ?_
            refine d_gD rfl rfl rfl rfl (by assumption) ?_
            refine d_load rfl (o_loadR1 rfl rfl sh3 rfl (o_nil rfl)) ?_
            refine d_gD rfl rfl rfl rfl (by assumption) ?_
            refine d_plain (o_call rfl (ret35 hi ..) (.lrefl _) (o_nil rfl)) ?_
            refine d_gD rfl rfl rfl rfl (by assumption) ?_
            refine d_plain (o_not rfl rfl (o_nil rfl)) ?_
            refine d_plain (o_pickF rfl rfl (by assumption) (o_nil rfl)) ?_
            refine d_nil ?_
            refine k_gen [(2, .int .i64 o), (3, U.lst Kd.ro 1 (intsU ms)), (4, U.box 0 0), (12, U.lst Kd.ro 1 (List.map rowU L)), (13, .int .i64 m), (14, accI []), (15, .int .i64 ↑jt), (17, U.box (List.length Y) 0), (78, U.box (List.length Y) 0), (79, U.agg [.int .i64 (Tri.a t), .int .i64 (Tri.b t)]), (80, U.lst Kd.ro 1 (intsU ms)), (81, U.lst Kd.full 0 []), (82, .int .i64 ↑(List.length [])), (83, U.eref [.int .i64 m1] 0), (84, .int .i64 m1), (85, U.bool (Decidable.decide (Tri.a t ≤ m1) && Decidable.decide (m1 ≤ Tri.b t))), (86, U.bool !(Decidable.decide (Tri.a t ≤ m1) && Decidable.decide (m1 ≤ Tri.b t))), (87, U.bool !(Decidable.decide (Tri.a t ≤ m1) && Decidable.decide (m1 ≤ Tri.b t)))] (Y ++ [SB.box [.int .i64 (Tri.a t), .int .i64 (Tri.b t), .int .i64 (Tri.c t)]]) (.cons rfl (.cons rfl (.cons rfl (.cons rfl (.cons rfl (.cons rfl (.cons rfl (.cons rfl (.cons rfl (.cons rfl (.cons rfl (.cons rfl (.cons rfl (.cons rfl (.cons rfl (.cons rfl (.cons rfl (.cons rfl (.nil rfl))))))))))))))))))) rfl fun fr => ?_
            refine k_cond rfl (fun h87 => ?_) (fun h87 => ?_)
            · refine k_seq (k_region ?_)
              refine o_assign rfl ?_
              refine o_assign rfl ?_
              refine o_assign rfl ?_
              refine o_nil ?_
              refine k_ret ?_
              refine ⟨.inr rfl, _, .cons _ _ _ _ (.tmp 8) (.cons _ _ _ _ (.tmp 9) (.cons _ _ _ _ (.tmp 10) .nil)), ?_⟩
              have hw : ¬ (t.a ≤ m1 ∧ m1 ≤ t.b) := fun e => by simp [e] at h87
              have hres : playR s ms off q.c = none := by rw [hpl, if_neg hw]; rfl
              rw [hres]; exact uw_nil3 _ _
            · refine k_skip ?_
              refine k_seq ?_
              refine k_draw [.plain, .plain, .plain, .read true, .plain, .read true, .plain, .plain, .plain, .read true, .plain, .plain, .plain] (by kernel_rfl) (by kernel_rfl) (by kernel_rfl) ?_
              refine d_plain (o_move rfl (o_nil rfl)) ?_
              refine d_plain (o_move rfl (o_nil rfl)) ?_
              refine d_plain (o_move rfl (o_nil rfl)) ?_
              refine d_load rfl (o_len rfl ty38 rfl rfl (o_nil rfl)) ?_
              refine d_plain (o_idx (u := .int .i64 m1) rfl ty38 rfl rfl (Int.natCast_nonneg _) (by show (intsU ms)[(([] : List Int)).length]? = _; rw [List.getElem?_map, hm1]; rfl) cl3 (o_nil rfl)) ?_
              refine d_load rfl (o_loadR1 rfl rfl sh3 rfl (o_nil rfl)) ?_
              have hw : t.a ≤ m1 ∧ m1 ≤ t.b := by simpa using h87
              rw [if_pos hw] at hpl
              have hnx := hnext m1 hw.1 hw.2
              have hmt := hnx.2.1
              have hmn := hnx.2.2.1
              refine d_plain (o_add rfl rfl rfl (by unfold I64; omega) (o_nil rfl)) ?_
              refine d_plain (o_move rfl (o_nil rfl)) ?_
              refine d_plain (o_faddr rfl rfl fld52_1 (o_nil rfl)) ?_
              refine d_genA [(3, U.lst Kd.ro 1 (intsU ms)), (4, U.box 0 0), (12, U.lst Kd.ro 1 (List.map rowU L)), (14, accI []), (15, .int .i64 ↑jt), (78, U.box (List.length Y) 0), (79, U.agg [.int .i64 (Tri.a t), .int .i64 (Tri.b t)]), (80, U.lst Kd.ro 1 (intsU ms)), (81, U.lst Kd.full 0 []), (82, .int .i64 ↑(List.length [])), (83, U.eref [.int .i64 m1] 0), (84, .int .i64 m1), (85, U.bool (Decidable.decide (Tri.a t ≤ m1) && Decidable.decide (m1 ≤ Tri.b t))), (86, U.bool !(Decidable.decide (Tri.a t ≤ m1) && Decidable.decide (m1 ≤ Tri.b t))), (94, .int .i64 (o + m1)), (95, .int .i64 m), (96, U.box (List.length Y) 2)] [] (Y ++ [SB.box [.int .i64 (Tri.a t), .int .i64 (Tri.b t), .int .i64 (Tri.c t)]]) (.cons rfl (.cons rfl (.cons rfl (.cons rfl (.cons rfl (.cons rfl (.cons rfl (.cons rfl (.cons rfl (.cons rfl (.cons rfl (.cons rfl (.cons rfl (.cons rfl (.cons rfl (.cons rfl (.cons rfl (.nil rfl)))))))))))))))))) rfl rfl fun fr => ?_
              refine d_load rfl (o_load1 rfl rfl (at_new _ _) sh3 rfl (o_nil rfl)) ?_
              refine d_plain (o_sub rfl rfl rfl (by unfold I64; omega) (o_nil rfl)) ?_
              refine d_plain (o_assign rfl (o_nil rfl)) ?_
              refine d_plain (o_assign rfl (o_nil rfl)) ?_
              refine d_nil ?_
              refine k_gen [(2, .int .i64 (o + m1)), (3, U.lst Kd.ro 1 (intsU ms)), (4, U.box 0 0), (12, U.lst Kd.ro 1 (List.map rowU L)), (13, .int .i64 (m - Tri.c t)), (14, accI []), (15, .int .i64 ↑jt), (78, U.box (List.length Y) 0), (79, U.agg [.int .i64 (Tri.a t), .int .i64 (Tri.b t)]), (80, U.lst Kd.ro 1 (intsU ms)), (81, U.lst Kd.full 0 []), (82, .int .i64 ↑(List.length [])), (83, U.eref [.int .i64 m1] 0), (84, .int .i64 m1), (85, U.bool (Decidable.decide (Tri.a t ≤ m1) && Decidable.decide (m1 ≤ Tri.b t))), (86, U.bool !(Decidable.decide (Tri.a t ≤ m1) && Decidable.decide (m1 ≤ Tri.b t)))] (Y ++ [SB.box [.int .i64 (Tri.a t), .int .i64 (Tri.b t), .int .i64 (Tri.c t)]]) (.cons rfl (.cons rfl (.cons rfl (.cons rfl (.cons rfl (.cons rfl (.cons rfl (.cons rfl (.cons rfl (.cons rfl (.cons rfl (.cons rfl (.cons rfl (.cons rfl (.cons rfl (.cons rfl (.nil rfl))))))))))))))))) rfl fun fr => ?_
              refine k_region ?_
              refine o_move rfl ?_
              refine o_move rfl ?_
              refine o_lit (es := [.int .i64 ↑jt]) rfl ty38 ze3 cl3 rfl rfl rfl rfl rfl rfl rfl rfl ?_
              refine o_appendF rfl ap38_38 rfl rfl (by simp) (by simp) (by simp [flatU, cellsU, oneU]) (by simp) ?_
              refine o_assign rfl ?_
              refine o_nil ?_
              have hlen : ((([] : List Int)) ++ [(jt : Int)]).length = (([] : List Int)).length + 1 := by rw [List.length_append]; rfl
              refine ⟨kk - t.c.toNat, by omega, _, (([] : List Int)) ++ [(jt : Int)], o + m1, m - t.c, by omega, hlen, hnx, by omega, ?_, grow hY, .cons rfl (.cons rfl (.cons rfl (.cons rfl (.cons rfl (.cons (by rw [hacc]; rfl) (.nil rfl))))))⟩
              rw [hpl, hdr]; exact preO_cons _ _ _
        | cons y p =>
          cases hr : ms.drop (y :: p).length with
          | nil =>
            have hjm : ms.length ≤ (y :: p).length := List.drop_eq_nil_iff.1 hr
            have k76 : decide (((y :: p).length : Int) = (ms.length : Int)) = true := decide_eq_true (by omega)
            refine k_seq ?_
            refine k_seq (k_region ?_)
            refine o_faddr rfl rfl fld27_1 ?_
            refine o_loadN rfl rfl hY0 sh24 rfl ?_
            refine o_move rfl ?_
            refine o_call rfl (q35) (.lrefl _) ?_
            refine o_not rfl rfl ?_
            refine o_nil ?_
            refine k_cT rfl rfl ?_
            refine k_skip ?_
            refine k_block ?_
            refine k_seq (k_region ?_)
            refine o_loadN rfl rfl hY0 sh27 rfl ?_
            refine o_move rfl ?_
            refine o_move rfl ?_
            refine o_move rfl ?_
            refine o_call rfl (q51) (.lrefl _) ?_
            refine o_move rfl ?_
            refine o_extract rfl rfl rfl ?_
            refine o_extract rfl rfl rfl ?_
            refine o_assign rfl ?_
            refine o_assign rfl ?_
            refine o_nil ?_
            refine k_gen [(2, .int .i64 o), (3, U.lst Kd.ro 1 (intsU ms)), (4, U.box 0 0), (12, U.lst Kd.ro 1 (List.map rowU L)), (13, .int .i64 m), (14, accI (y :: p)), (15, .int .i64 ↑jt)] (Y) (.cons rfl (.cons rfl (.cons rfl (.cons rfl (.cons rfl (.cons rfl (.cons rfl (.nil rfl)))))))) rfl fun fr => ?_
            refine k_seq (k_region ?_)
            refine o_faddr rfl rfl fld27_0 ?_
            refine o_load1 rfl rfl hY0 sh22 rfl ?_
            refine o_move rfl ?_
            refine o_idx (u := (t).u) rfl ty22 rfl rfl (Int.natCast_nonneg _) (by simp [hqt]) cl52 ?_
            refine o_loadRN rfl rfl sh52 rfl ?_
            refine o_alloc rfl ze52 ?_
            refine o_storeN rfl (at_new _ _) sh52 rfl rfl rfl rfl rfl ?_
            refine o_nil ?_
            refine k_gen [(2, .int .i64 o), (3, U.lst Kd.ro 1 (intsU ms)), (4, U.box 0 0), (12, U.lst Kd.ro 1 (List.map rowU L)), (13, .int .i64 m), (14, accI (y :: p)), (15, .int .i64 ↑jt), (17, U.box (List.length Y) 0)] (Y ++ [SB.box [.int .i64 (Tri.a t), .int .i64 (Tri.b t), .int .i64 (Tri.c t)]]) (.cons rfl (.cons rfl (.cons rfl (.cons rfl (.cons rfl (.cons rfl (.cons rfl (.cons rfl (.nil rfl))))))))) (set_end _ _ _) fun fr => ?_
            refine k_seq ?_
            refine k_seq ?_
            refine k_draw [.plain, .read true, .plain, .read true, .plain, .plain, .plain, .read true, .plain, .plain, .read true, .plain, .read true, .plain, .plain, .plain] (by kernel_rfl) (by kernel_rfl) (by kernel_rfl) ?_
            refine d_plain (o_move rfl (o_nil rfl)) ?_
            refine d_load rfl (o_len rfl ty38 rfl (List.length_map _) (o_nil rfl)) ?_
            refine d_plain (o_move rfl (o_nil rfl)) ?_
            refine d_load rfl (o_len rfl ty38 rfl (List.length_map _) (o_nil rfl)) ?_
            refine d_plain (o_eql rfl rfl rfl (o_nil rfl)) ?_
            refine d_plain (o_move rfl (o_nil rfl)) ?_
            refine d_gS rfl rfl rfl rfl (by assumption) ?_
            refine d_gS rfl rfl rfl rfl (by assumption) ?_
            refine d_gS rfl rfl rfl rfl (by assumption) ?_
            refine d_gS rfl rfl rfl rfl (by assumption) ?_
            refine d_gS rfl rfl rfl rfl (by assumption) ?_
            refine d_gS rfl rfl rfl rfl (by assumption) ?_
            refine d_gS rfl rfl rfl rfl (by assumption) ?_
            refine d_gS rfl rfl rfl rfl (by assumption) ?_
            refine d_gS rfl rfl rfl rfl (by assumption) ?_
            refine d_plain (o_pickT rfl rfl (by assumption) (o_nil rfl)) ?_
            refine d_nil ?_
            refine k_gen [(2, .int .i64 o), (3, U.lst Kd.ro 1 (intsU ms)), (4, U.box 0 0), (12, U.lst Kd.ro 1 (List.map rowU L)), (13, .int .i64 m), (14, accI (y :: p)), (15, .int .i64 ↑jt), (17, U.box (List.length Y) 0), (78, U.tup []), (79, U.tup []), (80, U.tup []), (81, U.tup []), (82, U.tup []), (83, U.tup []), (84, U.tup []), (85, U.tup []), (86, U.tup []), (87, U.bool Bool.true)] (Y ++ [SB.box [.int .i64 (Tri.a t), .int .i64 (Tri.b t), .int .i64 (Tri.c t)]]) (.cons rfl (.cons rfl (.cons rfl (.cons rfl (.cons rfl (.cons rfl (.cons rfl (.cons rfl (.cons rfl (.cons rfl (.cons rfl (.cons rfl (.cons rfl (.cons rfl (.cons rfl (.cons rfl (.cons rfl (.cons rfl (.nil rfl))))))))))))))))))) rfl fun fr => ?_
            refine k_cT rfl rfl ?_
            refine k_seq (k_region ?_)
            refine o_assign rfl ?_
            refine o_assign rfl ?_
            refine o_assign rfl ?_
            refine o_nil ?_
            refine k_ret ?_
            refine ⟨.inr rfl, _, .cons _ _ _ _ (.tmp 8) (.cons _ _ _ _ (.tmp 9) (.cons _ _ _ _ (.tmp 10) .nil)), ?_⟩
            have hres : playR s ms off q.c = none := by
              rw [hpl, hr]; unfold playR; rw [if_neg (by rw [hf]; decide)]; rfl
            rw [hres]; exact uw_nil3 _ _
          | cons m1 r =>
            have hm1 := get_at hr
            have hdr := drop_at hr
            have hjl2 := (List.getElem?_eq_some_iff.1 hm1).1
            have k76 : decide (((y :: p).length : Int) = (ms.length : Int)) = false := decide_eq_false (by omega)
            have hacc := accI_snoc (jt : Int) (y :: p)
            rw [hr, hstep] at hpl
            refine k_seq ?_
            refine k_seq (k_region ?_)
            refine o_faddr rfl rfl fld27_1 ?_
            refine o_loadN rfl rfl hY0 sh24 rfl ?_
            refine o_move rfl ?_
            refine o_call rfl (q35) (.lrefl _) ?_
            refine o_not rfl rfl ?_
            refine o_nil ?_
            refine k_cT rfl rfl ?_
            refine k_skip ?_
            refine k_block ?_
            refine k_seq (k_region ?_)
            refine o_loadN rfl rfl hY0 sh27 rfl ?_
            refine o_move rfl ?_
            refine o_move rfl ?_
            refine o_move rfl ?_
            refine o_call rfl (q51) (.lrefl _) ?_
            refine o_move rfl ?_
            refine o_extract rfl rfl rfl ?_
            refine o_extract rfl rfl rfl ?_
            refine o_assign rfl ?_
            refine o_assign rfl ?_
            refine o_nil ?_
            refine k_gen [(2, .int .i64 o), (3, U.lst Kd.ro 1 (intsU ms)), (4, U.box 0 0), (12, U.lst Kd.ro 1 (List.map rowU L)), (13, .int .i64 m), (14, accI (y :: p)), (15, .int .i64 ↑jt)] (Y) (.cons rfl (.cons rfl (.cons rfl (.cons rfl (.cons rfl (.cons rfl (.cons rfl (.nil rfl)))))))) rfl fun fr => ?_
            refine k_seq (k_region ?_)
            refine o_faddr rfl rfl fld27_0 ?_
            refine o_load1 rfl rfl hY0 sh22 rfl ?_
            refine o_move rfl ?_
            refine o_idx (u := (t).u) rfl ty22 rfl rfl (Int.natCast_nonneg _) (by simp [hqt]) cl52 ?_
            refine o_loadRN rfl rfl sh52 rfl ?_
            refine o_alloc rfl ze52 ?_
            refine o_storeN rfl (at_new _ _) sh52 rfl rfl rfl rfl rfl ?_
            refine o_nil ?_
            refine k_gen [(2, .int .i64 o), (3, U.lst Kd.ro 1 (intsU ms)), (4, U.box 0 0), (12, U.lst Kd.ro 1 (List.map rowU L)), (13, .int .i64 m), (14, accI (y :: p)), (15, .int .i64 ↑jt), (17, U.box (List.length Y) 0)] (Y ++ [SB.box [.int .i64 (Tri.a t), .int .i64 (Tri.b t), .int .i64 (Tri.c t)]]) (.cons rfl (.cons rfl (.cons rfl (.cons rfl (.cons rfl (.cons rfl (.cons rfl (.cons rfl (.nil rfl))))))))) (set_end _ _ _) fun fr => ?_
            refine k_seq ?_
            refine k_seq ?_
            refine k_draw [.plain, .read true, .plain, .read true, .plain, .plain, .plain, .read true, .plain, .plain, .read true, .plain, .read true, .plain, .plain, .plain] (by kernel_rfl) (by kernel_rfl) (by kernel_rfl) ?_
            refine d_plain (o_move rfl (o_nil rfl)) ?_
            refine d_load rfl (o_len rfl ty38 rfl (List.length_map _) (o_nil rfl)) ?_
            refine d_plain (o_move rfl (o_nil rfl)) ?_
            refine d_load rfl (o_len rfl ty38 rfl (List.length_map _) (o_nil rfl)) ?_
            refine d_plain (o_eql rfl rfl rfl (o_nil rfl)) ?_
            refine d_plain (o_move rfl (o_nil rfl)) ?_
            refine d_gD rfl rfl rfl rfl (by assumption) ?_
            refine d_plain (o_faddr rfl rfl fld52_0 (o_nil rfl)) ?_
            refine d_gD rfl rfl rfl rfl (by assumption) ?_
            refine d_load rfl (o_loadN rfl rfl (at_new _ _) sh24 rfl (o_nil rfl)) ?_
            refine d_gD rfl rfl rfl rfl (by assumption) ?_
            refine d_plain (o_move rfl (o_nil rfl)) ?_
            refine d_gD rfl rfl rfl rfl (by assumption) ?_
            refine d_plain (o_move rfl (o_nil rfl)) ?_
            refine d_gD rfl rfl rfl rfl (by assumption) ?_
            refine d_load rfl (o_len rfl ty38 rfl (List.length_map _) (o_nil rfl)) ?_
            refine d_gD rfl rfl rfl rfl (by assumption) ?_
            refine d_plain (o_idx (u := .int .i64 m1) rfl ty38 rfl rfl (Int.natCast_nonneg _) (by show (intsU ms)[(y :: p).length]? = _; rw [List.getElem?_map, hm1]; rfl) cl3 (o_nil rfl)) ?_
            refine d_gD rfl rfl rfl rfl (by assumption) ?_
            refine d_load rfl (o_loadR1 rfl rfl sh3 rfl (o_nil rfl)) ?_
            refine d_gD rfl rfl rfl rfl (by assumption) ?_
            refine d_plain (o_call rfl (ret35 hi ..) (.lrefl _) (o_nil rfl)) ?_
            refine d_gD rfl rfl rfl rfl (by assumption) ?_
            refine d_plain (o_not rfl rfl (o_nil rfl)) ?_
            refine d_plain (o_pickF rfl rfl (by assumption) (o_nil rfl)) ?_
            refine d_nil ?_
            refine k_gen [(2, .int .i64 o), (3, U.lst Kd.ro 1 (intsU ms)), (4, U.box 0 0), (12, U.lst Kd.ro 1 (List.map rowU L)), (13, .int .i64 m), (14, accI (y :: p)), (15, .int .i64 ↑jt), (17, U.box (List.length Y) 0), (78, U.box (List.length Y) 0), (79, U.agg [.int .i64 (Tri.a t), .int .i64 (Tri.b t)]), (80, U.lst Kd.ro 1 (intsU ms)), (81, U.lst Kd.ro 1 (intsU (y :: p))), (82, .int .i64 ↑(List.length (y :: p))), (83, U.eref [.int .i64 m1] 0), (84, .int .i64 m1), (85, U.bool (Decidable.decide (Tri.a t ≤ m1) && Decidable.decide (m1 ≤ Tri.b t))), (86, U.bool !(Decidable.decide (Tri.a t ≤ m1) && Decidable.decide (m1 ≤ Tri.b t))), (87, U.bool !(Decidable.decide (Tri.a t ≤ m1) && Decidable.decide (m1 ≤ Tri.b t)))] (Y ++ [SB.box [.int .i64 (Tri.a t), .int .i64 (Tri.b t), .int .i64 (Tri.c t)]]) (.cons rfl (.cons rfl (.cons rfl (.cons rfl (.cons rfl (.cons rfl (.cons rfl (.cons rfl (.cons rfl (.cons rfl (.cons rfl (.cons rfl (.cons rfl (.cons rfl (.cons rfl (.cons rfl (.cons rfl (.cons rfl (.nil rfl))))))))))))))))))) rfl fun fr => ?_
            refine k_cond rfl (fun h87 => ?_) (fun h87 => ?_)
            · refine k_seq (k_region ?_)
              refine o_assign rfl ?_
              refine o_assign rfl ?_
              refine o_assign rfl ?_
              refine o_nil ?_
              refine k_ret ?_
              refine ⟨.inr rfl, _, .cons _ _ _ _ (.tmp 8) (.cons _ _ _ _ (.tmp 9) (.cons _ _ _ _ (.tmp 10) .nil)), ?_⟩
              have hw : ¬ (t.a ≤ m1 ∧ m1 ≤ t.b) := fun e => by simp [e] at h87
              have hres : playR s ms off q.c = none := by rw [hpl, if_neg hw]; rfl
              rw [hres]; exact uw_nil3 _ _
            · refine k_skip ?_
              refine k_seq ?_
              refine k_draw [.plain, .plain, .plain, .read true, .plain, .read true, .plain, .plain, .plain, .read true, .plain, .plain, .plain] (by kernel_rfl) (by kernel_rfl) (by kernel_rfl) ?_
              refine d_plain (o_move rfl (o_nil rfl)) ?_
              refine d_plain (o_move rfl (o_nil rfl)) ?_
              refine d_plain (o_move rfl (o_nil rfl)) ?_
              refine d_load rfl (o_len rfl ty38 rfl (List.length_map _) (o_nil rfl)) ?_
              refine d_plain (o_idx (u := .int .i64 m1) rfl ty38 rfl rfl (Int.natCast_nonneg _) (by show (intsU ms)[(y :: p).length]? = _; rw [List.getElem?_map, hm1]; rfl) cl3 (o_nil rfl)) ?_
              refine d_load rfl (o_loadR1 rfl rfl sh3 rfl (o_nil rfl)) ?_
              have hw : t.a ≤ m1 ∧ m1 ≤ t.b := by simpa using h87
              rw [if_pos hw] at hpl
              have hnx := hnext m1 hw.1 hw.2
              have hmt := hnx.2.1
              have hmn := hnx.2.2.1
              refine d_plain (o_add rfl rfl rfl (by unfold I64; omega) (o_nil rfl)) ?_
              refine d_plain (o_move rfl (o_nil rfl)) ?_
              refine d_plain (o_faddr rfl rfl fld52_1 (o_nil rfl)) ?_
              refine d_genA [(3, U.lst Kd.ro 1 (intsU ms)), (4, U.box 0 0), (12, U.lst Kd.ro 1 (List.map rowU L)), (14, accI (y :: p)), (15, .int .i64 ↑jt), (78, U.box (List.length Y) 0), (79, U.agg [.int .i64 (Tri.a t), .int .i64 (Tri.b t)]), (80, U.lst Kd.ro 1 (intsU ms)), (81, U.lst Kd.ro 1 (intsU (y :: p))), (82, .int .i64 ↑(List.length (y :: p))), (83, U.eref [.int .i64 m1] 0), (84, .int .i64 m1), (85, U.bool (Decidable.decide (Tri.a t ≤ m1) && Decidable.decide (m1 ≤ Tri.b t))), (86, U.bool !(Decidable.decide (Tri.a t ≤ m1) && Decidable.decide (m1 ≤ Tri.b t))), (94, .int .i64 (o + m1)), (95, .int .i64 m), (96, U.box (List.length Y) 2)] [(90, .slot 14)] (Y ++ [SB.box [.int .i64 (Tri.a t), .int .i64 (Tri.b t), .int .i64 (Tri.c t)]]) (.cons rfl (.cons rfl (.cons rfl (.cons rfl (.cons rfl (.cons rfl (.cons rfl (.cons rfl (.cons rfl (.cons rfl (.cons rfl (.cons rfl (.cons rfl (.cons rfl (.cons rfl (.cons rfl (.cons rfl (.nil rfl)))))))))))))))))) rfl rfl fun fr => ?_
              refine d_load rfl (o_load1 rfl rfl (at_new _ _) sh3 rfl (o_nil rfl)) ?_
              refine d_plain (o_sub rfl rfl rfl (by unfold I64; omega) (o_nil rfl)) ?_
              refine d_plain (o_assign rfl (o_nil rfl)) ?_
              refine d_plain (o_assign rfl (o_nil rfl)) ?_
              refine d_nil ?_
              refine k_gen [(2, .int .i64 (o + m1)), (3, U.lst Kd.ro 1 (intsU ms)), (4, U.box 0 0), (12, U.lst Kd.ro 1 (List.map rowU L)), (13, .int .i64 (m - Tri.c t)), (14, accI (y :: p)), (15, .int .i64 ↑jt), (78, U.box (List.length Y) 0), (79, U.agg [.int .i64 (Tri.a t), .int .i64 (Tri.b t)]), (80, U.lst Kd.ro 1 (intsU ms)), (81, U.lst Kd.ro 1 (intsU (y :: p))), (82, .int .i64 ↑(List.length (y :: p))), (83, U.eref [.int .i64 m1] 0), (84, .int .i64 m1), (85, U.bool (Decidable.decide (Tri.a t ≤ m1) && Decidable.decide (m1 ≤ Tri.b t))), (86, U.bool !(Decidable.decide (Tri.a t ≤ m1) && Decidable.decide (m1 ≤ Tri.b t)))] (Y ++ [SB.box [.int .i64 (Tri.a t), .int .i64 (Tri.b t), .int .i64 (Tri.c t)]]) (.cons rfl (.cons rfl (.cons rfl (.cons rfl (.cons rfl (.cons rfl (.cons rfl (.cons rfl (.cons rfl (.cons rfl (.cons rfl (.cons rfl (.cons rfl (.cons rfl (.cons rfl (.cons rfl (.nil rfl))))))))))))))))) rfl fun fr => ?_
              refine k_region ?_
              refine o_move rfl ?_
              refine o_move rfl ?_
              refine o_lit (es := [.int .i64 ↑jt]) rfl ty38 ze3 cl3 rfl rfl rfl rfl rfl rfl rfl rfl ?_
              refine o_appendS 14 rfl ap38_38 rfl rfl rfl (by simp) (by simp) (by simp [flatU, cellsU, oneU]) (by simp at *; omega) ?_
              refine o_assign rfl ?_
              refine o_nil ?_
              have hlen : ((y :: p) ++ [(jt : Int)]).length = (y :: p).length + 1 := by rw [List.length_append]; rfl
              refine ⟨kk - t.c.toNat, by omega, _, (y :: p) ++ [(jt : Int)], o + m1, m - t.c, by omega, hlen, hnx, by omega, ?_, grow hY, .cons rfl (.cons rfl (.cons rfl (.cons rfl (.cons rfl (.cons (by rw [hacc]; rfl) (.nil rfl))))))⟩
              rw [hpl, hdr]; exact preO_cons _ _ _
    · exact ⟨0, [], off, q.c, by omega, rfl, hway, Nat.zero_le _, (preO_nil _).symm, ⟨[], rfl⟩, .cons rfl (.cons rfl (.cons rfl (.cons rfl (.cons rfl (.cons rfl (.nil rfl))))))⟩
noncomputable def b5 : Code := (Try.f5.body).getD .skip
theorem body5 : bodyOf Try.prog 5 = some (51, b5, [.tmp 6]) := by kernel_rfl
theorem pure5 : pureFn Try.prog 5 = true := by kernel_rfl
theorem wrap_le {n : Int} (h : 0 ≤ n) : wrapF .i64 n ≤ n := by
  rw [wrapF_eq]
  unfold Go.IntKind.wrap
  have h3 : (0 : Int) < 2 ^ (Go.IntKind.i64).bits := Int.pow_pos (by decide)
  have h1 : n % 2 ^ (Go.IntKind.i64).bits ≤ n := by
    have h2 : 0 ≤ n / 2 ^ (Go.IntKind.i64).bits := Int.ediv_nonneg h (by omega)
    have h4 := Int.mul_nonneg (Int.le_of_lt h3) h2
    have := Int.mul_ediv_add_emod n (2 ^ (Go.IntKind.i64).bits)
    omega
  simp only
  split <;> omega
set_option maxHeartbeats 8000000 in
theorem ret31x (hi : Off is) {s : Shop} {key off : Int} (h : askR s (plB s key off) ≠ 0) (ms : List Int) : RetP Try.prog is orc 31 [s.u, .int .i64 key, .int .i64 off, .lst .ro 1 (intsU ms)] (.tup [.lst .ro 1 (intsU []), .int .i64 0, .int .i64 (askR s (plB s key off))]) := by
  refine ret_of body31 pure31 (hi 31 (by decide)) rfl rfl (dat_l4 (dat_shop s 5) (.int _ _ _) (.int _ _ _) (dat_ints 6 .ro (fun h => by cases h) 1 ms)) (dat_nil _ _) ?_
  have q49 := fun b => ret49 (orc := orc) hi s b
  by_cases hn : s.keys.length ≤ 6
  · have q34 := ret34 (orc := orc) hi key 0 ((s.keys.length : Int) - 1)
    rw [hkB_sits] at q34
    cases hb : hkB s key with
    | true =>
      obtain ⟨i, q, rfl, hq⟩ := hkB_key hb
      rw [hb] at q34
      have q35 := ret35 (orc := orc) hi q.a q.b off
      have e : plB s i off = (decide (q.a ≤ off) && decide (off ≤ q.b)) := by
        unfold plB; rw [if_pos hb, show ((i : Int)).toNat = i from rfl, hq]; rfl
      rw [← e] at q35
      have q49 := q49 (plB s i off)
      generalize askR s (plB s i off) = c at h q49
      refine k_seq (k_region ?_)
      refine o_box rfl rfl ?_
      refine o_assign rfl ?_
      refine o_assign rfl ?_
      refine o_assign rfl ?_
      refine o_nil ?_
      refine k_gen [(1, .int .i64 ↑i), (2, .int .i64 off), (3, U.lst Kd.ro 1 (intsU ms)), (4, U.box 0 0)] ([SB.box [U.lst Kd.ro 3 (trisU (Shop.tools s)), .int .i64 (Shop.flo s), .int .i64 (Shop.fhi s), U.lst Kd.ro 3 (trisU (Shop.keys s))]]) (.cons rfl (.cons rfl (.cons rfl (.cons rfl (.nil rfl))))) rfl fun fr => ?_
      refine k_seq ?_
      refine k_seq ?_
      refine k_draw [.read true, .plain, .plain, .read true, .read true, .plain, .read false, .plain, .plain, .read true, .plain, .plain, .plain, .read true, .plain, .read false, .plain, .plain, .plain] (by kernel_rfl) (by kernel_rfl) (by kernel_rfl) ?_
      refine d_load rfl (o_loadN rfl rfl rfl sh27 rfl (o_nil rfl)) ?_
      refine d_plain (o_move rfl (o_nil rfl)) ?_
      refine d_plain (o_faddr rfl rfl fld27_2 (o_nil rfl)) ?_
      refine d_load rfl (o_load1 rfl rfl rfl sh25 rfl (o_nil rfl)) ?_
      refine d_load rfl (o_len rfl ty25 rfl (List.length_map _) (o_nil rfl)) ?_
      refine d_plain (o_sub rfl rfl rfl (by unfold I64; omega) (o_nil rfl)) ?_
      refine d_callR rfl (q34) (.bool _) (.lrefl _) ?_
      refine d_plain (o_move rfl (o_nil rfl)) ?_
      refine d_gD rfl rfl rfl rfl rfl ?_
      refine d_plain (o_faddr rfl rfl fld27_2 (o_nil rfl)) ?_
      refine d_genA [(1, .int .i64 ↑i), (2, .int .i64 off), (3, U.lst Kd.ro 1 (intsU ms)), (4, U.box 0 0), (18, U.agg [U.lst Kd.ro 3 (trisU (Shop.tools s)), .int .i64 (Shop.flo s), .int .i64 (Shop.fhi s), U.lst Kd.ro 3 (trisU (Shop.keys s))]), (25, U.bool Bool.true), (26, U.box 0 3)] [] ([SB.box [U.lst Kd.ro 3 (trisU (Shop.tools s)), .int .i64 (Shop.flo s), .int .i64 (Shop.fhi s), U.lst Kd.ro 3 (trisU (Shop.keys s))]]) (.cons rfl (.cons rfl (.cons rfl (.cons rfl (.cons rfl (.cons rfl (.cons rfl (.nil rfl)))))))) rfl rfl fun fr => ?_
      refine d_gD rfl rfl rfl rfl rfl ?_
      refine d_genA [(1, .int .i64 ↑i), (2, .int .i64 off), (3, U.lst Kd.ro 1 (intsU ms)), (4, U.box 0 0), (18, U.agg [U.lst Kd.ro 3 (trisU (Shop.tools s)), .int .i64 (Shop.flo s), .int .i64 (Shop.fhi s), U.lst Kd.ro 3 (trisU (Shop.keys s))]), (25, U.bool Bool.true), (26, U.box 0 3)] [] ([SB.box [U.lst Kd.ro 3 (trisU (Shop.tools s)), .int .i64 (Shop.flo s), .int .i64 (Shop.fhi s), U.lst Kd.ro 3 (trisU (Shop.keys s))]]) (.cons rfl (.cons rfl (.cons rfl (.cons rfl (.cons rfl (.cons rfl (.cons rfl (.nil rfl)))))))) rfl rfl fun fr => ?_
      refine d_load rfl (o_load1 rfl rfl rfl sh25 rfl (o_nil rfl)) ?_
      refine d_gD rfl rfl rfl rfl rfl ?_
      refine d_plain (o_move rfl (o_nil rfl)) ?_
      refine d_gD rfl rfl rfl rfl rfl ?_
      refine d_plain (o_idx (u := (q).u) rfl ty25 rfl rfl (Int.natCast_nonneg _) (by simp [hq]) cl64 (o_nil rfl)) ?_
      refine d_gD rfl rfl rfl rfl rfl ?_
      refine d_plain (o_faddrR rfl rfl fld64_0 (o_nil rfl)) ?_
      refine d_gD rfl rfl rfl rfl rfl ?_
      refine d_load rfl (o_loadRN rfl rfl sh24 rfl (o_nil rfl)) ?_
      refine d_gD rfl rfl rfl rfl rfl ?_
      refine d_plain (o_move rfl (o_nil rfl)) ?_
      refine d_gD rfl rfl rfl rfl rfl ?_
      refine d_callR rfl (q35) (.bool _) (.lrefl _) ?_
      refine d_plain (o_pickT rfl rfl rfl (o_nil rfl)) ?_
      refine d_plain (o_call rfl (q49) (.lrefl _) (o_nil rfl)) ?_
      refine d_genA [(1, .int .i64 ↑i), (2, .int .i64 off), (3, U.lst Kd.ro 1 (intsU ms)), (4, U.box 0 0), (35, .int .i64 c)] [] ([SB.box [U.lst Kd.ro 3 (trisU (Shop.tools s)), .int .i64 (Shop.flo s), .int .i64 (Shop.fhi s), U.lst Kd.ro 3 (trisU (Shop.keys s))]]) (.cons rfl (.cons rfl (.cons rfl (.cons rfl (.cons rfl (.nil rfl)))))) rfl rfl fun fr => ?_
      refine d_plain (o_assign rfl (o_nil rfl)) ?_
      refine d_nil ?_
      refine k_gen [(1, .int .i64 ↑i), (2, .int .i64 off), (3, U.lst Kd.ro 1 (intsU ms)), (4, U.box 0 0), (11, .int .i64 c)] ([SB.box [U.lst Kd.ro 3 (trisU (Shop.tools s)), .int .i64 (Shop.flo s), .int .i64 (Shop.fhi s), U.lst Kd.ro 3 (trisU (Shop.keys s))]]) (.cons rfl (.cons rfl (.cons rfl (.cons rfl (.cons rfl (.nil rfl)))))) rfl fun fr => ?_
      refine k_seq (k_region ?_)
      refine o_move rfl ?_
      refine o_neq rfl rfl rfl ?_
      refine o_nil ?_
      refine k_cT rfl (decide_eq_true (by omega)) ?_
      refine k_seq (k_region ?_)
      refine o_move rfl ?_
      refine o_assign rfl ?_
      refine o_assign rfl ?_
      refine o_assign rfl ?_
      refine o_nil ?_
      refine k_ret ?_
      refine ⟨.inr rfl, _, .cons _ _ _ _ (.tmp 8) (.cons _ _ _ _ (.tmp 9) (.cons _ _ _ _ (.tmp 10) .nil)), ?_⟩
      exact uw_nil3 _ _
    | false =>
      rw [hb] at q34
      have e : plB s key off = false := by unfold plB; rw [if_neg (by rw [hb]; decide)]
      have q49 := q49 false
      rw [e] at h ⊢
      generalize askR s false = c at h q49
      refine k_seq (k_region ?_)
      refine o_box rfl rfl ?_
      refine o_assign rfl ?_
      refine o_assign rfl ?_
      refine o_assign rfl ?_
      refine o_nil ?_
      refine k_gen [(1, .int .i64 key), (2, .int .i64 off), (3, U.lst Kd.ro 1 (intsU ms)), (4, U.box 0 0)] ([SB.box [U.lst Kd.ro 3 (trisU (Shop.tools s)), .int .i64 (Shop.flo s), .int .i64 (Shop.fhi s), U.lst Kd.ro 3 (trisU (Shop.keys s))]]) (.cons rfl (.cons rfl (.cons rfl (.cons rfl (.nil rfl))))) rfl fun fr => ?_
      refine k_seq ?_
      refine k_seq ?_
      refine k_draw [.read true, .plain, .plain, .read true, .read true, .plain, .read false, .plain, .plain, .read true, .plain, .plain, .plain, .read true, .plain, .read false, .plain, .plain, .plain] (by kernel_rfl) (by kernel_rfl) (by kernel_rfl) ?_
      refine d_load rfl (o_loadN rfl rfl rfl sh27 rfl (o_nil rfl)) ?_
      refine d_plain (o_move rfl (o_nil rfl)) ?_
      refine d_plain (o_faddr rfl rfl fld27_2 (o_nil rfl)) ?_
      refine d_load rfl (o_load1 rfl rfl rfl sh25 rfl (o_nil rfl)) ?_
      refine d_load rfl (o_len rfl ty25 rfl (List.length_map _) (o_nil rfl)) ?_
      refine d_plain (o_sub rfl rfl rfl (by unfold I64; omega) (o_nil rfl)) ?_
      refine d_callR rfl (q34) (.bool _) (.lrefl _) ?_
      refine d_plain (o_move rfl (o_nil rfl)) ?_
      refine d_gS rfl rfl rfl rfl rfl ?_
      refine d_genA [(1, .int .i64 key), (2, .int .i64 off), (3, U.lst Kd.ro 1 (intsU ms)), (4, U.box 0 0), (18, U.agg [U.lst Kd.ro 3 (trisU (Shop.tools s)), .int .i64 (Shop.flo s), .int .i64 (Shop.fhi s), U.lst Kd.ro 3 (trisU (Shop.keys s))]), (25, U.bool Bool.false), (26, U.tup [])] [] ([SB.box [U.lst Kd.ro 3 (trisU (Shop.tools s)), .int .i64 (Shop.flo s), .int .i64 (Shop.fhi s), U.lst Kd.ro 3 (trisU (Shop.keys s))]]) (.cons rfl (.cons rfl (.cons rfl (.cons rfl (.cons rfl (.cons rfl (.cons rfl (.nil rfl)))))))) rfl rfl fun fr => ?_
      refine d_gS rfl rfl rfl rfl rfl ?_
      refine d_gS rfl rfl rfl rfl rfl ?_
      refine d_gS rfl rfl rfl rfl rfl ?_
      refine d_gS rfl rfl rfl rfl rfl ?_
      refine d_gS rfl rfl rfl rfl rfl ?_
      refine d_gS rfl rfl rfl rfl rfl ?_
      refine d_gS rfl rfl rfl rfl rfl ?_
      refine d_plain (o_pickF rfl rfl rfl (o_nil rfl)) ?_
      refine d_plain (o_call rfl (q49) (.lrefl _) (o_nil rfl)) ?_
      refine d_genA [(1, .int .i64 key), (2, .int .i64 off), (3, U.lst Kd.ro 1 (intsU ms)), (4, U.box 0 0), (35, .int .i64 c)] [] ([SB.box [U.lst Kd.ro 3 (trisU (Shop.tools s)), .int .i64 (Shop.flo s), .int .i64 (Shop.fhi s), U.lst Kd.ro 3 (trisU (Shop.keys s))]]) (.cons rfl (.cons rfl (.cons rfl (.cons rfl (.cons rfl (.nil rfl)))))) rfl rfl fun fr => ?_
      refine d_plain (o_assign rfl (o_nil rfl)) ?_
      refine d_nil ?_
      refine k_gen [(1, .int .i64 key), (2, .int .i64 off), (3, U.lst Kd.ro 1 (intsU ms)), (4, U.box 0 0), (11, .int .i64 c)] ([SB.box [U.lst Kd.ro 3 (trisU (Shop.tools s)), .int .i64 (Shop.flo s), .int .i64 (Shop.fhi s), U.lst Kd.ro 3 (trisU (Shop.keys s))]]) (.cons rfl (.cons rfl (.cons rfl (.cons rfl (.cons rfl (.nil rfl)))))) rfl fun fr => ?_
      refine k_seq (k_region ?_)
      refine o_move rfl ?_
      refine o_neq rfl rfl rfl ?_
      refine o_nil ?_
      refine k_cT rfl (decide_eq_true (by omega)) ?_
      refine k_seq (k_region ?_)
      refine o_move rfl ?_
      refine o_assign rfl ?_
      refine o_assign rfl ?_
      refine o_assign rfl ?_
      refine o_nil ?_
      refine k_ret ?_
      refine ⟨.inr rfl, _, .cons _ _ _ _ (.tmp 8) (.cons _ _ _ _ (.tmp 9) (.cons _ _ _ _ (.tmp 10) .nil)), ?_⟩
      exact uw_nil3 _ _
  · rw [ask_check hn] at h ⊢
    have q34 := ret34 (orc := orc) hi key 0 (wrapF .i64 ((s.keys.length : Int) - 1))
    simp only [ask_check hn] at q49
    have hwl := wrap_le (n := (s.keys.length : Int) - 1) (by omega)
    generalize hB : (decide (0 ≤ key) && decide (key ≤ wrapF .i64 ((s.keys.length : Int) - 1))) = B at q34
    cases B with
    | true =>
      simp only [Bool.and_eq_true, decide_eq_true_eq] at hB
      obtain ⟨q, hq⟩ := hk_has (s := s) (i := key.toNat) (by omega)
      have q35 := ret35 (orc := orc) hi q.a q.b off
      refine k_seq (k_region ?_)
      refine o_box rfl rfl ?_
      refine o_assign rfl ?_
      refine o_assign rfl ?_
      refine o_assign rfl ?_
      refine o_nil ?_
      refine k_gen [(1, .int .i64 key), (2, .int .i64 off), (3, U.lst Kd.ro 1 (intsU ms)), (4, U.box 0 0)] ([SB.box [U.lst Kd.ro 3 (trisU (Shop.tools s)), .int .i64 (Shop.flo s), .int .i64 (Shop.fhi s), U.lst Kd.ro 3 (trisU (Shop.keys s))]]) (.cons rfl (.cons rfl (.cons rfl (.cons rfl (.nil rfl))))) rfl fun fr => ?_
      refine k_seq ?_
      refine k_seq ?_
      refine k_draw [.read true, .plain, .plain, .read true, .read true, .plain, .read false, .plain, .plain, .read true, .plain, .plain, .plain, .read true, .plain, .read false, .plain, .plain, .plain] (by kernel_rfl) (by kernel_rfl) (by kernel_rfl) ?_
      refine d_load rfl (o_loadN rfl rfl rfl sh27 rfl (o_nil rfl)) ?_
      refine d_plain (o_move rfl (o_nil rfl)) ?_
      refine d_plain (o_faddr rfl rfl fld27_2 (o_nil rfl)) ?_
      refine d_load rfl (o_load1 rfl rfl rfl sh25 rfl (o_nil rfl)) ?_
      refine d_load rfl (o_len rfl ty25 rfl (List.length_map _) (o_nil rfl)) ?_
      refine d_plain (o_int (v := .int .i64 (wrapF .i64 ((s.keys.length : Int) - 1))) rfl rfl rfl rfl rfl (o_nil rfl)) ?_
      refine d_callR rfl (q34) (.bool _) (.lrefl _) ?_
      refine d_plain (o_move rfl (o_nil rfl)) ?_
      refine d_gD rfl rfl rfl rfl rfl ?_
      refine d_plain (o_faddr rfl rfl fld27_2 (o_nil rfl)) ?_
      refine d_genA [(1, .int .i64 key), (2, .int .i64 off), (3, U.lst Kd.ro 1 (intsU ms)), (4, U.box 0 0), (18, U.agg [U.lst Kd.ro 3 (trisU (Shop.tools s)), .int .i64 (Shop.flo s), .int .i64 (Shop.fhi s), U.lst Kd.ro 3 (trisU (Shop.keys s))]), (25, U.bool Bool.true), (26, U.box 0 3)] [] ([SB.box [U.lst Kd.ro 3 (trisU (Shop.tools s)), .int .i64 (Shop.flo s), .int .i64 (Shop.fhi s), U.lst Kd.ro 3 (trisU (Shop.keys s))]]) (.cons rfl (.cons rfl (.cons rfl (.cons rfl (.cons rfl (.cons rfl (.cons rfl (.nil rfl)))))))) rfl rfl fun fr => ?_
      refine d_gD rfl rfl rfl rfl rfl ?_
      refine d_genA [(1, .int .i64 key), (2, .int .i64 off), (3, U.lst Kd.ro 1 (intsU ms)), (4, U.box 0 0), (18, U.agg [U.lst Kd.ro 3 (trisU (Shop.tools s)), .int .i64 (Shop.flo s), .int .i64 (Shop.fhi s), U.lst Kd.ro 3 (trisU (Shop.keys s))]), (25, U.bool Bool.true), (26, U.box 0 3)] [] ([SB.box [U.lst Kd.ro 3 (trisU (Shop.tools s)), .int .i64 (Shop.flo s), .int .i64 (Shop.fhi s), U.lst Kd.ro 3 (trisU (Shop.keys s))]]) (.cons rfl (.cons rfl (.cons rfl (.cons rfl (.cons rfl (.cons rfl (.cons rfl (.nil rfl)))))))) rfl rfl fun fr => ?_
      refine d_load rfl (o_load1 rfl rfl rfl sh25 rfl (o_nil rfl)) ?_
      refine d_gD rfl rfl rfl rfl rfl ?_
      refine d_plain (o_move rfl (o_nil rfl)) ?_
      refine d_gD rfl rfl rfl rfl rfl ?_
      refine d_plain (o_idx (u := q.u) rfl ty25 rfl rfl (by omega) (by rw [List.getElem?_map, hq]; rfl) cl64 (o_nil rfl)) ?_
      refine d_gD rfl rfl rfl rfl rfl ?_
      refine d_plain (o_faddrR rfl rfl fld64_0 (o_nil rfl)) ?_
      refine d_gD rfl rfl rfl rfl rfl ?_
      refine d_load rfl (o_loadRN rfl rfl sh24 rfl (o_nil rfl)) ?_
      refine d_gD rfl rfl rfl rfl rfl ?_
      refine d_plain (o_move rfl (o_nil rfl)) ?_
      refine d_gD rfl rfl rfl rfl rfl ?_
      refine d_callR rfl (q35) (.bool _) (.lrefl _) ?_
      refine d_plain (o_pickT rfl rfl rfl (o_nil rfl)) ?_
      refine d_plain (o_call rfl (q49 _) (.lrefl _) (o_nil rfl)) ?_
      refine d_genA [(1, .int .i64 key), (2, .int .i64 off), (3, U.lst Kd.ro 1 (intsU ms)), (4, U.box 0 0), (35, .int .i64 30)] [] ([SB.box [U.lst Kd.ro 3 (trisU (Shop.tools s)), .int .i64 (Shop.flo s), .int .i64 (Shop.fhi s), U.lst Kd.ro 3 (trisU (Shop.keys s))]]) (.cons rfl (.cons rfl (.cons rfl (.cons rfl (.cons rfl (.nil rfl)))))) rfl rfl fun fr => ?_
      refine d_plain (o_assign rfl (o_nil rfl)) ?_
      refine d_nil ?_
      refine k_gen [(1, .int .i64 key), (2, .int .i64 off), (3, U.lst Kd.ro 1 (intsU ms)), (4, U.box 0 0), (11, .int .i64 30)] ([SB.box [U.lst Kd.ro 3 (trisU (Shop.tools s)), .int .i64 (Shop.flo s), .int .i64 (Shop.fhi s), U.lst Kd.ro 3 (trisU (Shop.keys s))]]) (.cons rfl (.cons rfl (.cons rfl (.cons rfl (.cons rfl (.nil rfl)))))) rfl fun fr => ?_
      refine k_seq (k_region ?_)
      refine o_move rfl ?_
      refine o_neq rfl rfl rfl ?_
      refine o_nil ?_
      refine k_cT rfl rfl ?_
      refine k_seq (k_region ?_)
      refine o_move rfl ?_
      refine o_assign rfl ?_
      refine o_assign rfl ?_
      refine o_assign rfl ?_
      refine o_nil ?_
      refine k_ret ?_
      refine ⟨.inr rfl, _, .cons _ _ _ _ (.tmp 8) (.cons _ _ _ _ (.tmp 9) (.cons _ _ _ _ (.tmp 10) .nil)), ?_⟩
      exact uw_nil3 _ _
    | false =>
      refine k_seq (k_region ?_)
      refine o_box rfl rfl ?_
      refine o_assign rfl ?_
      refine o_assign rfl ?_
      refine o_assign rfl ?_
      refine o_nil ?_
      refine k_gen [(1, .int .i64 key), (2, .int .i64 off), (3, U.lst Kd.ro 1 (intsU ms)), (4, U.box 0 0)] ([SB.box [U.lst Kd.ro 3 (trisU (Shop.tools s)), .int .i64 (Shop.flo s), .int .i64 (Shop.fhi s), U.lst Kd.ro 3 (trisU (Shop.keys s))]]) (.cons rfl (.cons rfl (.cons rfl (.cons rfl (.nil rfl))))) rfl fun fr => ?_
      refine k_seq ?_
      refine k_seq ?_
      refine k_draw [.read true, .plain, .plain, .read true, .read true, .plain, .read false, .plain, .plain, .read true, .plain, .plain, .plain, .read true, .plain, .read false, .plain, .plain, .plain] (by kernel_rfl) (by kernel_rfl) (by kernel_rfl) ?_
      refine d_load rfl (o_loadN rfl rfl rfl sh27 rfl (o_nil rfl)) ?_
      refine d_plain (o_move rfl (o_nil rfl)) ?_
      refine d_plain (o_faddr rfl rfl fld27_2 (o_nil rfl)) ?_
      refine d_load rfl (o_load1 rfl rfl rfl sh25 rfl (o_nil rfl)) ?_
      refine d_load rfl (o_len rfl ty25 rfl (List.length_map _) (o_nil rfl)) ?_
      refine d_plain (o_int (v := .int .i64 (wrapF .i64 ((s.keys.length : Int) - 1))) rfl rfl rfl rfl rfl (o_nil rfl)) ?_
      refine d_callR rfl (q34) (.bool _) (.lrefl _) ?_
      refine d_plain (o_move rfl (o_nil rfl)) ?_
      refine d_gS rfl rfl rfl rfl rfl ?_
      refine d_genA [(1, .int .i64 key), (2, .int .i64 off), (3, U.lst Kd.ro 1 (intsU ms)), (4, U.box 0 0), (18, U.agg [U.lst Kd.ro 3 (trisU (Shop.tools s)), .int .i64 (Shop.flo s), .int .i64 (Shop.fhi s), U.lst Kd.ro 3 (trisU (Shop.keys s))]), (25, U.bool Bool.false), (26, U.tup [])] [] ([SB.box [U.lst Kd.ro 3 (trisU (Shop.tools s)), .int .i64 (Shop.flo s), .int .i64 (Shop.fhi s), U.lst Kd.ro 3 (trisU (Shop.keys s))]]) (.cons rfl (.cons rfl (.cons rfl (.cons rfl (.cons rfl (.cons rfl (.cons rfl (.nil rfl)))))))) rfl rfl fun fr => ?_
      refine d_gS rfl rfl rfl rfl rfl ?_
      refine d_gS rfl rfl rfl rfl rfl ?_
      refine d_gS rfl rfl rfl rfl rfl ?_
      refine d_gS rfl rfl rfl rfl rfl ?_
      refine d_gS rfl rfl rfl rfl rfl ?_
      refine d_gS rfl rfl rfl rfl rfl ?_
      refine d_gS rfl rfl rfl rfl rfl ?_
      refine d_plain (o_pickF rfl rfl rfl (o_nil rfl)) ?_
      refine d_plain (o_call rfl (q49 _) (.lrefl _) (o_nil rfl)) ?_
      refine d_genA [(1, .int .i64 key), (2, .int .i64 off), (3, U.lst Kd.ro 1 (intsU ms)), (4, U.box 0 0), (35, .int .i64 30)] [] ([SB.box [U.lst Kd.ro 3 (trisU (Shop.tools s)), .int .i64 (Shop.flo s), .int .i64 (Shop.fhi s), U.lst Kd.ro 3 (trisU (Shop.keys s))]]) (.cons rfl (.cons rfl (.cons rfl (.cons rfl (.cons rfl (.nil rfl)))))) rfl rfl fun fr => ?_
      refine d_plain (o_assign rfl (o_nil rfl)) ?_
      refine d_nil ?_
      refine k_gen [(1, .int .i64 key), (2, .int .i64 off), (3, U.lst Kd.ro 1 (intsU ms)), (4, U.box 0 0), (11, .int .i64 30)] ([SB.box [U.lst Kd.ro 3 (trisU (Shop.tools s)), .int .i64 (Shop.flo s), .int .i64 (Shop.fhi s), U.lst Kd.ro 3 (trisU (Shop.keys s))]]) (.cons rfl (.cons rfl (.cons rfl (.cons rfl (.cons rfl (.nil rfl)))))) rfl fun fr => ?_
      refine k_seq (k_region ?_)
      refine o_move rfl ?_
      refine o_neq rfl rfl rfl ?_
      refine o_nil ?_
      refine k_cT rfl rfl ?_
      refine k_seq (k_region ?_)
      refine o_move rfl ?_
      refine o_assign rfl ?_
      refine o_assign rfl ?_
      refine o_assign rfl ?_
      refine o_nil ?_
      refine k_ret ?_
      refine ⟨.inr rfl, _, .cons _ _ _ _ (.tmp 8) (.cons _ _ _ _ (.tmp 9) (.cons _ _ _ _ (.tmp 10) .nil)), ?_⟩
      exact uw_nil3 _ _
theorem play_len {s : Shop} (hk : SOk s) : ∀ (ms : List Int) (off metal : Int) (n : Nat) (l : List Int) (e : Int), OnWay s off metal n → playR s ms off metal = some (l, e) → (l.length : Int) ≤ metal := by
  intro ms
  induction ms with
  | nil =>
    intro off metal n l e hw h
    unfold playR at h
    split at h
    · cases h; exact hw.2.1
    · cases h
  | cons m ms ih =>
    intro off metal n l e hw h
    unfold playR at h
    split at h
    · cases h
    · rename_i hf
      have hf : fineB s off = false := by rw [← Bool.not_eq_true]; exact hf
      obtain ⟨j, t, hj, hq, hnext⟩ := way_next hk hw hf
      rw [hj, show ((j : Int)).toNat = j from rfl, hq] at h
      simp only at h
      split at h
      · rename_i hm
        cases hr : playR s ms (off + m) (metal - t.c) with
        | none => rw [hr] at h; cases h
        | some x =>
          rw [hr] at h
          cases h
          have := ih _ _ _ x.1 x.2 (hnext m hm.1 hm.2) hr
          have hb := hk.tools t (List.mem_of_getElem? hq)
          rw [List.length_cons]; omega
      · cases h
set_option maxHeartbeats 8000000 in
theorem ret5 (hi : Off is) (s : Shop) (a b : Int) (ms : List Int) (r20 : RetP Try.prog is orc 20 [] (.bool true)) : RetP Try.prog is orc 5 [s.u, .agg [.int .i64 a, .int .i64 b], .lst .ro 1 (intsU ms)] (.bool true) := by
  obtain ⟨l, x1, x2, q30, q31, hll⟩ : ∃ (l : List Int) (x1 x2 : Int), RetP Try.prog is orc 30 [s.u, .int .i64 a, .int .i64 b, .lst .ro 1 (intsU ms)] (.tup [.lst .ro 1 (intsU l), .int .i64 x1, .int .i64 x2]) ∧ RetP Try.prog is orc 31 [s.u, .int .i64 a, .int .i64 b, .lst .ro 1 (intsU ms)] (.tup [.lst .ro 1 (intsU l), .int .i64 x1, .int .i64 x2]) ∧ l.length ≤ 4096 := by
    by_cases h : askR s (plB s a b) = 0
    · obtain ⟨hc, hb⟩ := ask_zero h
      have hk := ok_chk hc
      unfold plB at hb
      split at hb
      · rename_i hkb
        obtain ⟨i, q, rfl, hq⟩ := hkB_key hkb
        rw [show ((i : Int)).toNat = i from rfl, hq] at hb
        have hb : inB q b = true := hb
        have h1 := ret30 (orc := orc) hi hk hq hb ms
        have h2 := ret31 (orc := orc) hi hk hq hb ms
        have hqb := hk.keys q (List.mem_of_getElem? hq)
        unfold playA at h1 h2
        by_cases h31 : (cho s true b q.c).2 = 31
        · rw [if_pos h31] at h1 h2; exact ⟨[], _, _, h1, h2, by decide⟩
        · rw [if_neg h31] at h1 h2
          have hoq : q.a ≤ b ∧ b ≤ q.b := by unfold inB at hb; simpa using hb
          have hway : OnWay s b q.c 0 := ⟨by unfold offB; simp; omega, by omega, by omega, h31⟩
          cases hp : playR s ms b q.c with
          | none => rw [hp] at h1 h2; exact ⟨[], _, _, h1, h2, by decide⟩
          | some x =>
            rw [hp] at h1 h2
            have := play_len hk ms b q.c 0 x.1 x.2 hway hp
            exact ⟨x.1, _, _, h1, h2, by omega⟩
      · cases hb
    · exact ⟨[], _, _, ret30x hi h ms, ret31x hi h ms, by decide⟩
  have q25 := ret25 (orc := orc) hi l l hll
  rw [decide_eq_true rfl] at q25
  refine ret_of body5 pure5 (hi 5 (by decide)) rfl rfl (dat_l3 (dat_shop s 5) (dat_span _ _ _) (dat_ints 6 .ro (fun h => by cases h) 1 ms)) (.inl (.bool _ _)) ?_
  refine k_seq (k_region ?_)
  refine o_box rfl rfl ?_
  refine o_box rfl rfl ?_
  refine o_assign rfl ?_
  refine o_nil ?_
  refine k_gen [(2, U.lst Kd.ro 1 (intsU ms)), (3, U.box 0 0), (4, U.box 1 0)] ([SB.box [U.lst Kd.ro 3 (trisU (Shop.tools s)), .int .i64 (Shop.flo s), .int .i64 (Shop.fhi s), U.lst Kd.ro 3 (trisU (Shop.keys s))], SB.box [.int .i64 a, .int .i64 b]]) (.cons rfl (.cons rfl (.cons rfl (.nil rfl)))) rfl fun fr => ?_
  refine k_seq (k_region ?_)
  refine o_loadN rfl rfl rfl sh27 rfl ?_
  refine o_idxA rfl ty28 rfl rfl (by omega) (by omega) cl3 ?_
  refine o_load1 rfl rfl rfl sh3 rfl ?_
  refine o_idxA rfl ty28 rfl rfl (by omega) (by omega) cl3 ?_
  refine o_load1 rfl rfl rfl sh3 rfl ?_
  refine o_move rfl ?_
  refine o_call rfl (q30) (.lrefl _) ?_
  refine o_move rfl ?_
  refine o_extract rfl rfl rfl ?_
  refine o_genA [(2, U.lst Kd.ro 1 (intsU ms)), (3, U.box 0 0), (4, U.box 1 0), (13, U.tup [U.lst Kd.ro 1 (intsU l), .int .i64 x1, .int .i64 x2]), (21, U.lst Kd.ro 1 (intsU l))] [] ([SB.box [U.lst Kd.ro 3 (trisU (Shop.tools s)), .int .i64 (Shop.flo s), .int .i64 (Shop.fhi s), U.lst Kd.ro 3 (trisU (Shop.keys s))], SB.box [.int .i64 a, .int .i64 b]]) (.cons rfl (.cons rfl (.cons rfl (.cons rfl (.cons rfl (.nil rfl)))))) rfl rfl fun fr => ?_
  refine o_extract rfl rfl rfl ?_
  refine o_extract rfl rfl rfl ?_
  refine o_assign rfl ?_
  refine o_assign rfl ?_
  refine o_assign rfl ?_
  refine o_nil ?_
  refine k_gen [(2, U.lst Kd.ro 1 (intsU ms)), (3, U.box 0 0), (4, U.box 1 0), (7, U.lst Kd.ro 1 (intsU l)), (8, .int .i64 x1), (9, .int .i64 x2)] ([SB.box [U.lst Kd.ro 3 (trisU (Shop.tools s)), .int .i64 (Shop.flo s), .int .i64 (Shop.fhi s), U.lst Kd.ro 3 (trisU (Shop.keys s))], SB.box [.int .i64 a, .int .i64 b]]) (.cons rfl (.cons rfl (.cons rfl (.cons rfl (.cons rfl (.cons rfl (.nil rfl))))))) rfl fun fr => ?_
  refine k_seq (k_region ?_)
  refine o_loadN rfl rfl rfl sh27 rfl ?_
  refine o_idxA rfl ty28 rfl rfl (by omega) (by omega) cl3 ?_
  refine o_load1 rfl rfl rfl sh3 rfl ?_
  refine o_idxA rfl ty28 rfl rfl (by omega) (by omega) cl3 ?_
  refine o_load1 rfl rfl rfl sh3 rfl ?_
  refine o_move rfl ?_
  refine o_call rfl (q31) (.lrefl _) ?_
  refine o_move rfl ?_
  refine o_extract rfl rfl rfl ?_
  refine o_genA [(7, U.lst Kd.ro 1 (intsU l)), (8, .int .i64 x1), (9, .int .i64 x2), (24, U.tup [U.lst Kd.ro 1 (intsU l), .int .i64 x1, .int .i64 x2]), (32, U.lst Kd.ro 1 (intsU l))] [] ([SB.box [U.lst Kd.ro 3 (trisU (Shop.tools s)), .int .i64 (Shop.flo s), .int .i64 (Shop.fhi s), U.lst Kd.ro 3 (trisU (Shop.keys s))], SB.box [.int .i64 a, .int .i64 b]]) (.cons rfl (.cons rfl (.cons rfl (.cons rfl (.cons rfl (.nil rfl)))))) rfl rfl fun fr => ?_
  refine o_extract rfl rfl rfl ?_
  refine o_extract rfl rfl rfl ?_
  refine o_assign rfl ?_
  refine o_assign rfl ?_
  refine o_assign rfl ?_
  refine o_nil ?_
  refine k_gen [(7, U.lst Kd.ro 1 (intsU l)), (8, .int .i64 x1), (9, .int .i64 x2), (10, U.lst Kd.ro 1 (intsU l)), (11, .int .i64 x1), (12, .int .i64 x2)] ([SB.box [U.lst Kd.ro 3 (trisU (Shop.tools s)), .int .i64 (Shop.flo s), .int .i64 (Shop.fhi s), U.lst Kd.ro 3 (trisU (Shop.keys s))], SB.box [.int .i64 a, .int .i64 b]]) (.cons rfl (.cons rfl (.cons rfl (.cons rfl (.cons rfl (.cons rfl (.nil rfl))))))) rfl fun fr => ?_
  refine k_seq (k_region ?_)
  refine o_move rfl ?_
  refine o_move rfl ?_
  refine o_call rfl (q25) (.lrefl _) ?_
  refine o_move rfl ?_
  refine o_gD rfl rfl rfl rfl rfl ?_
  refine o_move rfl ?_
  refine o_gD rfl rfl rfl rfl rfl ?_
  refine o_move rfl ?_
  refine o_gD rfl rfl rfl rfl rfl ?_
  refine o_eql rfl rfl rfl ?_
  refine o_pickT rfl rfl rfl ?_
  refine o_move rfl ?_
  refine o_genA [(9, .int .i64 x2), (12, .int .i64 x2), (43, U.bool (Decidable.decide (x1 = x1)))] [] ([SB.box [U.lst Kd.ro 3 (trisU (Shop.tools s)), .int .i64 (Shop.flo s), .int .i64 (Shop.fhi s), U.lst Kd.ro 3 (trisU (Shop.keys s))], SB.box [.int .i64 a, .int .i64 b]]) (.cons rfl (.cons rfl (.cons rfl (.nil rfl)))) rfl rfl fun fr => ?_
  refine o_gD rfl rfl rfl rfl (decide_eq_true (by omega)) ?_
  refine o_genA [(9, .int .i64 x2), (12, .int .i64 x2), (43, U.bool (Decidable.decide (x1 = x1)))] [] ([SB.box [U.lst Kd.ro 3 (trisU (Shop.tools s)), .int .i64 (Shop.flo s), .int .i64 (Shop.fhi s), U.lst Kd.ro 3 (trisU (Shop.keys s))], SB.box [.int .i64 a, .int .i64 b]]) (.cons rfl (.cons rfl (.cons rfl (.nil rfl)))) rfl rfl fun fr => ?_
  refine o_move rfl ?_
  refine o_gD rfl rfl rfl rfl (decide_eq_true (by omega)) ?_
  refine o_move rfl ?_
  refine o_gD rfl rfl rfl rfl (decide_eq_true (by omega)) ?_
  refine o_eql rfl rfl rfl ?_
  refine o_pickT rfl rfl (decide_eq_true (by omega)) ?_
  refine o_move rfl ?_
  refine o_gD rfl rfl rfl rfl (decide_eq_true (by omega)) ?_
  refine o_call rfl (r20) (.lrefl _) ?_
  refine o_pickT rfl rfl (decide_eq_true (by omega)) ?_
  refine o_assign rfl ?_
  refine o_nil ?_
  refine k_ret ?_
  refine ⟨.inr rfl, _, .cons _ _ _ _ (.tmp 6) .nil, ?_⟩
  exact .refl _
theorem ret5_all {is : FuncId → Bool} {orc : Known} (hi : Off is) (r20 : RetP Try.prog is orc 20 [] (.bool true)) : ∀ us, ShpAs Try.prog [27, 28, 38] us → RetP Try.prog is orc 5 us (.bool true) := by
  intro us h
  cases h with
  | cons _ _ u us h1 h => cases h with
  | cons _ _ v us h2 h => cases h with
  | cons _ _ x us h3 h =>
  cases h
  obtain ⟨fs, hu⟩ := und_struct (P := Try.prog) (t := 27) 3 (by kernel_rfl)
  unfold ShpA at h1 h2 h3
  rw [hu] at h1
  rw [u28] at h2
  rw [u38] at h3
  obtain ⟨cs, rfl, h1⟩ := h1
  obtain ⟨ds, rfl, h2⟩ := h2
  obtain ⟨s, rfl⟩ := shp_shop h1
  obtain ⟨a, b, rfl⟩ := shp_two h2
  obtain ⟨l, h3⟩ := shp_ints h3
  cases h3
  exact ret5 hi s a b l r20
end Go.Proofs.Ytdahbimllmapkaa.raspPlays
