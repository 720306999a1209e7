/- rasp's functions and the law's, by the logic of trees: what each gives back for all that it may be given. -/
import Derived.Test.YtdahbimllmapkaaVamRaspTurned2
namespace Go.Proofs.Ytdahbimllmapkaa.raspTurned
open Vam
set_option linter.unusedVariables false
set_option linter.unusedSimpArgs false
set_option linter.constructorNameAsVariable false
variable {is : FuncId → Bool} {orc : Known}
theorem pl64 : plcOf Try.prog 64 = some [(0, 2), (2, 1)] := by kernel_rfl
noncomputable def b43 : Code := (Try.f43.body).getD .skip
theorem body43 : bodyOf Try.prog 43 = some (12, b43, [.cell 6 64]) := by kernel_rfl
theorem pure43 : pureFn Try.prog 43 = true := by kernel_rfl
noncomputable def b25 : Code := (Try.f25.body).getD .skip
theorem body25 : bodyOf Try.prog 25 = some (31, b25, [.tmp 4]) := by kernel_rfl
theorem pure25 : pureFn Try.prog 25 = true := by kernel_rfl
set_option maxHeartbeats 4000000 in
theorem ret43 (hi : Off is) (a b c : Int) : RetP Try.prog is orc 43 [.int .i64 a, .int .i64 b, .int .i64 c] (Tri.u ⟨a, b, c⟩) := by
  refine ret_of body43 pure43 (hi 43 (by decide)) rfl rfl (dat_l3 (.int _ _ _) (.int _ _ _) (.int _ _ _)) (.inl (.agg _ _ (dat_l3 (.int _ _ _) (.int _ _ _) (.int _ _ _)))) ?_
  refine k_seq (k_region ?_)
  refine o_alloc rfl ze64 ?_
  refine o_nil ?_
  refine k_seq (k_region ?_)
  refine o_move rfl ?_
  refine o_move rfl ?_
  refine o_call rfl (ret39 hi ..) (.lrefl _) ?_
  refine o_move rfl ?_
  refine o_build rfl ze64 pl64 rfl rfl ?_
  refine o_storeN rfl rfl sh64 rfl rfl rfl rfl rfl ?_
  refine o_nil ?_
  refine k_ret ?_
  refine ⟨.inr rfl, _, .cons _ _ _ _ (.cellN 6 64 _ _ _ _ rfl rfl sh64 rfl) .nil, ?_⟩
  exact .refl _
theorem take_eq {l m : List Int} {i : Nat} {x y : Int} (hx : l[i]? = some x) (hy : m[i]? = some y) (h : l.take i = m.take i) : l.take (i + 1) = m.take (i + 1) ↔ x = y := by
  rw [List.take_add_one, List.take_add_one, hx, hy, h]; simp
set_option maxHeartbeats 4000000 in
theorem ret25 (hi : Off is) (l m : List Int) (hll : l.length ≤ 4096) : RetP Try.prog is orc 25 [.lst .ro 1 (intsU l), .lst .ro 1 (intsU m)] (.bool (decide (l = m))) := by
  refine ret_of body25 pure25 (hi 25 (by decide)) rfl rfl (dat_l2 (dat_ints 6 .ro (fun h => by cases h) 1 l) (dat_ints 6 .ro (fun h => by cases h) 1 m)) (.inl (.bool _ _)) ?_
  refine k_seq (k_region ?_)
  refine o_assign rfl ?_
  refine o_nil ?_
  refine k_seq (k_region ?_)
  refine o_move rfl ?_
  refine o_len rfl ty38 rfl (List.length_map _) ?_
  refine o_move rfl ?_
  refine o_len rfl ty38 rfl (List.length_map _) ?_
  refine o_eql rfl rfl rfl ?_
  refine o_assign rfl ?_
  refine o_nil ?_
  refine k_seq ?_
  refine k_seq (k_region ?_)
  refine o_assign rfl ?_
  refine o_nil ?_
  refine k_block ?_
  refine k_loop (fun k st => ∃ (i : Nat) (b : Bool), k + i = l.length ∧ (b = true → l.length = m.length ∧ l.take i = m.take i) ∧ (b = false → l ≠ m) ∧ st.st = [] ∧ Holds st [(0, .lst .ro 1 (intsU l)), (1, .lst .ro 1 (intsU m)), (5, .bool b), (6, .int .i64 i)]) (fun k st hI => ?_) l.length _ ?_
  · obtain ⟨i, b, hki, hb1, hb2, hst, hs⟩ := hI
    refine k_gen _ _ hs hst fun fr => ?_
    cases b with
    | true =>
      obtain ⟨hlen, htk⟩ := hb1 rfl
      refine k_seq ?_
      refine k_seq (k_region ?_)
      refine o_move rfl ?_
      refine o_move rfl ?_
      refine o_gD rfl rfl rfl rfl rfl ?_
      refine o_move rfl ?_
      refine o_gD rfl rfl rfl rfl rfl ?_
      refine o_move rfl ?_
      refine o_gD rfl rfl rfl rfl rfl ?_
      refine o_len rfl ty38 rfl (List.length_map _) ?_
      refine o_gD rfl rfl rfl rfl rfl ?_
      refine o_lss rfl rfl rfl ?_
      refine o_pickT rfl rfl rfl ?_
      refine o_nil ?_
      refine k_cond rfl (fun h18 => ?_) (fun h18 => ?_)
      · refine k_skip ?_
        refine k_seq ?_
        refine k_block ?_
        refine k_draw [.plain, .plain, .plain, .read true, .plain, .plain, .plain, .read true, .plain, .plain] (by kernel_rfl) (by kernel_rfl) (by kernel_rfl) ?_
        refine d_plain (o_move rfl (o_nil rfl)) ?_
        refine d_plain (o_move rfl (o_nil rfl)) ?_
        have hil : i < l.length := by have := of_decide_eq_true h18; omega
        obtain ⟨x, hx⟩ : ∃ x, l[i]? = some x := ⟨l[i], List.getElem?_eq_getElem hil⟩
        obtain ⟨y, hy⟩ : ∃ y, m[i]? = some y := ⟨m[i], List.getElem?_eq_getElem (by omega)⟩
        refine d_plain (o_idx (u := .int .i64 x) rfl ty38 rfl rfl (Int.natCast_nonneg _) (by simp [hx]) cl3 (o_nil rfl)) ?_
        refine d_load rfl (o_loadR1 rfl rfl sh3 rfl (o_nil rfl)) ?_
        refine d_plain (o_move rfl (o_nil rfl)) ?_
        refine d_plain (o_move rfl (o_nil rfl)) ?_
        refine d_plain (o_idx (u := .int .i64 y) rfl ty38 rfl rfl (Int.natCast_nonneg _) (by simp [hy]) cl3 (o_nil rfl)) ?_
        refine d_load rfl (o_loadR1 rfl rfl sh3 rfl (o_nil rfl)) ?_
        refine d_plain (o_eql rfl rfl rfl (o_nil rfl)) ?_
        refine d_plain (o_assign rfl (o_nil rfl)) ?_
        refine d_nil ?_
        refine k_region ?_
        refine o_move rfl ?_
        refine o_add rfl rfl rfl (by unfold I64; omega) ?_
        refine o_assign rfl ?_
        refine o_nil ?_
        refine ⟨k - 1, by omega, i + 1, _, by omega, fun h => ⟨hlen, (take_eq hx hy htk).2 (of_decide_eq_true h)⟩, fun h hlm => ?_, rfl, .cons rfl (.cons rfl (.cons rfl (.cons rfl (.nil rfl))))⟩
        subst hlm; rw [hx] at hy; cases hy; exact of_decide_eq_false h rfl
      · refine k_exit ?_
        refine k_seq (k_region ?_)
        refine o_move rfl ?_
        refine o_assign rfl ?_
        refine o_nil ?_
        refine k_ret ?_
        refine ⟨.inr rfl, _, .cons _ _ _ _ (.tmp 4) .nil, ?_⟩
        have hil : i = l.length := by have := of_decide_eq_false h18; omega
        have hlm : l = m := by rw [← List.take_length (l := l), ← hil, htk, hil, hlen, List.take_length]
        rw [decide_eq_true hlm]; exact .refl _
    | false =>
      refine k_seq ?_
      refine k_seq (k_region ?_)
      refine o_move rfl ?_
      refine o_move rfl ?_
      refine o_gS rfl rfl rfl rfl rfl ?_
      refine o_gS rfl rfl rfl rfl rfl ?_
      refine o_gS rfl rfl rfl rfl rfl ?_
      refine o_gS rfl rfl rfl rfl rfl ?_
      refine o_pickF rfl rfl rfl ?_
      refine o_nil ?_
      refine k_cF rfl rfl ?_
      refine k_exit ?_
      refine k_seq (k_region ?_)
      refine o_move rfl ?_
      refine o_assign rfl ?_
      refine o_nil ?_
      refine k_ret ?_
      refine ⟨.inr rfl, _, .cons _ _ _ _ (.tmp 4) .nil, ?_⟩
      rw [decide_eq_false (hb2 rfl)]; exact .refl _
  · exact ⟨0, _, by omega, fun h => ⟨by have := of_decide_eq_true h; omega, by simp⟩, fun h hlm => of_decide_eq_false h (by rw [hlm]), rfl, .cons rfl (.cons rfl (.cons rfl (.cons rfl (.nil rfl))))⟩
theorem by64 : Program.bytesOf Try.prog 64 = 24 := by kernel_rfl
theorem pl27 : plcOf Try.prog 27 = some [(0, 1), (1, 2), (3, 1)] := by kernel_rfl
theorem pl52 : plcOf Try.prog 52 = some [(0, 2), (2, 1)] := by kernel_rfl
theorem ap25_25 : AppT Try.prog 25 25 64 3 24 ((.cons (.int .i64 0) (.cons (.int .i64 0) (.cons (.int .i64 0) .nil))) : V) := ⟨ty25, ⟨_, ty25⟩, cl64, by decide, by64, ze64, rfl⟩
noncomputable def b12 : Code := (Try.f12.body).getD .skip
theorem body12 : bodyOf Try.prog 12 = some (211, b12, [.tmp 4]) := by kernel_rfl
theorem pure12 : pureFn Try.prog 12 = true := by kernel_rfl
theorem lsB_le (f : Nat → Bool) : (lsB f 6).length ≤ 4096 := Nat.le_trans (ls_len f 6) (by omega)
theorem flat_tri (t : Tri) : FlatU t.u := .agg _ fun c hc => by
  simp only [List.mem_cons, List.not_mem_nil, or_false] at hc
  rcases hc with rfl | rfl | rfl <;> exact .int _ _
theorem uw_tu (l m : List Tri) (x y : Int) (us us' : List U) (h : UW (.l us) (.l us')) : UW (.l (.agg [accT l, .int .i64 x, .int .i64 y, accT m] :: us)) (.l (.agg [.lst .ro 3 (trisU l), .int .i64 x, .int .i64 y, .lst .ro 3 (trisU m)] :: us')) :=
  .lcons _ _ _ _ (.agg _ _ (.lcons _ _ _ _ (uw_accT _) (.lcons _ _ _ _ (.refl _) (.lcons _ _ _ _ (.refl _) (.lcons _ _ _ _ (uw_accT _) (.lrefl _)))))) h
set_option maxHeartbeats 4000000 in
theorem ret12n (hi : Off is) {s : Shop} (hv : checkR s.tools s.keys s.flo s.fhi ≠ 0) (a b : Int) (r20 : RetP Try.prog is orc 20 [] (.bool true)) : RetP Try.prog is orc 12 [s.u, .agg [.int .i64 a, .int .i64 b]] (.bool true) := by
  refine ret_of body12 pure12 (hi 12 (by decide)) rfl rfl (dat_l2 (dat_shop s 5) (dat_span _ _ _)) (.inl (.bool _ _)) ?_
  refine k_seq (k_region ?_)
  refine o_box rfl rfl ?_
  refine o_box rfl rfl ?_
  refine o_assign rfl ?_
  refine o_nil ?_
  refine k_seq ?_
  refine k_seq (k_region ?_)
  refine o_loadN rfl rfl rfl sh27 rfl ?_
  refine o_call rfl (ret32n hi hv) (.lrefl _) ?_
  refine o_not rfl rfl ?_
  refine o_nil ?_
  refine k_cT rfl rfl ?_
  refine k_seq (k_region ?_)
  refine o_call rfl (r20) (.lrefl _) ?_
  refine o_assign rfl ?_
  refine o_nil ?_
  refine k_ret ?_
  refine ⟨.inr rfl, _, .cons _ _ _ _ (.tmp 4) .nil, ?_⟩
  exact .refl _
set_option maxHeartbeats 4000000 in
theorem ret12a (hi : Off is) {s : Shop} (hk : SOk s) (a b : Int) (r20 : RetP Try.prog is orc 20 [] (.bool true)) : RetP Try.prog is orc 12 [s.u, .agg [.int .i64 a, .int .i64 b]] (.bool true) := by
  refine ret_of body12 pure12 (hi 12 (by decide)) rfl rfl (dat_l2 (dat_shop s 5) (dat_span _ _ _)) (.inl (.bool _ _)) ?_
  have hfine := hk.fine
  have hnt := hk.nt
  have hnk := hk.nk
  have hx := tu_ok hk
  refine k_seq (k_region ?_)
  refine o_box rfl rfl ?_
  refine o_box rfl rfl ?_
  refine o_assign rfl ?_
  refine o_nil ?_
  refine k_seq ?_
  refine k_seq (k_region ?_)
  refine o_loadN rfl rfl rfl sh27 rfl ?_
  refine o_call rfl (ret32 hi hk) (.lrefl _) ?_
  refine o_not rfl rfl ?_
  refine o_nil ?_
  refine k_cF rfl rfl ?_
  refine k_skip ?_
  refine k_seq (k_region ?_)
  refine o_faddr rfl rfl fld27_1 ?_
  refine o_faddr rfl rfl fld24_1 ?_
  refine o_load1 rfl rfl rfl sh3 rfl ?_
  refine o_neg rfl rfl (by unfold I64; omega) ?_
  refine o_faddr rfl rfl fld27_1 ?_
  refine o_faddr rfl rfl fld24_0 ?_
  refine o_load1 rfl rfl rfl sh3 rfl ?_
  refine o_neg rfl rfl (by unfold I64; omega) ?_
  refine o_call rfl (ret39 hi ..) (.lrefl _) ?_
  refine o_build rfl ze27 pl27 rfl rfl ?_
  refine o_alloc rfl ze27 ?_
  refine o_storeN rfl rfl sh27 rfl rfl rfl rfl rfl ?_
  refine o_nil ?_
  refine k_gen [(2, U.box 0 0), (3, U.box 1 0), (5, U.box 2 0)] ([SB.box [U.lst Kd.ro 3 (trisU (Shop.tools s)), .int .i64 (Shop.flo s), .int .i64 (Shop.fhi s), U.lst Kd.ro 3 (trisU (Shop.keys s))], SB.box [.int .i64 a, .int .i64 b], SB.box [U.lst Kd.full 0 [], .int .i64 (-Shop.fhi s), .int .i64 (-Shop.flo s), U.lst Kd.full 0 []]]) (.cons rfl (.cons rfl (.cons rfl (.nil rfl)))) rfl fun fr => ?_
  refine k_seq ?_
  refine k_seq (k_region ?_)
  refine o_assign rfl ?_
  refine o_nil ?_
  refine k_block ?_
  refine k_loop (fun k st => ∃ (i : Nat), k + i = s.tools.length ∧ st.st = [.box s.cs, .box [.int .i64 a, .int .i64 b], .box [accT (tul s.tools i), .int .i64 (-s.fhi), .int .i64 (-s.flo), .lst .full 0 []]] ∧ Holds st [(2, .box 0 0), (3, .box 1 0), (5, .box 2 0), (6, .int .i64 i)]) (fun k st hI => ?_) s.tools.length _ ?_
  · obtain ⟨i, hki, hst, hs⟩ := hI
    refine k_gen _ _ hs hst fun fr => ?_
    refine k_seq ?_
    refine k_seq (k_region ?_)
    refine o_move rfl ?_
    refine o_faddr rfl rfl fld27_0 ?_
    refine o_load1 rfl rfl rfl sh22 rfl ?_
    refine o_len rfl ty22 rfl (List.length_map _) ?_
    refine o_lss rfl rfl rfl ?_
    refine o_nil ?_
    refine k_cond rfl (fun h40 => ?_) (fun h40 => ?_)
    · refine k_skip ?_
      refine k_seq ?_
      refine k_block ?_
      refine k_draw [.plain, .read true, .plain, .read true, .plain, .plain, .plain, .plain, .read true, .plain, .plain, .read true, .plain, .plain, .plain, .plain, .read true, .plain, .read false, .plain, .read true, .plain, .plain, .plain, .read true, .plain, .lay, .plain, .plain, .plain] (by kernel_rfl) (by kernel_rfl) (by kernel_rfl) ?_
      refine d_plain (o_faddr rfl rfl fld27_0 (o_nil rfl)) ?_
      refine d_load rfl (o_load1 rfl rfl rfl sh22 rfl (o_nil rfl)) ?_
      refine d_plain (o_faddr rfl rfl fld27_0 (o_nil rfl)) ?_
      refine d_load rfl (o_load1 rfl rfl rfl sh22 rfl (o_nil rfl)) ?_
      refine d_plain (o_move rfl (o_nil rfl)) ?_
      have hil : i < s.tools.length := by have := of_decide_eq_true h40; omega
      obtain ⟨t, hq⟩ : ∃ t, s.tools[i]? = some t := ⟨s.tools[i], List.getElem?_eq_getElem hil⟩
      have hb := hk.tools t (List.mem_of_getElem? hq)
      have hsl := tul_len (T := s.tools) (n := i) (by omega)
      have hss := tul_succ hq
      generalize tul s.tools i = L at hsl hss
      cases L with
      | nil =>
        refine d_plain (o_idx (u := (t).u) rfl ty22 rfl rfl (Int.natCast_nonneg _) (by simp [hq]) cl52 (o_nil rfl)) ?_
        refine d_plain (o_faddrR rfl rfl fld52_0 (o_nil rfl)) ?_
        refine d_plain (o_faddrR rfl rfl fld24_1 (o_nil rfl)) ?_
        refine d_load rfl (o_loadR1 rfl rfl sh3 rfl (o_nil rfl)) ?_
        refine d_genA [(2, U.box 0 0), (3, U.box 1 0), (5, U.box 2 0), (6, .int .i64 ↑i), (44, U.lst Kd.full 0 []), (51, .int .i64 (Tri.b t))] [] ([SB.box (Shop.cs s), SB.box [.int .i64 a, .int .i64 b], SB.box [accT [], .int .i64 (-Shop.fhi s), .int .i64 (-Shop.flo s), U.lst Kd.full 0 []]]) (.cons rfl (.cons rfl (.cons rfl (.cons rfl (.cons rfl (.cons rfl (.nil rfl))))))) rfl rfl fun fr => ?_
        refine d_plain (o_neg rfl rfl (by unfold I64; omega) (o_nil rfl)) ?_
        refine d_plain (o_faddr rfl rfl fld27_0 (o_nil rfl)) ?_
        refine d_load rfl (o_load1 rfl rfl rfl sh22 rfl (o_nil rfl)) ?_
        refine d_plain (o_move rfl (o_nil rfl)) ?_
        refine d_plain (o_idx (u := (t).u) rfl ty22 rfl rfl (Int.natCast_nonneg _) (by simp [hq]) cl52 (o_nil rfl)) ?_
        refine d_plain (o_faddrR rfl rfl fld52_0 (o_nil rfl)) ?_
        refine d_plain (o_faddrR rfl rfl fld24_0 (o_nil rfl)) ?_
        refine d_load rfl (o_loadR1 rfl rfl sh3 rfl (o_nil rfl)) ?_
        refine d_plain (o_neg rfl rfl (by unfold I64; omega) (o_nil rfl)) ?_
        refine d_genA [(2, U.box 0 0), (3, U.box 1 0), (5, U.box 2 0), (6, .int .i64 ↑i), (44, U.lst Kd.full 0 []), (52, .int .i64 (-Tri.b t)), (60, .int .i64 (-Tri.a t))] [] ([SB.box (Shop.cs s), SB.box [.int .i64 a, .int .i64 b], SB.box [accT [], .int .i64 (-Shop.fhi s), .int .i64 (-Shop.flo s), U.lst Kd.full 0 []]]) (.cons rfl (.cons rfl (.cons rfl (.cons rfl (.cons rfl (.cons rfl (.cons rfl (.nil rfl)))))))) rfl rfl fun fr => ?_
        refine d_callR rfl (ret39 hi ..) (flat_span _ _) (.lrefl _) ?_
        refine d_plain (o_faddr rfl rfl fld27_0 (o_nil rfl)) ?_
        refine d_load rfl (o_load1 rfl rfl rfl sh22 rfl (o_nil rfl)) ?_
        refine d_plain (o_move rfl (o_nil rfl)) ?_
        refine d_plain (o_idx (u := (t).u) rfl ty22 rfl rfl (Int.natCast_nonneg _) (by simp [hq]) cl52 (o_nil rfl)) ?_
        refine d_plain (o_faddrR rfl rfl fld52_1 (o_nil rfl)) ?_
        refine d_load rfl (o_loadR1 rfl rfl sh3 rfl (o_nil rfl)) ?_
        refine d_plain (o_build rfl ze52 pl52 rfl rfl (o_nil rfl)) ?_
        refine d_lay (es := [U.agg [.int .i64 (-Tri.b t), .int .i64 (-Tri.a t), .int .i64 (Tri.c t)]]) rfl ty22 ze52 cl52 rfl rfl rfl rfl rfl rfl rfl rfl ?_
        refine d_genA [(2, U.box 0 0), (3, U.box 1 0), (5, U.box 2 0), (6, .int .i64 ↑i), (44, U.lst Kd.full 0 []), (69, U.lst Kd.full 3 [U.agg [.int .i64 (-Tri.b t), .int .i64 (-Tri.a t), .int .i64 (Tri.c t)]])] [] ([SB.box (Shop.cs s), SB.box [.int .i64 a, .int .i64 b], SB.box [accT [], .int .i64 (-Shop.fhi s), .int .i64 (-Shop.flo s), U.lst Kd.full 0 []]]) (.cons rfl (.cons rfl (.cons rfl (.cons rfl (.cons rfl (.cons rfl (.nil rfl))))))) rfl rfl fun fr => ?_
        refine d_plain (o_appendF rfl ap22_22 rfl rfl (by simp) (by simp) (by simp [flatU, cellsU, oneU]) (by simp) (o_nil rfl)) ?_
        refine d_plain (o_faddr rfl rfl fld27_0 (o_nil rfl)) ?_
        refine d_plain (o_store1 rfl rfl sh22 rfl rfl (o_nil rfl)) ?_
        refine d_nil ?_
        refine k_gen [(2, U.box 0 0), (3, U.box 1 0), (5, U.box 2 0), (6, .int .i64 ↑i)] ([SB.box (Shop.cs s), SB.box [.int .i64 a, .int .i64 b], SB.box [U.lst Kd.own 3 [U.agg [.int .i64 (-Tri.b t), .int .i64 (-Tri.a t), .int .i64 (Tri.c t)]], .int .i64 (-Shop.fhi s), .int .i64 (-Shop.flo s), U.lst Kd.full 0 []]]) (.cons rfl (.cons rfl (.cons rfl (.cons rfl (.nil rfl))))) rfl fun fr => ?_
        refine k_region ?_
        refine o_move rfl ?_
        refine o_add rfl rfl rfl (by unfold I64; omega) ?_
        refine o_assign rfl ?_
        refine o_nil ?_
        refine ⟨k - 1, by omega, i + 1, by omega, ?_, .cons rfl (.cons rfl (.cons rfl (.cons rfl (.nil rfl))))⟩
        rw [hss]; rfl
      | cons y L =>
        refine d_plain (o_idx (u := (t).u) rfl ty22 rfl rfl (Int.natCast_nonneg _) (by simp [hq]) cl52 (o_nil rfl)) ?_
        refine d_plain (o_faddrR rfl rfl fld52_0 (o_nil rfl)) ?_
        refine d_plain (o_faddrR rfl rfl fld24_1 (o_nil rfl)) ?_
        refine d_load rfl (o_loadR1 rfl rfl sh3 rfl (o_nil rfl)) ?_
        refine d_genA [(2, U.box 0 0), (3, U.box 1 0), (5, U.box 2 0), (6, .int .i64 ↑i), (44, U.lst Kd.ro 3 (trisU (y :: L))), (51, .int .i64 (Tri.b t))] [(44, .cell 2 0)] ([SB.box (Shop.cs s), SB.box [.int .i64 a, .int .i64 b], SB.box [accT (y :: L), .int .i64 (-Shop.fhi s), .int .i64 (-Shop.flo s), U.lst Kd.full 0 []]]) (.cons rfl (.cons rfl (.cons rfl (.cons rfl (.cons rfl (.cons rfl (.nil rfl))))))) rfl rfl fun fr => ?_
        refine d_plain (o_neg rfl rfl (by unfold I64; omega) (o_nil rfl)) ?_
        refine d_plain (o_faddr rfl rfl fld27_0 (o_nil rfl)) ?_
        refine d_load rfl (o_load1 rfl rfl rfl sh22 rfl (o_nil rfl)) ?_
        refine d_plain (o_move rfl (o_nil rfl)) ?_
        refine d_plain (o_idx (u := (t).u) rfl ty22 rfl rfl (Int.natCast_nonneg _) (by simp [hq]) cl52 (o_nil rfl)) ?_
        refine d_plain (o_faddrR rfl rfl fld52_0 (o_nil rfl)) ?_
        refine d_plain (o_faddrR rfl rfl fld24_0 (o_nil rfl)) ?_
        refine d_load rfl (o_loadR1 rfl rfl sh3 rfl (o_nil rfl)) ?_
        refine d_plain (o_neg rfl rfl (by unfold I64; omega) (o_nil rfl)) ?_
        refine d_genA [(2, U.box 0 0), (3, U.box 1 0), (5, U.box 2 0), (6, .int .i64 ↑i), (44, U.lst Kd.ro 3 (trisU (y :: L))), (52, .int .i64 (-Tri.b t)), (60, .int .i64 (-Tri.a t))] [(44, .cell 2 0)] ([SB.box (Shop.cs s), SB.box [.int .i64 a, .int .i64 b], SB.box [accT (y :: L), .int .i64 (-Shop.fhi s), .int .i64 (-Shop.flo s), U.lst Kd.full 0 []]]) (.cons rfl (.cons rfl (.cons rfl (.cons rfl (.cons rfl (.cons rfl (.cons rfl (.nil rfl)))))))) rfl rfl fun fr => ?_
        refine d_callR rfl (ret39 hi ..) (flat_span _ _) (.lrefl _) ?_
        refine d_plain (o_faddr rfl rfl fld27_0 (o_nil rfl)) ?_
        refine d_load rfl (o_load1 rfl rfl rfl sh22 rfl (o_nil rfl)) ?_
        refine d_plain (o_move rfl (o_nil rfl)) ?_
        refine d_plain (o_idx (u := (t).u) rfl ty22 rfl rfl (Int.natCast_nonneg _) (by simp [hq]) cl52 (o_nil rfl)) ?_
        refine d_plain (o_faddrR rfl rfl fld52_1 (o_nil rfl)) ?_
        refine d_load rfl (o_loadR1 rfl rfl sh3 rfl (o_nil rfl)) ?_
        refine d_plain (o_build rfl ze52 pl52 rfl rfl (o_nil rfl)) ?_
        refine d_lay (es := [U.agg [.int .i64 (-Tri.b t), .int .i64 (-Tri.a t), .int .i64 (Tri.c t)]]) rfl ty22 ze52 cl52 rfl rfl rfl rfl rfl rfl rfl rfl ?_
        refine d_genA [(2, U.box 0 0), (3, U.box 1 0), (5, U.box 2 0), (6, .int .i64 ↑i), (44, U.lst Kd.ro 3 (trisU (y :: L))), (69, U.lst Kd.full 3 [U.agg [.int .i64 (-Tri.b t), .int .i64 (-Tri.a t), .int .i64 (Tri.c t)]])] [(44, .cell 2 0)] ([SB.box (Shop.cs s), SB.box [.int .i64 a, .int .i64 b], SB.box [accT (y :: L), .int .i64 (-Shop.fhi s), .int .i64 (-Shop.flo s), U.lst Kd.full 0 []]]) (.cons rfl (.cons rfl (.cons rfl (.cons rfl (.cons rfl (.cons rfl (.nil rfl))))))) rfl rfl fun fr => ?_
        refine d_plain (o_appendC 2 0 rfl ap22_22 rfl rfl rfl rfl (by simp) (by simp) (by simp [flatU, cellsU, oneU]) (by simp at *; omega) (o_nil rfl)) ?_
        refine d_plain (o_faddr rfl rfl fld27_0 (o_nil rfl)) ?_
        refine d_plain (o_store1 rfl rfl sh22 rfl rfl (o_nil rfl)) ?_
        refine d_nil ?_
        refine k_gen [(2, U.box 0 0), (3, U.box 1 0), (5, U.box 2 0), (6, .int .i64 ↑i)] ([SB.box (Shop.cs s), SB.box [.int .i64 a, .int .i64 b], SB.box [U.lst Kd.own 3 (Tri.u y :: List.append (List.map Tri.u L) [U.agg [.int .i64 (-Tri.b t), .int .i64 (-Tri.a t), .int .i64 (Tri.c t)]]), .int .i64 (-Shop.fhi s), .int .i64 (-Shop.flo s), U.lst Kd.full 0 []]]) (.cons rfl (.cons rfl (.cons rfl (.cons rfl (.nil rfl))))) rfl fun fr => ?_
        refine k_region ?_
        refine o_move rfl ?_
        refine o_add rfl rfl rfl (by unfold I64; omega) ?_
        refine o_assign rfl ?_
        refine o_nil ?_
        refine ⟨k - 1, by omega, i + 1, by omega, ?_, .cons rfl (.cons rfl (.cons rfl (.cons rfl (.nil rfl))))⟩
        rw [hss, accT_snoc]; rfl
    · refine k_exit ?_
      refine k_seq ?_
      refine k_seq (k_region ?_)
      refine o_assign rfl ?_
      refine o_nil ?_
      refine k_block ?_
      have hi3 : i = s.tools.length := by have := of_decide_eq_false h40; omega
      subst hi3
      refine k_loop (fun k st => ∃ (i : Nat), k + i = s.keys.length ∧ st.st = [.box s.cs, .box [.int .i64 a, .int .i64 b], .box [accT (s.tools.map tuT), .int .i64 (-s.fhi), .int .i64 (-s.flo), accT (tul s.keys i)]] ∧ Holds st [(2, .box 0 0), (3, .box 1 0), (5, .box 2 0), (7, .int .i64 i)]) (fun k st hI => ?_) s.keys.length _ ?_
      · obtain ⟨i, hki, hst, hs⟩ := hI
        refine k_gen _ _ hs hst fun fr => ?_
        refine k_seq ?_
        refine k_seq (k_region ?_)
        refine o_move rfl ?_
        refine o_faddr rfl rfl fld27_2 ?_
        refine o_load1 rfl rfl rfl sh25 rfl ?_
        refine o_len rfl ty25 rfl (List.length_map _) ?_
        refine o_lss rfl rfl rfl ?_
        refine o_nil ?_
        refine k_cond rfl (fun h76 => ?_) (fun h76 => ?_)
        · refine k_skip ?_
          refine k_seq ?_
          refine k_block ?_
          refine k_draw [.plain, .read true, .plain, .read true, .plain, .plain, .plain, .plain, .read true, .plain, .plain, .read true, .plain, .plain, .plain, .plain, .read true, .plain, .plain, .read true, .plain, .plain, .plain, .read true, .read false, .lay, .plain, .plain, .plain] (by kernel_rfl) (by kernel_rfl) (by kernel_rfl) ?_
          refine d_plain (o_faddr rfl rfl fld27_2 (o_nil rfl)) ?_
          refine d_load rfl (o_load1 rfl rfl rfl sh25 rfl (o_nil rfl)) ?_
          refine d_plain (o_faddr rfl rfl fld27_2 (o_nil rfl)) ?_
          refine d_load rfl (o_load1 rfl rfl rfl sh25 rfl (o_nil rfl)) ?_
          refine d_plain (o_move rfl (o_nil rfl)) ?_
          have hil : i < s.keys.length := by have := of_decide_eq_true h76; omega
          obtain ⟨t, hq⟩ : ∃ t, s.keys[i]? = some t := ⟨s.keys[i], List.getElem?_eq_getElem hil⟩
          have hb := hk.keys t (List.mem_of_getElem? hq)
          have hsl := tul_len (T := s.keys) (n := i) (by omega)
          have hss := tul_succ hq
          generalize tul s.keys i = L at hsl hss
          cases L with
          | nil =>
            refine d_plain (o_idx (u := (t).u) rfl ty25 rfl rfl (Int.natCast_nonneg _) (by simp [hq]) cl64 (o_nil rfl)) ?_
            refine d_plain (o_faddrR rfl rfl fld64_0 (o_nil rfl)) ?_
            refine d_plain (o_faddrR rfl rfl fld24_1 (o_nil rfl)) ?_
            refine d_load rfl (o_loadR1 rfl rfl sh3 rfl (o_nil rfl)) ?_
            refine d_genA [(2, U.box 0 0), (3, U.box 1 0), (5, U.box 2 0), (7, .int .i64 ↑i), (80, U.lst Kd.full 0 []), (87, .int .i64 (Tri.b t))] [] ([SB.box (Shop.cs s), SB.box [.int .i64 a, .int .i64 b], SB.box [accT (List.map tuT (Shop.tools s)), .int .i64 (-Shop.fhi s), .int .i64 (-Shop.flo s), accT []]]) (.cons rfl (.cons rfl (.cons rfl (.cons rfl (.cons rfl (.cons rfl (.nil rfl))))))) rfl rfl fun fr => ?_
            refine d_plain (o_neg rfl rfl (by unfold I64; omega) (o_nil rfl)) ?_
            refine d_plain (o_faddr rfl rfl fld27_2 (o_nil rfl)) ?_
            refine d_load rfl (o_load1 rfl rfl rfl sh25 rfl (o_nil rfl)) ?_
            refine d_plain (o_move rfl (o_nil rfl)) ?_
            refine d_plain (o_idx (u := (t).u) rfl ty25 rfl rfl (Int.natCast_nonneg _) (by simp [hq]) cl64 (o_nil rfl)) ?_
            refine d_plain (o_faddrR rfl rfl fld64_0 (o_nil rfl)) ?_
            refine d_plain (o_faddrR rfl rfl fld24_0 (o_nil rfl)) ?_
            refine d_load rfl (o_loadR1 rfl rfl sh3 rfl (o_nil rfl)) ?_
            refine d_plain (o_neg rfl rfl (by unfold I64; omega) (o_nil rfl)) ?_
            refine d_genA [(2, U.box 0 0), (3, U.box 1 0), (5, U.box 2 0), (7, .int .i64 ↑i), (80, U.lst Kd.full 0 []), (88, .int .i64 (-Tri.b t)), (96, .int .i64 (-Tri.a t))] [] ([SB.box (Shop.cs s), SB.box [.int .i64 a, .int .i64 b], SB.box [accT (List.map tuT (Shop.tools s)), .int .i64 (-Shop.fhi s), .int .i64 (-Shop.flo s), accT []]]) (.cons rfl (.cons rfl (.cons rfl (.cons rfl (.cons rfl (.cons rfl (.cons rfl (.nil rfl)))))))) rfl rfl fun fr => ?_
            refine d_plain (o_faddr rfl rfl fld27_2 (o_nil rfl)) ?_
            refine d_load rfl (o_load1 rfl rfl rfl sh25 rfl (o_nil rfl)) ?_
            refine d_plain (o_move rfl (o_nil rfl)) ?_
            refine d_plain (o_idx (u := (t).u) rfl ty25 rfl rfl (Int.natCast_nonneg _) (by simp [hq]) cl64 (o_nil rfl)) ?_
            refine d_plain (o_faddrR rfl rfl fld64_1 (o_nil rfl)) ?_
            refine d_load rfl (o_loadR1 rfl rfl sh3 rfl (o_nil rfl)) ?_
            refine d_callR rfl (ret43 hi ..) (flat_tri _) (.lrefl _) ?_
            refine d_lay (es := [Tri.u { a := -Tri.b t, b := -Tri.a t, c := Tri.c t }]) rfl ty25 ze64 cl64 rfl rfl rfl rfl rfl rfl rfl rfl ?_
            refine d_plain (o_appendF rfl ap25_25 rfl rfl (by simp) (by simp) (by simp [flatU, cellsU, oneU]) (by simp) (o_nil rfl)) ?_
            refine d_genA [(2, U.box 0 0), (3, U.box 1 0), (5, U.box 2 0), (7, .int .i64 ↑i), (105, U.lst Kd.own 3 [Tri.u { a := -Tri.b t, b := -Tri.a t, c := Tri.c t }])] [] ([SB.box (Shop.cs s), SB.box [.int .i64 a, .int .i64 b], SB.box [accT (List.map tuT (Shop.tools s)), .int .i64 (-Shop.fhi s), .int .i64 (-Shop.flo s), accT []]]) (.cons rfl (.cons rfl (.cons rfl (.cons rfl (.cons rfl (.nil rfl)))))) rfl rfl fun fr => ?_
            refine d_plain (o_faddr rfl rfl fld27_2 (o_nil rfl)) ?_
            refine d_plain (o_store1 rfl rfl sh25 rfl rfl (o_nil rfl)) ?_
            refine d_nil ?_
            refine k_gen [(2, U.box 0 0), (3, U.box 1 0), (5, U.box 2 0), (7, .int .i64 ↑i)] ([SB.box (Shop.cs s), SB.box [.int .i64 a, .int .i64 b], SB.box [accT (List.map tuT (Shop.tools s)), .int .i64 (-Shop.fhi s), .int .i64 (-Shop.flo s), U.lst Kd.own 3 [Tri.u { a := -Tri.b t, b := -Tri.a t, c := Tri.c t }]]]) (.cons rfl (.cons rfl (.cons rfl (.cons rfl (.nil rfl))))) rfl fun fr => ?_
            refine k_region ?_
            refine o_move rfl ?_
            refine o_add rfl rfl rfl (by unfold I64; omega) ?_
            refine o_assign rfl ?_
            refine o_nil ?_
            refine ⟨k - 1, by omega, i + 1, by omega, ?_, .cons rfl (.cons rfl (.cons rfl (.cons rfl (.nil rfl))))⟩
            rw [hss]; rfl
          | cons y L =>
            refine d_plain (o_idx (u := (t).u) rfl ty25 rfl rfl (Int.natCast_nonneg _) (by simp [hq]) cl64 (o_nil rfl)) ?_
            refine d_plain (o_faddrR rfl rfl fld64_0 (o_nil rfl)) ?_
            refine d_plain (o_faddrR rfl rfl fld24_1 (o_nil rfl)) ?_
            refine d_load rfl (o_loadR1 rfl rfl sh3 rfl (o_nil rfl)) ?_
            refine d_genA [(2, U.box 0 0), (3, U.box 1 0), (5, U.box 2 0), (7, .int .i64 ↑i), (80, U.lst Kd.ro 3 (trisU (y :: L))), (87, .int .i64 (Tri.b t))] [(80, .cell 2 3)] ([SB.box (Shop.cs s), SB.box [.int .i64 a, .int .i64 b], SB.box [accT (List.map tuT (Shop.tools s)), .int .i64 (-Shop.fhi s), .int .i64 (-Shop.flo s), accT (y :: L)]]) (.cons rfl (.cons rfl (.cons rfl (.cons rfl (.cons rfl (.cons rfl (.nil rfl))))))) rfl rfl fun fr => ?_
            refine d_plain (o_neg rfl rfl (by unfold I64; omega) (o_nil rfl)) ?_
            refine d_plain (o_faddr rfl rfl fld27_2 (o_nil rfl)) ?_
            refine d_load rfl (o_load1 rfl rfl rfl sh25 rfl (o_nil rfl)) ?_
            refine d_plain (o_move rfl (o_nil rfl)) ?_
            refine d_plain (o_idx (u := (t).u) rfl ty25 rfl rfl (Int.natCast_nonneg _) (by simp [hq]) cl64 (o_nil rfl)) ?_
            refine d_plain (o_faddrR rfl rfl fld64_0 (o_nil rfl)) ?_
            refine d_plain (o_faddrR rfl rfl fld24_0 (o_nil rfl)) ?_
            refine d_load rfl (o_loadR1 rfl rfl sh3 rfl (o_nil rfl)) ?_
            refine d_plain (o_neg rfl rfl (by unfold I64; omega) (o_nil rfl)) ?_
            refine d_genA [(2, U.box 0 0), (3, U.box 1 0), (5, U.box 2 0), (7, .int .i64 ↑i), (80, U.lst Kd.ro 3 (trisU (y :: L))), (88, .int .i64 (-Tri.b t)), (96, .int .i64 (-Tri.a t))] [(80, .cell 2 3)] ([SB.box (Shop.cs s), SB.box [.int .i64 a, .int .i64 b], SB.box [accT (List.map tuT (Shop.tools s)), .int .i64 (-Shop.fhi s), .int .i64 (-Shop.flo s), accT (y :: L)]]) (.cons rfl (.cons rfl (.cons rfl (.cons rfl (.cons rfl (.cons rfl (.cons rfl (.nil rfl)))))))) rfl rfl fun fr => ?_
            refine d_plain (o_faddr rfl rfl fld27_2 (o_nil rfl)) ?_
            refine d_load rfl (o_load1 rfl rfl rfl sh25 rfl (o_nil rfl)) ?_
            refine d_plain (o_move rfl (o_nil rfl)) ?_
            refine d_plain (o_idx (u := (t).u) rfl ty25 rfl rfl (Int.natCast_nonneg _) (by simp [hq]) cl64 (o_nil rfl)) ?_
            refine d_plain (o_faddrR rfl rfl fld64_1 (o_nil rfl)) ?_
            refine d_load rfl (o_loadR1 rfl rfl sh3 rfl (o_nil rfl)) ?_
            refine d_callR rfl (ret43 hi ..) (flat_tri _) (.lrefl _) ?_
            refine d_lay (es := [Tri.u { a := -Tri.b t, b := -Tri.a t, c := Tri.c t }]) rfl ty25 ze64 cl64 rfl rfl rfl rfl rfl rfl rfl rfl ?_
            refine d_plain (o_appendC 2 3 rfl ap25_25 rfl rfl rfl rfl (by simp) (by simp) (by simp [flatU, cellsU, oneU]) (by simp at *; omega) (o_nil rfl)) ?_
            refine d_genA [(2, U.box 0 0), (3, U.box 1 0), (5, U.box 2 0), (7, .int .i64 ↑i), (105, U.lst Kd.own 3 (Tri.u y :: List.append (List.map Tri.u L) [Tri.u { a := -Tri.b t, b := -Tri.a t, c := Tri.c t }]))] [(80, .cell 2 3)] ([SB.box (Shop.cs s), SB.box [.int .i64 a, .int .i64 b], SB.box [accT (List.map tuT (Shop.tools s)), .int .i64 (-Shop.fhi s), .int .i64 (-Shop.flo s), U.lst Kd.ro 3 (trisU (y :: L))]]) (.cons rfl (.cons rfl (.cons rfl (.cons rfl (.cons rfl (.nil rfl)))))) rfl rfl fun fr => ?_
            refine d_plain (o_faddr rfl rfl fld27_2 (o_nil rfl)) ?_
            refine d_plain (o_store1 rfl rfl sh25 rfl rfl (o_nil rfl)) ?_
            refine d_nil ?_
            refine k_gen [(2, U.box 0 0), (3, U.box 1 0), (5, U.box 2 0), (7, .int .i64 ↑i)] ([SB.box (Shop.cs s), SB.box [.int .i64 a, .int .i64 b], SB.box [accT (List.map tuT (Shop.tools s)), .int .i64 (-Shop.fhi s), .int .i64 (-Shop.flo s), U.lst Kd.own 3 (Tri.u y :: List.append (List.map Tri.u L) [Tri.u { a := -Tri.b t, b := -Tri.a t, c := Tri.c t }])]]) (.cons rfl (.cons rfl (.cons rfl (.cons rfl (.nil rfl))))) rfl fun fr => ?_
            refine k_region ?_
            refine o_move rfl ?_
            refine o_add rfl rfl rfl (by unfold I64; omega) ?_
            refine o_assign rfl ?_
            refine o_nil ?_
            refine ⟨k - 1, by omega, i + 1, by omega, ?_, .cons rfl (.cons rfl (.cons rfl (.cons rfl (.nil rfl))))⟩
            rw [hss, accT_snoc]; rfl
        · refine k_exit ?_
          refine k_seq (k_region ?_)
          refine o_loadN rfl rfl rfl sh28 rfl ?_
          refine o_call rfl (ret33 hi ..) (.lrefl _) ?_
          refine o_move rfl ?_
          refine o_extract rfl rfl rfl ?_
          refine o_extract rfl rfl rfl ?_
          refine o_assign rfl ?_
          refine o_assign rfl ?_
          refine o_nil ?_
          refine k_seq (k_region ?_)
          refine o_loadN rfl rfl rfl sh27 rfl ?_
          refine o_move rfl ?_
          refine o_move rfl ?_
          have hi3 : i = s.keys.length := by have := of_decide_eq_false h76; omega
          subst hi3
          rw [tul_all s.keys]
          have hox : offB (-(a % 121 - 60)) = true := by rw [off_turn]; exact st_off a
          have q14 := ret14g (orc := orc) hi hx hox (st_met b)
          rw [cho_turn] at q14
          have q28 := ret28 (orc := orc) hi hx hox
          rw [show needN (tuS s) (-(a % 121 - 60)) = needN s (a % 121 - 60) by unfold needN; rw [need_turn], show needE (tuS s) (-(a % 121 - 60)) = needE s (a % 121 - 60) by unfold needE; rw [need_turn]] at q28
          have q18 := ret18 (orc := orc) hi hx hox (st_met b)
          rw [cho_turn] at q18
          have q23 := ret23 (orc := orc) hi hx
          rw [sp_turn] at q23
          have q25 := ret25 (orc := orc) hi (lsB (spB s) 6) (lsB (spB s) 6) (lsB_le _)
          rw [decide_eq_true rfl] at q25
          refine o_call rfl (ret14g hi hk (st_off a) (st_met b)) (.lrefl _) ?_
          refine o_move rfl ?_
          refine o_extract rfl rfl rfl ?_
          refine o_extract rfl rfl rfl ?_
          refine o_extract rfl rfl rfl ?_
          refine o_assign rfl ?_
          refine o_assign rfl ?_
          refine o_assign rfl ?_
          refine o_nil ?_
          refine k_seq (k_region ?_)
          refine o_loadN rfl rfl rfl sh27 rfl ?_
          refine o_move rfl ?_
          refine o_neg rfl rfl (by unfold I64; omega) ?_
          refine o_move rfl ?_
          refine o_call rfl (q14) (uw_tu _ _ _ _ _ _ (.lrefl _)) ?_
          refine o_move rfl ?_
          refine o_extract rfl rfl rfl ?_
          refine o_extract rfl rfl rfl ?_
          refine o_extract rfl rfl rfl ?_
          refine o_assign rfl ?_
          refine o_assign rfl ?_
          refine o_assign rfl ?_
          refine o_nil ?_
          refine k_gen [(2, U.box 0 0), (5, U.box 2 0), (8, .int .i64 (a % 121 - 60)), (9, .int .i64 (b % 31)), (10, .int .i64 (nxt (cho s Bool.true (a % 121 - 60) (b % 31)))), (11, .int .i64 (nxn (cho s Bool.true (a % 121 - 60) (b % 31)))), (12, .int .i64 (nxe (cho s Bool.true (a % 121 - 60) (b % 31)))), (13, .int .i64 (nxt (cho s Bool.true (a % 121 - 60) (b % 31)))), (14, .int .i64 (nxn (cho s Bool.true (a % 121 - 60) (b % 31)))), (15, .int .i64 (nxe (cho s Bool.true (a % 121 - 60) (b % 31))))] ([SB.box (Shop.cs s), SB.box [.int .i64 a, .int .i64 b], SB.box [accT (List.map tuT (Shop.tools s)), .int .i64 (-Shop.fhi s), .int .i64 (-Shop.flo s), accT (List.map tuT (Shop.keys s))]]) (.cons rfl (.cons rfl (.cons rfl (.cons rfl (.cons rfl (.cons rfl (.cons rfl (.cons rfl (.cons rfl (.cons rfl (.nil rfl))))))))))) rfl fun fr => ?_
          refine k_seq (k_region ?_)
          refine o_loadN rfl rfl rfl sh27 rfl ?_
          refine o_move rfl ?_
          refine o_call rfl (ret28 hi hk (st_off a)) (.lrefl _) ?_
          refine o_move rfl ?_
          refine o_extract rfl rfl rfl ?_
          refine o_extract rfl rfl rfl ?_
          refine o_assign rfl ?_
          refine o_assign rfl ?_
          refine o_nil ?_
          refine k_seq (k_region ?_)
          refine o_loadN rfl rfl rfl sh27 rfl ?_
          refine o_move rfl ?_
          refine o_neg rfl rfl (by unfold I64; omega) ?_
          refine o_call rfl (q28) (uw_tu _ _ _ _ _ _ (.lrefl _)) ?_
          refine o_move rfl ?_
          refine o_extract rfl rfl rfl ?_
          refine o_extract rfl rfl rfl ?_
          refine o_assign rfl ?_
          refine o_assign rfl ?_
          refine o_nil ?_
          refine k_gen [(2, U.box 0 0), (5, U.box 2 0), (8, .int .i64 (a % 121 - 60)), (9, .int .i64 (b % 31)), (10, .int .i64 (nxt (cho s Bool.true (a % 121 - 60) (b % 31)))), (11, .int .i64 (nxn (cho s Bool.true (a % 121 - 60) (b % 31)))), (12, .int .i64 (nxe (cho s Bool.true (a % 121 - 60) (b % 31)))), (13, .int .i64 (nxt (cho s Bool.true (a % 121 - 60) (b % 31)))), (14, .int .i64 (nxn (cho s Bool.true (a % 121 - 60) (b % 31)))), (15, .int .i64 (nxe (cho s Bool.true (a % 121 - 60) (b % 31)))), (16, .int .i64 (needN s (a % 121 - 60))), (17, .int .i64 (needE s (a % 121 - 60))), (18, .int .i64 (needN s (a % 121 - 60))), (19, .int .i64 (needE s (a % 121 - 60)))] ([SB.box (Shop.cs s), SB.box [.int .i64 a, .int .i64 b], SB.box [accT (List.map tuT (Shop.tools s)), .int .i64 (-Shop.fhi s), .int .i64 (-Shop.flo s), accT (List.map tuT (Shop.keys s))]]) (.cons rfl (.cons rfl (.cons rfl (.cons rfl (.cons rfl (.cons rfl (.cons rfl (.cons rfl (.cons rfl (.cons rfl (.cons rfl (.cons rfl (.cons rfl (.cons rfl (.nil rfl))))))))))))))) rfl fun fr => ?_
          refine k_seq ?_
          refine k_seq (k_region ?_)
          refine o_move rfl ?_
          refine o_move rfl ?_
          refine o_neq rfl rfl rfl ?_
          refine o_move rfl ?_
          refine o_gD rfl rfl rfl rfl (decide_eq_false (by omega)) ?_
          refine o_move rfl ?_
          refine o_gD rfl rfl rfl rfl (decide_eq_false (by omega)) ?_
          refine o_move rfl ?_
          refine o_gD rfl rfl rfl rfl (decide_eq_false (by omega)) ?_
          refine o_neq rfl rfl rfl ?_
          refine o_pickF rfl rfl (decide_eq_false (by omega)) ?_
          refine o_move rfl ?_
          refine o_genA [(2, U.box 0 0), (5, U.box 2 0), (8, .int .i64 (a % 121 - 60)), (9, .int .i64 (b % 31)), (12, .int .i64 (nxe (cho s Bool.true (a % 121 - 60) (b % 31)))), (15, .int .i64 (nxe (cho s Bool.true (a % 121 - 60) (b % 31)))), (16, .int .i64 (needN s (a % 121 - 60))), (17, .int .i64 (needE s (a % 121 - 60))), (18, .int .i64 (needN s (a % 121 - 60))), (19, .int .i64 (needE s (a % 121 - 60))), (150, U.bool (Decidable.decide (nxn (cho s Bool.true (a % 121 - 60) (b % 31)) ≠ nxn (cho s Bool.true (a % 121 - 60) (b % 31)))))] [] ([SB.box (Shop.cs s), SB.box [.int .i64 a, .int .i64 b], SB.box [accT (List.map tuT (Shop.tools s)), .int .i64 (-Shop.fhi s), .int .i64 (-Shop.flo s), accT (List.map tuT (Shop.keys s))]]) (.cons rfl (.cons rfl (.cons rfl (.cons rfl (.cons rfl (.cons rfl (.cons rfl (.cons rfl (.cons rfl (.cons rfl (.cons rfl (.nil rfl)))))))))))) rfl rfl fun fr => ?_
          refine o_gD rfl rfl rfl rfl (decide_eq_false (by omega)) ?_
          refine o_genA [(2, U.box 0 0), (5, U.box 2 0), (8, .int .i64 (a % 121 - 60)), (9, .int .i64 (b % 31)), (12, .int .i64 (nxe (cho s Bool.true (a % 121 - 60) (b % 31)))), (15, .int .i64 (nxe (cho s Bool.true (a % 121 - 60) (b % 31)))), (16, .int .i64 (needN s (a % 121 - 60))), (17, .int .i64 (needE s (a % 121 - 60))), (18, .int .i64 (needN s (a % 121 - 60))), (19, .int .i64 (needE s (a % 121 - 60))), (150, U.bool (Decidable.decide (nxn (cho s Bool.true (a % 121 - 60) (b % 31)) ≠ nxn (cho s Bool.true (a % 121 - 60) (b % 31)))))] [] ([SB.box (Shop.cs s), SB.box [.int .i64 a, .int .i64 b], SB.box [accT (List.map tuT (Shop.tools s)), .int .i64 (-Shop.fhi s), .int .i64 (-Shop.flo s), accT (List.map tuT (Shop.keys s))]]) (.cons rfl (.cons rfl (.cons rfl (.cons rfl (.cons rfl (.cons rfl (.cons rfl (.cons rfl (.cons rfl (.cons rfl (.cons rfl (.nil rfl)))))))))))) rfl rfl fun fr => ?_
          refine o_move rfl ?_
          refine o_gD rfl rfl rfl rfl (decide_eq_false (by omega)) ?_
          refine o_move rfl ?_
          refine o_gD rfl rfl rfl rfl (decide_eq_false (by omega)) ?_
          refine o_neq rfl rfl rfl ?_
          refine o_pickF rfl rfl (decide_eq_false (by omega)) ?_
          refine o_move rfl ?_
          refine o_gD rfl rfl rfl rfl (decide_eq_false (by omega)) ?_
          refine o_move rfl ?_
          refine o_gD rfl rfl rfl rfl (decide_eq_false (by omega)) ?_
          refine o_move rfl ?_
          refine o_gD rfl rfl rfl rfl (decide_eq_false (by omega)) ?_
          refine o_neq rfl rfl rfl ?_
          refine o_pickF rfl rfl (decide_eq_false (by omega)) ?_
          refine o_genA [(2, U.box 0 0), (5, U.box 2 0), (8, .int .i64 (a % 121 - 60)), (9, .int .i64 (b % 31)), (17, .int .i64 (needE s (a % 121 - 60))), (19, .int .i64 (needE s (a % 121 - 60))), (159, U.bool (Decidable.decide (needN s (a % 121 - 60) ≠ needN s (a % 121 - 60))))] [] ([SB.box (Shop.cs s), SB.box [.int .i64 a, .int .i64 b], SB.box [accT (List.map tuT (Shop.tools s)), .int .i64 (-Shop.fhi s), .int .i64 (-Shop.flo s), accT (List.map tuT (Shop.keys s))]]) (.cons rfl (.cons rfl (.cons rfl (.cons rfl (.cons rfl (.cons rfl (.cons rfl (.nil rfl)))))))) rfl rfl fun fr => ?_
          refine o_move rfl ?_
          refine o_gD rfl rfl rfl rfl (decide_eq_false (by omega)) ?_
          refine o_move rfl ?_
          refine o_gD rfl rfl rfl rfl (decide_eq_false (by omega)) ?_
          refine o_move rfl ?_
          refine o_gD rfl rfl rfl rfl (decide_eq_false (by omega)) ?_
          refine o_neq rfl rfl rfl ?_
          refine o_pickF rfl rfl (decide_eq_false (by omega)) ?_
          refine o_nil ?_
          refine k_gen [(2, U.box 0 0), (5, U.box 2 0), (8, .int .i64 (a % 121 - 60)), (9, .int .i64 (b % 31)), (164, U.bool (Decidable.decide (needE s (a % 121 - 60) ≠ needE s (a % 121 - 60))))] ([SB.box (Shop.cs s), SB.box [.int .i64 a, .int .i64 b], SB.box [accT (List.map tuT (Shop.tools s)), .int .i64 (-Shop.fhi s), .int .i64 (-Shop.flo s), accT (List.map tuT (Shop.keys s))]]) (.cons rfl (.cons rfl (.cons rfl (.cons rfl (.cons rfl (.nil rfl)))))) rfl fun fr => ?_
          refine k_cF rfl (decide_eq_false (by omega)) ?_
          refine k_skip ?_
          refine k_seq (k_region ?_)
          refine o_loadN rfl rfl rfl sh27 rfl ?_
          refine o_move rfl ?_
          refine o_move rfl ?_
          refine o_call rfl (ret18 hi hk (st_off a) (st_met b)) (.lrefl _) ?_
          refine o_move rfl ?_
          refine o_extract rfl rfl rfl ?_
          refine o_extract rfl rfl rfl ?_
          refine o_assign rfl ?_
          refine o_assign rfl ?_
          refine o_nil ?_
          refine k_seq (k_region ?_)
          refine o_loadN rfl rfl rfl sh27 rfl ?_
          refine o_move rfl ?_
          refine o_neg rfl rfl (by unfold I64; omega) ?_
          refine o_move rfl ?_
          refine o_call rfl (q18) (uw_tu _ _ _ _ _ _ (.lrefl _)) ?_
          refine o_move rfl ?_
          refine o_extract rfl rfl rfl ?_
          refine o_extract rfl rfl rfl ?_
          refine o_assign rfl ?_
          refine o_assign rfl ?_
          refine o_nil ?_
          refine k_gen [(2, U.box 0 0), (5, U.box 2 0), (12, .int .i64 (unE (Prod.snd (cho s Bool.false (a % 121 - 60) (b % 31))))), (15, .int .i64 (unE (Prod.snd (cho s Bool.false (a % 121 - 60) (b % 31))))), (16, .int .i64 (unN (Prod.snd (cho s Bool.false (a % 121 - 60) (b % 31))))), (18, .int .i64 (unN (Prod.snd (cho s Bool.false (a % 121 - 60) (b % 31)))))] ([SB.box (Shop.cs s), SB.box [.int .i64 a, .int .i64 b], SB.box [accT (List.map tuT (Shop.tools s)), .int .i64 (-Shop.fhi s), .int .i64 (-Shop.flo s), accT (List.map tuT (Shop.keys s))]]) (.cons rfl (.cons rfl (.cons rfl (.cons rfl (.cons rfl (.cons rfl (.nil rfl))))))) rfl fun fr => ?_
          refine k_seq (k_region ?_)
          refine o_loadN rfl rfl rfl sh27 rfl ?_
          refine o_call rfl (ret23 hi hk) (.lrefl _) ?_
          refine o_move rfl ?_
          refine o_extract rfl rfl rfl ?_
          refine o_extract rfl rfl rfl ?_
          refine o_assign rfl ?_
          refine o_assign rfl ?_
          refine o_nil ?_
          refine k_seq (k_region ?_)
          refine o_loadN rfl rfl rfl sh27 rfl ?_
          refine o_call rfl (q23) (uw_tu _ _ _ _ _ _ (.lrefl _)) ?_
          refine o_move rfl ?_
          refine o_extract rfl rfl rfl ?_
          refine o_extract rfl rfl rfl ?_
          refine o_assign rfl ?_
          refine o_assign rfl ?_
          refine o_nil ?_
          refine k_gen [(12, .int .i64 (unE (Prod.snd (cho s Bool.false (a % 121 - 60) (b % 31))))), (15, .int .i64 (unE (Prod.snd (cho s Bool.false (a % 121 - 60) (b % 31))))), (16, .int .i64 (unN (Prod.snd (cho s Bool.false (a % 121 - 60) (b % 31))))), (17, .int .i64 0), (18, .int .i64 (unN (Prod.snd (cho s Bool.false (a % 121 - 60) (b % 31))))), (19, .int .i64 0), (20, U.lst Kd.ro 1 (intsU (lsB (spB s) 6))), (21, U.lst Kd.ro 1 (intsU (lsB (spB s) 6)))] ([SB.box (Shop.cs s), SB.box [.int .i64 a, .int .i64 b], SB.box [accT (List.map tuT (Shop.tools s)), .int .i64 (-Shop.fhi s), .int .i64 (-Shop.flo s), accT (List.map tuT (Shop.keys s))]]) (.cons rfl (.cons rfl (.cons rfl (.cons rfl (.cons rfl (.cons rfl (.cons rfl (.cons rfl (.nil rfl))))))))) rfl fun fr => ?_
          refine k_seq (k_region ?_)
          refine o_move rfl ?_
          refine o_move rfl ?_
          refine o_eql rfl rfl rfl ?_
          refine o_move rfl ?_
          refine o_gD rfl rfl rfl rfl (decide_eq_true (by omega)) ?_
          refine o_move rfl ?_
          refine o_gD rfl rfl rfl rfl (decide_eq_true (by omega)) ?_
          refine o_move rfl ?_
          refine o_gD rfl rfl rfl rfl (decide_eq_true (by omega)) ?_
          refine o_eql rfl rfl rfl ?_
          refine o_pickT rfl rfl (decide_eq_true (by omega)) ?_
          refine o_move rfl ?_
          refine o_genA [(17, .int .i64 0), (19, .int .i64 0), (20, U.lst Kd.ro 1 (intsU (lsB (spB s) 6))), (21, U.lst Kd.ro 1 (intsU (lsB (spB s) 6))), (198, U.bool (Decidable.decide (unE (Prod.snd (cho s Bool.false (a % 121 - 60) (b % 31))) = unE (Prod.snd (cho s Bool.false (a % 121 - 60) (b % 31))))))] [] ([SB.box (Shop.cs s), SB.box [.int .i64 a, .int .i64 b], SB.box [accT (List.map tuT (Shop.tools s)), .int .i64 (-Shop.fhi s), .int .i64 (-Shop.flo s), accT (List.map tuT (Shop.keys s))]]) (.cons rfl (.cons rfl (.cons rfl (.cons rfl (.cons rfl (.nil rfl)))))) rfl rfl fun fr => ?_
          refine o_gD rfl rfl rfl rfl (decide_eq_true (by omega)) ?_
          refine o_genA [(17, .int .i64 0), (19, .int .i64 0), (20, U.lst Kd.ro 1 (intsU (lsB (spB s) 6))), (21, U.lst Kd.ro 1 (intsU (lsB (spB s) 6))), (198, U.bool (Decidable.decide (unE (Prod.snd (cho s Bool.false (a % 121 - 60) (b % 31))) = unE (Prod.snd (cho s Bool.false (a % 121 - 60) (b % 31))))))] [] ([SB.box (Shop.cs s), SB.box [.int .i64 a, .int .i64 b], SB.box [accT (List.map tuT (Shop.tools s)), .int .i64 (-Shop.fhi s), .int .i64 (-Shop.flo s), accT (List.map tuT (Shop.keys s))]]) (.cons rfl (.cons rfl (.cons rfl (.cons rfl (.cons rfl (.nil rfl)))))) rfl rfl fun fr => ?_
          refine o_move rfl ?_
          refine o_gD rfl rfl rfl rfl (decide_eq_true (by omega)) ?_
          refine o_move rfl ?_
          refine o_gD rfl rfl rfl rfl (decide_eq_true (by omega)) ?_
          refine o_call rfl (q25) (.lrefl _) ?_
          refine o_pickT rfl rfl (decide_eq_true (by omega)) ?_
          refine o_move rfl ?_
          refine o_gD rfl rfl rfl rfl rfl ?_
          refine o_move rfl ?_
          refine o_gD rfl rfl rfl rfl rfl ?_
          refine o_move rfl ?_
          refine o_gD rfl rfl rfl rfl rfl ?_
          refine o_eql rfl rfl rfl ?_
          refine o_pickT rfl rfl rfl ?_
          refine o_genA [(207, U.bool (Decidable.decide (0 = 0)))] [] ([SB.box (Shop.cs s), SB.box [.int .i64 a, .int .i64 b], SB.box [accT (List.map tuT (Shop.tools s)), .int .i64 (-Shop.fhi s), .int .i64 (-Shop.flo s), accT (List.map tuT (Shop.keys s))]]) (.cons rfl (.nil rfl)) rfl rfl fun fr => ?_
          refine o_move rfl ?_
          refine o_gD rfl rfl rfl rfl (decide_eq_true (by omega)) ?_
          refine o_call rfl (r20) (.lrefl _) ?_
          refine o_pickT rfl rfl rfl ?_
          refine o_assign rfl ?_
          refine o_nil ?_
          refine k_ret ?_
          refine ⟨.inr rfl, _, .cons _ _ _ _ (.tmp 4) .nil, ?_⟩
          exact .refl _
      · exact ⟨0, by omega, by rw [← tul_all s.tools]; rfl, .cons rfl (.cons rfl (.cons rfl (.cons rfl (.nil rfl))))⟩
  · exact ⟨0, by omega, rfl, .cons rfl (.cons rfl (.cons rfl (.cons rfl (.nil rfl))))⟩
theorem shps_27_28 {f : FuncId} (h : ∀ (s : Shop) (a b : Int), RetP Try.prog is orc f [s.u, .agg [.int .i64 a, .int .i64 b]] (.bool true)) : ∀ us, ShpAs Try.prog [27, 28] us → RetP Try.prog is orc f us (.bool true) := by
  intro us h
  cases h with
  | cons _ _ u us h1 h => cases h with
  | cons _ _ v us h2 h =>
  cases h
  obtain ⟨fs, hu⟩ := und_struct (P := Try.prog) (t := 27) 3 (by kernel_rfl)
  unfold ShpA at h1 h2
  rw [hu] at h1
  rw [u28] at h2
  obtain ⟨cs, rfl, h1⟩ := h1
  obtain ⟨ds, rfl, h2⟩ := h2
  obtain ⟨s, rfl⟩ := shp_shop h1
  obtain ⟨a, b, rfl⟩ := shp_two h2
  exact h s a b
theorem ret12_all {is : FuncId → Bool} {orc : Known} (hi : Off is) (r20 : RetP Try.prog is orc 20 [] (.bool true)) : ∀ us, ShpAs Try.prog [27, 28] us → RetP Try.prog is orc 12 us (.bool true) := shps_27_28 fun s a b => by
  by_cases hv : checkR s.tools s.keys s.flo s.fhi = 0
  · exact ret12a hi (ok_chk hv) a b r20
  · exact ret12n hi hv a b r20
end Go.Proofs.Ytdahbimllmapkaa.raspTurned
