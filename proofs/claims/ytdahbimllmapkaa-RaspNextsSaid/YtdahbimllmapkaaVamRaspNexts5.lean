/- rasp's functions and the law's, by the logic of trees: what each gives back for all that it may be given. -/
import Derived.Test.YtdahbimllmapkaaVamRaspNexts4
namespace Go.Proofs.Ytdahbimllmapkaa.raspNexts
open Vam
set_option linter.unusedVariables false
set_option linter.unusedSimpArgs false
set_option linter.constructorNameAsVariable false
variable {is : FuncId → Bool} {orc : Known}
noncomputable def b17 : Code := (Try.f17.body).getD .skip
theorem body17 : bodyOf Try.prog 17 = some (81, b17, [.tmp 2]) := by kernel_rfl
theorem pure17 : pureFn Try.prog 17 = true := by kernel_rfl
noncomputable def b49 : Code := (Try.f49.body).getD .skip
theorem body49 : bodyOf Try.prog 49 = some (13, b49, [.tmp 4]) := by kernel_rfl
theorem pure49 : pureFn Try.prog 49 = true := by kernel_rfl
noncomputable def b50 : Code := (Try.f50.body).getD .skip
theorem body50 : bodyOf Try.prog 50 = some (11, b50, [.tmp 4]) := by kernel_rfl
theorem pure50 : pureFn Try.prog 50 = true := by kernel_rfl
def preB (s : Shop) : Bool := decide (1 ≤ s.tools.length ∧ s.tools.length ≤ 4 ∧ -60 ≤ s.flo ∧ s.flo ≤ s.fhi ∧ s.fhi ≤ 60 ∧ s.keys.length ≤ 6)
def toolB (t : Tri) : Bool := decide (-30 ≤ t.a ∧ t.a ≤ t.b ∧ t.b ≤ 30 ∧ 1 ≤ t.c ∧ t.c ≤ 10)
def keyB (t : Tri) : Bool := decide (-60 ≤ t.a ∧ t.a ≤ t.b ∧ t.b ≤ 60 ∧ 0 ≤ t.c ∧ t.c ≤ 30)
def shopOk (s : Shop) : Bool := preB s && s.tools.all toolB && s.keys.all keyB
theorem all_part {α : Type} {p : α → Bool} {l : List α} {n : Nat} (h : (l.take n).all p = false) : l.all p = false := by
  rw [List.all_eq_false] at h ⊢
  obtain ⟨x, hx, h⟩ := h
  exact ⟨x, List.mem_of_mem_take hx, h⟩
theorem take_all_succ {α : Type} {p : α → Bool} {l : List α} {n : Nat} {x : α} (h : l[n]? = some x) : (l.take (n + 1)).all p = ((l.take n).all p && p x) := by
  rw [List.take_add_one, h, List.all_append]; simp
theorem shop_ok {s : Shop} : shopOk s = true ↔ SOk s := by
  unfold shopOk
  rw [Bool.and_eq_true, Bool.and_eq_true, List.all_eq_true, List.all_eq_true]
  constructor
  · rintro ⟨⟨h1, h2⟩, h3⟩
    have h1 := of_decide_eq_true h1
    exact ⟨by omega, by omega, by omega, fun t ht => of_decide_eq_true (h2 t ht), fun t ht => of_decide_eq_true (h3 t ht)⟩
  · intro h
    have n1 := h.nt; have n2 := h.fine; have n3 := h.nk
    exact ⟨⟨decide_eq_true (by omega), fun t ht => decide_eq_true (h.tools t ht)⟩, fun t ht => decide_eq_true (h.keys t ht)⟩
theorem check_is (s : Shop) : checkR s.tools s.keys s.flo s.fhi = if shopOk s = true then 0 else 30 := by
  split
  · rename_i h; exact chk_ok (shop_ok.1 h)
  · rename_i h
    have : checkR s.tools s.keys s.flo s.fhi ≠ 0 := fun e => h (shop_ok.2 (ok_chk e))
    unfold checkR at this ⊢; split <;> simp_all
set_option maxHeartbeats 4000000 in
theorem ret17 (hi : Off is) (s : Shop) : RetP Try.prog is orc 17 [s.u] (.int .i64 (checkR s.tools s.keys s.flo s.fhi)) := by
  rw [check_is]
  refine ret_of body17 pure17 (hi 17 (by decide)) rfl rfl (dat_l1 (dat_shop s 5)) (.inl (.int _ _ _)) ?_
  refine k_seq (k_region ?_)
  refine o_box rfl rfl ?_
  refine o_assign rfl ?_
  refine o_nil ?_
  refine k_gen [(1, U.box 0 0)] ([SB.box [U.lst Kd.ro 3 (trisU (Shop.tools s)), .int .i64 (Shop.flo s), .int .i64 (Shop.fhi s), U.lst Kd.ro 3 (trisU (Shop.keys s))]]) (.cons rfl (.nil rfl)) rfl fun fr => ?_
  refine k_cut (fun st => st.st = [.box s.cs] ∧ Holds st [(1, .box 0 0), (3, .bool (preB s))]) ?_ (fun st hM => ?_)
  · refine k_region ?_
    refine o_faddr rfl rfl fld27_0 ?_
    refine o_load1 rfl rfl rfl sh22 rfl ?_
    refine o_len rfl ty22 rfl (List.length_map _) ?_
    refine o_geq rfl rfl rfl ?_
    refine o_move rfl ?_
    refine o_guardX rfl rfl rfl rfl (fun h10 => ?_) (fun h10 => ?_)
    · refine o_faddr rfl rfl fld27_0 ?_
      refine o_gD rfl rfl rfl rfl (by assumption) ?_
      refine o_load1 rfl rfl rfl sh22 rfl ?_
      refine o_gD rfl rfl rfl rfl (by assumption) ?_
      refine o_len rfl ty22 rfl (List.length_map _) ?_
      refine o_gD rfl rfl rfl rfl (by assumption) ?_
      refine o_leq rfl rfl rfl ?_
      refine o_genA [(1, U.box 0 0), (10, U.bool (Decidable.decide ((1 : Int) ≤ ↑(List.length (Shop.tools s))))), (14, U.bool (Decidable.decide (↑(List.length (Shop.tools s)) ≤ (4 : Int))))] [] ([SB.box [U.lst Kd.ro 3 (trisU (Shop.tools s)), .int .i64 (Shop.flo s), .int .i64 (Shop.fhi s), U.lst Kd.ro 3 (trisU (Shop.keys s))]]) (.cons rfl (.cons rfl (.cons rfl (.nil rfl)))) rfl rfl fun fr => ?_
      refine o_pickT rfl rfl (by assumption) ?_
      refine o_move rfl ?_
      refine o_guardX rfl rfl rfl rfl (fun h16 => ?_) (fun h16 => ?_)
      · refine o_faddr rfl rfl fld27_1 ?_
        refine o_gD rfl rfl rfl rfl (by assumption) ?_
        refine o_loadN rfl rfl rfl sh24 rfl ?_
        refine o_gD rfl rfl rfl rfl (by assumption) ?_
        refine o_call rfl (ret54 hi ..) (.lrefl _) ?_
        refine o_pickT rfl rfl (by assumption) ?_
        refine o_move rfl ?_
        refine o_guardX rfl rfl rfl rfl (fun h21 => ?_) (fun h21 => ?_)
        · refine o_faddr rfl rfl fld27_2 ?_
          refine o_gD rfl rfl rfl rfl (by assumption) ?_
          refine o_load1 rfl rfl rfl sh25 rfl ?_
          refine o_genA [(1, U.box 0 0), (21, U.bool (Decidable.decide ((-60 : Int) ≤ Shop.flo s) && (Decidable.decide (Shop.flo s ≤ Shop.fhi s) && Decidable.decide (Shop.fhi s ≤ (60 : Int))))), (23, U.lst Kd.ro 3 (trisU (Shop.keys s)))] [] ([SB.box [U.lst Kd.ro 3 (trisU (Shop.tools s)), .int .i64 (Shop.flo s), .int .i64 (Shop.fhi s), U.lst Kd.ro 3 (trisU (Shop.keys s))]]) (.cons rfl (.cons rfl (.cons rfl (.nil rfl)))) rfl rfl fun fr => ?_
          refine o_gD rfl rfl rfl rfl (by assumption) ?_
          refine o_genA [(1, U.box 0 0), (21, U.bool (Decidable.decide ((-60 : Int) ≤ Shop.flo s) && (Decidable.decide (Shop.flo s ≤ Shop.fhi s) && Decidable.decide (Shop.fhi s ≤ (60 : Int))))), (23, U.lst Kd.ro 3 (trisU (Shop.keys s)))] [] ([SB.box [U.lst Kd.ro 3 (trisU (Shop.tools s)), .int .i64 (Shop.flo s), .int .i64 (Shop.fhi s), U.lst Kd.ro 3 (trisU (Shop.keys s))]]) (.cons rfl (.cons rfl (.cons rfl (.nil rfl)))) rfl rfl fun fr => ?_
          refine o_len rfl ty25 rfl (List.length_map _) ?_
          refine o_gD rfl rfl rfl rfl (by assumption) ?_
          refine o_leq rfl rfl rfl ?_
          refine o_pickT rfl rfl (by assumption) ?_
          refine o_assign rfl ?_
          refine o_nil ?_
          exact ⟨rfl, rfl, .cons rfl (.cons (congrArg U.bool (Bool.eq_iff_iff.2 (by unfold preB; simp at *; omega))) (.nil rfl))⟩
        · refine o_gS rfl rfl rfl rfl (by assumption) ?_
          refine o_genA [(1, U.box 0 0), (21, U.bool (Decidable.decide ((-60 : Int) ≤ Shop.flo s) && (Decidable.decide (Shop.flo s ≤ Shop.fhi s) && Decidable.decide (Shop.fhi s ≤ (60 : Int))))), (23, U.tup [])] [] ([SB.box [U.lst Kd.ro 3 (trisU (Shop.tools s)), .int .i64 (Shop.flo s), .int .i64 (Shop.fhi s), U.lst Kd.ro 3 (trisU (Shop.keys s))]]) (.cons rfl (.cons rfl (.cons rfl (.nil rfl)))) rfl rfl fun fr => ?_
          refine o_gS rfl rfl rfl rfl (by assumption) ?_
          refine o_gS rfl rfl rfl rfl (by assumption) ?_
          refine o_pickF rfl rfl (by assumption) ?_
          refine o_assign rfl ?_
          refine o_nil ?_
          exact ⟨rfl, rfl, .cons rfl (.cons (congrArg U.bool (Bool.eq_iff_iff.2 (by unfold preB; simp at *; omega))) (.nil rfl))⟩
      · refine o_gS rfl rfl rfl rfl (by assumption) ?_
        refine o_gS rfl rfl rfl rfl (by assumption) ?_
        refine o_pickF rfl rfl (by assumption) ?_
        refine o_move rfl ?_
        refine o_gS rfl rfl rfl rfl rfl ?_
        refine o_gS rfl rfl rfl rfl rfl ?_
        refine o_genA [(1, U.box 0 0), (21, U.bool Bool.false), (23, U.tup [])] [] ([SB.box [U.lst Kd.ro 3 (trisU (Shop.tools s)), .int .i64 (Shop.flo s), .int .i64 (Shop.fhi s), U.lst Kd.ro 3 (trisU (Shop.keys s))]]) (.cons rfl (.cons rfl (.cons rfl (.nil rfl)))) rfl rfl fun fr => ?_
        refine o_gS rfl rfl rfl rfl rfl ?_
        refine o_gS rfl rfl rfl rfl rfl ?_
        refine o_pickF rfl rfl rfl ?_
        refine o_assign rfl ?_
        refine o_nil ?_
        exact ⟨rfl, rfl, .cons rfl (.cons (congrArg U.bool (Bool.eq_iff_iff.2 (by unfold preB; simp at *; omega))) (.nil rfl))⟩
    · refine o_gS rfl rfl rfl rfl (by assumption) ?_
      refine o_gS rfl rfl rfl rfl (by assumption) ?_
      refine o_gS rfl rfl rfl rfl (by assumption) ?_
      refine o_genA [(1, U.box 0 0), (10, U.bool (Decidable.decide ((1 : Int) ≤ ↑(List.length (Shop.tools s))))), (14, U.tup [])] [] ([SB.box [U.lst Kd.ro 3 (trisU (Shop.tools s)), .int .i64 (Shop.flo s), .int .i64 (Shop.fhi s), U.lst Kd.ro 3 (trisU (Shop.keys s))]]) (.cons rfl (.cons rfl (.cons rfl (.nil rfl)))) rfl rfl fun fr => ?_
      refine o_pickF rfl rfl (by assumption) ?_
      refine o_move rfl ?_
      refine o_gS rfl rfl rfl rfl rfl ?_
      refine o_gS rfl rfl rfl rfl rfl ?_
      refine o_gS rfl rfl rfl rfl rfl ?_
      refine o_pickF rfl rfl rfl ?_
      refine o_move rfl ?_
      refine o_gS rfl rfl rfl rfl rfl ?_
      refine o_gS rfl rfl rfl rfl rfl ?_
      refine o_genA [(1, U.box 0 0), (21, U.bool Bool.false), (23, U.tup [])] [] ([SB.box [U.lst Kd.ro 3 (trisU (Shop.tools s)), .int .i64 (Shop.flo s), .int .i64 (Shop.fhi s), U.lst Kd.ro 3 (trisU (Shop.keys s))]]) (.cons rfl (.cons rfl (.cons rfl (.nil rfl)))) rfl rfl fun fr => ?_
      refine o_gS rfl rfl rfl rfl rfl ?_
      refine o_gS rfl rfl rfl rfl rfl ?_
      refine o_pickF rfl rfl rfl ?_
      refine o_assign rfl ?_
      refine o_nil ?_
      exact ⟨rfl, rfl, .cons rfl (.cons (congrArg U.bool (Bool.eq_iff_iff.2 (by unfold preB; simp at *; omega))) (.nil rfl))⟩
  obtain ⟨hst, hs⟩ := hM
  generalize hP : preB s = P at hs
  have hP0 := hP
  refine k_gen _ _ hs hst fun fr => ?_
  refine k_cut (fun st => st.st = [.box s.cs] ∧ Holds st [(1, .box 0 0), (3, .bool (P && s.tools.all toolB))]) ?_ (fun st hM => ?_)
  · refine k_seq (k_region ?_)
    refine o_assign rfl ?_
    refine o_nil ?_
    refine k_block ?_
    refine k_loop (fun k st => ∃ (i : Nat) (c : Bool), k + i = s.tools.length ∧ c = (P && (s.tools.take i).all toolB) ∧ st.st = [.box s.cs] ∧ Holds st [(1, .box 0 0), (3, .bool c), (4, .int .i64 i)]) (fun k st hI => ?_) s.tools.length _ ?_
    · obtain ⟨i, c, hki, hc, hst, hs⟩ := hI
      refine k_gen _ _ hs hst fun fr => ?_
      cases c with
      | false =>
        refine k_seq ?_
        refine k_seq (k_region ?_)
        refine o_move rfl ?_
        refine o_move rfl ?_
        refine o_gS rfl rfl rfl rfl rfl ?_
        refine o_gS rfl rfl rfl rfl rfl ?_
        refine o_gS rfl rfl rfl rfl rfl ?_
        refine o_gS rfl rfl rfl rfl rfl ?_
        refine o_gS rfl rfl rfl rfl rfl ?_
        refine o_pickF rfl rfl rfl ?_
        refine o_nil ?_
        refine k_cF rfl rfl ?_
        refine k_exit ?_
        refine ⟨rfl, rfl, .cons rfl (.cons (congrArg U.bool ?_) (.nil rfl))⟩
        skip
        rcases Bool.and_eq_false_iff.1 hc.symm with h | h
        · rw [h]; rfl
        · rw [all_part h, Bool.and_false]
      | true =>
        obtain ⟨hp, hX⟩ := Bool.and_eq_true_iff.1 hc.symm
        rw [hp] at hP
        have hpre := of_decide_eq_true hP
        refine k_seq ?_
        refine k_seq (k_region ?_)
        refine o_move rfl ?_
        refine o_move rfl ?_
        refine o_gD rfl rfl rfl rfl rfl ?_
        refine o_move rfl ?_
        refine o_gD rfl rfl rfl rfl rfl ?_
        refine o_faddr rfl rfl fld27_0 ?_
        refine o_gD rfl rfl rfl rfl rfl ?_
        refine o_load1 rfl rfl rfl sh22 rfl ?_
        refine o_gD rfl rfl rfl rfl rfl ?_
        refine o_len rfl ty22 rfl (List.length_map _) ?_
        refine o_gD rfl rfl rfl rfl rfl ?_
        refine o_lss rfl rfl rfl ?_
        refine o_pickT rfl rfl rfl ?_
        refine o_nil ?_
        refine k_cond rfl (fun h34 => ?_) (fun h34 => ?_)
        · refine k_skip ?_
          refine k_seq ?_
          refine k_block ?_
          refine k_region ?_
          refine o_faddr rfl rfl fld27_0 ?_
          refine o_load1 rfl rfl rfl sh22 rfl ?_
          refine o_move rfl ?_
          have hil : i < s.tools.length := by have := of_decide_eq_true h34; omega
          obtain ⟨q, hq⟩ : ∃ q, s.tools[i]? = some q := ⟨s.tools[i], List.getElem?_eq_getElem hil⟩
          have hsucc := take_all_succ (p := toolB) hq
          refine o_idx (u := (q).u) rfl ty22 rfl rfl (Int.natCast_nonneg _) (by simp [hq]) cl52 ?_
          refine o_faddrR rfl rfl fld52_0 ?_
          refine o_loadRN rfl rfl sh24 rfl ?_
          refine o_call rfl (ret54 hi ..) (.lrefl _) ?_
          refine o_move rfl ?_
          refine o_guardX rfl rfl rfl rfl (fun h44 => ?_) (fun h44 => ?_)
          · refine o_faddr rfl rfl fld27_0 ?_
            refine o_gD rfl rfl rfl rfl (by assumption) ?_
            refine o_load1 rfl rfl rfl sh22 rfl ?_
            refine o_gD rfl rfl rfl rfl (by assumption) ?_
            refine o_move rfl ?_
            refine o_gD rfl rfl rfl rfl (by assumption) ?_
            refine o_idx (u := (q).u) rfl ty22 rfl rfl (Int.natCast_nonneg _) (by simp [hq]) cl52 ?_
            refine o_gD rfl rfl rfl rfl (by assumption) ?_
            refine o_faddrR rfl rfl fld52_1 ?_
            refine o_gD rfl rfl rfl rfl (by assumption) ?_
            refine o_loadR1 rfl rfl sh3 rfl ?_
            refine o_gD rfl rfl rfl rfl (by assumption) ?_
            refine o_call rfl (ret34 hi ..) (.lrefl _) ?_
            refine o_pickT rfl rfl (by assumption) ?_
            refine o_assign rfl ?_
            refine o_nil ?_
            refine k_region ?_
            refine o_move rfl ?_
            refine o_add rfl rfl rfl (by unfold I64; omega) ?_
            refine o_assign rfl ?_
            refine o_nil ?_
            refine ⟨k - 1, by omega, i + 1, _, by omega, ?_, rfl, .cons rfl (.cons rfl (.cons rfl (.nil rfl)))⟩
            rw [hsucc, hp, hX, Bool.eq_iff_iff]; unfold toolB; simp at *; omega
          · refine o_gS rfl rfl rfl rfl (by assumption) ?_
            refine o_gS rfl rfl rfl rfl (by assumption) ?_
            refine o_gS rfl rfl rfl rfl (by assumption) ?_
            refine o_gS rfl rfl rfl rfl (by assumption) ?_
            refine o_gS rfl rfl rfl rfl (by assumption) ?_
            refine o_gS rfl rfl rfl rfl (by assumption) ?_
            refine o_pickF rfl rfl (by assumption) ?_
            refine o_assign rfl ?_
            refine o_nil ?_
            refine k_region ?_
            refine o_move rfl ?_
            refine o_add rfl rfl rfl (by unfold I64; omega) ?_
            refine o_assign rfl ?_
            refine o_nil ?_
            refine ⟨k - 1, by omega, i + 1, _, by omega, ?_, rfl, .cons rfl (.cons rfl (.cons rfl (.nil rfl)))⟩
            rw [hsucc, hp, hX, Bool.eq_iff_iff]; unfold toolB; simp at *; omega
        · refine k_exit ?_
          have hil : i = s.tools.length := by have := of_decide_eq_false h34; omega
          subst hil
          rw [List.take_length] at hX
          refine ⟨rfl, rfl, .cons rfl (.cons (congrArg U.bool ?_) (.nil rfl))⟩
          skip
          rw [hp, hX]; rfl
    · exact ⟨0, _, by omega, by simp, rfl, .cons rfl (.cons rfl (.cons rfl (.nil rfl)))⟩
  obtain ⟨hst, hs⟩ := hM
  generalize hP2 : (P && s.tools.all toolB) = P2 at hs
  refine k_gen _ _ hs hst fun fr => ?_
  refine k_cut (fun st => st.st = [.box s.cs] ∧ Holds st [(1, .box 0 0), (3, .bool (shopOk s))]) ?_ (fun st hM => ?_)
  · refine k_seq (k_region ?_)
    refine o_assign rfl ?_
    refine o_nil ?_
    refine k_block ?_
    refine k_loop (fun k st => ∃ (i : Nat) (c : Bool), k + i = s.keys.length ∧ c = (P2 && (s.keys.take i).all keyB) ∧ st.st = [.box s.cs] ∧ Holds st [(1, .box 0 0), (3, .bool c), (5, .int .i64 i)]) (fun k st hI => ?_) s.keys.length _ ?_
    · obtain ⟨i, c, hki, hc, hst, hs⟩ := hI
      refine k_gen _ _ hs hst fun fr => ?_
      cases c with
      | false =>
        refine k_seq ?_
        refine k_seq (k_region ?_)
        refine o_move rfl ?_
        refine o_move rfl ?_
        refine o_gS rfl rfl rfl rfl rfl ?_
        refine o_gS rfl rfl rfl rfl rfl ?_
        refine o_gS rfl rfl rfl rfl rfl ?_
        refine o_gS rfl rfl rfl rfl rfl ?_
        refine o_gS rfl rfl rfl rfl rfl ?_
        refine o_pickF rfl rfl rfl ?_
        refine o_nil ?_
        refine k_cF rfl rfl ?_
        refine k_exit ?_
        refine ⟨rfl, rfl, .cons rfl (.cons (congrArg U.bool ?_) (.nil rfl))⟩
        show _ = (preB s && s.tools.all toolB && s.keys.all keyB)
        rw [hP0, hP2]
        rcases Bool.and_eq_false_iff.1 hc.symm with h | h
        · rw [h]; rfl
        · rw [all_part h, Bool.and_false]
      | true =>
        obtain ⟨hp, hX⟩ := Bool.and_eq_true_iff.1 hc.symm
        rw [hp] at hP2
        rw [(Bool.and_eq_true_iff.1 hP2).1] at hP
        have hpre := of_decide_eq_true hP
        refine k_seq ?_
        refine k_seq (k_region ?_)
        refine o_move rfl ?_
        refine o_move rfl ?_
        refine o_gD rfl rfl rfl rfl rfl ?_
        refine o_move rfl ?_
        refine o_gD rfl rfl rfl rfl rfl ?_
        refine o_faddr rfl rfl fld27_2 ?_
        refine o_gD rfl rfl rfl rfl rfl ?_
        refine o_load1 rfl rfl rfl sh25 rfl ?_
        refine o_gD rfl rfl rfl rfl rfl ?_
        refine o_len rfl ty25 rfl (List.length_map _) ?_
        refine o_gD rfl rfl rfl rfl rfl ?_
        refine o_lss rfl rfl rfl ?_
        refine o_pickT rfl rfl rfl ?_
        refine o_nil ?_
        refine k_cond rfl (fun h60 => ?_) (fun h60 => ?_)
        · refine k_skip ?_
          refine k_seq ?_
          refine k_block ?_
          refine k_region ?_
          refine o_faddr rfl rfl fld27_2 ?_
          refine o_load1 rfl rfl rfl sh25 rfl ?_
          refine o_move rfl ?_
          have hil : i < s.keys.length := by have := of_decide_eq_true h60; omega
          obtain ⟨q, hq⟩ : ∃ q, s.keys[i]? = some q := ⟨s.keys[i], List.getElem?_eq_getElem hil⟩
          have hsucc := take_all_succ (p := keyB) hq
          refine o_idx (u := (q).u) rfl ty25 rfl rfl (Int.natCast_nonneg _) (by simp [hq]) cl64 ?_
          refine o_faddrR rfl rfl fld64_0 ?_
          refine o_loadRN rfl rfl sh24 rfl ?_
          refine o_call rfl (ret54 hi ..) (.lrefl _) ?_
          refine o_move rfl ?_
          refine o_guardX rfl rfl rfl rfl (fun h70 => ?_) (fun h70 => ?_)
          · refine o_faddr rfl rfl fld27_2 ?_
            refine o_gD rfl rfl rfl rfl (by assumption) ?_
            refine o_load1 rfl rfl rfl sh25 rfl ?_
            refine o_gD rfl rfl rfl rfl (by assumption) ?_
            refine o_move rfl ?_
            refine o_gD rfl rfl rfl rfl (by assumption) ?_
            refine o_idx (u := (q).u) rfl ty25 rfl rfl (Int.natCast_nonneg _) (by simp [hq]) cl64 ?_
            refine o_gD rfl rfl rfl rfl (by assumption) ?_
            refine o_faddrR rfl rfl fld64_1 ?_
            refine o_gD rfl rfl rfl rfl (by assumption) ?_
            refine o_loadR1 rfl rfl sh3 rfl ?_
            refine o_gD rfl rfl rfl rfl (by assumption) ?_
            refine o_call rfl (ret34 hi ..) (.lrefl _) ?_
            refine o_pickT rfl rfl (by assumption) ?_
            refine o_assign rfl ?_
            refine o_nil ?_
            refine k_region ?_
            refine o_move rfl ?_
            refine o_add rfl rfl rfl (by unfold I64; omega) ?_
            refine o_assign rfl ?_
            refine o_nil ?_
            refine ⟨k - 1, by omega, i + 1, _, by omega, ?_, rfl, .cons rfl (.cons rfl (.cons rfl (.nil rfl)))⟩
            rw [hsucc, hp, hX, Bool.eq_iff_iff]; unfold keyB; simp at *; omega
          · refine o_gS rfl rfl rfl rfl (by assumption) ?_
            refine o_gS rfl rfl rfl rfl (by assumption) ?_
            refine o_gS rfl rfl rfl rfl (by assumption) ?_
            refine o_gS rfl rfl rfl rfl (by assumption) ?_
            refine o_gS rfl rfl rfl rfl (by assumption) ?_
            refine o_gS rfl rfl rfl rfl (by assumption) ?_
            refine o_pickF rfl rfl (by assumption) ?_
            refine o_assign rfl ?_
            refine o_nil ?_
            refine k_region ?_
            refine o_move rfl ?_
            refine o_add rfl rfl rfl (by unfold I64; omega) ?_
            refine o_assign rfl ?_
            refine o_nil ?_
            refine ⟨k - 1, by omega, i + 1, _, by omega, ?_, rfl, .cons rfl (.cons rfl (.cons rfl (.nil rfl)))⟩
            rw [hsucc, hp, hX, Bool.eq_iff_iff]; unfold keyB; simp at *; omega
        · refine k_exit ?_
          have hil : i = s.keys.length := by have := of_decide_eq_false h60; omega
          subst hil
          rw [List.take_length] at hX
          refine ⟨rfl, rfl, .cons rfl (.cons (congrArg U.bool ?_) (.nil rfl))⟩
          show _ = (preB s && s.tools.all toolB && s.keys.all keyB)
          rw [hP0, hP2, hX]; rfl
    · exact ⟨0, _, by omega, by simp, rfl, .cons rfl (.cons rfl (.cons rfl (.nil rfl)))⟩
  obtain ⟨hst, hs⟩ := hM
  refine k_gen _ _ hs hst fun fr => ?_
  cases shopOk s with
  | true =>
    refine k_seq ?_
    refine k_seq (k_region ?_)
    refine o_move rfl ?_
    refine o_not rfl rfl ?_
    refine o_nil ?_
    refine k_cF rfl rfl ?_
    refine k_skip ?_
    refine k_seq (k_region ?_)
    refine o_assign rfl ?_
    refine o_nil ?_
    refine k_ret ?_
    refine ⟨.inr rfl, _, .cons _ _ _ _ (.tmp 2) .nil, ?_⟩
    exact .refl _
  | false =>
    refine k_seq ?_
    refine k_seq (k_region ?_)
    refine o_move rfl ?_
    refine o_not rfl rfl ?_
    refine o_nil ?_
    refine k_cT rfl rfl ?_
    refine k_seq (k_region ?_)
    refine o_assign rfl ?_
    refine o_nil ?_
    refine k_ret ?_
    refine ⟨.inr rfl, _, .cons _ _ _ _ (.tmp 2) .nil, ?_⟩
    exact .refl _
noncomputable def b15 : Code := (Try.f15.body).getD .skip
theorem body15 : bodyOf Try.prog 15 = some (33, b15, [.tmp 6, .tmp 7, .tmp 8]) := by kernel_rfl
theorem pure15 : pureFn Try.prog 15 = true := by kernel_rfl
noncomputable def b19 : Code := (Try.f19.body).getD .skip
theorem body19 : bodyOf Try.prog 19 = some (28, b19, [.tmp 6, .tmp 7]) := by kernel_rfl
theorem pure19 : pureFn Try.prog 19 = true := by kernel_rfl
set_option maxHeartbeats 4000000 in
theorem ret50 (hi : Off is) (o m : Int) : RetP Try.prog is orc 50 [.int .i64 o, .int .i64 m] (.bool (offB o && metB m)) := by
  refine ret_of body50 pure50 (hi 50 (by decide)) rfl rfl (dat_l2 (.int _ _ _) (.int _ _ _)) (.inl (.bool _ _)) ?_
  have q1 := ret34 (orc := orc) hi o (-60) 60
  have q2 := ret34 (orc := orc) hi m 0 30
  rw [show (decide (-60 ≤ o) && decide (o ≤ 60)) = offB o from rfl] at q1
  rw [show (decide (0 ≤ m) && decide (m ≤ 30)) = metB m from rfl] at q2
  generalize offB o = b1 at q1 ⊢
  cases b1 with
  | true =>
    refine k_seq (k_region ?_)
    refine o_assign rfl ?_
    refine o_nil ?_
    refine k_seq (k_region ?_)
    refine o_move rfl ?_
    refine o_call rfl (q1) (.lrefl _) ?_
    refine o_move rfl ?_
    refine o_gD rfl rfl rfl rfl rfl ?_
    refine o_move rfl ?_
    refine o_gD rfl rfl rfl rfl rfl ?_
    refine o_call rfl (q2) (.lrefl _) ?_
    refine o_pickT rfl rfl rfl ?_
    refine o_assign rfl ?_
    refine o_nil ?_
    refine k_ret ?_
    refine ⟨.inr rfl, _, .cons _ _ _ _ (.tmp 4) .nil, ?_⟩
    exact .refl _
  | false =>
    refine k_seq (k_region ?_)
    refine o_assign rfl ?_
    refine o_nil ?_
    refine k_seq (k_region ?_)
    refine o_move rfl ?_
    refine o_call rfl (q1) (.lrefl _) ?_
    refine o_move rfl ?_
    refine o_gS rfl rfl rfl rfl rfl ?_
    refine o_gS rfl rfl rfl rfl rfl ?_
    refine o_pickF rfl rfl rfl ?_
    refine o_assign rfl ?_
    refine o_nil ?_
    refine k_ret ?_
    refine ⟨.inr rfl, _, .cons _ _ _ _ (.tmp 4) .nil, ?_⟩
    exact .refl _
def askR (s : Shop) (b : Bool) : Int := if checkR s.tools s.keys s.flo s.fhi ≠ 0 then checkR s.tools s.keys s.flo s.fhi else if b = true then 0 else 31
set_option maxHeartbeats 4000000 in
theorem ret49 (hi : Off is) (s : Shop) (b : Bool) : RetP Try.prog is orc 49 [s.u, .bool b] (.int .i64 (askR s b)) := by
  have q17 := ret17 (orc := orc) hi s
  unfold askR
  generalize checkR s.tools s.keys s.flo s.fhi = c at q17
  refine ret_of body49 pure49 (hi 49 (by decide)) rfl rfl (dat_l2 (dat_shop s 5) (.bool _ _)) (.inl (.int _ _ _)) ?_
  by_cases h : c ≠ 0
  · rw [if_pos h]
    refine k_seq (k_region ?_)
    refine o_box rfl rfl ?_
    refine o_assign rfl ?_
    refine o_nil ?_
    refine k_gen [(1, U.bool b), (2, U.box 0 0)] ([SB.box [U.lst Kd.ro 3 (trisU (Shop.tools s)), .int .i64 (Shop.flo s), .int .i64 (Shop.fhi s), U.lst Kd.ro 3 (trisU (Shop.keys s))]]) (.cons rfl (.cons rfl (.nil rfl))) rfl fun fr => ?_
    refine k_seq ?_
    refine k_seq (k_region ?_)
    refine o_loadN rfl rfl rfl sh27 rfl ?_
    refine o_call rfl (q17) (.lrefl _) ?_
    refine o_assign rfl ?_
    refine o_nil ?_
    refine k_seq (k_region ?_)
    refine o_move rfl ?_
    refine o_neq rfl rfl rfl ?_
    refine o_nil ?_
    refine k_cT rfl (decide_eq_true (by omega)) ?_
    refine k_seq (k_region ?_)
    refine o_move rfl ?_
    refine o_assign rfl ?_
    refine o_nil ?_
    refine k_ret ?_
    refine ⟨.inr rfl, _, .cons _ _ _ _ (.tmp 4) .nil, ?_⟩
    exact .refl _
  · rw [if_neg h]
    cases b with
    | true =>
      refine k_seq (k_region ?_)
      refine o_box rfl rfl ?_
      refine o_assign rfl ?_
      refine o_nil ?_
      refine k_gen [(1, U.bool Bool.true), (2, U.box 0 0)] ([SB.box [U.lst Kd.ro 3 (trisU (Shop.tools s)), .int .i64 (Shop.flo s), .int .i64 (Shop.fhi s), U.lst Kd.ro 3 (trisU (Shop.keys s))]]) (.cons rfl (.cons rfl (.nil rfl))) rfl fun fr => ?_
      refine k_seq ?_
      refine k_seq (k_region ?_)
      refine o_loadN rfl rfl rfl sh27 rfl ?_
      refine o_call rfl (q17) (.lrefl _) ?_
      refine o_assign rfl ?_
      refine o_nil ?_
      refine k_seq (k_region ?_)
      refine o_move rfl ?_
      refine o_neq rfl rfl rfl ?_
      refine o_nil ?_
      refine k_cF rfl (decide_eq_false (by omega)) ?_
      refine k_skip ?_
      refine k_seq ?_
      refine k_seq (k_region ?_)
      refine o_move rfl ?_
      refine o_not rfl rfl ?_
      refine o_nil ?_
      refine k_cF rfl rfl ?_
      refine k_skip ?_
      refine k_seq (k_region ?_)
      refine o_assign rfl ?_
      refine o_nil ?_
      refine k_ret ?_
      refine ⟨.inr rfl, _, .cons _ _ _ _ (.tmp 4) .nil, ?_⟩
      exact .refl _
    | false =>
      refine k_seq (k_region ?_)
      refine o_box rfl rfl ?_
      refine o_assign rfl ?_
      refine o_nil ?_
      refine k_gen [(1, U.bool Bool.false), (2, U.box 0 0)] ([SB.box [U.lst Kd.ro 3 (trisU (Shop.tools s)), .int .i64 (Shop.flo s), .int .i64 (Shop.fhi s), U.lst Kd.ro 3 (trisU (Shop.keys s))]]) (.cons rfl (.cons rfl (.nil rfl))) rfl fun fr => ?_
      refine k_seq ?_
      refine k_seq (k_region ?_)
      refine o_loadN rfl rfl rfl sh27 rfl ?_
      refine o_call rfl (q17) (.lrefl _) ?_
      refine o_assign rfl ?_
      refine o_nil ?_
      refine k_seq (k_region ?_)
      refine o_move rfl ?_
      refine o_neq rfl rfl rfl ?_
      refine o_nil ?_
      refine k_cF rfl (decide_eq_false (by omega)) ?_
      refine k_skip ?_
      refine k_seq ?_
      refine k_seq (k_region ?_)
      refine o_move rfl ?_
      refine o_not rfl rfl ?_
      refine o_nil ?_
      refine k_cT rfl rfl ?_
      refine k_seq (k_region ?_)
      refine o_assign rfl ?_
      refine o_nil ?_
      refine k_ret ?_
      refine ⟨.inr rfl, _, .cons _ _ _ _ (.tmp 4) .nil, ?_⟩
      exact .refl _
theorem nv31 {x : Int} (h : x = 31) : nv x = 1000 := if_pos h
theorem nv_ne {x : Int} (h : x ≠ 31) : nv x = x := if_neg h
set_option maxHeartbeats 4000000 in
theorem ret15 (hi : Off is) {s : Shop} (hk : SOk s) {off metal : Int} (ho : offB off = true) (hm : metB metal = true) : RetP Try.prog is orc 15 [s.u, .int .i64 off, .int .i64 metal] (.tup [.int .i64 (nxt (cho s true off metal)), .int .i64 (nxn (cho s true off metal)), .int .i64 (nxe (cho s true off metal))]) := by
  have q50 := ret50 (orc := orc) hi off metal
  rw [ho, hm] at q50
  have q49 := ret49 (orc := orc) hi s true
  rw [show askR s true = 0 by unfold askR; rw [chk_ok hk]; rfl] at q49
  have hob : -60 ≤ off ∧ off ≤ 60 := by unfold offB at ho; simpa using ho
  have hmb : 0 ≤ metal ∧ metal ≤ 30 := by unfold metB at hm; simpa using hm
  have q51 := ret51 (orc := orc) hi hk (w := true) hob hmb (rowsL s true 31) (fun k h => rows_get s true (by omega))
  have q52 := ret52 (orc := orc) hi hk true
  have hcb := cho_b s true off metal
  unfold nxt nxn nxe
  unfold bst at q51
  generalize cho s true off metal = c at q51 hcb
  refine ret_of body15 pure15 (hi 15 (by decide)) rfl rfl (dat_l3 (dat_shop s 5) (.int _ _ _) (.int _ _ _)) (.inr ⟨_, rfl, dat_l3 (.int _ _ _) (.int _ _ _) (.int _ _ _)⟩) ?_
  by_cases h31 : c.2 = 31
  · rw [if_pos h31, if_pos h31, if_pos h31]
    rw [nv31 h31] at q51
    refine k_seq (k_region ?_)
    refine o_box rfl rfl ?_
    refine o_assign rfl ?_
    refine o_assign rfl ?_
    refine o_assign rfl ?_
    refine o_nil ?_
    refine k_gen [(1, .int .i64 off), (2, .int .i64 metal), (3, U.box 0 0)] ([SB.box [U.lst Kd.ro 3 (trisU (Shop.tools s)), .int .i64 (Shop.flo s), .int .i64 (Shop.fhi s), U.lst Kd.ro 3 (trisU (Shop.keys s))]]) (.cons rfl (.cons rfl (.cons rfl (.nil rfl)))) rfl fun fr => ?_
    refine k_seq ?_
    refine k_seq ?_
    refine k_draw [.read true, .plain, .plain, .read false, .plain, .plain] (by kernel_rfl) (by kernel_rfl) (by kernel_rfl) ?_
    refine d_load rfl (o_loadN rfl rfl rfl sh27 rfl (o_nil rfl)) ?_
    refine d_plain (o_move rfl (o_nil rfl)) ?_
    refine d_plain (o_move rfl (o_nil rfl)) ?_
    refine d_callR rfl (q50) (.bool _) (.lrefl _) ?_
    refine d_plain (o_call rfl (q49) (.lrefl _) (o_nil rfl)) ?_
    refine d_plain (o_assign rfl (o_nil rfl)) ?_
    refine d_nil ?_
    refine k_seq (k_region ?_)
    refine o_move rfl ?_
    refine o_neq rfl rfl rfl ?_
    refine o_nil ?_
    refine k_cF rfl rfl ?_
    refine k_skip ?_
    refine k_seq ?_
    refine k_draw [.read true, .read true, .quiet, .plain, .plain, .plain, .plain, .plain, .plain, .plain, .plain] (by kernel_rfl) (by kernel_rfl) (by kernel_rfl) ?_
    refine d_load rfl (o_loadN rfl rfl rfl sh27 rfl (o_nil rfl)) ?_
    refine d_load rfl (o_loadN rfl rfl rfl sh27 rfl (o_nil rfl)) ?_
    refine d_callQ rfl (q52) (.lrefl _) ?_
    refine d_plain (o_move rfl (o_nil rfl)) ?_
    refine d_plain (o_move rfl (o_nil rfl)) ?_
    refine d_plain (o_call rfl (q51) (.lrefl _) (o_nil rfl)) ?_
    refine d_plain (o_move rfl (o_nil rfl)) ?_
    refine d_plain (o_extract rfl rfl rfl (o_nil rfl)) ?_
    refine d_plain (o_extract rfl rfl rfl (o_nil rfl)) ?_
    refine d_plain (o_assign rfl (o_nil rfl)) ?_
    refine d_plain (o_assign rfl (o_nil rfl)) ?_
    refine d_nil ?_
    refine k_gen [(10, .int .i64 (Prod.fst c)), (11, .int .i64 (1000 : Int))] ([SB.box [U.lst Kd.ro 3 (trisU (Shop.tools s)), .int .i64 (Shop.flo s), .int .i64 (Shop.fhi s), U.lst Kd.ro 3 (trisU (Shop.keys s))]]) (.cons rfl (.cons rfl (.nil rfl))) rfl fun fr => ?_
    refine k_seq ?_
    refine k_seq (k_region ?_)
    refine o_move rfl ?_
    refine o_eql rfl rfl rfl ?_
    refine o_nil ?_
    refine k_cT rfl rfl ?_
    refine k_seq (k_region ?_)
    refine o_assign rfl ?_
    refine o_assign rfl ?_
    refine o_assign rfl ?_
    refine o_nil ?_
    refine k_ret ?_
    refine ⟨.inr rfl, _, .cons _ _ _ _ (.tmp 6) (.cons _ _ _ _ (.tmp 7) (.cons _ _ _ _ (.tmp 8) .nil)), ?_⟩
    exact .refl _
  · rw [if_neg h31, if_neg h31, if_neg h31]
    rw [nv_ne h31] at q51
    have h2 : c.2 ≤ 31 := hcb.2.1
    refine k_seq (k_region ?_)
    refine o_box rfl rfl ?_
    refine o_assign rfl ?_
    refine o_assign rfl ?_
    refine o_assign rfl ?_
    refine o_nil ?_
    refine k_gen [(1, .int .i64 off), (2, .int .i64 metal), (3, U.box 0 0)] ([SB.box [U.lst Kd.ro 3 (trisU (Shop.tools s)), .int .i64 (Shop.flo s), .int .i64 (Shop.fhi s), U.lst Kd.ro 3 (trisU (Shop.keys s))]]) (.cons rfl (.cons rfl (.cons rfl (.nil rfl)))) rfl fun fr => ?_
    refine k_seq ?_
    refine k_seq ?_
    refine k_draw [.read true, .plain, .plain, .read false, .plain, .plain] (by kernel_rfl) (by kernel_rfl) (by kernel_rfl) ?_
    refine d_load rfl (o_loadN rfl rfl rfl sh27 rfl (o_nil rfl)) ?_
    refine d_plain (o_move rfl (o_nil rfl)) ?_
    refine d_plain (o_move rfl (o_nil rfl)) ?_
    refine d_callR rfl (q50) (.bool _) (.lrefl _) ?_
    refine d_plain (o_call rfl (q49) (.lrefl _) (o_nil rfl)) ?_
    refine d_plain (o_assign rfl (o_nil rfl)) ?_
    refine d_nil ?_
    refine k_seq (k_region ?_)
    refine o_move rfl ?_
    refine o_neq rfl rfl rfl ?_
    refine o_nil ?_
    refine k_cF rfl rfl ?_
    refine k_skip ?_
    refine k_seq ?_
    refine k_draw [.read true, .read true, .quiet, .plain, .plain, .plain, .plain, .plain, .plain, .plain, .plain] (by kernel_rfl) (by kernel_rfl) (by kernel_rfl) ?_
    refine d_load rfl (o_loadN rfl rfl rfl sh27 rfl (o_nil rfl)) ?_
    refine d_load rfl (o_loadN rfl rfl rfl sh27 rfl (o_nil rfl)) ?_
    refine d_callQ rfl (q52) (.lrefl _) ?_
    refine d_plain (o_move rfl (o_nil rfl)) ?_
    refine d_plain (o_move rfl (o_nil rfl)) ?_
    refine d_plain (o_call rfl (q51) (.lrefl _) (o_nil rfl)) ?_
    refine d_plain (o_move rfl (o_nil rfl)) ?_
    refine d_plain (o_extract rfl rfl rfl (o_nil rfl)) ?_
    refine d_plain (o_extract rfl rfl rfl (o_nil rfl)) ?_
    refine d_plain (o_assign rfl (o_nil rfl)) ?_
    refine d_plain (o_assign rfl (o_nil rfl)) ?_
    refine d_nil ?_
    refine k_gen [(10, .int .i64 (Prod.fst c)), (11, .int .i64 (Prod.snd c))] ([SB.box [U.lst Kd.ro 3 (trisU (Shop.tools s)), .int .i64 (Shop.flo s), .int .i64 (Shop.fhi s), U.lst Kd.ro 3 (trisU (Shop.keys s))]]) (.cons rfl (.cons rfl (.nil rfl))) rfl fun fr => ?_
    refine k_seq ?_
    refine k_seq (k_region ?_)
    refine o_move rfl ?_
    refine o_eql rfl rfl rfl ?_
    refine o_nil ?_
    refine k_cF rfl (decide_eq_false (by omega)) ?_
    refine k_skip ?_
    refine k_seq (k_region ?_)
    refine o_move rfl ?_
    refine o_move rfl ?_
    refine o_assign rfl ?_
    refine o_assign rfl ?_
    refine o_assign rfl ?_
    refine o_nil ?_
    refine k_ret ?_
    refine ⟨.inr rfl, _, .cons _ _ _ _ (.tmp 6) (.cons _ _ _ _ (.tmp 7) (.cons _ _ _ _ (.tmp 8) .nil)), ?_⟩
    exact .refl _
theorem ask_bad {s : Shop} {b : Bool} (h : askR s b ≠ 0) : (checkR s.tools s.keys s.flo s.fhi ≠ 0 ∧ askR s b = checkR s.tools s.keys s.flo s.fhi) ∨ (checkR s.tools s.keys s.flo s.fhi = 0 ∧ b = false ∧ askR s b = 31) := by
  unfold askR at h ⊢
  by_cases hc : checkR s.tools s.keys s.flo s.fhi ≠ 0
  · rw [if_pos hc]; exact .inl ⟨hc, rfl⟩
  · rw [if_neg hc] at h ⊢
    cases b with
    | true => exact absurd rfl h
    | false => exact .inr ⟨by omega, rfl, rfl⟩
set_option maxHeartbeats 4000000 in
theorem ret15e (hi : Off is) {s : Shop} {off metal : Int} (h : askR s (offB off && metB metal) ≠ 0) : RetP Try.prog is orc 15 [s.u, .int .i64 off, .int .i64 metal] (.tup [.int .i64 0, .int .i64 0, .int .i64 (askR s (offB off && metB metal))]) := by
  have q50 := ret50 (orc := orc) hi off metal
  have q49 := ret49 (orc := orc) hi s (offB off && metB metal)
  generalize askR s (offB off && metB metal) = c at h q49
  refine ret_of body15 pure15 (hi 15 (by decide)) rfl rfl (dat_l3 (dat_shop s 5) (.int _ _ _) (.int _ _ _)) (.inr ⟨_, rfl, dat_l3 (.int _ _ _) (.int _ _ _) (.int _ _ _)⟩) ?_
  refine k_seq (k_region ?_)
  refine o_box rfl rfl ?_
  refine o_assign rfl ?_
  refine o_assign rfl ?_
  refine o_assign rfl ?_
  refine o_nil ?_
  refine k_gen [(1, .int .i64 off), (2, .int .i64 metal), (3, U.box 0 0)] ([SB.box [U.lst Kd.ro 3 (trisU (Shop.tools s)), .int .i64 (Shop.flo s), .int .i64 (Shop.fhi s), U.lst Kd.ro 3 (trisU (Shop.keys s))]]) (.cons rfl (.cons rfl (.cons rfl (.nil rfl)))) rfl fun fr => ?_
  refine k_seq ?_
  refine k_seq ?_
  refine k_draw [.read true, .plain, .plain, .read false, .plain, .plain] (by kernel_rfl) (by kernel_rfl) (by kernel_rfl) ?_
  refine d_load rfl (o_loadN rfl rfl rfl sh27 rfl (o_nil rfl)) ?_
  refine d_plain (o_move rfl (o_nil rfl)) ?_
  refine d_plain (o_move rfl (o_nil rfl)) ?_
  refine d_callR rfl (q50) (.bool _) (.lrefl _) ?_
  refine d_plain (o_call rfl (q49) (.lrefl _) (o_nil rfl)) ?_
  refine d_plain (o_assign rfl (o_nil rfl)) ?_
  refine d_nil ?_
  refine k_seq (k_region ?_)
  refine o_move rfl ?_
  refine o_neq rfl rfl rfl ?_
  refine o_nil ?_
  refine k_cT rfl (decide_eq_true (by omega)) ?_
  refine k_seq (k_region ?_)
  refine o_move rfl ?_
  refine o_assign rfl ?_
  refine o_assign rfl ?_
  refine o_assign rfl ?_
  refine o_nil ?_
  refine k_ret ?_
  refine ⟨.inr rfl, _, .cons _ _ _ _ (.tmp 6) (.cons _ _ _ _ (.tmp 7) (.cons _ _ _ _ (.tmp 8) .nil)), ?_⟩
  exact .refl _
theorem ask46 (hi : Off is) {s : Shop} {b : Bool} (h : askR s b ≠ 0) : RetP Try.prog is orc 46 [s.u, .bool b] (.tup [.agg z6, .int .i64 (askR s b)]) := by
  have hck := chk (orc := orc) hi s
  rcases ask_bad h with ⟨h1, h2⟩ | ⟨h1, rfl, h2⟩
  · rw [h2]; exact ret46e s h1 hck b
  · rw [h2]; rw [h1] at hck; exact ret46q s hck
set_option maxHeartbeats 4000000 in
theorem ret14x (hi : Off is) {s : Shop} {off metal : Int} (h : askR s (offB off && metB metal) ≠ 0) : RetP Try.prog is orc 14 [s.u, .int .i64 off, .int .i64 metal] (.tup [.int .i64 0, .int .i64 0, .int .i64 (askR s (offB off && metB metal))]) := by
  have q46 := ask46 (orc := orc) hi h
  have q47 := ret47 (orc := orc) hi off
  have q48 := ret48 (orc := orc) hi metal
  rw [show (decide (-60 ≤ off) && decide (off ≤ 60)) = offB off from rfl] at q47
  rw [show (decide (0 ≤ metal) && decide (metal ≤ 30)) = metB metal from rfl] at q48
  generalize askR s (offB off && metB metal) = c at h q46
  generalize offB off = b1 at q46 q47
  generalize metB metal = b2 at q46 q48
  refine ret_of body14 pure14 (hi 14 (by decide)) rfl rfl (dat_next s off metal) (datR_next _ _ _) ?_
  cases b1 with
  | true =>
    refine k_seq (k_region ?_)
    refine o_box rfl rfl ?_
    refine o_assign rfl ?_
    refine o_assign rfl ?_
    refine o_assign rfl ?_
    refine o_nil ?_
    refine k_gen [(1, .int .i64 off), (2, .int .i64 metal), (3, U.box 0 0)] ([SB.box [U.lst Kd.ro 3 (trisU (Shop.tools s)), .int .i64 (Shop.flo s), .int .i64 (Shop.fhi s), U.lst Kd.ro 3 (trisU (Shop.keys s))]]) (.cons rfl (.cons rfl (.cons rfl (.nil rfl)))) rfl fun fr => ?_
    refine k_seq ?_
    refine k_draw [.read true, .plain, .read false, .plain, .plain, .read false, .plain, .quiet, .plain, .plain, .plain, .pre, .plain, .plain] (by kernel_rfl) (by kernel_rfl) (by kernel_rfl) ?_
    refine d_load rfl (o_loadN rfl rfl rfl sh27 rfl (o_nil rfl)) ?_
    refine d_plain (o_move rfl (o_nil rfl)) ?_
    refine d_callR rfl (q47) (.bool _) (.lrefl _) ?_
    refine d_plain (o_move rfl (o_nil rfl)) ?_
    refine d_gD rfl rfl rfl rfl rfl ?_
    refine d_plain (o_move rfl (o_nil rfl)) ?_
    refine d_gD rfl rfl rfl rfl rfl ?_
    refine d_callR rfl (q48) (.bool _) (.lrefl _) ?_
    refine d_plain (o_pickT rfl rfl rfl (o_nil rfl)) ?_
    refine d_callQ rfl (q46) (.lrefl _) ?_
    refine d_plain (o_move rfl (o_nil rfl)) ?_
    refine d_genA [(1, .int .i64 off), (2, .int .i64 metal), (11, U.tup [U.agg z6, .int .i64 c])] [] ([SB.box [U.lst Kd.ro 3 (trisU (Shop.tools s)), .int .i64 (Shop.flo s), .int .i64 (Shop.fhi s), U.lst Kd.ro 3 (trisU (Shop.keys s))]]) (.cons rfl (.cons rfl (.cons rfl (.nil rfl)))) rfl rfl fun fr => ?_
    refine d_plain (o_extract rfl rfl rfl (o_nil rfl)) ?_
    refine d_plain (o_extract rfl rfl rfl (o_nil rfl)) ?_
    refine d_pre rfl ze73 ?_
    refine d_plain (o_storeN rfl rfl sh73 rfl rfl rfl rfl rfl (o_nil rfl)) ?_
    refine d_plain (o_assign rfl (o_nil rfl)) ?_
    refine d_nil ?_
    refine k_gen [(1, .int .i64 off), (2, .int .i64 metal), (8, .int .i64 c), (9, U.box 1 0)] ([SB.box [U.lst Kd.ro 3 (trisU (Shop.tools s)), .int .i64 (Shop.flo s), .int .i64 (Shop.fhi s), U.lst Kd.ro 3 (trisU (Shop.keys s))], SB.box [U.lst Kd.full 0 [], .int .i64 0, .int .i64 0, U.lst Kd.full 0 [], U.nilf, U.nilf]]) (.cons rfl (.cons rfl (.cons rfl (.cons rfl (.nil rfl))))) rfl fun fr => ?_
    refine k_seq ?_
    refine k_seq (k_region ?_)
    refine o_move rfl ?_
    refine o_neq rfl rfl rfl ?_
    refine o_nil ?_
    refine k_cT rfl (decide_eq_true (by omega)) ?_
    refine k_seq (k_region ?_)
    refine o_move rfl ?_
    refine o_assign rfl ?_
    refine o_assign rfl ?_
    refine o_assign rfl ?_
    refine o_nil ?_
    refine k_ret ?_
    refine ⟨.inr rfl, _, .cons _ _ _ _ (.tmp 6) (.cons _ _ _ _ (.tmp 7) (.cons _ _ _ _ (.tmp 8) .nil)), ?_⟩
    exact .refl _
  | false =>
    refine k_seq (k_region ?_)
    refine o_box rfl rfl ?_
    refine o_assign rfl ?_
    refine o_assign rfl ?_
    refine o_assign rfl ?_
    refine o_nil ?_
    refine k_gen [(1, .int .i64 off), (2, .int .i64 metal), (3, U.box 0 0)] ([SB.box [U.lst Kd.ro 3 (trisU (Shop.tools s)), .int .i64 (Shop.flo s), .int .i64 (Shop.fhi s), U.lst Kd.ro 3 (trisU (Shop.keys s))]]) (.cons rfl (.cons rfl (.cons rfl (.nil rfl)))) rfl fun fr => ?_
    refine k_seq ?_
    refine k_draw [.read true, .plain, .read false, .plain, .plain, .read false, .plain, .quiet, .plain, .plain, .plain, .pre, .plain, .plain] (by kernel_rfl) (by kernel_rfl) (by kernel_rfl) ?_
    refine d_load rfl (o_loadN rfl rfl rfl sh27 rfl (o_nil rfl)) ?_
    refine d_plain (o_move rfl (o_nil rfl)) ?_
    refine d_callR rfl (q47) (.bool _) (.lrefl _) ?_
    refine d_plain (o_move rfl (o_nil rfl)) ?_
    refine d_gS rfl rfl rfl rfl rfl ?_
    refine d_gS rfl rfl rfl rfl rfl ?_
    refine d_plain (o_pickF rfl rfl rfl (o_nil rfl)) ?_
    refine d_callQ rfl (q46) (.lrefl _) ?_
    refine d_plain (o_move rfl (o_nil rfl)) ?_
    refine d_genA [(1, .int .i64 off), (2, .int .i64 metal), (11, U.tup [U.agg z6, .int .i64 c])] [] ([SB.box [U.lst Kd.ro 3 (trisU (Shop.tools s)), .int .i64 (Shop.flo s), .int .i64 (Shop.fhi s), U.lst Kd.ro 3 (trisU (Shop.keys s))]]) (.cons rfl (.cons rfl (.cons rfl (.nil rfl)))) rfl rfl fun fr => ?_
    refine d_plain (o_extract rfl rfl rfl (o_nil rfl)) ?_
    refine d_plain (o_extract rfl rfl rfl (o_nil rfl)) ?_
    refine d_pre rfl ze73 ?_
    refine d_plain (o_storeN rfl rfl sh73 rfl rfl rfl rfl rfl (o_nil rfl)) ?_
    refine d_plain (o_assign rfl (o_nil rfl)) ?_
    refine d_nil ?_
    refine k_gen [(1, .int .i64 off), (2, .int .i64 metal), (8, .int .i64 c), (9, U.box 1 0)] ([SB.box [U.lst Kd.ro 3 (trisU (Shop.tools s)), .int .i64 (Shop.flo s), .int .i64 (Shop.fhi s), U.lst Kd.ro 3 (trisU (Shop.keys s))], SB.box [U.lst Kd.full 0 [], .int .i64 0, .int .i64 0, U.lst Kd.full 0 [], U.nilf, U.nilf]]) (.cons rfl (.cons rfl (.cons rfl (.cons rfl (.nil rfl))))) rfl fun fr => ?_
    refine k_seq ?_
    refine k_seq (k_region ?_)
    refine o_move rfl ?_
    refine o_neq rfl rfl rfl ?_
    refine o_nil ?_
    refine k_cT rfl (decide_eq_true (by omega)) ?_
    refine k_seq (k_region ?_)
    refine o_move rfl ?_
    refine o_assign rfl ?_
    refine o_assign rfl ?_
    refine o_assign rfl ?_
    refine o_nil ?_
    refine k_ret ?_
    refine ⟨.inr rfl, _, .cons _ _ _ _ (.tmp 6) (.cons _ _ _ _ (.tmp 7) (.cons _ _ _ _ (.tmp 8) .nil)), ?_⟩
    exact .refl _
theorem shps_27_28 {f : FuncId} (h : ∀ (s : Shop) (a b : Int), RetP Try.prog is orc f [s.u, .agg [.int .i64 a, .int .i64 b]] (.bool true)) : ∀ us, ShpAs Try.prog [27, 28] us → RetP Try.prog is orc f us (.bool true) := by
  intro us h
  cases h with
  | cons _ _ u us h1 h => cases h with
  | cons _ _ v us h2 h =>
  cases h
  obtain ⟨fs, hu⟩ := und_struct (P := Try.prog) (t := 27) 3 (by kernel_rfl)
  unfold ShpA at h1 h2
  rw [hu] at h1
  rw [u28] at h2
  obtain ⟨cs, rfl, h1⟩ := h1
  obtain ⟨ds, rfl, h2⟩ := h2
  obtain ⟨s, rfl⟩ := shp_shop h1
  obtain ⟨a, b, rfl⟩ := shp_two h2
  exact h s a b
noncomputable def b3 : Code := (Try.f3.body).getD .skip
theorem body3 : bodyOf Try.prog 3 = some (80, b3, [.tmp 4]) := by kernel_rfl
theorem pure3 : pureFn Try.prog 3 = true := by kernel_rfl
set_option maxHeartbeats 4000000 in
theorem ret19 (hi : Off is) {s : Shop} (hk : SOk s) {off metal : Int} (ho : offB off = true) (hm : metB metal = true) : RetP Try.prog is orc 19 [s.u, .int .i64 off, .int .i64 metal] (.tup [.int .i64 (unN (cho s false off metal).2), .int .i64 (unE (cho s false off metal).2)]) := by
  have q50 := ret50 (orc := orc) hi off metal
  rw [ho, hm] at q50
  have q49 := ret49 (orc := orc) hi s true
  rw [show askR s true = 0 by unfold askR; rw [chk_ok hk]; rfl] at q49
  have hmb : 0 ≤ metal ∧ metal ≤ 30 := by unfold metB at hm; simpa using hm
  have q52 := ret52 (orc := orc) hi hk false
  have q56 := ret56 (orc := orc) hi hk (w := false) (off := off) hmb.1
  have hL : (rowsL s false 31)[metal.toNat]? = some (rowL s false metal) := by
    have := rows_get s false (n := 31) (k := metal.toNat) (by omega)
    rwa [show ((metal.toNat : Nat) : Int) = metal by omega] at this
  have hcb := cho_b s false off metal
  unfold unN unE
  generalize (cho s false off metal) = c at q56 hcb
  refine ret_of body19 pure19 (hi 19 (by decide)) rfl rfl (dat_l3 (dat_shop s 5) (.int _ _ _) (.int _ _ _)) (.inr ⟨_, rfl, dat_l2 (.int _ _ _) (.int _ _ _)⟩) ?_
  by_cases h31 : c.2 = 31
  · rw [if_pos h31, if_pos h31]
    rw [nv31 h31] at q56
    refine k_seq (k_region ?_)
    refine o_box rfl rfl ?_
    refine o_assign rfl ?_
    refine o_assign rfl ?_
    refine o_nil ?_
    refine k_gen [(1, .int .i64 off), (2, .int .i64 metal), (3, U.box 0 0)] ([SB.box [U.lst Kd.ro 3 (trisU (Shop.tools s)), .int .i64 (Shop.flo s), .int .i64 (Shop.fhi s), U.lst Kd.ro 3 (trisU (Shop.keys s))]]) (.cons rfl (.cons rfl (.cons rfl (.nil rfl)))) rfl fun fr => ?_
    refine k_seq ?_
    refine k_seq ?_
    refine k_draw [.read true, .plain, .plain, .read false, .plain, .plain] (by kernel_rfl) (by kernel_rfl) (by kernel_rfl) ?_
    refine d_load rfl (o_loadN rfl rfl rfl sh27 rfl (o_nil rfl)) ?_
    refine d_plain (o_move rfl (o_nil rfl)) ?_
    refine d_plain (o_move rfl (o_nil rfl)) ?_
    refine d_callR rfl (q50) (.bool _) (.lrefl _) ?_
    refine d_plain (o_call rfl (q49) (.lrefl _) (o_nil rfl)) ?_
    refine d_plain (o_assign rfl (o_nil rfl)) ?_
    refine d_nil ?_
    refine k_seq (k_region ?_)
    refine o_move rfl ?_
    refine o_neq rfl rfl rfl ?_
    refine o_nil ?_
    refine k_cF rfl rfl ?_
    refine k_skip ?_
    refine k_seq (k_region ?_)
    refine o_loadN rfl rfl rfl sh27 rfl ?_
    refine o_call rfl (q52) (.lrefl _) ?_
    refine o_move rfl ?_
    refine o_idx (u := rowU (rowL s false metal)) rfl ty84 rfl rfl (by omega) (by rw [List.getElem?_map, hL]; rfl) cl89 ?_
    refine o_loadRN rfl rfl sh89 rfl ?_
    refine o_move rfl ?_
    refine o_call rfl (q56) (.lrefl _) ?_
    refine o_assign rfl ?_
    refine o_nil ?_
    refine k_seq ?_
    refine k_seq (k_region ?_)
    refine o_move rfl ?_
    refine o_eql rfl rfl rfl ?_
    refine o_nil ?_
    refine k_cT rfl rfl ?_
    refine k_seq (k_region ?_)
    refine o_assign rfl ?_
    refine o_assign rfl ?_
    refine o_nil ?_
    refine k_ret ?_
    refine ⟨.inr rfl, _, .cons _ _ _ _ (.tmp 6) (.cons _ _ _ _ (.tmp 7) .nil), ?_⟩
    exact .refl _
  · rw [if_neg h31, if_neg h31]
    rw [nv_ne h31] at q56
    have h2 : c.2 ≤ 31 := hcb.2.1
    refine k_seq (k_region ?_)
    refine o_box rfl rfl ?_
    refine o_assign rfl ?_
    refine o_assign rfl ?_
    refine o_nil ?_
    refine k_gen [(1, .int .i64 off), (2, .int .i64 metal), (3, U.box 0 0)] ([SB.box [U.lst Kd.ro 3 (trisU (Shop.tools s)), .int .i64 (Shop.flo s), .int .i64 (Shop.fhi s), U.lst Kd.ro 3 (trisU (Shop.keys s))]]) (.cons rfl (.cons rfl (.cons rfl (.nil rfl)))) rfl fun fr => ?_
    refine k_seq ?_
    refine k_seq ?_
    refine k_draw [.read true, .plain, .plain, .read false, .plain, .plain] (by kernel_rfl) (by kernel_rfl) (by kernel_rfl) ?_
    refine d_load rfl (o_loadN rfl rfl rfl sh27 rfl (o_nil rfl)) ?_
    refine d_plain (o_move rfl (o_nil rfl)) ?_
    refine d_plain (o_move rfl (o_nil rfl)) ?_
    refine d_callR rfl (q50) (.bool _) (.lrefl _) ?_
    refine d_plain (o_call rfl (q49) (.lrefl _) (o_nil rfl)) ?_
    refine d_plain (o_assign rfl (o_nil rfl)) ?_
    refine d_nil ?_
    refine k_seq (k_region ?_)
    refine o_move rfl ?_
    refine o_neq rfl rfl rfl ?_
    refine o_nil ?_
    refine k_cF rfl rfl ?_
    refine k_skip ?_
    refine k_seq (k_region ?_)
    refine o_loadN rfl rfl rfl sh27 rfl ?_
    refine o_call rfl (q52) (.lrefl _) ?_
    refine o_move rfl ?_
    refine o_idx (u := rowU (rowL s false metal)) rfl ty84 rfl rfl (by omega) (by rw [List.getElem?_map, hL]; rfl) cl89 ?_
    refine o_loadRN rfl rfl sh89 rfl ?_
    refine o_move rfl ?_
    refine o_call rfl (q56) (.lrefl _) ?_
    refine o_assign rfl ?_
    refine o_nil ?_
    refine k_seq ?_
    refine k_seq (k_region ?_)
    refine o_move rfl ?_
    refine o_eql rfl rfl rfl ?_
    refine o_nil ?_
    refine k_cF rfl (decide_eq_false (by omega)) ?_
    refine k_skip ?_
    refine k_seq (k_region ?_)
    refine o_move rfl ?_
    refine o_assign rfl ?_
    refine o_assign rfl ?_
    refine o_nil ?_
    refine k_ret ?_
    refine ⟨.inr rfl, _, .cons _ _ _ _ (.tmp 6) (.cons _ _ _ _ (.tmp 7) .nil), ?_⟩
    exact .refl _
set_option maxHeartbeats 4000000 in
theorem ret19e (hi : Off is) {s : Shop} {off metal : Int} (h : askR s (offB off && metB metal) ≠ 0) : RetP Try.prog is orc 19 [s.u, .int .i64 off, .int .i64 metal] (.tup [.int .i64 0, .int .i64 (askR s (offB off && metB metal))]) := by
  have q50 := ret50 (orc := orc) hi off metal
  have q49 := ret49 (orc := orc) hi s (offB off && metB metal)
  generalize askR s (offB off && metB metal) = c at h q49
  refine ret_of body19 pure19 (hi 19 (by decide)) rfl rfl (dat_l3 (dat_shop s 5) (.int _ _ _) (.int _ _ _)) (.inr ⟨_, rfl, dat_l2 (.int _ _ _) (.int _ _ _)⟩) ?_
  refine k_seq (k_region ?_)
  refine o_box rfl rfl ?_
  refine o_assign rfl ?_
  refine o_assign rfl ?_
  refine o_nil ?_
  refine k_gen [(1, .int .i64 off), (2, .int .i64 metal), (3, U.box 0 0)] ([SB.box [U.lst Kd.ro 3 (trisU (Shop.tools s)), .int .i64 (Shop.flo s), .int .i64 (Shop.fhi s), U.lst Kd.ro 3 (trisU (Shop.keys s))]]) (.cons rfl (.cons rfl (.cons rfl (.nil rfl)))) rfl fun fr => ?_
  refine k_seq ?_
  refine k_seq ?_
  refine k_draw [.read true, .plain, .plain, .read false, .plain, .plain] (by kernel_rfl) (by kernel_rfl) (by kernel_rfl) ?_
  refine d_load rfl (o_loadN rfl rfl rfl sh27 rfl (o_nil rfl)) ?_
  refine d_plain (o_move rfl (o_nil rfl)) ?_
  refine d_plain (o_move rfl (o_nil rfl)) ?_
  refine d_callR rfl (q50) (.bool _) (.lrefl _) ?_
  refine d_plain (o_call rfl (q49) (.lrefl _) (o_nil rfl)) ?_
  refine d_plain (o_assign rfl (o_nil rfl)) ?_
  refine d_nil ?_
  refine k_seq (k_region ?_)
  refine o_move rfl ?_
  refine o_neq rfl rfl rfl ?_
  refine o_nil ?_
  refine k_cT rfl (decide_eq_true (by omega)) ?_
  refine k_seq (k_region ?_)
  refine o_move rfl ?_
  refine o_assign rfl ?_
  refine o_assign rfl ?_
  refine o_nil ?_
  refine k_ret ?_
  refine ⟨.inr rfl, _, .cons _ _ _ _ (.tmp 6) (.cons _ _ _ _ (.tmp 7) .nil), ?_⟩
  exact .refl _
set_option maxHeartbeats 4000000 in
theorem ret18x (hi : Off is) {s : Shop} {off metal : Int} (h : askR s (offB off && metB metal) ≠ 0) : RetP Try.prog is orc 18 [s.u, .int .i64 off, .int .i64 metal] (.tup [.int .i64 0, .int .i64 (askR s (offB off && metB metal))]) := by
  have q46 := ask46 (orc := orc) hi h
  have q47 := ret47 (orc := orc) hi off
  have q48 := ret48 (orc := orc) hi metal
  rw [show (decide (-60 ≤ off) && decide (off ≤ 60)) = offB off from rfl] at q47
  rw [show (decide (0 ≤ metal) && decide (metal ≤ 30)) = metB metal from rfl] at q48
  generalize askR s (offB off && metB metal) = c at h q46
  generalize offB off = b1 at q46 q47
  generalize metB metal = b2 at q46 q48
  refine ret_of body18 pure18 (hi 18 (by decide)) rfl rfl (dat_next s off metal) (.inr ⟨_, rfl, dat_l2 (.int _ _ _) (.int _ _ _)⟩) ?_
  cases b1 with
  | true =>
    refine k_seq (k_region ?_)
    refine o_box rfl rfl ?_
    refine o_assign rfl ?_
    refine o_assign rfl ?_
    refine o_nil ?_
    refine k_gen [(1, .int .i64 off), (2, .int .i64 metal), (3, U.box 0 0)] ([SB.box [U.lst Kd.ro 3 (trisU (Shop.tools s)), .int .i64 (Shop.flo s), .int .i64 (Shop.fhi s), U.lst Kd.ro 3 (trisU (Shop.keys s))]]) (.cons rfl (.cons rfl (.cons rfl (.nil rfl)))) rfl fun fr => ?_
    refine k_seq ?_
    refine k_draw [.read true, .plain, .read false, .plain, .plain, .read false, .plain, .quiet, .plain, .plain, .plain, .pre, .plain, .plain] (by kernel_rfl) (by kernel_rfl) (by kernel_rfl) ?_
    refine d_load rfl (o_loadN rfl rfl rfl sh27 rfl (o_nil rfl)) ?_
    refine d_plain (o_move rfl (o_nil rfl)) ?_
    refine d_callR rfl (q47) (.bool _) (.lrefl _) ?_
    refine d_plain (o_move rfl (o_nil rfl)) ?_
    refine d_gD rfl rfl rfl rfl rfl ?_
    refine d_plain (o_move rfl (o_nil rfl)) ?_
    refine d_gD rfl rfl rfl rfl rfl ?_
    refine d_callR rfl (q48) (.bool _) (.lrefl _) ?_
    refine d_plain (o_pickT rfl rfl rfl (o_nil rfl)) ?_
    refine d_callQ rfl (q46) (.lrefl _) ?_
    refine d_plain (o_move rfl (o_nil rfl)) ?_
    refine d_genA [(1, .int .i64 off), (2, .int .i64 metal), (10, U.tup [U.agg z6, .int .i64 c])] [] ([SB.box [U.lst Kd.ro 3 (trisU (Shop.tools s)), .int .i64 (Shop.flo s), .int .i64 (Shop.fhi s), U.lst Kd.ro 3 (trisU (Shop.keys s))]]) (.cons rfl (.cons rfl (.cons rfl (.nil rfl)))) rfl rfl fun fr => ?_
    refine d_plain (o_extract rfl rfl rfl (o_nil rfl)) ?_
    refine d_plain (o_extract rfl rfl rfl (o_nil rfl)) ?_
    refine d_pre rfl ze73 ?_
    refine d_plain (o_storeN rfl rfl sh73 rfl rfl rfl rfl rfl (o_nil rfl)) ?_
    refine d_plain (o_assign rfl (o_nil rfl)) ?_
    refine d_nil ?_
    refine k_gen [(1, .int .i64 off), (2, .int .i64 metal), (8, U.box 1 0), (9, .int .i64 c)] ([SB.box [U.lst Kd.ro 3 (trisU (Shop.tools s)), .int .i64 (Shop.flo s), .int .i64 (Shop.fhi s), U.lst Kd.ro 3 (trisU (Shop.keys s))], SB.box [U.lst Kd.full 0 [], .int .i64 0, .int .i64 0, U.lst Kd.full 0 [], U.nilf, U.nilf]]) (.cons rfl (.cons rfl (.cons rfl (.cons rfl (.nil rfl))))) rfl fun fr => ?_
    refine k_seq ?_
    refine k_seq (k_region ?_)
    refine o_move rfl ?_
    refine o_neq rfl rfl rfl ?_
    refine o_nil ?_
    refine k_cT rfl (decide_eq_true (by omega)) ?_
    refine k_seq (k_region ?_)
    refine o_move rfl ?_
    refine o_assign rfl ?_
    refine o_assign rfl ?_
    refine o_nil ?_
    refine k_ret ?_
    refine ⟨.inr rfl, _, .cons _ _ _ _ (.tmp 6) (.cons _ _ _ _ (.tmp 7) .nil), ?_⟩
    exact .refl _
  | false =>
    refine k_seq (k_region ?_)
    refine o_box rfl rfl ?_
    refine o_assign rfl ?_
    refine o_assign rfl ?_
    refine o_nil ?_
    refine k_gen [(1, .int .i64 off), (2, .int .i64 metal), (3, U.box 0 0)] ([SB.box [U.lst Kd.ro 3 (trisU (Shop.tools s)), .int .i64 (Shop.flo s), .int .i64 (Shop.fhi s), U.lst Kd.ro 3 (trisU (Shop.keys s))]]) (.cons rfl (.cons rfl (.cons rfl (.nil rfl)))) rfl fun fr => ?_
    refine k_seq ?_
    refine k_draw [.read true, .plain, .read false, .plain, .plain, .read false, .plain, .quiet, .plain, .plain, .plain, .pre, .plain, .plain] (by kernel_rfl) (by kernel_rfl) (by kernel_rfl) ?_
    refine d_load rfl (o_loadN rfl rfl rfl sh27 rfl (o_nil rfl)) ?_
    refine d_plain (o_move rfl (o_nil rfl)) ?_
    refine d_callR rfl (q47) (.bool _) (.lrefl _) ?_
    refine d_plain (o_move rfl (o_nil rfl)) ?_
    refine d_gS rfl rfl rfl rfl rfl ?_
    refine d_gS rfl rfl rfl rfl rfl ?_
    refine d_plain (o_pickF rfl rfl rfl (o_nil rfl)) ?_
    refine d_callQ rfl (q46) (.lrefl _) ?_
    refine d_plain (o_move rfl (o_nil rfl)) ?_
    refine d_genA [(1, .int .i64 off), (2, .int .i64 metal), (10, U.tup [U.agg z6, .int .i64 c])] [] ([SB.box [U.lst Kd.ro 3 (trisU (Shop.tools s)), .int .i64 (Shop.flo s), .int .i64 (Shop.fhi s), U.lst Kd.ro 3 (trisU (Shop.keys s))]]) (.cons rfl (.cons rfl (.cons rfl (.nil rfl)))) rfl rfl fun fr => ?_
    refine d_plain (o_extract rfl rfl rfl (o_nil rfl)) ?_
    refine d_plain (o_extract rfl rfl rfl (o_nil rfl)) ?_
    refine d_pre rfl ze73 ?_
    refine d_plain (o_storeN rfl rfl sh73 rfl rfl rfl rfl rfl (o_nil rfl)) ?_
    refine d_plain (o_assign rfl (o_nil rfl)) ?_
    refine d_nil ?_
    refine k_gen [(1, .int .i64 off), (2, .int .i64 metal), (8, U.box 1 0), (9, .int .i64 c)] ([SB.box [U.lst Kd.ro 3 (trisU (Shop.tools s)), .int .i64 (Shop.flo s), .int .i64 (Shop.fhi s), U.lst Kd.ro 3 (trisU (Shop.keys s))], SB.box [U.lst Kd.full 0 [], .int .i64 0, .int .i64 0, U.lst Kd.full 0 [], U.nilf, U.nilf]]) (.cons rfl (.cons rfl (.cons rfl (.cons rfl (.nil rfl))))) rfl fun fr => ?_
    refine k_seq ?_
    refine k_seq (k_region ?_)
    refine o_move rfl ?_
    refine o_neq rfl rfl rfl ?_
    refine o_nil ?_
    refine k_cT rfl (decide_eq_true (by omega)) ?_
    refine k_seq (k_region ?_)
    refine o_move rfl ?_
    refine o_assign rfl ?_
    refine o_assign rfl ?_
    refine o_nil ?_
    refine k_ret ?_
    refine ⟨.inr rfl, _, .cons _ _ _ _ (.tmp 6) (.cons _ _ _ _ (.tmp 7) .nil), ?_⟩
    exact .refl _
set_option maxHeartbeats 4000000 in
theorem ret3 (hi : Off is) (s : Shop) (a b : Int) (r20 : RetP Try.prog is orc 20 [] (.bool true)) : RetP Try.prog is orc 3 [s.u, .agg [.int .i64 a, .int .i64 b]] (.bool true) := by
  have q16 := chk (orc := orc) hi s
  have q17 := ret17 (orc := orc) hi s
  obtain ⟨x1, x2, x3, x4, x5, q14, q15, q18, q19⟩ : ∃ x1 x2 x3 x4 x5 : Int, RetP Try.prog is orc 14 [s.u, .int .i64 a, .int .i64 b] (.tup [.int .i64 x1, .int .i64 x2, .int .i64 x3]) ∧ RetP Try.prog is orc 15 [s.u, .int .i64 a, .int .i64 b] (.tup [.int .i64 x1, .int .i64 x2, .int .i64 x3]) ∧ RetP Try.prog is orc 18 [s.u, .int .i64 a, .int .i64 b] (.tup [.int .i64 x4, .int .i64 x5]) ∧ RetP Try.prog is orc 19 [s.u, .int .i64 a, .int .i64 b] (.tup [.int .i64 x4, .int .i64 x5]) := by
    by_cases h : askR s (offB a && metB b) = 0
    · have hc : checkR s.tools s.keys s.flo s.fhi = 0 := by
        refine Classical.byContradiction fun hc => ?_
        unfold askR at h; rw [if_pos hc] at h; exact hc h
      have hk := ok_chk hc
      have hb : (offB a && metB b) = true := by
        unfold askR at h; rw [hc] at h
        cases hb : (offB a && metB b) with
        | true => rfl
        | false => rw [hb] at h; exact absurd h (by decide)
      obtain ⟨ho, hm⟩ := Bool.and_eq_true_iff.1 hb
      exact ⟨_, _, _, _, _, ret14g hi hk ho hm, ret15 hi hk ho hm, ret18 hi hk ho hm, ret19 hi hk ho hm⟩
    · exact ⟨_, _, _, _, _, ret14x hi h, ret15e hi h, ret18x hi h, ret19e hi h⟩
  refine ret_of body3 pure3 (hi 3 (by decide)) rfl rfl (dat_l2 (dat_shop s 5) (dat_span _ _ _)) (.inl (.bool _ _)) ?_
  refine k_seq (k_region ?_)
  refine o_box rfl rfl ?_
  refine o_box rfl rfl ?_
  refine o_assign rfl ?_
  refine o_nil ?_
  refine k_gen [(2, U.box 0 0), (3, U.box 1 0)] ([SB.box [U.lst Kd.ro 3 (trisU (Shop.tools s)), .int .i64 (Shop.flo s), .int .i64 (Shop.fhi s), U.lst Kd.ro 3 (trisU (Shop.keys s))], SB.box [.int .i64 a, .int .i64 b]]) (.cons rfl (.cons rfl (.nil rfl))) rfl fun fr => ?_
  refine k_seq (k_region ?_)
  refine o_loadN rfl rfl rfl sh27 rfl ?_
  refine o_idxA rfl ty28 rfl rfl (by omega) (by omega) cl3 ?_
  refine o_load1 rfl rfl rfl sh3 rfl ?_
  refine o_idxA rfl ty28 rfl rfl (by omega) (by omega) cl3 ?_
  refine o_load1 rfl rfl rfl sh3 rfl ?_
  refine o_call rfl (q14) (.lrefl _) ?_
  refine o_move rfl ?_
  refine o_extract rfl rfl rfl ?_
  refine o_extract rfl rfl rfl ?_
  refine o_genA [(2, U.box 0 0), (3, U.box 1 0), (11, U.tup [.int .i64 x1, .int .i64 x2, .int .i64 x3]), (18, .int .i64 x1), (19, .int .i64 x2)] [] ([SB.box [U.lst Kd.ro 3 (trisU (Shop.tools s)), .int .i64 (Shop.flo s), .int .i64 (Shop.fhi s), U.lst Kd.ro 3 (trisU (Shop.keys s))], SB.box [.int .i64 a, .int .i64 b]]) (.cons rfl (.cons rfl (.cons rfl (.cons rfl (.cons rfl (.nil rfl)))))) rfl rfl fun fr => ?_
  refine o_extract rfl rfl rfl ?_
  refine o_assign rfl ?_
  refine o_assign rfl ?_
  refine o_assign rfl ?_
  refine o_nil ?_
  refine k_gen [(2, U.box 0 0), (3, U.box 1 0), (5, .int .i64 x1), (6, .int .i64 x2), (7, .int .i64 x3)] ([SB.box [U.lst Kd.ro 3 (trisU (Shop.tools s)), .int .i64 (Shop.flo s), .int .i64 (Shop.fhi s), U.lst Kd.ro 3 (trisU (Shop.keys s))], SB.box [.int .i64 a, .int .i64 b]]) (.cons rfl (.cons rfl (.cons rfl (.cons rfl (.cons rfl (.nil rfl)))))) rfl fun fr => ?_
  refine k_seq (k_region ?_)
  refine o_loadN rfl rfl rfl sh27 rfl ?_
  refine o_idxA rfl ty28 rfl rfl (by omega) (by omega) cl3 ?_
  refine o_load1 rfl rfl rfl sh3 rfl ?_
  refine o_idxA rfl ty28 rfl rfl (by omega) (by omega) cl3 ?_
  refine o_load1 rfl rfl rfl sh3 rfl ?_
  refine o_call rfl (q15) (.lrefl _) ?_
  refine o_move rfl ?_
  refine o_extract rfl rfl rfl ?_
  refine o_extract rfl rfl rfl ?_
  refine o_genA [(2, U.box 0 0), (3, U.box 1 0), (5, .int .i64 x1), (6, .int .i64 x2), (7, .int .i64 x3), (21, U.tup [.int .i64 x1, .int .i64 x2, .int .i64 x3]), (28, .int .i64 x1), (29, .int .i64 x2)] [] ([SB.box [U.lst Kd.ro 3 (trisU (Shop.tools s)), .int .i64 (Shop.flo s), .int .i64 (Shop.fhi s), U.lst Kd.ro 3 (trisU (Shop.keys s))], SB.box [.int .i64 a, .int .i64 b]]) (.cons rfl (.cons rfl (.cons rfl (.cons rfl (.cons rfl (.cons rfl (.cons rfl (.cons rfl (.nil rfl))))))))) rfl rfl fun fr => ?_
  refine o_extract rfl rfl rfl ?_
  refine o_assign rfl ?_
  refine o_assign rfl ?_
  refine o_assign rfl ?_
  refine o_nil ?_
  refine k_gen [(2, U.box 0 0), (3, U.box 1 0), (5, .int .i64 x1), (6, .int .i64 x2), (7, .int .i64 x3), (8, .int .i64 x1), (9, .int .i64 x2), (10, .int .i64 x3)] ([SB.box [U.lst Kd.ro 3 (trisU (Shop.tools s)), .int .i64 (Shop.flo s), .int .i64 (Shop.fhi s), U.lst Kd.ro 3 (trisU (Shop.keys s))], SB.box [.int .i64 a, .int .i64 b]]) (.cons rfl (.cons rfl (.cons rfl (.cons rfl (.cons rfl (.cons rfl (.cons rfl (.cons rfl (.nil rfl))))))))) rfl fun fr => ?_
  refine k_seq ?_
  refine k_seq ?_
  refine k_draw [.plain, .plain, .plain, .plain, .plain, .plain, .plain, .plain, .plain, .plain, .plain, .plain, .plain, .plain, .read true, .read false, .read true, .plain, .plain, .plain] (by kernel_rfl) (by kernel_rfl) (by kernel_rfl) ?_
  refine d_plain (o_move rfl (o_nil rfl)) ?_
  refine d_plain (o_move rfl (o_nil rfl)) ?_
  refine d_plain (o_neq rfl rfl rfl (o_nil rfl)) ?_
  refine d_plain (o_move rfl (o_nil rfl)) ?_
  refine d_gD rfl rfl rfl rfl (decide_eq_false (by omega)) ?_
  refine d_plain (o_move rfl (o_nil rfl)) ?_
  refine d_gD rfl rfl rfl rfl (decide_eq_false (by omega)) ?_
  refine d_plain (o_move rfl (o_nil rfl)) ?_
  refine d_gD rfl rfl rfl rfl (decide_eq_false (by omega)) ?_
  refine d_plain (o_neq rfl rfl rfl (o_nil rfl)) ?_
  refine d_plain (o_pickF rfl rfl (decide_eq_false (by omega)) (o_nil rfl)) ?_
  refine d_plain (o_move rfl (o_nil rfl)) ?_
  refine d_genA [(2, U.box 0 0), (3, U.box 1 0), (7, .int .i64 x3), (10, .int .i64 x3), (39, U.bool (Decidable.decide (x2 ≠ x2)))] [] ([SB.box [U.lst Kd.ro 3 (trisU (Shop.tools s)), .int .i64 (Shop.flo s), .int .i64 (Shop.fhi s), U.lst Kd.ro 3 (trisU (Shop.keys s))], SB.box [.int .i64 a, .int .i64 b]]) (.cons rfl (.cons rfl (.cons rfl (.cons rfl (.cons rfl (.nil rfl)))))) rfl rfl fun fr => ?_
  refine d_gD rfl rfl rfl rfl (decide_eq_false (by omega)) ?_
  refine d_genA [(2, U.box 0 0), (3, U.box 1 0), (7, .int .i64 x3), (10, .int .i64 x3), (39, U.bool (Decidable.decide (x2 ≠ x2)))] [] ([SB.box [U.lst Kd.ro 3 (trisU (Shop.tools s)), .int .i64 (Shop.flo s), .int .i64 (Shop.fhi s), U.lst Kd.ro 3 (trisU (Shop.keys s))], SB.box [.int .i64 a, .int .i64 b]]) (.cons rfl (.cons rfl (.cons rfl (.cons rfl (.cons rfl (.nil rfl)))))) rfl rfl fun fr => ?_
  refine d_plain (o_move rfl (o_nil rfl)) ?_
  refine d_gD rfl rfl rfl rfl (decide_eq_false (by omega)) ?_
  refine d_plain (o_move rfl (o_nil rfl)) ?_
  refine d_gD rfl rfl rfl rfl (decide_eq_false (by omega)) ?_
  refine d_plain (o_neq rfl rfl rfl (o_nil rfl)) ?_
  refine d_plain (o_pickF rfl rfl (decide_eq_false (by omega)) (o_nil rfl)) ?_
  refine d_plain (o_move rfl (o_nil rfl)) ?_
  refine d_gD rfl rfl rfl rfl (decide_eq_false (by omega)) ?_
  refine d_load rfl (o_loadN rfl rfl rfl sh27 rfl (o_nil rfl)) ?_
  refine d_gD rfl rfl rfl rfl (decide_eq_false (by omega)) ?_
  refine d_callR rfl (q16) (.int _ _) (.lrefl _) ?_
  refine d_gD rfl rfl rfl rfl (decide_eq_false (by omega)) ?_
  refine d_load rfl (o_loadN rfl rfl rfl sh27 rfl (o_nil rfl)) ?_
  refine d_gD rfl rfl rfl rfl (decide_eq_false (by omega)) ?_
  refine d_plain (o_call rfl (q17) (.lrefl _) (o_nil rfl)) ?_
  refine d_genA [(2, U.box 0 0), (3, U.box 1 0), (44, U.bool (Decidable.decide (x3 ≠ x3))), (46, .int .i64 (checkR (Shop.tools s) (Shop.keys s) (Shop.flo s) (Shop.fhi s))), (48, .int .i64 (checkR (Shop.tools s) (Shop.keys s) (Shop.flo s) (Shop.fhi s)))] [] ([SB.box [U.lst Kd.ro 3 (trisU (Shop.tools s)), .int .i64 (Shop.flo s), .int .i64 (Shop.fhi s), U.lst Kd.ro 3 (trisU (Shop.keys s))], SB.box [.int .i64 a, .int .i64 b]]) (.cons rfl (.cons rfl (.cons rfl (.cons rfl (.cons rfl (.nil rfl)))))) rfl rfl fun fr => ?_
  refine d_gD rfl rfl rfl rfl (decide_eq_false (by omega)) ?_
  refine d_genA [(2, U.box 0 0), (3, U.box 1 0), (44, U.bool (Decidable.decide (x3 ≠ x3))), (46, .int .i64 (checkR (Shop.tools s) (Shop.keys s) (Shop.flo s) (Shop.fhi s))), (48, .int .i64 (checkR (Shop.tools s) (Shop.keys s) (Shop.flo s) (Shop.fhi s)))] [] ([SB.box [U.lst Kd.ro 3 (trisU (Shop.tools s)), .int .i64 (Shop.flo s), .int .i64 (Shop.fhi s), U.lst Kd.ro 3 (trisU (Shop.keys s))], SB.box [.int .i64 a, .int .i64 b]]) (.cons rfl (.cons rfl (.cons rfl (.cons rfl (.cons rfl (.nil rfl)))))) rfl rfl fun fr => ?_
  refine d_plain (o_neq rfl rfl rfl (o_nil rfl)) ?_
  refine d_plain (o_pickF rfl rfl (decide_eq_false (by omega)) (o_nil rfl)) ?_
  refine d_nil ?_
  refine k_gen [(2, U.box 0 0), (3, U.box 1 0), (50, U.bool (Decidable.decide (checkR (Shop.tools s) (Shop.keys s) (Shop.flo s) (Shop.fhi s) ≠ checkR (Shop.tools s) (Shop.keys s) (Shop.flo s) (Shop.fhi s))))] ([SB.box [U.lst Kd.ro 3 (trisU (Shop.tools s)), .int .i64 (Shop.flo s), .int .i64 (Shop.fhi s), U.lst Kd.ro 3 (trisU (Shop.keys s))], SB.box [.int .i64 a, .int .i64 b]]) (.cons rfl (.cons rfl (.cons rfl (.nil rfl)))) rfl fun fr => ?_
  refine k_cF rfl (decide_eq_false (by omega)) ?_
  refine k_skip ?_
  refine k_seq (k_region ?_)
  refine o_loadN rfl rfl rfl sh27 rfl ?_
  refine o_idxA rfl ty28 rfl rfl (by omega) (by omega) cl3 ?_
  refine o_load1 rfl rfl rfl sh3 rfl ?_
  refine o_idxA rfl ty28 rfl rfl (by omega) (by omega) cl3 ?_
  refine o_load1 rfl rfl rfl sh3 rfl ?_
  refine o_call rfl (q18) (.lrefl _) ?_
  refine o_move rfl ?_
  refine o_extract rfl rfl rfl ?_
  refine o_extract rfl rfl rfl ?_
  refine o_assign rfl ?_
  refine o_assign rfl ?_
  refine o_nil ?_
  refine k_seq (k_region ?_)
  refine o_loadN rfl rfl rfl sh27 rfl ?_
  refine o_idxA rfl ty28 rfl rfl (by omega) (by omega) cl3 ?_
  refine o_load1 rfl rfl rfl sh3 rfl ?_
  refine o_idxA rfl ty28 rfl rfl (by omega) (by omega) cl3 ?_
  refine o_load1 rfl rfl rfl sh3 rfl ?_
  refine o_call rfl (q19) (.lrefl _) ?_
  refine o_move rfl ?_
  refine o_extract rfl rfl rfl ?_
  refine o_extract rfl rfl rfl ?_
  refine o_assign rfl ?_
  refine o_assign rfl ?_
  refine o_nil ?_
  refine k_gen [(5, .int .i64 x4), (7, .int .i64 x5), (8, .int .i64 x4), (10, .int .i64 x5)] ([SB.box [U.lst Kd.ro 3 (trisU (Shop.tools s)), .int .i64 (Shop.flo s), .int .i64 (Shop.fhi s), U.lst Kd.ro 3 (trisU (Shop.keys s))], SB.box [.int .i64 a, .int .i64 b]]) (.cons rfl (.cons rfl (.cons rfl (.cons rfl (.nil rfl))))) rfl fun fr => ?_
  refine k_seq (k_region ?_)
  refine o_move rfl ?_
  refine o_move rfl ?_
  refine o_eql rfl rfl rfl ?_
  refine o_move rfl ?_
  refine o_gD rfl rfl rfl rfl (decide_eq_true (by omega)) ?_
  refine o_move rfl ?_
  refine o_gD rfl rfl rfl rfl (decide_eq_true (by omega)) ?_
  refine o_move rfl ?_
  refine o_gD rfl rfl rfl rfl (decide_eq_true (by omega)) ?_
  refine o_eql rfl rfl rfl ?_
  refine o_pickT rfl rfl (decide_eq_true (by omega)) ?_
  refine o_move rfl ?_
  refine o_gD rfl rfl rfl rfl (decide_eq_true (by omega)) ?_
  refine o_call rfl (r20) (.lrefl _) ?_
  refine o_pickT rfl rfl (decide_eq_true (by omega)) ?_
  refine o_assign rfl ?_
  refine o_nil ?_
  refine k_ret ?_
  refine ⟨.inr rfl, _, .cons _ _ _ _ (.tmp 4) .nil, ?_⟩
  exact .refl _
theorem ret3_all {is : FuncId → Bool} {orc : Known} (hi : Off is) (r20 : RetP Try.prog is orc 20 [] (.bool true)) : ∀ us, ShpAs Try.prog [27, 28] us → RetP Try.prog is orc 3 us (.bool true) := shps_27_28 fun s a b => ret3 hi s a b r20
end Go.Proofs.Ytdahbimllmapkaa.raspNexts
