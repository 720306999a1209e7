/- rasp's functions and the law's, by the logic of trees: what each gives back for all that it may be given. -/
import Derived.Test.YtdahbimllmapkaaVamRaspPlays4
namespace Go.Proofs.Ytdahbimllmapkaa.raspPlays
open Vam
set_option linter.unusedVariables false
set_option linter.unusedSimpArgs false
set_option linter.constructorNameAsVariable false
variable {is : FuncId → Bool} {orc : Known}
noncomputable def b17 : Code := (Try.f17.body).getD .skip
theorem body17 : bodyOf Try.prog 17 = some (81, b17, [.tmp 2]) := by kernel_rfl
theorem pure17 : pureFn Try.prog 17 = true := by kernel_rfl
noncomputable def b49 : Code := (Try.f49.body).getD .skip
theorem body49 : bodyOf Try.prog 49 = some (13, b49, [.tmp 4]) := by kernel_rfl
theorem pure49 : pureFn Try.prog 49 = true := by kernel_rfl
def preB (s : Shop) : Bool := decide (1 ≤ s.tools.length ∧ s.tools.length ≤ 4 ∧ -60 ≤ s.flo ∧ s.flo ≤ s.fhi ∧ s.fhi ≤ 60 ∧ s.keys.length ≤ 6)
def toolB (t : Tri) : Bool := decide (-30 ≤ t.a ∧ t.a ≤ t.b ∧ t.b ≤ 30 ∧ 1 ≤ t.c ∧ t.c ≤ 10)
def keyB (t : Tri) : Bool := decide (-60 ≤ t.a ∧ t.a ≤ t.b ∧ t.b ≤ 60 ∧ 0 ≤ t.c ∧ t.c ≤ 30)
def shopOk (s : Shop) : Bool := preB s && s.tools.all toolB && s.keys.all keyB
theorem all_part {α : Type} {p : α → Bool} {l : List α} {n : Nat} (h : (l.take n).all p = false) : l.all p = false := by
  rw [List.all_eq_false] at h ⊢
  obtain ⟨x, hx, h⟩ := h
  exact ⟨x, List.mem_of_mem_take hx, h⟩
theorem take_all_succ {α : Type} {p : α → Bool} {l : List α} {n : Nat} {x : α} (h : l[n]? = some x) : (l.take (n + 1)).all p = ((l.take n).all p && p x) := by
  rw [List.take_add_one, h, List.all_append]; simp
theorem shop_ok {s : Shop} : shopOk s = true ↔ SOk s := by
  unfold shopOk
  rw [Bool.and_eq_true, Bool.and_eq_true, List.all_eq_true, List.all_eq_true]
  constructor
  · rintro ⟨⟨h1, h2⟩, h3⟩
    have h1 := of_decide_eq_true h1
    exact ⟨by omega, by omega, by omega, fun t ht => of_decide_eq_true (h2 t ht), fun t ht => of_decide_eq_true (h3 t ht)⟩
  · intro h
    have n1 := h.nt; have n2 := h.fine; have n3 := h.nk
    exact ⟨⟨decide_eq_true (by omega), fun t ht => decide_eq_true (h.tools t ht)⟩, fun t ht => decide_eq_true (h.keys t ht)⟩
theorem check_is (s : Shop) : checkR s.tools s.keys s.flo s.fhi = if shopOk s = true then 0 else 30 := by
  split
  · rename_i h; exact chk_ok (shop_ok.1 h)
  · rename_i h
    have : checkR s.tools s.keys s.flo s.fhi ≠ 0 := fun e => h (shop_ok.2 (ok_chk e))
    unfold checkR at this ⊢; split <;> simp_all
set_option maxHeartbeats 4000000 in
theorem ret17 (hi : Off is) (s : Shop) : RetP Try.prog is orc 17 [s.u] (.int .i64 (checkR s.tools s.keys s.flo s.fhi)) := by
  rw [check_is]
  refine ret_of body17 pure17 (hi 17 (by decide)) rfl rfl (dat_l1 (dat_shop s 5)) (.inl (.int _ _ _)) ?_
  refine k_seq (k_region ?_)
  refine o_box rfl rfl ?_
  refine o_assign rfl ?_
  refine o_nil ?_
  refine k_gen [(1, U.box 0 0)] ([SB.box [U.lst Kd.ro 3 (trisU (Shop.tools s)), .int .i64 (Shop.flo s), .int .i64 (Shop.fhi s), U.lst Kd.ro 3 (trisU (Shop.keys s))]]) (.cons rfl (.nil rfl)) rfl fun fr => ?_
  refine k_cut (fun st => st.st = [.box s.cs] ∧ Holds st [(1, .box 0 0), (3, .bool (preB s))]) ?_ (fun st hM => ?_)
  · refine k_region ?_
    refine o_faddr rfl rfl fld27_0 ?_
    refine o_load1 rfl rfl rfl sh22 rfl ?_
    refine o_len rfl ty22 rfl (List.length_map _) ?_
    refine o_geq rfl rfl rfl ?_
    refine o_move rfl ?_
    refine o_guardX rfl rfl rfl rfl (fun h10 => ?_) (fun h10 => ?_)
    · refine o_faddr rfl rfl fld27_0 ?_
      refine o_gD rfl rfl rfl rfl (by assumption) ?_
      refine o_load1 rfl rfl rfl sh22 rfl ?_
      refine o_gD rfl rfl rfl rfl (by assumption) ?_
      refine o_len rfl ty22 rfl (List.length_map _) ?_
      refine o_gD rfl rfl rfl rfl (by assumption) ?_
      refine o_leq rfl rfl rfl ?_
      refine o_genA [(1, U.box 0 0), (10, U.bool (Decidable.decide ((1 : Int) ≤ ↑(List.length (Shop.tools s))))), (14, U.bool (Decidable.decide (↑(List.length (Shop.tools s)) ≤ (4 : Int))))] [] ([SB.box [U.lst Kd.ro 3 (trisU (Shop.tools s)), .int .i64 (Shop.flo s), .int .i64 (Shop.fhi s), U.lst Kd.ro 3 (trisU (Shop.keys s))]]) (.cons rfl (.cons rfl (.cons rfl (.nil rfl)))) rfl rfl fun fr => ?_
      refine o_pickT rfl rfl (by assumption) ?_
      refine o_move rfl ?_
      refine o_guardX rfl rfl rfl rfl (fun h16 => ?_) (fun h16 => ?_)
      · refine o_faddr rfl rfl fld27_1 ?_
        refine o_gD rfl rfl rfl rfl (by assumption) ?_
        refine o_loadN rfl rfl rfl sh24 rfl ?_
        refine o_gD rfl rfl rfl rfl (by assumption) ?_
        refine o_call rfl (ret54 hi ..) (.lrefl _) ?_
        refine o_pickT rfl rfl (by assumption) ?_
        refine o_move rfl ?_
        refine o_guardX rfl rfl rfl rfl (fun h21 => ?_) (fun h21 => ?_)
        · refine o_faddr rfl rfl fld27_2 ?_
          refine o_gD rfl rfl rfl rfl (by assumption) ?_
          refine o_load1 rfl rfl rfl sh25 rfl ?_
          refine o_genA [(1, U.box 0 0), (21, U.bool (Decidable.decide ((-60 : Int) ≤ Shop.flo s) && (Decidable.decide (Shop.flo s ≤ Shop.fhi s) && Decidable.decide (Shop.fhi s ≤ (60 : Int))))), (23, U.lst Kd.ro 3 (trisU (Shop.keys s)))] [] ([SB.box [U.lst Kd.ro 3 (trisU (Shop.tools s)), .int .i64 (Shop.flo s), .int .i64 (Shop.fhi s), U.lst Kd.ro 3 (trisU (Shop.keys s))]]) (.cons rfl (.cons rfl (.cons rfl (.nil rfl)))) rfl rfl fun fr => ?_
          refine o_gD rfl rfl rfl rfl (by assumption) ?_
          refine o_genA [(1, U.box 0 0), (21, U.bool (Decidable.decide ((-60 : Int) ≤ Shop.flo s) && (Decidable.decide (Shop.flo s ≤ Shop.fhi s) && Decidable.decide (Shop.fhi s ≤ (60 : Int))))), (23, U.lst Kd.ro 3 (trisU (Shop.keys s)))] [] ([SB.box [U.lst Kd.ro 3 (trisU (Shop.tools s)), .int .i64 (Shop.flo s), .int .i64 (Shop.fhi s), U.lst Kd.ro 3 (trisU (Shop.keys s))]]) (.cons rfl (.cons rfl (.cons rfl (.nil rfl)))) rfl rfl fun fr => ?_
          refine o_len rfl ty25 rfl (List.length_map _) ?_
          refine o_gD rfl rfl rfl rfl (by assumption) ?_
          refine o_leq rfl rfl rfl ?_
          refine o_pickT rfl rfl (by assumption) ?_
          refine o_assign rfl ?_
          refine o_nil ?_
          exact ⟨rfl, rfl, .cons rfl (.cons (congrArg U.bool (Bool.eq_iff_iff.2 (by unfold preB; simp at *; omega))) (.nil rfl))⟩
        · refine o_gS rfl rfl rfl rfl (by assumption) ?_
          refine o_genA [(1, U.box 0 0), (21, U.bool (Decidable.decide ((-60 : Int) ≤ Shop.flo s) && (Decidable.decide (Shop.flo s ≤ Shop.fhi s) && Decidable.decide (Shop.fhi s ≤ (60 : Int))))), (23, U.tup [])] [] ([SB.box [U.lst Kd.ro 3 (trisU (Shop.tools s)), .int .i64 (Shop.flo s), .int .i64 (Shop.fhi s), U.lst Kd.ro 3 (trisU (Shop.keys s))]]) (.cons rfl (.cons rfl (.cons rfl (.nil rfl)))) rfl rfl fun fr => ?_
          refine o_gS rfl rfl rfl rfl (by assumption) ?_
          refine o_gS rfl rfl rfl rfl (by assumption) ?_
          refine o_pickF rfl rfl (by assumption) ?_
          refine o_assign rfl ?_
          refine o_nil ?_
          exact ⟨rfl, rfl, .cons rfl (.cons (congrArg U.bool (Bool.eq_iff_iff.2 (by unfold preB; simp at *; omega))) (.nil rfl))⟩
      · refine o_gS rfl rfl rfl rfl (by assumption) ?_
        refine o_gS rfl rfl rfl rfl (by assumption) ?_
        refine o_pickF rfl rfl (by assumption) ?_
        refine o_move rfl ?_
        refine o_gS rfl rfl rfl rfl rfl ?_
        refine o_gS rfl rfl rfl rfl rfl ?_
        refine o_genA [(1, U.box 0 0), (21, U.bool Bool.false), (23, U.tup [])] [] ([SB.box [U.lst Kd.ro 3 (trisU (Shop.tools s)), .int .i64 (Shop.flo s), .int .i64 (Shop.fhi s), U.lst Kd.ro 3 (trisU (Shop.keys s))]]) (.cons rfl (.cons rfl (.cons rfl (.nil rfl)))) rfl rfl fun fr => ?_
        refine o_gS rfl rfl rfl rfl rfl ?_
        refine o_gS rfl rfl rfl rfl rfl ?_
        refine o_pickF rfl rfl rfl ?_
        refine o_assign rfl ?_
        refine o_nil ?_
        exact ⟨rfl, rfl, .cons rfl (.cons (congrArg U.bool (Bool.eq_iff_iff.2 (by unfold preB; simp at *; omega))) (.nil rfl))⟩
    · refine o_gS rfl rfl rfl rfl (by assumption) ?_
      refine o_gS rfl rfl rfl rfl (by assumption) ?_
      refine o_gS rfl rfl rfl rfl (by assumption) ?_
      refine o_genA [(1, U.box 0 0), (10, U.bool (Decidable.decide ((1 : Int) ≤ ↑(List.length (Shop.tools s))))), (14, U.tup [])] [] ([SB.box [U.lst Kd.ro 3 (trisU (Shop.tools s)), .int .i64 (Shop.flo s), .int .i64 (Shop.fhi s), U.lst Kd.ro 3 (trisU (Shop.keys s))]]) (.cons rfl (.cons rfl (.cons rfl (.nil rfl)))) rfl rfl fun fr => ?_
      refine o_pickF rfl rfl (by assumption) ?_
      refine o_move rfl ?_
      refine o_gS rfl rfl rfl rfl rfl ?_
      refine o_gS rfl rfl rfl rfl rfl ?_
      refine o_gS rfl rfl rfl rfl rfl ?_
      refine o_pickF rfl rfl rfl ?_
      refine o_move rfl ?_
      refine o_gS rfl rfl rfl rfl rfl ?_
      refine o_gS rfl rfl rfl rfl rfl ?_
      refine o_genA [(1, U.box 0 0), (21, U.bool Bool.false), (23, U.tup [])] [] ([SB.box [U.lst Kd.ro 3 (trisU (Shop.tools s)), .int .i64 (Shop.flo s), .int .i64 (Shop.fhi s), U.lst Kd.ro 3 (trisU (Shop.keys s))]]) (.cons rfl (.cons rfl (.cons rfl (.nil rfl)))) rfl rfl fun fr => ?_
      refine o_gS rfl rfl rfl rfl rfl ?_
      refine o_gS rfl rfl rfl rfl rfl ?_
      refine o_pickF rfl rfl rfl ?_
      refine o_assign rfl ?_
      refine o_nil ?_
      exact ⟨rfl, rfl, .cons rfl (.cons (congrArg U.bool (Bool.eq_iff_iff.2 (by unfold preB; simp at *; omega))) (.nil rfl))⟩
  obtain ⟨hst, hs⟩ := hM
  generalize hP : preB s = P at hs
  have hP0 := hP
  refine k_gen _ _ hs hst fun fr => ?_
  refine k_cut (fun st => st.st = [.box s.cs] ∧ Holds st [(1, .box 0 0), (3, .bool (P && s.tools.all toolB))]) ?_ (fun st hM => ?_)
  · refine k_seq (k_region ?_)
    refine o_assign rfl ?_
    refine o_nil ?_
    refine k_block ?_
    refine k_loop (fun k st => ∃ (i : Nat) (c : Bool), k + i = s.tools.length ∧ c = (P && (s.tools.take i).all toolB) ∧ st.st = [.box s.cs] ∧ Holds st [(1, .box 0 0), (3, .bool c), (4, .int .i64 i)]) (fun k st hI => ?_) s.tools.length _ ?_
    · obtain ⟨i, c, hki, hc, hst, hs⟩ := hI
      refine k_gen _ _ hs hst fun fr => ?_
      cases c with
      | false =>
        refine k_seq ?_
        refine k_seq (k_region ?_)
        refine o_move rfl ?_
        refine o_move rfl ?_
        refine o_gS rfl rfl rfl rfl rfl ?_
        refine o_gS rfl rfl rfl rfl rfl ?_
        refine o_gS rfl rfl rfl rfl rfl ?_
        refine o_gS rfl rfl rfl rfl rfl ?_
        refine o_gS rfl rfl rfl rfl rfl ?_
        refine o_pickF rfl rfl rfl ?_
        refine o_nil ?_
        refine k_cF rfl rfl ?_
        refine k_exit ?_
        refine ⟨rfl, rfl, .cons rfl (.cons (congrArg U.bool ?_) (.nil rfl))⟩
        skip
        rcases Bool.and_eq_false_iff.1 hc.symm with h | h
        · rw [h]; rfl
        · rw [all_part h, Bool.and_false]
      | true =>
        obtain ⟨hp, hX⟩ := Bool.and_eq_true_iff.1 hc.symm
        rw [hp] at hP
        have hpre := of_decide_eq_true hP
        refine k_seq ?_
        refine k_seq (k_region ?_)
        refine o_move rfl ?_
        refine o_move rfl ?_
        refine o_gD rfl rfl rfl rfl rfl ?_
        refine o_move rfl ?_
        refine o_gD rfl rfl rfl rfl rfl ?_
        refine o_faddr rfl rfl fld27_0 ?_
        refine o_gD rfl rfl rfl rfl rfl ?_
        refine o_load1 rfl rfl rfl sh22 rfl ?_
        refine o_gD rfl rfl rfl rfl rfl ?_
        refine o_len rfl ty22 rfl (List.length_map _) ?_
        refine o_gD rfl rfl rfl rfl rfl ?_
        refine o_lss rfl rfl rfl ?_
        refine o_pickT rfl rfl rfl ?_
        refine o_nil ?_
        refine k_cond rfl (fun h34 => ?_) (fun h34 => ?_)
        · refine k_skip ?_
          refine k_seq ?_
          refine k_block ?_
          refine k_region ?_
          refine o_faddr rfl rfl fld27_0 ?_
          refine o_load1 rfl rfl rfl sh22 rfl ?_
          refine o_move rfl ?_
          have hil : i < s.tools.length := by have := of_decide_eq_true h34; omega
          obtain ⟨q, hq⟩ : ∃ q, s.tools[i]? = some q := ⟨s.tools[i], List.getElem?_eq_getElem hil⟩
          have hsucc := take_all_succ (p := toolB) hq
          refine o_idx (u := (q).u) rfl ty22 rfl rfl (Int.natCast_nonneg _) (by simp [hq]) cl52 ?_
          refine o_faddrR rfl rfl fld52_0 ?_
          refine o_loadRN rfl rfl sh24 rfl ?_
          refine o_call rfl (ret54 hi ..) (.lrefl _) ?_
          refine o_move rfl ?_
          refine o_guardX rfl rfl rfl rfl (fun h44 => ?_) (fun h44 => ?_)
          · refine o_faddr rfl rfl fld27_0 ?_
            refine o_gD rfl rfl rfl rfl (by assumption) ?_
            refine o_load1 rfl rfl rfl sh22 rfl ?_
            refine o_gD rfl rfl rfl rfl (by assumption) ?_
            refine o_move rfl ?_
            refine o_gD rfl rfl rfl rfl (by assumption) ?_
            refine o_idx (u := (q).u) rfl ty22 rfl rfl (Int.natCast_nonneg _) (by simp [hq]) cl52 ?_
            refine o_gD rfl rfl rfl rfl (by assumption) ?_
            refine o_faddrR rfl rfl fld52_1 ?_
            refine o_gD rfl rfl rfl rfl (by assumption) ?_
            refine o_loadR1 rfl rfl sh3 rfl ?_
            refine o_gD rfl rfl rfl rfl (by assumption) ?_
            refine o_call rfl (ret34 hi ..) (.lrefl _) ?_
            refine o_pickT rfl rfl (by assumption) ?_
            refine o_assign rfl ?_
            refine o_nil ?_
            refine k_region ?_
            refine o_move rfl ?_
            refine o_add rfl rfl rfl (by unfold I64; omega) ?_
            refine o_assign rfl ?_
            refine o_nil ?_
            refine ⟨k - 1, by omega, i + 1, _, by omega, ?_, rfl, .cons rfl (.cons rfl (.cons rfl (.nil rfl)))⟩
            rw [hsucc, hp, hX, Bool.eq_iff_iff]; unfold toolB; simp at *; omega
          · refine o_gS rfl rfl rfl rfl (by assumption) ?_
            refine o_gS rfl rfl rfl rfl (by assumption) ?_
            refine o_gS rfl rfl rfl rfl (by assumption) ?_
            refine o_gS rfl rfl rfl rfl (by assumption) ?_
            refine o_gS rfl rfl rfl rfl (by assumption) ?_
            refine o_gS rfl rfl rfl rfl (by assumption) ?_
            refine o_pickF rfl rfl (by assumption) ?_
            refine o_assign rfl ?_
            refine o_nil ?_
            refine k_region ?_
            refine o_move rfl ?_
            refine o_add rfl rfl rfl (by unfold I64; omega) ?_
            refine o_assign rfl ?_
            refine o_nil ?_
            refine ⟨k - 1, by omega, i + 1, _, by omega, ?_, rfl, .cons rfl (.cons rfl (.cons rfl (.nil rfl)))⟩
            rw [hsucc, hp, hX, Bool.eq_iff_iff]; unfold toolB; simp at *; omega
        · refine k_exit ?_
          have hil : i = s.tools.length := by have := of_decide_eq_false h34; omega
          subst hil
          rw [List.take_length] at hX
          refine ⟨rfl, rfl, .cons rfl (.cons (congrArg U.bool ?_) (.nil rfl))⟩
          skip
          rw [hp, hX]; rfl
    · exact ⟨0, _, by omega, by simp, rfl, .cons rfl (.cons rfl (.cons rfl (.nil rfl)))⟩
  obtain ⟨hst, hs⟩ := hM
  generalize hP2 : (P && s.tools.all toolB) = P2 at hs
  refine k_gen _ _ hs hst fun fr => ?_
  refine k_cut (fun st => st.st = [.box s.cs] ∧ Holds st [(1, .box 0 0), (3, .bool (shopOk s))]) ?_ (fun st hM => ?_)
  · refine k_seq (k_region ?_)
    refine o_assign rfl ?_
    refine o_nil ?_
    refine k_block ?_
    refine k_loop (fun k st => ∃ (i : Nat) (c : Bool), k + i = s.keys.length ∧ c = (P2 && (s.keys.take i).all keyB) ∧ st.st = [.box s.cs] ∧ Holds st [(1, .box 0 0), (3, .bool c), (5, .int .i64 i)]) (fun k st hI => ?_) s.keys.length _ ?_
    · obtain ⟨i, c, hki, hc, hst, hs⟩ := hI
      refine k_gen _ _ hs hst fun fr => ?_
      cases c with
      | false =>
        refine k_seq ?_
        refine k_seq (k_region ?_)
        refine o_move rfl ?_
        refine o_move rfl ?_
        refine o_gS rfl rfl rfl rfl rfl ?_
        refine o_gS rfl rfl rfl rfl rfl ?_
        refine o_gS rfl rfl rfl rfl rfl ?_
        refine o_gS rfl rfl rfl rfl rfl ?_
        refine o_gS rfl rfl rfl rfl rfl ?_
        refine o_pickF rfl rfl rfl ?_
        refine o_nil ?_
        refine k_cF rfl rfl ?_
        refine k_exit ?_
        refine ⟨rfl, rfl, .cons rfl (.cons (congrArg U.bool ?_) (.nil rfl))⟩
        show _ = (preB s && s.tools.all toolB && s.keys.all keyB)
        rw [hP0, hP2]
        rcases Bool.and_eq_false_iff.1 hc.symm with h | h
        · rw [h]; rfl
        · rw [all_part h, Bool.and_false]
      | true =>
        obtain ⟨hp, hX⟩ := Bool.and_eq_true_iff.1 hc.symm
        rw [hp] at hP2
        rw [(Bool.and_eq_true_iff.1 hP2).1] at hP
        have hpre := of_decide_eq_true hP
        refine k_seq ?_
        refine k_seq (k_region ?_)
        refine o_move rfl ?_
        refine o_move rfl ?_
        refine o_gD rfl rfl rfl rfl rfl ?_
        refine o_move rfl ?_
        refine o_gD rfl rfl rfl rfl rfl ?_
        refine o_faddr rfl rfl fld27_2 ?_
        refine o_gD rfl rfl rfl rfl rfl ?_
        refine o_load1 rfl rfl rfl sh25 rfl ?_
        refine o_gD rfl rfl rfl rfl rfl ?_
        refine o_len rfl ty25 rfl (List.length_map _) ?_
        refine o_gD rfl rfl rfl rfl rfl ?_
        refine o_lss rfl rfl rfl ?_
        refine o_pickT rfl rfl rfl ?_
        refine o_nil ?_
        refine k_cond rfl (fun h60 => ?_) (fun h60 => ?_)
        · refine k_skip ?_
          refine k_seq ?_
          refine k_block ?_
          refine k_region ?_
          refine o_faddr rfl rfl fld27_2 ?_
          refine o_load1 rfl rfl rfl sh25 rfl ?_
          refine o_move rfl ?_
          have hil : i < s.keys.length := by have := of_decide_eq_true h60; omega
          obtain ⟨q, hq⟩ : ∃ q, s.keys[i]? = some q := ⟨s.keys[i], List.getElem?_eq_getElem hil⟩
          have hsucc := take_all_succ (p := keyB) hq
          refine o_idx (u := (q).u) rfl ty25 rfl rfl (Int.natCast_nonneg _) (by simp [hq]) cl64 ?_
          refine o_faddrR rfl rfl fld64_0 ?_
          refine o_loadRN rfl rfl sh24 rfl ?_
          refine o_call rfl (ret54 hi ..) (.lrefl _) ?_
          refine o_move rfl ?_
          refine o_guardX rfl rfl rfl rfl (fun h70 => ?_) (fun h70 => ?_)
          · refine o_faddr rfl rfl fld27_2 ?_
            refine o_gD rfl rfl rfl rfl (by assumption) ?_
            refine o_load1 rfl rfl rfl sh25 rfl ?_
            refine o_gD rfl rfl rfl rfl (by assumption) ?_
            refine o_move rfl ?_
            refine o_gD rfl rfl rfl rfl (by assumption) ?_
            refine o_idx (u := (q).u) rfl ty25 rfl rfl (Int.natCast_nonneg _) (by simp [hq]) cl64 ?_
            refine o_gD rfl rfl rfl rfl (by assumption) ?_
            refine o_faddrR rfl rfl fld64_1 ?_
            refine o_gD rfl rfl rfl rfl (by assumption) ?_
            refine o_loadR1 rfl rfl sh3 rfl ?_
            refine o_gD rfl rfl rfl rfl (by assumption) ?_
            refine o_call rfl (ret34 hi ..) (.lrefl _) ?_
            refine o_pickT rfl rfl (by assumption) ?_
            refine o_assign rfl ?_
            refine o_nil ?_
            refine k_region ?_
            refine o_move rfl ?_
            refine o_add rfl rfl rfl (by unfold I64; omega) ?_
            refine o_assign rfl ?_
            refine o_nil ?_
            refine ⟨k - 1, by omega, i + 1, _, by omega, ?_, rfl, .cons rfl (.cons rfl (.cons rfl (.nil rfl)))⟩
            rw [hsucc, hp, hX, Bool.eq_iff_iff]; unfold keyB; simp at *; omega
          · refine o_gS rfl rfl rfl rfl (by assumption) ?_
            refine o_gS rfl rfl rfl rfl (by assumption) ?_
            refine o_gS rfl rfl rfl rfl (by assumption) ?_
            refine o_gS rfl rfl rfl rfl (by assumption) ?_
            refine o_gS rfl rfl rfl rfl (by assumption) ?_
            refine o_gS rfl rfl rfl rfl (by assumption) ?_
            refine o_pickF rfl rfl (by assumption) ?_
            refine o_assign rfl ?_
            refine o_nil ?_
            refine k_region ?_
            refine o_move rfl ?_
            refine o_add rfl rfl rfl (by unfold I64; omega) ?_
            refine o_assign rfl ?_
            refine o_nil ?_
            refine ⟨k - 1, by omega, i + 1, _, by omega, ?_, rfl, .cons rfl (.cons rfl (.cons rfl (.nil rfl)))⟩
            rw [hsucc, hp, hX, Bool.eq_iff_iff]; unfold keyB; simp at *; omega
        · refine k_exit ?_
          have hil : i = s.keys.length := by have := of_decide_eq_false h60; omega
          subst hil
          rw [List.take_length] at hX
          refine ⟨rfl, rfl, .cons rfl (.cons (congrArg U.bool ?_) (.nil rfl))⟩
          show _ = (preB s && s.tools.all toolB && s.keys.all keyB)
          rw [hP0, hP2, hX]; rfl
    · exact ⟨0, _, by omega, by simp, rfl, .cons rfl (.cons rfl (.cons rfl (.nil rfl)))⟩
  obtain ⟨hst, hs⟩ := hM
  refine k_gen _ _ hs hst fun fr => ?_
  cases shopOk s with
  | true =>
    refine k_seq ?_
    refine k_seq (k_region ?_)
    refine o_move rfl ?_
    refine o_not rfl rfl ?_
    refine o_nil ?_
    refine k_cF rfl rfl ?_
    refine k_skip ?_
    refine k_seq (k_region ?_)
    refine o_assign rfl ?_
    refine o_nil ?_
    refine k_ret ?_
    refine ⟨.inr rfl, _, .cons _ _ _ _ (.tmp 2) .nil, ?_⟩
    exact .refl _
  | false =>
    refine k_seq ?_
    refine k_seq (k_region ?_)
    refine o_move rfl ?_
    refine o_not rfl rfl ?_
    refine o_nil ?_
    refine k_cT rfl rfl ?_
    refine k_seq (k_region ?_)
    refine o_assign rfl ?_
    refine o_nil ?_
    refine k_ret ?_
    refine ⟨.inr rfl, _, .cons _ _ _ _ (.tmp 2) .nil, ?_⟩
    exact .refl _
def askR (s : Shop) (b : Bool) : Int := if checkR s.tools s.keys s.flo s.fhi ≠ 0 then checkR s.tools s.keys s.flo s.fhi else if b = true then 0 else 31
set_option maxHeartbeats 4000000 in
theorem ret49 (hi : Off is) (s : Shop) (b : Bool) : RetP Try.prog is orc 49 [s.u, .bool b] (.int .i64 (askR s b)) := by
  have q17 := ret17 (orc := orc) hi s
  unfold askR
  generalize checkR s.tools s.keys s.flo s.fhi = c at q17
  refine ret_of body49 pure49 (hi 49 (by decide)) rfl rfl (dat_l2 (dat_shop s 5) (.bool _ _)) (.inl (.int _ _ _)) ?_
  by_cases h : c ≠ 0
  · rw [if_pos h]
    refine k_seq (k_region ?_)
    refine o_box rfl rfl ?_
    refine o_assign rfl ?_
    refine o_nil ?_
    refine k_gen [(1, U.bool b), (2, U.box 0 0)] ([SB.box [U.lst Kd.ro 3 (trisU (Shop.tools s)), .int .i64 (Shop.flo s), .int .i64 (Shop.fhi s), U.lst Kd.ro 3 (trisU (Shop.keys s))]]) (.cons rfl (.cons rfl (.nil rfl))) rfl fun fr => ?_
    refine k_seq ?_
    refine k_seq (k_region ?_)
    refine o_loadN rfl rfl rfl sh27 rfl ?_
    refine o_call rfl (q17) (.lrefl _) ?_
    refine o_assign rfl ?_
    refine o_nil ?_
    refine k_seq (k_region ?_)
    refine o_move rfl ?_
    refine o_neq rfl rfl rfl ?_
    refine o_nil ?_
    refine k_cT rfl (decide_eq_true (by omega)) ?_
    refine k_seq (k_region ?_)
    refine o_move rfl ?_
    refine o_assign rfl ?_
    refine o_nil ?_
    refine k_ret ?_
    refine ⟨.inr rfl, _, .cons _ _ _ _ (.tmp 4) .nil, ?_⟩
    exact .refl _
  · rw [if_neg h]
    cases b with
    | true =>
      refine k_seq (k_region ?_)
      refine o_box rfl rfl ?_
      refine o_assign rfl ?_
      refine o_nil ?_
      refine k_gen [(1, U.bool Bool.true), (2, U.box 0 0)] ([SB.box [U.lst Kd.ro 3 (trisU (Shop.tools s)), .int .i64 (Shop.flo s), .int .i64 (Shop.fhi s), U.lst Kd.ro 3 (trisU (Shop.keys s))]]) (.cons rfl (.cons rfl (.nil rfl))) rfl fun fr => ?_
      refine k_seq ?_
      refine k_seq (k_region ?_)
      refine o_loadN rfl rfl rfl sh27 rfl ?_
      refine o_call rfl (q17) (.lrefl _) ?_
      refine o_assign rfl ?_
      refine o_nil ?_
      refine k_seq (k_region ?_)
      refine o_move rfl ?_
      refine o_neq rfl rfl rfl ?_
      refine o_nil ?_
      refine k_cF rfl (decide_eq_false (by omega)) ?_
      refine k_skip ?_
      refine k_seq ?_
      refine k_seq (k_region ?_)
      refine o_move rfl ?_
      refine o_not rfl rfl ?_
      refine o_nil ?_
      refine k_cF rfl rfl ?_
      refine k_skip ?_
      refine k_seq (k_region ?_)
      refine o_assign rfl ?_
      refine o_nil ?_
      refine k_ret ?_
      refine ⟨.inr rfl, _, .cons _ _ _ _ (.tmp 4) .nil, ?_⟩
      exact .refl _
    | false =>
      refine k_seq (k_region ?_)
      refine o_box rfl rfl ?_
      refine o_assign rfl ?_
      refine o_nil ?_
      refine k_gen [(1, U.bool Bool.false), (2, U.box 0 0)] ([SB.box [U.lst Kd.ro 3 (trisU (Shop.tools s)), .int .i64 (Shop.flo s), .int .i64 (Shop.fhi s), U.lst Kd.ro 3 (trisU (Shop.keys s))]]) (.cons rfl (.cons rfl (.nil rfl))) rfl fun fr => ?_
      refine k_seq ?_
      refine k_seq (k_region ?_)
      refine o_loadN rfl rfl rfl sh27 rfl ?_
      refine o_call rfl (q17) (.lrefl _) ?_
      refine o_assign rfl ?_
      refine o_nil ?_
      refine k_seq (k_region ?_)
      refine o_move rfl ?_
      refine o_neq rfl rfl rfl ?_
      refine o_nil ?_
      refine k_cF rfl (decide_eq_false (by omega)) ?_
      refine k_skip ?_
      refine k_seq ?_
      refine k_seq (k_region ?_)
      refine o_move rfl ?_
      refine o_not rfl rfl ?_
      refine o_nil ?_
      refine k_cT rfl rfl ?_
      refine k_seq (k_region ?_)
      refine o_assign rfl ?_
      refine o_nil ?_
      refine k_ret ?_
      refine ⟨.inr rfl, _, .cons _ _ _ _ (.tmp 4) .nil, ?_⟩
      exact .refl _
theorem nv31 {x : Int} (h : x = 31) : nv x = 1000 := if_pos h
theorem nv_ne {x : Int} (h : x ≠ 31) : nv x = x := if_neg h
theorem ask_bad {s : Shop} {b : Bool} (h : askR s b ≠ 0) : (checkR s.tools s.keys s.flo s.fhi ≠ 0 ∧ askR s b = checkR s.tools s.keys s.flo s.fhi) ∨ (checkR s.tools s.keys s.flo s.fhi = 0 ∧ b = false ∧ askR s b = 31) := by
  unfold askR at h ⊢
  by_cases hc : checkR s.tools s.keys s.flo s.fhi ≠ 0
  · rw [if_pos hc]; exact .inl ⟨hc, rfl⟩
  · rw [if_neg hc] at h ⊢
    cases b with
    | true => exact absurd rfl h
    | false => exact .inr ⟨by omega, rfl, rfl⟩
theorem ask46 (hi : Off is) {s : Shop} {b : Bool} (h : askR s b ≠ 0) : RetP Try.prog is orc 46 [s.u, .bool b] (.tup [.agg z6, .int .i64 (askR s b)]) := by
  have hck := chk (orc := orc) hi s
  rcases ask_bad h with ⟨h1, h2⟩ | ⟨h1, rfl, h2⟩
  · rw [h2]; exact ret46e s h1 hck b
  · rw [h2]; rw [h1] at hck; exact ret46q s hck
theorem row_for (s : Shop) {m : Int} (h : 0 ≤ m ∧ m ≤ 30) : (rowsL s true 31)[m.toNat]? = some (rowL s true m) := by
  have := rows_get s true (n := 31) (k := m.toNat) (by omega)
  rwa [show ((m.toNat : Nat) : Int) = m by omega] at this
def hkB (s : Shop) (key : Int) : Bool := decide (0 ≤ key) && decide (key < s.keys.length)
theorem hkB_sits (s : Shop) (key : Int) : (decide (0 ≤ key) && decide (key ≤ (s.keys.length : Int) - 1)) = hkB s key := by
  unfold hkB
  rw [show decide (key ≤ (s.keys.length : Int) - 1) = decide (key < s.keys.length) by rw [decide_eq_decide]; omega]
theorem hkB_key {s : Shop} {key : Int} (h : hkB s key = true) : ∃ (i : Nat) (q : Tri), key = i ∧ s.keys[i]? = some q := by
  unfold hkB at h
  simp at h
  obtain ⟨q, hq⟩ := hk_has (s := s) (i := key.toNat) (by omega)
  exact ⟨key.toNat, q, by omega, hq⟩
theorem ask_check {s : Shop} {b : Bool} (h : ¬ s.keys.length ≤ 6) : askR s b = 30 := by
  have hc : ¬ shopOk s = true := fun e => by have := (shop_ok.1 e).nk; omega
  unfold askR; rw [check_is, if_neg hc]; rfl
end Go.Proofs.Ytdahbimllmapkaa.raspPlays
