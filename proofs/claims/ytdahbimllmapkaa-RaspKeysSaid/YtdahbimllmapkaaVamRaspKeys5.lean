/- rasp's functions and the law's, by the logic of trees: what each gives back for all that it may be given. -/
import Derived.Test.YtdahbimllmapkaaVamRaspKeys4
namespace Go.Proofs.Ytdahbimllmapkaa.raspKeys
open Vam
set_option linter.unusedVariables false
set_option linter.unusedSimpArgs false
set_option linter.constructorNameAsVariable false
variable {is : FuncId → Bool} {orc : Known}
noncomputable def b17 : Code := (Try.f17.body).getD .skip
theorem body17 : bodyOf Try.prog 17 = some (81, b17, [.tmp 2]) := by kernel_rfl
theorem pure17 : pureFn Try.prog 17 = true := by kernel_rfl
noncomputable def b49 : Code := (Try.f49.body).getD .skip
theorem body49 : bodyOf Try.prog 49 = some (13, b49, [.tmp 4]) := by kernel_rfl
theorem pure49 : pureFn Try.prog 49 = true := by kernel_rfl
noncomputable def b50 : Code := (Try.f50.body).getD .skip
theorem body50 : bodyOf Try.prog 50 = some (11, b50, [.tmp 4]) := by kernel_rfl
theorem pure50 : pureFn Try.prog 50 = true := by kernel_rfl
def preB (s : Shop) : Bool := decide (1 ≤ s.tools.length ∧ s.tools.length ≤ 4 ∧ -60 ≤ s.flo ∧ s.flo ≤ s.fhi ∧ s.fhi ≤ 60 ∧ s.keys.length ≤ 6)
def toolB (t : Tri) : Bool := decide (-30 ≤ t.a ∧ t.a ≤ t.b ∧ t.b ≤ 30 ∧ 1 ≤ t.c ∧ t.c ≤ 10)
def keyB (t : Tri) : Bool := decide (-60 ≤ t.a ∧ t.a ≤ t.b ∧ t.b ≤ 60 ∧ 0 ≤ t.c ∧ t.c ≤ 30)
def shopOk (s : Shop) : Bool := preB s && s.tools.all toolB && s.keys.all keyB
theorem all_part {α : Type} {p : α → Bool} {l : List α} {n : Nat} (h : (l.take n).all p = false) : l.all p = false := by
  rw [List.all_eq_false] at h ⊢
  obtain ⟨x, hx, h⟩ := h
  exact ⟨x, List.mem_of_mem_take hx, h⟩
theorem take_all_succ {α : Type} {p : α → Bool} {l : List α} {n : Nat} {x : α} (h : l[n]? = some x) : (l.take (n + 1)).all p = ((l.take n).all p && p x) := by
  rw [List.take_add_one, h, List.all_append]; simp
theorem shop_ok {s : Shop} : shopOk s = true ↔ SOk s := by
  unfold shopOk
  rw [Bool.and_eq_true, Bool.and_eq_true, List.all_eq_true, List.all_eq_true]
  constructor
  · rintro ⟨⟨h1, h2⟩, h3⟩
    have h1 := of_decide_eq_true h1
    exact ⟨by omega, by omega, by omega, fun t ht => of_decide_eq_true (h2 t ht), fun t ht => of_decide_eq_true (h3 t ht)⟩
  · intro h
    have n1 := h.nt; have n2 := h.fine; have n3 := h.nk
    exact ⟨⟨decide_eq_true (by omega), fun t ht => decide_eq_true (h.tools t ht)⟩, fun t ht => decide_eq_true (h.keys t ht)⟩
theorem check_is (s : Shop) : checkR s.tools s.keys s.flo s.fhi = if shopOk s = true then 0 else 30 := by
  split
  · rename_i h; exact chk_ok (shop_ok.1 h)
  · rename_i h
    have : checkR s.tools s.keys s.flo s.fhi ≠ 0 := fun e => h (shop_ok.2 (ok_chk e))
    unfold checkR at this ⊢; split <;> simp_all
set_option maxHeartbeats 4000000 in
theorem ret17 (hi : Off is) (s : Shop) : RetP Try.prog is orc 17 [s.u] (.int .i64 (checkR s.tools s.keys s.flo s.fhi)) := by
  rw [check_is]
  refine ret_of body17 pure17 (hi 17 (by decide)) rfl rfl (dat_l1 (dat_shop s 5)) (.inl (.int _ _ _)) ?_
  refine k_seq (k_region ?_)
  refine o_box rfl rfl ?_
  refine o_assign rfl ?_
  refine o_nil ?_
  refine k_gen [(1, U.box 0 0)] ([SB.box [U.lst Kd.ro 3 (trisU (Shop.tools s)), .int .i64 (Shop.flo s), .int .i64 (Shop.fhi s), U.lst Kd.ro 3 (trisU (Shop.keys s))]]) (.cons rfl (.nil rfl)) rfl fun fr => ?_
  refine k_cut (fun st => st.st = [.box s.cs] ∧ Holds st [(1, .box 0 0), (3, .bool (preB s))]) ?_ (fun st hM => ?_)
  · refine k_region ?_
    refine o_faddr rfl rfl fld27_0 ?_
    refine o_load1 rfl rfl rfl sh22 rfl ?_
    refine o_len rfl ty22 rfl (List.length_map _) ?_
    refine o_geq rfl rfl rfl ?_
    refine o_move rfl ?_
    refine o_guardX rfl rfl rfl rfl (fun h10 => ?_) (fun h10 => ?_)
    · refine o_faddr rfl rfl fld27_0 ?_
      refine o_gD rfl rfl rfl rfl (by assumption) ?_
      refine o_load1 rfl rfl rfl sh22 rfl ?_
      refine o_gD rfl rfl rfl rfl (by assumption) ?_
      refine o_len rfl ty22 rfl (List.length_map _) ?_
      refine o_gD rfl rfl rfl rfl (by assumption) ?_
      refine o_leq rfl rfl rfl ?_
      refine o_genA [(1, U.box 0 0), (10, U.bool (Decidable.decide ((1 : Int) ≤ ↑(List.length (Shop.tools s))))), (14, U.bool (Decidable.decide (↑(List.length (Shop.tools s)) ≤ (4 : Int))))] [] ([SB.box [U.lst Kd.ro 3 (trisU (Shop.tools s)), .int .i64 (Shop.flo s), .int .i64 (Shop.fhi s), U.lst Kd.ro 3 (trisU (Shop.keys s))]]) (.cons rfl (.cons rfl (.cons rfl (.nil rfl)))) rfl rfl fun fr => ?_
      refine o_pickT rfl rfl (by assumption) ?_
      refine o_move rfl ?_
      refine o_guardX rfl rfl rfl rfl (fun h16 => ?_) (fun h16 => ?_)
      · refine o_faddr rfl rfl fld27_1 ?_
        refine o_gD rfl rfl rfl rfl (by assumption) ?_
        refine o_loadN rfl rfl rfl sh24 rfl ?_
        refine o_gD rfl rfl rfl rfl (by assumption) ?_
        refine o_call rfl (ret54 hi ..) (.lrefl _) ?_
        refine o_pickT rfl rfl (by assumption) ?_
        refine o_move rfl ?_
        refine o_guardX rfl rfl rfl rfl (fun h21 => ?_) (fun h21 => ?_)
        · refine o_faddr rfl rfl fld27_2 ?_
          refine o_gD rfl rfl rfl rfl (by assumption) ?_
          refine o_load1 rfl rfl rfl sh25 rfl ?_
          refine o_genA [(1, U.box 0 0), (21, U.bool (Decidable.decide ((-60 : Int) ≤ Shop.flo s) && (Decidable.decide (Shop.flo s ≤ Shop.fhi s) && Decidable.decide (Shop.fhi s ≤ (60 : Int))))), (23, U.lst Kd.ro 3 (trisU (Shop.keys s)))] [] ([SB.box [U.lst Kd.ro 3 (trisU (Shop.tools s)), .int .i64 (Shop.flo s), .int .i64 (Shop.fhi s), U.lst Kd.ro 3 (trisU (Shop.keys s))]]) (.cons rfl (.cons rfl (.cons rfl (.nil rfl)))) rfl rfl fun fr => ?_
          refine o_gD rfl rfl rfl rfl (by assumption) ?_
          refine o_genA [(1, U.box 0 0), (21, U.bool (Decidable.decide ((-60 : Int) ≤ Shop.flo s) && (Decidable.decide (Shop.flo s ≤ Shop.fhi s) && Decidable.decide (Shop.fhi s ≤ (60 : Int))))), (23, U.lst Kd.ro 3 (trisU (Shop.keys s)))] [] ([SB.box [U.lst Kd.ro 3 (trisU (Shop.tools s)), .int .i64 (Shop.flo s), .int .i64 (Shop.fhi s), U.lst Kd.ro 3 (trisU (Shop.keys s))]]) (.cons rfl (.cons rfl (.cons rfl (.nil rfl)))) rfl rfl fun fr => ?_
          refine o_len rfl ty25 rfl (List.length_map _) ?_
          refine o_gD rfl rfl rfl rfl (by assumption) ?_
          refine o_leq rfl rfl rfl ?_
          refine o_pickT rfl rfl (by assumption) ?_
          refine o_assign rfl ?_
          refine o_nil ?_
          exact ⟨rfl, rfl, .cons rfl (.cons (congrArg U.bool (Bool.eq_iff_iff.2 (by unfold preB; simp at *; omega))) (.nil rfl))⟩
        · refine o_gS rfl rfl rfl rfl (by assumption) ?_
          refine o_genA [(1, U.box 0 0), (21, U.bool (Decidable.decide ((-60 : Int) ≤ Shop.flo s) && (Decidable.decide (Shop.flo s ≤ Shop.fhi s) && Decidable.decide (Shop.fhi s ≤ (60 : Int))))), (23, U.tup [])] [] ([SB.box [U.lst Kd.ro 3 (trisU (Shop.tools s)), .int .i64 (Shop.flo s), .int .i64 (Shop.fhi s), U.lst Kd.ro 3 (trisU (Shop.keys s))]]) (.cons rfl (.cons rfl (.cons rfl (.nil rfl)))) rfl rfl fun fr => ?_
          refine o_gS rfl rfl rfl rfl (by assumption) ?_
          refine o_gS rfl rfl rfl rfl (by assumption) ?_
          refine o_pickF rfl rfl (by assumption) ?_
          refine o_assign rfl ?_
          refine o_nil ?_
          exact ⟨rfl, rfl, .cons rfl (.cons (congrArg U.bool (Bool.eq_iff_iff.2 (by unfold preB; simp at *; omega))) (.nil rfl))⟩
      · refine o_gS rfl rfl rfl rfl (by assumption) ?_
        refine o_gS rfl rfl rfl rfl (by assumption) ?_
        refine o_pickF rfl rfl (by assumption) ?_
        refine o_move rfl ?_
        refine o_gS rfl rfl rfl rfl rfl ?_
        refine o_gS rfl rfl rfl rfl rfl ?_
        refine o_genA [(1, U.box 0 0), (21, U.bool Bool.false), (23, U.tup [])] [] ([SB.box [U.lst Kd.ro 3 (trisU (Shop.tools s)), .int .i64 (Shop.flo s), .int .i64 (Shop.fhi s), U.lst Kd.ro 3 (trisU (Shop.keys s))]]) (.cons rfl (.cons rfl (.cons rfl (.nil rfl)))) rfl rfl fun fr => ?_
        refine o_gS rfl rfl rfl rfl rfl ?_
        refine o_gS rfl rfl rfl rfl rfl ?_
        refine o_pickF rfl rfl rfl ?_
        refine o_assign rfl ?_
        refine o_nil ?_
        exact ⟨rfl, rfl, .cons rfl (.cons (congrArg U.bool (Bool.eq_iff_iff.2 (by unfold preB; simp at *; omega))) (.nil rfl))⟩
    · refine o_gS rfl rfl rfl rfl (by assumption) ?_
      refine o_gS rfl rfl rfl rfl (by assumption) ?_
      refine o_gS rfl rfl rfl rfl (by assumption) ?_
      refine o_genA [(1, U.box 0 0), (10, U.bool (Decidable.decide ((1 : Int) ≤ ↑(List.length (Shop.tools s))))), (14, U.tup [])] [] ([SB.box [U.lst Kd.ro 3 (trisU (Shop.tools s)), .int .i64 (Shop.flo s), .int .i64 (Shop.fhi s), U.lst Kd.ro 3 (trisU (Shop.keys s))]]) (.cons rfl (.cons rfl (.cons rfl (.nil rfl)))) rfl rfl fun fr => ?_
      refine o_pickF rfl rfl (by assumption) ?_
      refine o_move rfl ?_
      refine o_gS rfl rfl rfl rfl rfl ?_
      refine o_gS rfl rfl rfl rfl rfl ?_
      refine o_gS rfl rfl rfl rfl rfl ?_
      refine o_pickF rfl rfl rfl ?_
      refine o_move rfl ?_
      refine o_gS rfl rfl rfl rfl rfl ?_
      refine o_gS rfl rfl rfl rfl rfl ?_
      refine o_genA [(1, U.box 0 0), (21, U.bool Bool.false), (23, U.tup [])] [] ([SB.box [U.lst Kd.ro 3 (trisU (Shop.tools s)), .int .i64 (Shop.flo s), .int .i64 (Shop.fhi s), U.lst Kd.ro 3 (trisU (Shop.keys s))]]) (.cons rfl (.cons rfl (.cons rfl (.nil rfl)))) rfl rfl fun fr => ?_
      refine o_gS rfl rfl rfl rfl rfl ?_
      refine o_gS rfl rfl rfl rfl rfl ?_
      refine o_pickF rfl rfl rfl ?_
      refine o_assign rfl ?_
      refine o_nil ?_
      exact ⟨rfl, rfl, .cons rfl (.cons (congrArg U.bool (Bool.eq_iff_iff.2 (by unfold preB; simp at *; omega))) (.nil rfl))⟩
  obtain ⟨hst, hs⟩ := hM
  generalize hP : preB s = P at hs
  have hP0 := hP
  refine k_gen _ _ hs hst fun fr => ?_
  refine k_cut (fun st => st.st = [.box s.cs] ∧ Holds st [(1, .box 0 0), (3, .bool (P && s.tools.all toolB))]) ?_ (fun st hM => ?_)
  · refine k_seq (k_region ?_)
    refine o_assign rfl ?_
    refine o_nil ?_
    refine k_block ?_
    refine k_loop (fun k st => ∃ (i : Nat) (c : Bool), k + i = s.tools.length ∧ c = (P && (s.tools.take i).all toolB) ∧ st.st = [.box s.cs] ∧ Holds st [(1, .box 0 0), (3, .bool c), (4, .int .i64 i)]) (fun k st hI => ?_) s.tools.length _ ?_
    · obtain ⟨i, c, hki, hc, hst, hs⟩ := hI
      refine k_gen _ _ hs hst fun fr => ?_
      cases c with
      | false =>
        refine k_seq ?_
        refine k_seq (k_region ?_)
        refine o_move rfl ?_
        refine o_move rfl ?_
        refine o_gS rfl rfl rfl rfl rfl ?_
        refine o_gS rfl rfl rfl rfl rfl ?_
        refine o_gS rfl rfl rfl rfl rfl ?_
        refine o_gS rfl rfl rfl rfl rfl ?_
        refine o_gS rfl rfl rfl rfl rfl ?_
        refine o_pickF rfl rfl rfl ?_
        refine o_nil ?_
        refine k_cF rfl rfl ?_
        refine k_exit ?_
        refine ⟨rfl, rfl, .cons rfl (.cons (congrArg U.bool ?_) (.nil rfl))⟩
        skip
        rcases Bool.and_eq_false_iff.1 hc.symm with h | h
        · rw [h]; rfl
        · rw [all_part h, Bool.and_false]
      | true =>
        obtain ⟨hp, hX⟩ := Bool.and_eq_true_iff.1 hc.symm
        rw [hp] at hP
        have hpre := of_decide_eq_true hP
        refine k_seq ?_
        refine k_seq (k_region ?_)
        refine o_move rfl ?_
        refine o_move rfl ?_
        refine o_gD rfl rfl rfl rfl rfl ?_
        refine o_move rfl ?_
        refine o_gD rfl rfl rfl rfl rfl ?_
        refine o_faddr rfl rfl fld27_0 ?_
        refine o_gD rfl rfl rfl rfl rfl ?_
        refine o_load1 rfl rfl rfl sh22 rfl ?_
        refine o_gD rfl rfl rfl rfl rfl ?_
        refine o_len rfl ty22 rfl (List.length_map _) ?_
        refine o_gD rfl rfl rfl rfl rfl ?_
        refine o_lss rfl rfl rfl ?_
        refine o_pickT rfl rfl rfl ?_
        refine o_nil ?_
        refine k_cond rfl (fun h34 => ?_) (fun h34 => ?_)
        · refine k_skip ?_
          refine k_seq ?_
          refine k_block ?_
          refine k_region ?_
          refine o_faddr rfl rfl fld27_0 ?_
          refine o_load1 rfl rfl rfl sh22 rfl ?_
          refine o_move rfl ?_
          have hil : i < s.tools.length := by have := of_decide_eq_true h34; omega
          obtain ⟨q, hq⟩ : ∃ q, s.tools[i]? = some q := ⟨s.tools[i], List.getElem?_eq_getElem hil⟩
          have hsucc := take_all_succ (p := toolB) hq
          refine o_idx (u := (q).u) rfl ty22 rfl rfl (Int.natCast_nonneg _) (by simp [hq]) cl52 ?_
          refine o_faddrR rfl rfl fld52_0 ?_
          refine o_loadRN rfl rfl sh24 rfl ?_
          refine o_call rfl (ret54 hi ..) (.lrefl _) ?_
          refine o_move rfl ?_
          refine o_guardX rfl rfl rfl rfl (fun h44 => ?_) (fun h44 => ?_)
          · refine o_faddr rfl rfl fld27_0 ?_
            refine o_gD rfl rfl rfl rfl (by assumption) ?_
            refine o_load1 rfl rfl rfl sh22 rfl ?_
            refine o_gD rfl rfl rfl rfl (by assumption) ?_
            refine o_move rfl ?_
            refine o_gD rfl rfl rfl rfl (by assumption) ?_
            refine o_idx (u := (q).u) rfl ty22 rfl rfl (Int.natCast_nonneg _) (by simp [hq]) cl52 ?_
            refine o_gD rfl rfl rfl rfl (by assumption) ?_
            refine o_faddrR rfl rfl fld52_1 ?_
            refine o_gD rfl rfl rfl rfl (by assumption) ?_
            refine o_loadR1 rfl rfl sh3 rfl ?_
            refine o_gD rfl rfl rfl rfl (by assumption) ?_
            refine o_call rfl (ret34 hi ..) (.lrefl _) ?_
            refine o_pickT rfl rfl (by assumption) ?_
            refine o_assign rfl ?_
            refine o_nil ?_
            refine k_region ?_
            refine o_move rfl ?_
            refine o_add rfl rfl rfl (by unfold I64; omega) ?_
            refine o_assign rfl ?_
            refine o_nil ?_
            refine ⟨k - 1, by omega, i + 1, _, by omega, ?_, rfl, .cons rfl (.cons rfl (.cons rfl (.nil rfl)))⟩
            rw [hsucc, hp, hX, Bool.eq_iff_iff]; unfold toolB; simp at *; omega
          · refine o_gS rfl rfl rfl rfl (by assumption) ?_
            refine o_gS rfl rfl rfl rfl (by assumption) ?_
            refine o_gS rfl rfl rfl rfl (by assumption) ?_
            refine o_gS rfl rfl rfl rfl (by assumption) ?_
            refine o_gS rfl rfl rfl rfl (by assumption) ?_
            refine o_gS rfl rfl rfl rfl (by assumption) ?_
            refine o_pickF rfl rfl (by assumption) ?_
            refine o_assign rfl ?_
            refine o_nil ?_
            refine k_region ?_
            refine o_move rfl ?_
            refine o_add rfl rfl rfl (by unfold I64; omega) ?_
            refine o_assign rfl ?_
            refine o_nil ?_
            refine ⟨k - 1, by omega, i + 1, _, by omega, ?_, rfl, .cons rfl (.cons rfl (.cons rfl (.nil rfl)))⟩
            rw [hsucc, hp, hX, Bool.eq_iff_iff]; unfold toolB; simp at *; omega
        · refine k_exit ?_
          have hil : i = s.tools.length := by have := of_decide_eq_false h34; omega
          subst hil
          rw [List.take_length] at hX
          refine ⟨rfl, rfl, .cons rfl (.cons (congrArg U.bool ?_) (.nil rfl))⟩
          skip
          rw [hp, hX]; rfl
    · exact ⟨0, _, by omega, by simp, rfl, .cons rfl (.cons rfl (.cons rfl (.nil rfl)))⟩
  obtain ⟨hst, hs⟩ := hM
  generalize hP2 : (P && s.tools.all toolB) = P2 at hs
  refine k_gen _ _ hs hst fun fr => ?_
  refine k_cut (fun st => st.st = [.box s.cs] ∧ Holds st [(1, .box 0 0), (3, .bool (shopOk s))]) ?_ (fun st hM => ?_)
  · refine k_seq (k_region ?_)
    refine o_assign rfl ?_
    refine o_nil ?_
    refine k_block ?_
    refine k_loop (fun k st => ∃ (i : Nat) (c : Bool), k + i = s.keys.length ∧ c = (P2 && (s.keys.take i).all keyB) ∧ st.st = [.box s.cs] ∧ Holds st [(1, .box 0 0), (3, .bool c), (5, .int .i64 i)]) (fun k st hI => ?_) s.keys.length _ ?_
    · obtain ⟨i, c, hki, hc, hst, hs⟩ := hI
      refine k_gen _ _ hs hst fun fr => ?_
      cases c with
      | false =>
        refine k_seq ?_
        refine k_seq (k_region ?_)
        refine o_move rfl ?_
        refine o_move rfl ?_
        refine o_gS rfl rfl rfl rfl rfl ?_
        refine o_gS rfl rfl rfl rfl rfl ?_
        refine o_gS rfl rfl rfl rfl rfl ?_
        refine o_gS rfl rfl rfl rfl rfl ?_
        refine o_gS rfl rfl rfl rfl rfl ?_
        refine o_pickF rfl rfl rfl ?_
        refine o_nil ?_
        refine k_cF rfl rfl ?_
        refine k_exit ?_
        refine ⟨rfl, rfl, .cons rfl (.cons (congrArg U.bool ?_) (.nil rfl))⟩
        show _ = (preB s && s.tools.all toolB && s.keys.all keyB)
        rw [hP0, hP2]
        rcases Bool.and_eq_false_iff.1 hc.symm with h | h
        · rw [h]; rfl
        · rw [all_part h, Bool.and_false]
      | true =>
        obtain ⟨hp, hX⟩ := Bool.and_eq_true_iff.1 hc.symm
        rw [hp] at hP2
        rw [(Bool.and_eq_true_iff.1 hP2).1] at hP
        have hpre := of_decide_eq_true hP
        refine k_seq ?_
        refine k_seq (k_region ?_)
        refine o_move rfl ?_
        refine o_move rfl ?_
        refine o_gD rfl rfl rfl rfl rfl ?_
        refine o_move rfl ?_
        refine o_gD rfl rfl rfl rfl rfl ?_
        refine o_faddr rfl rfl fld27_2 ?_
        refine o_gD rfl rfl rfl rfl rfl ?_
        refine o_load1 rfl rfl rfl sh25 rfl ?_
        refine o_gD rfl rfl rfl rfl rfl ?_
        refine o_len rfl ty25 rfl (List.length_map _) ?_
        refine o_gD rfl rfl rfl rfl rfl ?_
        refine o_lss rfl rfl rfl ?_
        refine o_pickT rfl rfl rfl ?_
        refine o_nil ?_
        refine k_cond rfl (fun h60 => ?_) (fun h60 => ?_)
        · refine k_skip ?_
          refine k_seq ?_
          refine k_block ?_
          refine k_region ?_
          refine o_faddr rfl rfl fld27_2 ?_
          refine o_load1 rfl rfl rfl sh25 rfl ?_
          refine o_move rfl ?_
          have hil : i < s.keys.length := by have := of_decide_eq_true h60; omega
          obtain ⟨q, hq⟩ : ∃ q, s.keys[i]? = some q := ⟨s.keys[i], List.getElem?_eq_getElem hil⟩
          have hsucc := take_all_succ (p := keyB) hq
          refine o_idx (u := (q).u) rfl ty25 rfl rfl (Int.natCast_nonneg _) (by simp [hq]) cl64 ?_
          refine o_faddrR rfl rfl fld64_0 ?_
          refine o_loadRN rfl rfl sh24 rfl ?_
          refine o_call rfl (ret54 hi ..) (.lrefl _) ?_
          refine o_move rfl ?_
          refine o_guardX rfl rfl rfl rfl (fun h70 => ?_) (fun h70 => ?_)
          · refine o_faddr rfl rfl fld27_2 ?_
            refine o_gD rfl rfl rfl rfl (by assumption) ?_
            refine o_load1 rfl rfl rfl sh25 rfl ?_
            refine o_gD rfl rfl rfl rfl (by assumption) ?_
            refine o_move rfl ?_
            refine o_gD rfl rfl rfl rfl (by assumption) ?_
            refine o_idx (u := (q).u) rfl ty25 rfl rfl (Int.natCast_nonneg _) (by simp [hq]) cl64 ?_
            refine o_gD rfl rfl rfl rfl (by assumption) ?_
            refine o_faddrR rfl rfl fld64_1 ?_
            refine o_gD rfl rfl rfl rfl (by assumption) ?_
            refine o_loadR1 rfl rfl sh3 rfl ?_
            refine o_gD rfl rfl rfl rfl (by assumption) ?_
            refine o_call rfl (ret34 hi ..) (.lrefl _) ?_
            refine o_pickT rfl rfl (by assumption) ?_
            refine o_assign rfl ?_
            refine o_nil ?_
            refine k_region ?_
            refine o_move rfl ?_
            refine o_add rfl rfl rfl (by unfold I64; omega) ?_
            refine o_assign rfl ?_
            refine o_nil ?_
            refine ⟨k - 1, by omega, i + 1, _, by omega, ?_, rfl, .cons rfl (.cons rfl (.cons rfl (.nil rfl)))⟩
            rw [hsucc, hp, hX, Bool.eq_iff_iff]; unfold keyB; simp at *; omega
          · refine o_gS rfl rfl rfl rfl (by assumption) ?_
            refine o_gS rfl rfl rfl rfl (by assumption) ?_
            refine o_gS rfl rfl rfl rfl (by assumption) ?_
            refine o_gS rfl rfl rfl rfl (by assumption) ?_
            refine o_gS rfl rfl rfl rfl (by assumption) ?_
            refine o_gS rfl rfl rfl rfl (by assumption) ?_
            refine o_pickF rfl rfl (by assumption) ?_
            refine o_assign rfl ?_
            refine o_nil ?_
            refine k_region ?_
            refine o_move rfl ?_
            refine o_add rfl rfl rfl (by unfold I64; omega) ?_
            refine o_assign rfl ?_
            refine o_nil ?_
            refine ⟨k - 1, by omega, i + 1, _, by omega, ?_, rfl, .cons rfl (.cons rfl (.cons rfl (.nil rfl)))⟩
            rw [hsucc, hp, hX, Bool.eq_iff_iff]; unfold keyB; simp at *; omega
        · refine k_exit ?_
          have hil : i = s.keys.length := by have := of_decide_eq_false h60; omega
          subst hil
          rw [List.take_length] at hX
          refine ⟨rfl, rfl, .cons rfl (.cons (congrArg U.bool ?_) (.nil rfl))⟩
          show _ = (preB s && s.tools.all toolB && s.keys.all keyB)
          rw [hP0, hP2, hX]; rfl
    · exact ⟨0, _, by omega, by simp, rfl, .cons rfl (.cons rfl (.cons rfl (.nil rfl)))⟩
  obtain ⟨hst, hs⟩ := hM
  refine k_gen _ _ hs hst fun fr => ?_
  cases shopOk s with
  | true =>
    refine k_seq ?_
    refine k_seq (k_region ?_)
    refine o_move rfl ?_
    refine o_not rfl rfl ?_
    refine o_nil ?_
    refine k_cF rfl rfl ?_
    refine k_skip ?_
    refine k_seq (k_region ?_)
    refine o_assign rfl ?_
    refine o_nil ?_
    refine k_ret ?_
    refine ⟨.inr rfl, _, .cons _ _ _ _ (.tmp 2) .nil, ?_⟩
    exact .refl _
  | false =>
    refine k_seq ?_
    refine k_seq (k_region ?_)
    refine o_move rfl ?_
    refine o_not rfl rfl ?_
    refine o_nil ?_
    refine k_cT rfl rfl ?_
    refine k_seq (k_region ?_)
    refine o_assign rfl ?_
    refine o_nil ?_
    refine k_ret ?_
    refine ⟨.inr rfl, _, .cons _ _ _ _ (.tmp 2) .nil, ?_⟩
    exact .refl _
set_option maxHeartbeats 4000000 in
theorem ret50 (hi : Off is) (o m : Int) : RetP Try.prog is orc 50 [.int .i64 o, .int .i64 m] (.bool (offB o && metB m)) := by
  refine ret_of body50 pure50 (hi 50 (by decide)) rfl rfl (dat_l2 (.int _ _ _) (.int _ _ _)) (.inl (.bool _ _)) ?_
  have q1 := ret34 (orc := orc) hi o (-60) 60
  have q2 := ret34 (orc := orc) hi m 0 30
  rw [show (decide (-60 ≤ o) && decide (o ≤ 60)) = offB o from rfl] at q1
  rw [show (decide (0 ≤ m) && decide (m ≤ 30)) = metB m from rfl] at q2
  generalize offB o = b1 at q1 ⊢
  cases b1 with
  | true =>
    refine k_seq (k_region ?_)
    refine o_assign rfl ?_
    refine o_nil ?_
    refine k_seq (k_region ?_)
    refine o_move rfl ?_
    refine o_call rfl (q1) (.lrefl _) ?_
    refine o_move rfl ?_
    refine o_gD rfl rfl rfl rfl rfl ?_
    refine o_move rfl ?_
    refine o_gD rfl rfl rfl rfl rfl ?_
    refine o_call rfl (q2) (.lrefl _) ?_
    refine o_pickT rfl rfl rfl ?_
    refine o_assign rfl ?_
    refine o_nil ?_
    refine k_ret ?_
    refine ⟨.inr rfl, _, .cons _ _ _ _ (.tmp 4) .nil, ?_⟩
    exact .refl _
  | false =>
    refine k_seq (k_region ?_)
    refine o_assign rfl ?_
    refine o_nil ?_
    refine k_seq (k_region ?_)
    refine o_move rfl ?_
    refine o_call rfl (q1) (.lrefl _) ?_
    refine o_move rfl ?_
    refine o_gS rfl rfl rfl rfl rfl ?_
    refine o_gS rfl rfl rfl rfl rfl ?_
    refine o_pickF rfl rfl rfl ?_
    refine o_assign rfl ?_
    refine o_nil ?_
    refine k_ret ?_
    refine ⟨.inr rfl, _, .cons _ _ _ _ (.tmp 4) .nil, ?_⟩
    exact .refl _
def askR (s : Shop) (b : Bool) : Int := if checkR s.tools s.keys s.flo s.fhi ≠ 0 then checkR s.tools s.keys s.flo s.fhi else if b = true then 0 else 31
set_option maxHeartbeats 4000000 in
theorem ret49 (hi : Off is) (s : Shop) (b : Bool) : RetP Try.prog is orc 49 [s.u, .bool b] (.int .i64 (askR s b)) := by
  have q17 := ret17 (orc := orc) hi s
  unfold askR
  generalize checkR s.tools s.keys s.flo s.fhi = c at q17
  refine ret_of body49 pure49 (hi 49 (by decide)) rfl rfl (dat_l2 (dat_shop s 5) (.bool _ _)) (.inl (.int _ _ _)) ?_
  by_cases h : c ≠ 0
  · rw [if_pos h]
    refine k_seq (k_region ?_)
    refine o_box rfl rfl ?_
    refine o_assign rfl ?_
    refine o_nil ?_
    refine k_gen [(1, U.bool b), (2, U.box 0 0)] ([SB.box [U.lst Kd.ro 3 (trisU (Shop.tools s)), .int .i64 (Shop.flo s), .int .i64 (Shop.fhi s), U.lst Kd.ro 3 (trisU (Shop.keys s))]]) (.cons rfl (.cons rfl (.nil rfl))) rfl fun fr => ?_
    refine k_seq ?_
    refine k_seq (k_region ?_)
    refine o_loadN rfl rfl rfl sh27 rfl ?_
    refine o_call rfl (q17) (.lrefl _) ?_
    refine o_assign rfl ?_
    refine o_nil ?_
    refine k_seq (k_region ?_)
    refine o_move rfl ?_
    refine o_neq rfl rfl rfl ?_
    refine o_nil ?_
    refine k_cT rfl (decide_eq_true (by omega)) ?_
    refine k_seq (k_region ?_)
    refine o_move rfl ?_
    refine o_assign rfl ?_
    refine o_nil ?_
    refine k_ret ?_
    refine ⟨.inr rfl, _, .cons _ _ _ _ (.tmp 4) .nil, ?_⟩
    exact .refl _
  · rw [if_neg h]
    cases b with
    | true =>
      refine k_seq (k_region ?_)
      refine o_box rfl rfl ?_
      refine o_assign rfl ?_
      refine o_nil ?_
      refine k_gen [(1, U.bool Bool.true), (2, U.box 0 0)] ([SB.box [U.lst Kd.ro 3 (trisU (Shop.tools s)), .int .i64 (Shop.flo s), .int .i64 (Shop.fhi s), U.lst Kd.ro 3 (trisU (Shop.keys s))]]) (.cons rfl (.cons rfl (.nil rfl))) rfl fun fr => ?_
      refine k_seq ?_
      refine k_seq (k_region ?_)
      refine o_loadN rfl rfl rfl sh27 rfl ?_
      refine o_call rfl (q17) (.lrefl _) ?_
      refine o_assign rfl ?_
      refine o_nil ?_
      refine k_seq (k_region ?_)
      refine o_move rfl ?_
      refine o_neq rfl rfl rfl ?_
      refine o_nil ?_
      refine k_cF rfl (decide_eq_false (by omega)) ?_
      refine k_skip ?_
      refine k_seq ?_
      refine k_seq (k_region ?_)
      refine o_move rfl ?_
      refine o_not rfl rfl ?_
      refine o_nil ?_
      refine k_cF rfl rfl ?_
      refine k_skip ?_
      refine k_seq (k_region ?_)
      refine o_assign rfl ?_
      refine o_nil ?_
      refine k_ret ?_
      refine ⟨.inr rfl, _, .cons _ _ _ _ (.tmp 4) .nil, ?_⟩
      exact .refl _
    | false =>
      refine k_seq (k_region ?_)
      refine o_box rfl rfl ?_
      refine o_assign rfl ?_
      refine o_nil ?_
      refine k_gen [(1, U.bool Bool.false), (2, U.box 0 0)] ([SB.box [U.lst Kd.ro 3 (trisU (Shop.tools s)), .int .i64 (Shop.flo s), .int .i64 (Shop.fhi s), U.lst Kd.ro 3 (trisU (Shop.keys s))]]) (.cons rfl (.cons rfl (.nil rfl))) rfl fun fr => ?_
      refine k_seq ?_
      refine k_seq (k_region ?_)
      refine o_loadN rfl rfl rfl sh27 rfl ?_
      refine o_call rfl (q17) (.lrefl _) ?_
      refine o_assign rfl ?_
      refine o_nil ?_
      refine k_seq (k_region ?_)
      refine o_move rfl ?_
      refine o_neq rfl rfl rfl ?_
      refine o_nil ?_
      refine k_cF rfl (decide_eq_false (by omega)) ?_
      refine k_skip ?_
      refine k_seq ?_
      refine k_seq (k_region ?_)
      refine o_move rfl ?_
      refine o_not rfl rfl ?_
      refine o_nil ?_
      refine k_cT rfl rfl ?_
      refine k_seq (k_region ?_)
      refine o_assign rfl ?_
      refine o_nil ?_
      refine k_ret ?_
      refine ⟨.inr rfl, _, .cons _ _ _ _ (.tmp 4) .nil, ?_⟩
      exact .refl _
theorem nv31 {x : Int} (h : x = 31) : nv x = 1000 := if_pos h
theorem nv_ne {x : Int} (h : x ≠ 31) : nv x = x := if_neg h
theorem ask_bad {s : Shop} {b : Bool} (h : askR s b ≠ 0) : (checkR s.tools s.keys s.flo s.fhi ≠ 0 ∧ askR s b = checkR s.tools s.keys s.flo s.fhi) ∨ (checkR s.tools s.keys s.flo s.fhi = 0 ∧ b = false ∧ askR s b = 31) := by
  unfold askR at h ⊢
  by_cases hc : checkR s.tools s.keys s.flo s.fhi ≠ 0
  · rw [if_pos hc]; exact .inl ⟨hc, rfl⟩
  · rw [if_neg hc] at h ⊢
    cases b with
    | true => exact absurd rfl h
    | false => exact .inr ⟨by omega, rfl, rfl⟩
theorem ask46 (hi : Off is) {s : Shop} {b : Bool} (h : askR s b ≠ 0) : RetP Try.prog is orc 46 [s.u, .bool b] (.tup [.agg z6, .int .i64 (askR s b)]) := by
  have hck := chk (orc := orc) hi s
  rcases ask_bad h with ⟨h1, h2⟩ | ⟨h1, rfl, h2⟩
  · rw [h2]; exact ret46e s h1 hck b
  · rw [h2]; rw [h1] at hck; exact ret46q s hck
theorem shps_27_28 {f : FuncId} (h : ∀ (s : Shop) (a b : Int), RetP Try.prog is orc f [s.u, .agg [.int .i64 a, .int .i64 b]] (.bool true)) : ∀ us, ShpAs Try.prog [27, 28] us → RetP Try.prog is orc f us (.bool true) := by
  intro us h
  cases h with
  | cons _ _ u us h1 h => cases h with
  | cons _ _ v us h2 h =>
  cases h
  obtain ⟨fs, hu⟩ := und_struct (P := Try.prog) (t := 27) 3 (by kernel_rfl)
  unfold ShpA at h1 h2
  rw [hu] at h1
  rw [u28] at h2
  obtain ⟨cs, rfl, h1⟩ := h1
  obtain ⟨ds, rfl, h2⟩ := h2
  obtain ⟨s, rfl⟩ := shp_shop h1
  obtain ⟨a, b, rfl⟩ := shp_two h2
  exact h s a b
noncomputable def b61 : Code := (Try.f61.body).getD .skip
theorem body61 : bodyOf Try.prog 61 = some (35, b61, [.tmp 6]) := by kernel_rfl
theorem pure61 : pureFn Try.prog 61 = true := by kernel_rfl
noncomputable def b22 : Code := (Try.f22.body).getD .skip
theorem body22 : bodyOf Try.prog 22 = some (27, b22, [.tmp 4, .tmp 5]) := by kernel_rfl
theorem pure22 : pureFn Try.prog 22 = true := by kernel_rfl
noncomputable def b24 : Code := (Try.f24.body).getD .skip
theorem body24 : bodyOf Try.prog 24 = some (32, b24, [.tmp 2, .tmp 3]) := by kernel_rfl
theorem pure24 : pureFn Try.prog 24 = true := by kernel_rfl
noncomputable def b27 : Code := (Try.f27.body).getD .skip
theorem body27 : bodyOf Try.prog 27 = some (31, b27, [.tmp 2, .tmp 3]) := by kernel_rfl
theorem pure27 : pureFn Try.prog 27 = true := by kernel_rfl
noncomputable def b29 : Code := (Try.f29.body).getD .skip
theorem body29 : bodyOf Try.prog 29 = some (30, b29, [.tmp 4, .tmp 5]) := by kernel_rfl
theorem pure29 : pureFn Try.prog 29 = true := by kernel_rfl
theorem row_for (s : Shop) {m : Int} (h : 0 ≤ m ∧ m ≤ 30) : (rowsL s true 31)[m.toNat]? = some (rowL s true m) := by
  have := rows_get s true (n := 31) (k := m.toNat) (by omega)
  rwa [show ((m.toNat : Nat) : Int) = m by omega] at this
theorem dat_rows8 (l : List (List Int)) : Dat 8 (.lst .ro 1 (l.map rowU)) := by
  refine .lst _ _ _ _ (fun h => by cases h) fun c hc => ?_
  obtain ⟨u, hu, hc⟩ := List.mem_flatMap.1 hc
  obtain ⟨x, _, rfl⟩ := List.mem_map.1 hu
  simp only [cellsU, List.mem_cons, List.not_mem_nil, or_false] at hc
  subst hc
  exact dat_ints 5 .ro (fun h => by cases h) 1 _
set_option maxHeartbeats 4000000 in
theorem ret61 (hi : Off is) {s : Shop} (hk : SOk s) {i : Nat} {q : Tri} (hq : s.keys[i]? = some q) : RetP Try.prog is orc 61 [s.u, .lst .ro 1 ((rowsL s true 31).map rowU), .int .i64 i] (.int .i64 (nv (strokeR s q))) := by
  have hqb := hk.keys q (List.mem_of_getElem? hq)
  have hL := row_for s (m := q.c) (by omega)
  have hb : ∀ j, ∀ x ∈ hkL s q j, 0 ≤ x ∧ x ≤ 31 := fun j x hx => by
    unfold hkL at hx
    obtain ⟨o, _, rfl⟩ := List.mem_map.1 hx
    exact ⟨(cho_b s true _ q.c).1, (cho_b s true _ q.c).2.1⟩
  generalize rowsL s true 31 = L at hL
  refine ret_of body61 pure61 (hi 61 (by decide)) rfl rfl (dat_l3 (dat_shop s 5) (dat_rows8 L) (.int _ _ _)) (.inl (.int _ _ _)) ?_
  refine k_seq (k_region ?_)
  refine o_box rfl rfl ?_
  refine o_assign rfl ?_
  refine o_nil ?_
  refine k_gen [(1, U.lst Kd.ro 1 (List.map rowU L)), (2, .int .i64 ↑i), (3, U.box 0 0)] ([SB.box [U.lst Kd.ro 3 (trisU (Shop.tools s)), .int .i64 (Shop.flo s), .int .i64 (Shop.fhi s), U.lst Kd.ro 3 (trisU (Shop.keys s))]]) (.cons rfl (.cons rfl (.cons rfl (.nil rfl)))) rfl fun fr => ?_
  refine k_seq (k_region ?_)
  refine o_faddr rfl rfl fld27_2 ?_
  refine o_load1 rfl rfl rfl sh25 rfl ?_
  refine o_move rfl ?_
  refine o_idx (u := (q).u) rfl ty25 rfl rfl (Int.natCast_nonneg _) (by simp [hq]) cl64 ?_
  refine o_loadRN rfl rfl sh64 rfl ?_
  refine o_alloc rfl ze64 ?_
  refine o_storeN rfl rfl sh64 rfl rfl rfl rfl rfl ?_
  refine o_nil ?_
  refine k_gen [(1, U.lst Kd.ro 1 (List.map rowU L)), (7, U.box 1 0)] ([SB.box [U.lst Kd.ro 3 (trisU (Shop.tools s)), .int .i64 (Shop.flo s), .int .i64 (Shop.fhi s), U.lst Kd.ro 3 (trisU (Shop.keys s))], SB.box [.int .i64 (Tri.a q), .int .i64 (Tri.b q), .int .i64 (Tri.c q)]]) (.cons rfl (.cons rfl (.nil rfl))) rfl fun fr => ?_
  refine k_seq (k_region ?_)
  refine o_assign rfl ?_
  refine o_nil ?_
  refine k_seq ?_
  refine k_seq (k_region ?_)
  refine o_faddr rfl rfl fld64_0 ?_
  refine o_faddr rfl rfl fld24_0 ?_
  refine o_load1 rfl rfl rfl sh3 rfl ?_
  refine o_assign rfl ?_
  refine o_nil ?_
  refine k_block ?_
  refine k_loop (fun kk st => ∃ (j : Nat), kk + j = widM q ∧ st.st = [.box s.cs, .box [.int .i64 q.a, .int .i64 q.b, .int .i64 q.c]] ∧ Holds st [(1, .lst .ro 1 (L.map rowU)), (7, .box 1 0), (8, .int .i64 (nv (cntL true (hkL s q j)))), (9, .int .i64 (q.a + j))]) (fun kk st hI => ?_) (widM q) _ ?_
  · obtain ⟨j, hkj, hst, hs⟩ := hI
    refine k_gen _ _ hs hst fun fr => ?_
    have hw : (widM q : Int) = q.b - q.a + 1 := by unfold widM; omega
    have hc := nv_b (cnt_b (w := true) (hb j))
    refine k_seq ?_
    refine k_seq (k_region ?_)
    refine o_move rfl ?_
    refine o_faddr rfl rfl fld64_0 ?_
    refine o_faddr rfl rfl fld24_1 ?_
    refine o_load1 rfl rfl rfl sh3 rfl ?_
    refine o_leq rfl rfl rfl ?_
    refine o_nil ?_
    refine k_cond rfl (fun h22 => ?_) (fun h22 => ?_)
    · refine k_skip ?_
      refine k_seq ?_
      refine k_block ?_
      refine k_region ?_
      refine o_move rfl ?_
      refine o_move rfl ?_
      refine o_faddr rfl rfl fld64_1 ?_
      refine o_load1 rfl rfl rfl sh3 rfl ?_
      have hd := of_decide_eq_true h22
      refine o_idx (u := rowU (rowL s true q.c)) rfl ty84 rfl rfl (by omega) (by rw [List.getElem?_map, hL]; rfl) cl89 ?_
      refine o_loadRN rfl rfl sh89 rfl ?_
      refine o_move rfl ?_
      refine o_call rfl (ret56 hi hk (by omega)) (.lrefl _) ?_
      refine o_max rfl rfl rfl ?_
      refine o_assign rfl ?_
      refine o_nil ?_
      refine k_region ?_
      refine o_move rfl ?_
      refine o_add rfl rfl rfl (by unfold I64; omega) ?_
      refine o_assign rfl ?_
      refine o_nil ?_
      refine ⟨kk - 1, by omega, j + 1, by omega, rfl, .cons rfl (.cons rfl (.cons (congrArg (U.int .i64) ?_) (.cons (congrArg (U.int .i64) (by omega)) (.nil rfl))))⟩
      rw [hk_succ, cntL_snoc]
      exact (nv_max (cnt_b (hb j)) ⟨(cho_b s true _ q.c).1, (cho_b s true _ q.c).2.1⟩)
    · refine k_exit ?_
      refine k_seq (k_region ?_)
      refine o_move rfl ?_
      refine o_assign rfl ?_
      refine o_nil ?_
      refine k_ret ?_
      refine ⟨.inr rfl, _, .cons _ _ _ _ (.tmp 6) .nil, ?_⟩
      have hd := of_decide_eq_false h22
      have hj : j = widM q := by omega
      subst hj
      exact .refl _
  · exact ⟨0, by omega, rfl, .cons rfl (.cons rfl (.cons rfl (.cons (congrArg (U.int .i64) (by omega)) (.nil rfl))))⟩
def hkB (s : Shop) (key : Int) : Bool := decide (0 ≤ key) && decide (key < s.keys.length)
theorem hkB_sits (s : Shop) (key : Int) : (decide (0 ≤ key) && decide (key ≤ (s.keys.length : Int) - 1)) = hkB s key := by
  unfold hkB
  rw [show decide (key ≤ (s.keys.length : Int) - 1) = decide (key < s.keys.length) by rw [decide_eq_decide]; omega]
theorem hkB_key {s : Shop} {key : Int} (h : hkB s key = true) : ∃ (i : Nat) (q : Tri), key = i ∧ s.keys[i]? = some q := by
  unfold hkB at h
  simp at h
  obtain ⟨q, hq⟩ := hk_has (s := s) (i := key.toNat) (by omega)
  exact ⟨key.toNat, q, by omega, hq⟩
set_option maxHeartbeats 4000000 in
theorem ret22 (hi : Off is) {s : Shop} (hk : SOk s) {i : Nat} {q : Tri} (hq : s.keys[i]? = some q) : RetP Try.prog is orc 22 [s.u, .int .i64 i] (.tup [.int .i64 (unN (strokeR s q)), .int .i64 (unE (strokeR s q))]) := by
  have hil := (List.getElem?_eq_some_iff.1 hq).1
  have hnk := hk.nk
  have q34 := ret34 (orc := orc) hi i 0 ((s.keys.length : Int) - 1)
  rw [decide_eq_true (by omega : (0 : Int) ≤ (i : Int)), decide_eq_true (by omega : (i : Int) ≤ (s.keys.length : Int) - 1)] at q34
  have q49 := ret49 (orc := orc) hi s true
  rw [show askR s true = 0 by unfold askR; rw [chk_ok hk]; rfl] at q49
  have q52 := ret52 (orc := orc) hi hk true
  have q61 := ret61 (orc := orc) hi hk hq
  have hsb := stroke_b s q
  unfold unN unE
  generalize strokeR s q = c at q61 hsb
  refine ret_of body22 pure22 (hi 22 (by decide)) rfl rfl (dat_l2 (dat_shop s 5) (.int _ _ _)) (.inr ⟨_, rfl, dat_l2 (.int _ _ _) (.int _ _ _)⟩) ?_
  by_cases h31 : c = 31
  · rw [if_pos h31, if_pos h31]
    rw [nv31 h31] at q61
    refine k_seq (k_region ?_)
    refine o_box rfl rfl ?_
    refine o_assign rfl ?_
    refine o_assign rfl ?_
    refine o_nil ?_
    refine k_gen [(1, .int .i64 ↑i), (2, U.box 0 0)] ([SB.box [U.lst Kd.ro 3 (trisU (Shop.tools s)), .int .i64 (Shop.flo s), .int .i64 (Shop.fhi s), U.lst Kd.ro 3 (trisU (Shop.keys s))]]) (.cons rfl (.cons rfl (.nil rfl))) rfl fun fr => ?_
    refine k_seq ?_
    refine k_seq ?_
    refine k_draw [.read true, .plain, .plain, .read true, .read true, .plain, .read false, .plain, .plain] (by kernel_rfl) (by kernel_rfl) (by kernel_rfl) ?_
    refine d_load rfl (o_loadN rfl rfl rfl sh27 rfl (o_nil rfl)) ?_
    refine d_plain (o_move rfl (o_nil rfl)) ?_
    refine d_plain (o_faddr rfl rfl fld27_2 (o_nil rfl)) ?_
    refine d_load rfl (o_load1 rfl rfl rfl sh25 rfl (o_nil rfl)) ?_
    refine d_load rfl (o_len rfl ty25 rfl (List.length_map _) (o_nil rfl)) ?_
    refine d_plain (o_sub rfl rfl rfl (by unfold I64; omega) (o_nil rfl)) ?_
    refine d_callR rfl (q34) (.bool _) (.lrefl _) ?_
    refine d_plain (o_call rfl (q49) (.lrefl _) (o_nil rfl)) ?_
    refine d_plain (o_assign rfl (o_nil rfl)) ?_
    refine d_nil ?_
    refine k_seq (k_region ?_)
    refine o_move rfl ?_
    refine o_neq rfl rfl rfl ?_
    refine o_nil ?_
    refine k_cF rfl rfl ?_
    refine k_skip ?_
    refine k_seq ?_
    refine k_draw [.read true, .read true, .quiet, .plain, .plain, .plain] (by kernel_rfl) (by kernel_rfl) (by kernel_rfl) ?_
    refine d_load rfl (o_loadN rfl rfl rfl sh27 rfl (o_nil rfl)) ?_
    refine d_load rfl (o_loadN rfl rfl rfl sh27 rfl (o_nil rfl)) ?_
    refine d_callQ rfl (q52) (.lrefl _) ?_
    refine d_plain (o_move rfl (o_nil rfl)) ?_
    refine d_plain (o_call rfl (q61) (.lrefl _) (o_nil rfl)) ?_
    refine d_plain (o_assign rfl (o_nil rfl)) ?_
    refine d_nil ?_
    refine k_gen [(7, .int .i64 (1000 : Int))] ([SB.box [U.lst Kd.ro 3 (trisU (Shop.tools s)), .int .i64 (Shop.flo s), .int .i64 (Shop.fhi s), U.lst Kd.ro 3 (trisU (Shop.keys s))]]) (.cons rfl (.nil rfl)) rfl fun fr => ?_
    refine k_seq ?_
    refine k_seq (k_region ?_)
    refine o_move rfl ?_
    refine o_eql rfl rfl rfl ?_
    refine o_nil ?_
    refine k_cT rfl rfl ?_
    refine k_seq (k_region ?_)
    refine o_assign rfl ?_
    refine o_assign rfl ?_
    refine o_nil ?_
    refine k_ret ?_
    refine ⟨.inr rfl, _, .cons _ _ _ _ (.tmp 4) (.cons _ _ _ _ (.tmp 5) .nil), ?_⟩
    exact .refl _
  · rw [if_neg h31, if_neg h31]
    rw [nv_ne h31] at q61
    refine k_seq (k_region ?_)
    refine o_box rfl rfl ?_
    refine o_assign rfl ?_
    refine o_assign rfl ?_
    refine o_nil ?_
    refine k_gen [(1, .int .i64 ↑i), (2, U.box 0 0)] ([SB.box [U.lst Kd.ro 3 (trisU (Shop.tools s)), .int .i64 (Shop.flo s), .int .i64 (Shop.fhi s), U.lst Kd.ro 3 (trisU (Shop.keys s))]]) (.cons rfl (.cons rfl (.nil rfl))) rfl fun fr => ?_
    refine k_seq ?_
    refine k_seq ?_
    refine k_draw [.read true, .plain, .plain, .read true, .read true, .plain, .read false, .plain, .plain] (by kernel_rfl) (by kernel_rfl) (by kernel_rfl) ?_
    refine d_load rfl (o_loadN rfl rfl rfl sh27 rfl (o_nil rfl)) ?_
    refine d_plain (o_move rfl (o_nil rfl)) ?_
    refine d_plain (o_faddr rfl rfl fld27_2 (o_nil rfl)) ?_
    refine d_load rfl (o_load1 rfl rfl rfl sh25 rfl (o_nil rfl)) ?_
    refine d_load rfl (o_len rfl ty25 rfl (List.length_map _) (o_nil rfl)) ?_
    refine d_plain (o_sub rfl rfl rfl (by unfold I64; omega) (o_nil rfl)) ?_
    refine d_callR rfl (q34) (.bool _) (.lrefl _) ?_
    refine d_plain (o_call rfl (q49) (.lrefl _) (o_nil rfl)) ?_
    refine d_plain (o_assign rfl (o_nil rfl)) ?_
    refine d_nil ?_
    refine k_seq (k_region ?_)
    refine o_move rfl ?_
    refine o_neq rfl rfl rfl ?_
    refine o_nil ?_
    refine k_cF rfl rfl ?_
    refine k_skip ?_
    refine k_seq ?_
    refine k_draw [.read true, .read true, .quiet, .plain, .plain, .plain] (by kernel_rfl) (by kernel_rfl) (by kernel_rfl) ?_
    refine d_load rfl (o_loadN rfl rfl rfl sh27 rfl (o_nil rfl)) ?_
    refine d_load rfl (o_loadN rfl rfl rfl sh27 rfl (o_nil rfl)) ?_
    refine d_callQ rfl (q52) (.lrefl _) ?_
    refine d_plain (o_move rfl (o_nil rfl)) ?_
    refine d_plain (o_call rfl (q61) (.lrefl _) (o_nil rfl)) ?_
    refine d_plain (o_assign rfl (o_nil rfl)) ?_
    refine d_nil ?_
    refine k_gen [(7, .int .i64 c)] ([SB.box [U.lst Kd.ro 3 (trisU (Shop.tools s)), .int .i64 (Shop.flo s), .int .i64 (Shop.fhi s), U.lst Kd.ro 3 (trisU (Shop.keys s))]]) (.cons rfl (.nil rfl)) rfl fun fr => ?_
    refine k_seq ?_
    refine k_seq (k_region ?_)
    refine o_move rfl ?_
    refine o_eql rfl rfl rfl ?_
    refine o_nil ?_
    refine k_cF rfl (decide_eq_false (by omega)) ?_
    refine k_skip ?_
    refine k_seq (k_region ?_)
    refine o_move rfl ?_
    refine o_assign rfl ?_
    refine o_assign rfl ?_
    refine o_nil ?_
    refine k_ret ?_
    refine ⟨.inr rfl, _, .cons _ _ _ _ (.tmp 4) (.cons _ _ _ _ (.tmp 5) .nil), ?_⟩
    exact .refl _
theorem ask_check {s : Shop} {b : Bool} (h : ¬ s.keys.length ≤ 6) : askR s b = 30 := by
  have hc : ¬ shopOk s = true := fun e => by have := (shop_ok.1 e).nk; omega
  unfold askR; rw [check_is, if_neg hc]; rfl
set_option maxHeartbeats 4000000 in
theorem ret22e (hi : Off is) {s : Shop} {key : Int} (h : askR s (hkB s key) ≠ 0) : RetP Try.prog is orc 22 [s.u, .int .i64 key] (.tup [.int .i64 0, .int .i64 (askR s (hkB s key))]) := by
  by_cases hn : s.keys.length ≤ 6
  · have q34 := ret34 (orc := orc) hi key 0 ((s.keys.length : Int) - 1)
    rw [hkB_sits] at q34
    have q49 := ret49 (orc := orc) hi s (hkB s key)
    generalize askR s (hkB s key) = c at h q49
    refine ret_of body22 pure22 (hi 22 (by decide)) rfl rfl (dat_l2 (dat_shop s 5) (.int _ _ _)) (.inr ⟨_, rfl, dat_l2 (.int _ _ _) (.int _ _ _)⟩) ?_
    refine k_seq (k_region ?_)
    refine o_box rfl rfl ?_
    refine o_assign rfl ?_
    refine o_assign rfl ?_
    refine o_nil ?_
    refine k_gen [(1, .int .i64 key), (2, U.box 0 0)] ([SB.box [U.lst Kd.ro 3 (trisU (Shop.tools s)), .int .i64 (Shop.flo s), .int .i64 (Shop.fhi s), U.lst Kd.ro 3 (trisU (Shop.keys s))]]) (.cons rfl (.cons rfl (.nil rfl))) rfl fun fr => ?_
    refine k_seq ?_
    refine k_seq ?_
    refine k_draw [.read true, .plain, .plain, .read true, .read true, .plain, .read false, .plain, .plain] (by kernel_rfl) (by kernel_rfl) (by kernel_rfl) ?_
    refine d_load rfl (o_loadN rfl rfl rfl sh27 rfl (o_nil rfl)) ?_
    refine d_plain (o_move rfl (o_nil rfl)) ?_
    refine d_plain (o_faddr rfl rfl fld27_2 (o_nil rfl)) ?_
    refine d_load rfl (o_load1 rfl rfl rfl sh25 rfl (o_nil rfl)) ?_
    refine d_load rfl (o_len rfl ty25 rfl (List.length_map _) (o_nil rfl)) ?_
    refine d_plain (o_sub rfl rfl rfl (by unfold I64; omega) (o_nil rfl)) ?_
    refine d_callR rfl (q34) (.bool _) (.lrefl _) ?_
    refine d_plain (o_call rfl (q49) (.lrefl _) (o_nil rfl)) ?_
    refine d_plain (o_assign rfl (o_nil rfl)) ?_
    refine d_nil ?_
    refine k_seq (k_region ?_)
    refine o_move rfl ?_
    refine o_neq rfl rfl rfl ?_
    refine o_nil ?_
    refine k_cT rfl (decide_eq_true (by omega)) ?_
    refine k_seq (k_region ?_)
    refine o_move rfl ?_
    refine o_assign rfl ?_
    refine o_assign rfl ?_
    refine o_nil ?_
    refine k_ret ?_
    refine ⟨.inr rfl, _, .cons _ _ _ _ (.tmp 4) (.cons _ _ _ _ (.tmp 5) .nil), ?_⟩
    exact .refl _
  · rw [ask_check hn] at h ⊢
    have q34 := ret34 (orc := orc) hi key 0 (wrapF .i64 ((s.keys.length : Int) - 1))
    have q49 := fun b => ret49 (orc := orc) hi s b
    simp only [ask_check hn] at q49
    refine ret_of body22 pure22 (hi 22 (by decide)) rfl rfl (dat_l2 (dat_shop s 5) (.int _ _ _)) (.inr ⟨_, rfl, dat_l2 (.int _ _ _) (.int _ _ _)⟩) ?_
    refine k_seq (k_region ?_)
    refine o_box rfl rfl ?_
    refine o_assign rfl ?_
    refine o_assign rfl ?_
    refine o_nil ?_
    refine k_gen [(1, .int .i64 key), (2, U.box 0 0)] ([SB.box [U.lst Kd.ro 3 (trisU (Shop.tools s)), .int .i64 (Shop.flo s), .int .i64 (Shop.fhi s), U.lst Kd.ro 3 (trisU (Shop.keys s))]]) (.cons rfl (.cons rfl (.nil rfl))) rfl fun fr => ?_
    refine k_seq ?_
    refine k_seq ?_
    refine k_draw [.read true, .plain, .plain, .read true, .read true, .plain, .read false, .plain, .plain] (by kernel_rfl) (by kernel_rfl) (by kernel_rfl) ?_
    refine d_load rfl (o_loadN rfl rfl rfl sh27 rfl (o_nil rfl)) ?_
    refine d_plain (o_move rfl (o_nil rfl)) ?_
    refine d_plain (o_faddr rfl rfl fld27_2 (o_nil rfl)) ?_
    refine d_load rfl (o_load1 rfl rfl rfl sh25 rfl (o_nil rfl)) ?_
    refine d_load rfl (o_len rfl ty25 rfl (List.length_map _) (o_nil rfl)) ?_
    refine d_plain (o_int (v := .int .i64 (wrapF .i64 ((s.keys.length : Int) - 1))) rfl rfl rfl rfl rfl (o_nil rfl)) ?_
    refine d_callR rfl (q34) (.bool _) (.lrefl _) ?_
    refine d_plain (o_call rfl (q49 _) (.lrefl _) (o_nil rfl)) ?_
    refine d_plain (o_assign rfl (o_nil rfl)) ?_
    refine d_nil ?_
    refine k_seq (k_region ?_)
    refine o_move rfl ?_
    refine o_neq rfl rfl rfl ?_
    refine o_nil ?_
    refine k_cT rfl rfl ?_
    refine k_seq (k_region ?_)
    refine o_move rfl ?_
    refine o_assign rfl ?_
    refine o_assign rfl ?_
    refine o_nil ?_
    refine k_ret ?_
    refine ⟨.inr rfl, _, .cons _ _ _ _ (.tmp 4) (.cons _ _ _ _ (.tmp 5) .nil), ?_⟩
    exact .refl _
end Go.Proofs.Ytdahbimllmapkaa.raspKeys
