/- rasp's functions and the law's, by the logic of trees: what each gives back for all that it may be given. -/
import Derived.Test.YtdahbimllmapkaaVamRaspLeast1
namespace Go.Proofs.Ytdahbimllmapkaa.raspLeast
open Vam
set_option linter.unusedVariables false
set_option linter.unusedSimpArgs false
set_option linter.constructorNameAsVariable false
variable {is : FuncId → Bool} {orc : Known}
theorem ty28 : tyOf Try.prog 28 = .array 2 3 := by kernel_rfl
theorem valid_ok {s : Shop} (h : valid s.tools s.keys s.flo s.fhi = true) : SOk s := by
  unfold valid at h
  rw [Bool.and_eq_true, Bool.and_eq_true] at h
  obtain ⟨⟨h1, h2⟩, h3⟩ := h
  unfold bnds0 Bnd.okR at h1
  unfold bnds74 at h2
  unfold bnds75 at h3
  rw [List.all_flatMap, List.all_eq_true] at h2 h3
  simp at h1
  refine ⟨by omega, by omega, by omega, fun t ht => ?_, fun t ht => ?_⟩
  · have := h2 t ht
    simp [Bnd.okR] at this; omega
  · have := h3 t ht
    simp [Bnd.okR] at this; omega
theorem ok_valid {s : Shop} (h : SOk s) : valid s.tools s.keys s.flo s.fhi = true := by
  unfold valid
  rw [Bool.and_eq_true, Bool.and_eq_true]
  have q1 := h.nt; have q2 := h.fine; have q3 := h.nk
  refine ⟨⟨?_, ?_⟩, ?_⟩
  · unfold bnds0 Bnd.okR
    simp; omega
  · unfold bnds74
    rw [List.all_flatMap, List.all_eq_true]
    intro t ht
    have := h.tools t ht
    simp [Bnd.okR]; omega
  · unfold bnds75
    rw [List.all_flatMap, List.all_eq_true]
    intro t ht
    have := h.keys t ht
    simp [Bnd.okR]; omega
theorem chk (hi : Off is) (s : Shop) : RetP Try.prog is orc 16 [s.u] (.int .i64 (checkR s.tools s.keys s.flo s.fhi)) := ret16 (hi 16 (by decide)) (hi 53 (by decide)) (hi 70 (by decide)) (hi 71 (by decide)) (hi 72 (by decide)) (hi 73 (by decide)) (hi 78 (by decide)) _ _ _ _
theorem chk_ok {s : Shop} (h : SOk s) : checkR s.tools s.keys s.flo s.fhi = 0 := by unfold checkR; rw [ok_valid h]; rfl
theorem ok_chk {s : Shop} (h : checkR s.tools s.keys s.flo s.fhi = 0) : SOk s := valid_ok (by
  unfold checkR at h
  split at h
  · assumption
  · cases h)
theorem tmod_neg_lt {a m : Int} (hm : 0 < m) : -m < a.tmod m ∧ a.tmod m < m := by
  have h1 := Int.tmod_lt_of_pos a hm
  have h2 : -(m) < a.tmod m := by
    have := Int.tmod_lt_of_pos (-a) hm
    rw [Int.neg_tmod] at this
    omega
  exact ⟨h2, h1⟩
theorem turn_neg {n m : Int} (hm : 0 < m) (h : n.tmod m < 0) : n.tmod m + m = n % m := by
  have p1 := Int.emod_nonneg n (show m ≠ 0 by omega)
  have p2 := Int.emod_lt_of_pos n hm
  have p3 := @Int.emod_eq_tmod n m
  split at p3 <;> omega
theorem turn_pos {n m : Int} (hm : 0 < m) (h : 0 ≤ n.tmod m) : n.tmod m = n % m := by
  have p1 := Int.emod_nonneg n (show m ≠ 0 by omega)
  have p2 := Int.emod_lt_of_pos n hm
  have p3 := @Int.emod_eq_tmod n m
  split at p3 <;> omega
def nthI (l : List Int) (i : Nat) : Int := (l[i % l.length]?).getD 0
def drawI (a b n : Int) : Int := if b ≤ a then a else a + n % (b - a + 1)
theorem draw_b {a b : Int} (n : Int) (h : a ≤ b) : a ≤ drawI a b n ∧ drawI a b n ≤ b := by
  unfold drawI
  split
  · omega
  · have p1 := Int.emod_nonneg n (show b - a + 1 ≠ 0 by omega)
    have p2 := Int.emod_lt_of_pos n (show 0 < b - a + 1 by omega)
    omega

-- 34 saron/saronref00.Sits params [3, 3, 3] pure True
noncomputable def b34 : Code := (Try.f34.body).getD .skip
theorem body34 : bodyOf Try.prog 34 = some (15, b34, [.tmp 6]) := by kernel_rfl
theorem pure34 : pureFn Try.prog 34 = true := by kernel_rfl
set_option maxHeartbeats 4000000 in
theorem ret34 (hi : Off is) (n lo up : Int) : RetP Try.prog is orc 34 [.int .i64 n, .int .i64 lo, .int .i64 up] (.bool (decide (lo ≤ n) && decide (n ≤ up))) := by
  refine ret_of body34 pure34 (hi 34 (by decide)) rfl rfl (dat_l3 (.int _ _ _) (.int _ _ _) (.int _ _ _)) (.inl (.bool _ _)) ?_
  refine k_seq ?_
  refine k_region ?_   -- region 0 base.go:9
  refine o_assign rfl ?_
  refine o_nil ?_
  refine k_seq ?_
  refine k_region ?_   -- region 1 base.go:9
  refine o_move rfl ?_
  refine o_move rfl ?_
  refine o_leq rfl rfl rfl ?_
  refine o_move rfl ?_
  refine o_guard rfl rfl rfl rfl (fun h1 => ?_) (fun h1 => ?_)   -- slot 10
  · refine o_move rfl ?_
    refine o_guard rfl rfl rfl rfl (fun _ => ?_) (fun h => by rw [h1] at h; cases h)
    refine o_move rfl ?_
    refine o_guard rfl rfl rfl rfl (fun _ => ?_) (fun h => by rw [h1] at h; cases h)
    refine o_leq rfl rfl rfl ?_
    refine o_pickT rfl rfl h1 ?_
    refine o_assign rfl ?_
    refine o_nil ?_
    refine k_ret ?_
    refine ⟨.inr rfl, _, .cons _ _ _ _ (.tmp 6) .nil, ?_⟩
    rw [h1]; exact .refl _
  · refine o_guard rfl rfl rfl rfl (fun h => by rw [h1] at h; cases h) (fun _ => ?_)
    refine o_guard rfl rfl rfl rfl (fun h => by rw [h1] at h; cases h) (fun _ => ?_)
    refine o_pickF rfl rfl h1 ?_
    refine o_assign rfl ?_
    refine o_nil ?_
    refine k_ret ?_
    refine ⟨.inr rfl, _, .cons _ _ _ _ (.tmp 6) .nil, ?_⟩
    rw [h1]; exact .refl _

-- 54 saron/saronref00.Good params [24, 3, 3] pure True
noncomputable def b54 : Code := (Try.f54.body).getD .skip
theorem body54 : bodyOf Try.prog 54 = some (24, b54, [.tmp 6]) := by kernel_rfl
theorem pure54 : pureFn Try.prog 54 = true := by kernel_rfl
set_option maxHeartbeats 4000000 in
theorem ret54 (hi : Off is) (a b lo up : Int) : RetP Try.prog is orc 54 [spanU a b, .int .i64 lo, .int .i64 up] (.bool (decide (lo ≤ a) && (decide (a ≤ b) && decide (b ≤ up)))) := by
  refine ret_of body54 pure54 (hi 54 (by decide)) rfl rfl (dat_l3 (dat_span _ _ _) (.int _ _ _) (.int _ _ _)) (.inl (.bool _ _)) ?_
  refine k_seq ?_
  refine k_region ?_   -- region 0 base.go:52
  refine o_box rfl rfl ?_
  refine o_assign rfl ?_
  refine o_nil ?_
  refine k_seq ?_
  refine k_region ?_   -- region 1 base.go:53
  refine o_move rfl ?_
  first | refine o_faddr rfl rfl fld24_0 ?_ | refine o_faddrR rfl rfl fld24_0 ?_
  first | refine o_load1 rfl rfl rfl sh3 rfl ?_ | refine o_loadR1 rfl rfl sh3 rfl ?_
  refine o_leq rfl rfl rfl ?_
  refine o_move rfl ?_
  refine o_guard rfl rfl rfl rfl (fun h1 => ?_) (fun h1 => ?_)   -- slot 11
  · first | refine o_faddr rfl rfl fld24_0 ?_ | refine o_faddrR rfl rfl fld24_0 ?_
    refine o_guard rfl rfl rfl rfl (fun _ => ?_) (fun h => by rw [h1] at h; cases h)
    first | refine o_load1 rfl rfl rfl sh3 rfl ?_ | refine o_loadR1 rfl rfl sh3 rfl ?_
    refine o_guard rfl rfl rfl rfl (fun _ => ?_) (fun h => by rw [h1] at h; cases h)
    first | refine o_faddr rfl rfl fld24_1 ?_ | refine o_faddrR rfl rfl fld24_1 ?_
    refine o_guard rfl rfl rfl rfl (fun _ => ?_) (fun h => by rw [h1] at h; cases h)
    first | refine o_load1 rfl rfl rfl sh3 rfl ?_ | refine o_loadR1 rfl rfl sh3 rfl ?_
    refine o_guard rfl rfl rfl rfl (fun _ => ?_) (fun h => by rw [h1] at h; cases h)
    refine o_leq rfl rfl rfl ?_
    refine o_pickT rfl rfl h1 ?_
    refine o_move rfl ?_
    refine o_guard rfl rfl rfl rfl (fun h2 => ?_) (fun h2 => ?_)   -- slot 18
    · first | refine o_faddr rfl rfl fld24_1 ?_ | refine o_faddrR rfl rfl fld24_1 ?_
      refine o_guard rfl rfl rfl rfl (fun _ => ?_) (fun h => by rw [h2] at h; cases h)
      first | refine o_load1 rfl rfl rfl sh3 rfl ?_ | refine o_loadR1 rfl rfl sh3 rfl ?_
      refine o_guard rfl rfl rfl rfl (fun _ => ?_) (fun h => by rw [h2] at h; cases h)
      refine o_move rfl ?_
      refine o_guard rfl rfl rfl rfl (fun _ => ?_) (fun h => by rw [h2] at h; cases h)
      refine o_leq rfl rfl rfl ?_
      refine o_pickT rfl rfl h2 ?_
      refine o_assign rfl ?_
      refine o_nil ?_
      refine k_ret ?_
      refine ⟨.inr rfl, _, .cons _ _ _ _ (.tmp 6) .nil, ?_⟩
      rw [h1, h2]; exact .refl _
    · refine o_guard rfl rfl rfl rfl (fun h => by rw [h2] at h; cases h) (fun _ => ?_)
      refine o_guard rfl rfl rfl rfl (fun h => by rw [h2] at h; cases h) (fun _ => ?_)
      refine o_guard rfl rfl rfl rfl (fun h => by rw [h2] at h; cases h) (fun _ => ?_)
      refine o_pickF rfl rfl h2 ?_
      refine o_assign rfl ?_
      refine o_nil ?_
      refine k_ret ?_
      refine ⟨.inr rfl, _, .cons _ _ _ _ (.tmp 6) .nil, ?_⟩
      rw [h1, h2]; exact .refl _
  · refine o_guard rfl rfl rfl rfl (fun h => by rw [h1] at h; cases h) (fun _ => ?_)
    refine o_guard rfl rfl rfl rfl (fun h => by rw [h1] at h; cases h) (fun _ => ?_)
    refine o_guard rfl rfl rfl rfl (fun h => by rw [h1] at h; cases h) (fun _ => ?_)
    refine o_guard rfl rfl rfl rfl (fun h => by rw [h1] at h; cases h) (fun _ => ?_)
    refine o_pickF rfl rfl h1 ?_
    refine o_move rfl ?_
    refine o_guard rfl rfl rfl rfl (fun h => by cases h) (fun _ => ?_)
    refine o_guard rfl rfl rfl rfl (fun h => by cases h) (fun _ => ?_)
    refine o_guard rfl rfl rfl rfl (fun h => by cases h) (fun _ => ?_)
    refine o_guard rfl rfl rfl rfl (fun h => by cases h) (fun _ => ?_)
    refine o_pickF rfl rfl rfl ?_
    refine o_assign rfl ?_
    refine o_nil ?_
    refine k_ret ?_
    refine ⟨.inr rfl, _, .cons _ _ _ _ (.tmp 6) .nil, ?_⟩
    rw [h1]; exact .refl _

-- 35 saron/saronref00.Bears params [24, 3] pure True
noncomputable def b35 : Code := (Try.f35.body).getD .skip
theorem body35 : bodyOf Try.prog 35 = some (11, b35, [.tmp 4]) := by kernel_rfl
theorem pure35 : pureFn Try.prog 35 = true := by kernel_rfl
set_option maxHeartbeats 4000000 in
theorem ret35 (hi : Off is) (a b n : Int) : RetP Try.prog is orc 35 [spanU a b, .int .i64 n] (.bool (decide (a ≤ n) && decide (n ≤ b))) := by
  refine ret_of body35 pure35 (hi 35 (by decide)) rfl rfl (dat_l2 (dat_span _ _ _) (.int _ _ _)) (.inl (.bool _ _)) ?_
  refine k_seq ?_
  refine k_region ?_   -- region 0 base.go:49
  refine o_box rfl rfl ?_
  refine o_assign rfl ?_
  refine o_nil ?_
  refine k_seq ?_
  refine k_region ?_   -- region 1 base.go:49
  refine o_move rfl ?_
  first | refine o_faddr rfl rfl fld24_0 ?_ | refine o_faddrR rfl rfl fld24_0 ?_
  first | refine o_load1 rfl rfl rfl sh3 rfl ?_ | refine o_loadR1 rfl rfl sh3 rfl ?_
  first | refine o_faddr rfl rfl fld24_1 ?_ | refine o_faddrR rfl rfl fld24_1 ?_
  first | refine o_load1 rfl rfl rfl sh3 rfl ?_ | refine o_loadR1 rfl rfl sh3 rfl ?_
  refine o_call rfl (ret34 hi _ _ _) (.lrefl _) ?_
  refine o_assign rfl ?_
  refine o_nil ?_
  refine k_ret ?_
  refine ⟨.inr rfl, _, .cons _ _ _ _ (.tmp 4) .nil, ?_⟩
  exact .refl _

-- 40 saron/saronref00.Turn params [3, 3] pure True
noncomputable def b40 : Code := (Try.f40.body).getD .skip
theorem body40 : bodyOf Try.prog 40 = some (17, b40, [.tmp 4]) := by kernel_rfl
theorem pure40 : pureFn Try.prog 40 = true := by kernel_rfl
set_option maxHeartbeats 4000000 in
theorem ret40 (hi : Off is) (n m : Int) (hm : 0 < m) (hb : m ≤ 4611686018427387904) : RetP Try.prog is orc 40 [.int .i64 n, .int .i64 m] (.int .i64 (n % m)) := by
  refine ret_of body40 pure40 (hi 40 (by decide)) rfl rfl (dat_l2 (.int _ _ _) (.int _ _ _)) (.inl (.int _ _ _)) ?_
  refine k_seq ?_
  refine k_region ?_   -- region 0 base.go:12
  refine o_assign rfl ?_
  refine o_nil ?_
  refine k_seq ?_
  refine k_seq ?_
  refine k_region ?_   -- region 1 base.go:13
  refine o_move rfl ?_
  refine o_lss rfl rfl rfl ?_
  refine o_nil ?_
  refine k_cond rfl (fun h1 => ?_) (fun h1 => ?_)   -- slot 7
  · refine k_seq ?_
    refine k_region ?_   -- region 2 base.go:14
    refine o_assign rfl ?_
    refine o_nil ?_
    refine k_ret ?_
    refine ⟨.inr rfl, _, .cons _ _ _ _ (.tmp 4) .nil, ?_⟩
    exact absurd (of_decide_eq_true h1) (by omega)
  · refine k_skip ?_
    refine k_seq ?_
    refine k_region ?_   -- region 3 base.go:16
    refine o_move rfl ?_
    refine o_move rfl ?_
    refine o_rem rfl rfl rfl (by omega) ?_
    refine o_assign rfl ?_
    refine o_nil ?_
    refine k_seq ?_
    refine k_seq ?_
    refine k_region ?_   -- region 4 base.go:17
    refine o_move rfl ?_
    refine o_lss rfl rfl rfl ?_
    refine o_nil ?_
    refine k_cond rfl (fun h2 => ?_) (fun h2 => ?_)   -- slot 12
    · refine k_region ?_   -- region 5 base.go:18
      refine o_move rfl ?_
      refine o_move rfl ?_
      refine o_add rfl rfl rfl (by have := tmod_neg_lt (a := n) hm; unfold I64; omega) ?_
      refine o_assign rfl ?_
      refine o_nil ?_
      refine k_seq ?_
      refine k_region ?_   -- region 6 base.go:20
      refine o_move rfl ?_
      refine o_assign rfl ?_
      refine o_nil ?_
      refine k_ret ?_
      refine ⟨.inr rfl, _, .cons _ _ _ _ (.tmp 4) .nil, ?_⟩
      rw [show n.tmod m + m = n % m from turn_neg hm (of_decide_eq_true h2)]; exact .refl _
    · refine k_skip ?_
      refine k_seq ?_
      refine k_region ?_   -- region 6 base.go:20
      refine o_move rfl ?_
      refine o_assign rfl ?_
      refine o_nil ?_
      refine k_ret ?_
      refine ⟨.inr rfl, _, .cons _ _ _ _ (.tmp 4) .nil, ?_⟩
      rw [show n.tmod m = n % m from turn_pos hm (by have := of_decide_eq_false h2; omega)]; exact .refl _

set_option maxHeartbeats 4000000 in
theorem ret40n (hi : Off is) (n m : Int) (hm : 0 < m) (hn : 0 ≤ n) : RetP Try.prog is orc 40 [.int .i64 n, .int .i64 m] (.int .i64 (n % m)) := by
  refine ret_of body40 pure40 (hi 40 (by decide)) rfl rfl (dat_l2 (.int _ _ _) (.int _ _ _)) (.inl (.int _ _ _)) ?_
  refine k_seq ?_
  refine k_region ?_   -- region 0 base.go:12
  refine o_assign rfl ?_
  refine o_nil ?_
  refine k_seq ?_
  refine k_seq ?_
  refine k_region ?_   -- region 1 base.go:13
  refine o_move rfl ?_
  refine o_lss rfl rfl rfl ?_
  refine o_nil ?_
  refine k_cond rfl (fun h1 => ?_) (fun h1 => ?_)   -- slot 7
  · refine k_seq ?_
    refine k_region ?_   -- region 2 base.go:14
    refine o_assign rfl ?_
    refine o_nil ?_
    refine k_ret ?_
    refine ⟨.inr rfl, _, .cons _ _ _ _ (.tmp 4) .nil, ?_⟩
    exact absurd (of_decide_eq_true h1) (by omega)
  · refine k_skip ?_
    refine k_seq ?_
    refine k_region ?_   -- region 3 base.go:16
    refine o_move rfl ?_
    refine o_move rfl ?_
    refine o_rem rfl rfl rfl (by omega) ?_
    refine o_assign rfl ?_
    refine o_nil ?_
    refine k_seq ?_
    refine k_seq ?_
    refine k_region ?_   -- region 4 base.go:17
    refine o_move rfl ?_
    refine o_lss rfl rfl rfl ?_
    refine o_nil ?_
    refine k_cond rfl (fun h2 => ?_) (fun h2 => ?_)   -- slot 12
    · exact absurd (show n.tmod m < 0 from of_decide_eq_true h2) (by have := Int.tmod_nonneg m hn; omega)
    · refine k_skip ?_
      refine k_seq ?_
      refine k_region ?_   -- region 6 base.go:20
      refine o_move rfl ?_
      refine o_assign rfl ?_
      refine o_nil ?_
      refine k_ret ?_
      refine ⟨.inr rfl, _, .cons _ _ _ _ (.tmp 4) .nil, ?_⟩
      rw [show n.tmod m = n % m from turn_pos hm (by have := of_decide_eq_false h2; omega)]; exact .refl _

-- 37 saron/saronref00.Nth params [38, 3] pure True
noncomputable def b37 : Code := (Try.f37.body).getD .skip
theorem body37 : bodyOf Try.prog 37 = some (15, b37, [.tmp 4]) := by kernel_rfl
theorem pure37 : pureFn Try.prog 37 = true := by kernel_rfl
set_option maxHeartbeats 4000000 in
theorem ret37 (hi : Off is) (l : List Int) (i : Nat) : RetP Try.prog is orc 37 [.lst .ro 1 (intsU l), .int .i64 i] (.int .i64 (nthI l i)) := by
  refine ret_of body37 pure37 (hi 37 (by decide)) rfl rfl (dat_l2 (dat_ints 6 .ro (fun h => by cases h) 1 l) (.int _ _ _)) (.inl (.int _ _ _)) ?_
  refine k_seq ?_
  refine k_region ?_   -- region 0 base.go:143
  refine o_assign rfl ?_
  refine o_nil ?_
  refine k_seq ?_
  refine k_seq ?_
  refine k_region ?_   -- region 1 base.go:144
  refine o_move rfl ?_
  refine o_len rfl ty38 rfl rfl ?_
  refine o_eql rfl rfl rfl ?_
  refine o_nil ?_
  refine k_cond rfl (fun h1 => ?_) (fun h1 => ?_)   -- slot 7
  · refine k_seq ?_
    refine k_region ?_   -- region 2 base.go:145
    refine o_assign rfl ?_
    refine o_nil ?_
    refine k_ret ?_
    refine ⟨.inr rfl, _, .cons _ _ _ _ (.tmp 4) .nil, ?_⟩
    have h0 : l = [] := by
      have := of_decide_eq_true h1
      simp at this; exact this
    rw [h0]; exact .refl _
  · have hl : 0 < l.length := by
      have := of_decide_eq_false h1
      simp at this; exact List.length_pos_iff.2 this
    obtain ⟨q, hq⟩ : ∃ q, l[i % l.length]? = some q := ⟨_, List.getElem?_eq_getElem (Nat.mod_lt i hl)⟩
    have he : ((i : Int) % ((intsU l).length : Int)) = ((i % l.length : Nat) : Int) := by simp
    refine k_skip ?_
    refine k_seq ?_
    refine k_region ?_   -- region 3 base.go:147
    refine o_move rfl ?_
    refine o_move rfl ?_
    refine o_move rfl ?_
    refine o_len rfl ty38 rfl rfl ?_
    refine o_call rfl (ret40n hi i _ (by simp; omega) (Int.natCast_nonneg i)) (.lrefl _) ?_
    refine o_idx (u := .int .i64 q) rfl ty38 rfl rfl (Int.emod_nonneg _ (by simp only [List.length_map]; omega)) (by rw [he, Int.toNat_natCast]; simp [hq]) cl3 ?_
    first | refine o_load1 rfl rfl rfl sh3 rfl ?_ | refine o_loadR1 rfl rfl sh3 rfl ?_
    refine o_assign rfl ?_
    refine o_nil ?_
    refine k_ret ?_
    refine ⟨.inr rfl, _, .cons _ _ _ _ (.tmp 4) .nil, ?_⟩
    rw [show nthI l i = q by unfold nthI; rw [hq]; rfl]; exact .refl _

-- 36 saron/saronref00.Draw params [24, 3] pure True
noncomputable def b36 : Code := (Try.f36.body).getD .skip
theorem body36 : bodyOf Try.prog 36 = some (34, b36, [.tmp 4]) := by kernel_rfl
theorem pure36 : pureFn Try.prog 36 = true := by kernel_rfl
set_option maxHeartbeats 4000000 in
theorem ret36 (hi : Off is) (a b n : Int) (hb : -1000 ≤ a ∧ b ≤ 1000) : RetP Try.prog is orc 36 [spanU a b, .int .i64 n] (.int .i64 (drawI a b n)) := by
  refine ret_of body36 pure36 (hi 36 (by decide)) rfl rfl (dat_l2 (dat_span _ _ _) (.int _ _ _)) (.inl (.int _ _ _)) ?_
  refine k_seq ?_
  refine k_region ?_   -- region 0 base.go:151
  refine o_box rfl rfl ?_
  refine o_assign rfl ?_
  refine o_nil ?_
  refine k_seq ?_
  refine k_seq ?_
  refine k_region ?_   -- region 1 base.go:152
  first | refine o_faddr rfl rfl fld24_1 ?_ | refine o_faddrR rfl rfl fld24_1 ?_
  first | refine o_load1 rfl rfl rfl sh3 rfl ?_ | refine o_loadR1 rfl rfl sh3 rfl ?_
  first | refine o_faddr rfl rfl fld24_0 ?_ | refine o_faddrR rfl rfl fld24_0 ?_
  first | refine o_load1 rfl rfl rfl sh3 rfl ?_ | refine o_loadR1 rfl rfl sh3 rfl ?_
  refine o_leq rfl rfl rfl ?_
  refine o_nil ?_
  refine k_cond rfl (fun h1 => ?_) (fun h1 => ?_)   -- slot 10
  · refine k_seq ?_
    refine k_region ?_   -- region 2 base.go:153
    first | refine o_faddr rfl rfl fld24_0 ?_ | refine o_faddrR rfl rfl fld24_0 ?_
    first | refine o_load1 rfl rfl rfl sh3 rfl ?_ | refine o_loadR1 rfl rfl sh3 rfl ?_
    refine o_assign rfl ?_
    refine o_nil ?_
    refine k_ret ?_
    refine ⟨.inr rfl, _, .cons _ _ _ _ (.tmp 4) .nil, ?_⟩
    rw [show drawI a b n = a from if_pos (of_decide_eq_true h1)]; exact .refl _
  · have hab : ¬ b ≤ a := of_decide_eq_false h1
    have p1 := Int.emod_nonneg n (show b - a + 1 ≠ 0 by omega)
    have p2 := Int.emod_lt_of_pos n (show 0 < b - a + 1 by omega)
    refine k_skip ?_
    refine k_seq ?_
    refine k_region ?_   -- region 3 base.go:155
    first | refine o_faddr rfl rfl fld24_1 ?_ | refine o_faddrR rfl rfl fld24_1 ?_
    first | refine o_load1 rfl rfl rfl sh3 rfl ?_ | refine o_loadR1 rfl rfl sh3 rfl ?_
    first | refine o_faddr rfl rfl fld24_0 ?_ | refine o_faddrR rfl rfl fld24_0 ?_
    first | refine o_load1 rfl rfl rfl sh3 rfl ?_ | refine o_loadR1 rfl rfl sh3 rfl ?_
    refine o_sub rfl rfl rfl (by unfold I64; omega) ?_
    refine o_add rfl rfl rfl (by unfold I64; omega) ?_
    refine o_assign rfl ?_
    refine o_nil ?_
    refine k_seq ?_
    refine k_seq ?_
    refine k_region ?_   -- region 4 base.go:156
    refine o_move rfl ?_
    refine o_lss rfl rfl rfl ?_
    refine o_nil ?_
    refine k_cond rfl (fun h2 => ?_) (fun h2 => ?_)   -- slot 20
    · refine k_seq ?_
      refine k_region ?_   -- region 5 base.go:158
      refine o_move rfl ?_
      first | refine o_faddr rfl rfl fld24_0 ?_ | refine o_faddrR rfl rfl fld24_0 ?_
      first | refine o_load1 rfl rfl rfl sh3 rfl ?_ | refine o_loadR1 rfl rfl sh3 rfl ?_
      refine o_max rfl rfl rfl ?_
      first | refine o_faddr rfl rfl fld24_1 ?_ | refine o_faddrR rfl rfl fld24_1 ?_
      first | refine o_load1 rfl rfl rfl sh3 rfl ?_ | refine o_loadR1 rfl rfl sh3 rfl ?_
      refine o_min rfl rfl rfl ?_
      refine o_assign rfl ?_
      refine o_nil ?_
      refine k_ret ?_
      refine ⟨.inr rfl, _, .cons _ _ _ _ (.tmp 4) .nil, ?_⟩
      exact absurd (show b - a + 1 < 1 from of_decide_eq_true h2) (by have := show ¬ b ≤ a from of_decide_eq_false h1; omega)
    · refine k_skip ?_
      refine k_seq ?_
      refine k_draw [.plain, .read true, .plain, .plain, .read false, .plain, .plain] (by kernel_rfl) (by kernel_rfl) (by kernel_rfl) ?_   -- region 6
      first | refine d_plain (o_faddr rfl rfl fld24_0 (o_nil rfl)) ?_ | refine d_plain (o_faddrR rfl rfl fld24_0 (o_nil rfl)) ?_
      first | refine d_load rfl (o_load1 rfl rfl rfl sh3 rfl (o_nil rfl)) ?_ | refine d_load rfl (o_loadR1 rfl rfl sh3 rfl (o_nil rfl)) ?_
      refine d_plain (o_move rfl (o_nil rfl)) ?_
      refine d_plain (o_move rfl (o_nil rfl)) ?_
      refine d_callR rfl (ret40 hi n (b - a + 1) (by omega) (by omega)) (.int _ _) (.lrefl _) ?_
      refine d_plain (o_add rfl rfl rfl (by unfold I64; omega) (o_nil rfl)) ?_
      refine d_plain (o_assign rfl (o_nil rfl)) ?_
      refine d_nil ?_
      refine k_ret ?_
      refine ⟨.inr rfl, _, .cons _ _ _ _ (.tmp 4) .nil, ?_⟩
      rw [show drawI a b n = a + n % (b - a + 1) from if_neg (of_decide_eq_false h1)]; exact .refl _

-- 33 saron/saronlaw03.state params [28] pure True
noncomputable def b33 : Code := (Try.f33.body).getD .skip
theorem body33 : bodyOf Try.prog 33 = some (11, b33, [.tmp 2, .tmp 3]) := by kernel_rfl
theorem pure33 : pureFn Try.prog 33 = true := by kernel_rfl
set_option maxHeartbeats 4000000 in
theorem ret33 (hi : Off is) (a b : Int) : RetP Try.prog is orc 33 [.agg [.int .i64 a, .int .i64 b]] (.tup [.int .i64 (a % 121 - 60), .int .i64 (b % 31)]) := by
  refine ret_of body33 pure33 (hi 33 (by decide)) rfl rfl (dat_l1 (dat_span _ _ _)) (.inr ⟨_, rfl, dat_l2 (.int _ _ _) (.int _ _ _)⟩) ?_
  have p1 := Int.emod_nonneg a (show (121 : Int) ≠ 0 by omega)
  have p2 := Int.emod_lt_of_pos a (show (0 : Int) < 121 by omega)
  refine k_seq ?_
  refine k_region ?_   -- region 0 outright.go:52
  refine o_box rfl rfl ?_
  refine o_assign rfl ?_
  refine o_assign rfl ?_
  refine o_nil ?_
  refine k_seq ?_
  refine k_draw [.plain, .read true, .read false, .plain, .plain, .read true, .plain, .plain, .plain] (by kernel_rfl) (by kernel_rfl) (by kernel_rfl) ?_   -- region 1
  first | refine d_plain (o_idxA rfl ty28 rfl rfl (by omega) (by omega) cl3 (o_nil rfl)) ?_ | refine d_plain (o_idxE rfl ty28 rfl rfl (by omega) (by omega) cl3 (o_nil rfl)) ?_
  first | refine d_load rfl (o_load1 rfl rfl rfl sh3 rfl (o_nil rfl)) ?_ | refine d_load rfl (o_loadR1 rfl rfl sh3 rfl (o_nil rfl)) ?_
  refine d_callR rfl (ret40 hi a 121 (by omega) (by omega)) (.int _ _) (.lrefl _) ?_
  refine d_plain (o_sub rfl rfl rfl (by unfold I64; omega) (o_nil rfl)) ?_
  first | refine d_plain (o_idxA rfl ty28 rfl rfl (by omega) (by omega) cl3 (o_nil rfl)) ?_ | refine d_plain (o_idxE rfl ty28 rfl rfl (by omega) (by omega) cl3 (o_nil rfl)) ?_
  first | refine d_load rfl (o_load1 rfl rfl rfl sh3 rfl (o_nil rfl)) ?_ | refine d_load rfl (o_loadR1 rfl rfl sh3 rfl (o_nil rfl)) ?_
  refine d_plain (o_call rfl (ret40 hi b 31 (by omega) (by omega)) (.lrefl _) (o_nil rfl)) ?_
  refine d_plain (o_assign rfl (o_nil rfl)) ?_
  refine d_plain (o_assign rfl (o_nil rfl)) ?_
  refine d_nil ?_
  refine k_ret ?_
  refine ⟨.inr rfl, _, .cons _ _ _ _ (.tmp 2) (.cons _ _ _ _ (.tmp 3) .nil), ?_⟩
  exact .refl _

-- 32 saron/saronlaw03.sound params [27] pure True
noncomputable def b32 : Code := (Try.f32.body).getD .skip
theorem body32 : bodyOf Try.prog 32 = some (79, b32, [.tmp 2]) := by kernel_rfl
theorem pure32 : pureFn Try.prog 32 = true := by kernel_rfl
set_option maxHeartbeats 4000000 in
theorem ret32 (hi : Off is) {s : Shop} (hk : SOk s) : RetP Try.prog is orc 32 [s.u] (.bool true) := by
  refine ret_of body32 pure32 (hi 32 (by decide)) rfl rfl (dat_l1 (dat_shop s 5)) (.inl (.bool _ _)) ?_
  have w1 := hk.nt; have w3 := hk.nk
  have g9 : decide (checkR s.tools s.keys s.flo s.fhi = 0) = true := decide_eq_true (chk_ok hk)
  have g15 : (decide (1 ≤ ((trisU s.tools).length : Int)) && decide (((trisU s.tools).length : Int) ≤ 4)) = true := by have := hk.nt; simp; omega
  have g20 : (decide (-60 ≤ s.flo) && (decide (s.flo ≤ s.fhi) && decide (s.fhi ≤ 60))) = true := by have := hk.fine; simp; omega
  have g25 : decide (((trisU s.keys).length : Int) ≤ 6) = true := by have := hk.nk; simp; omega
  refine k_seq ?_
  refine k_region ?_   -- region 0 outright.go:40
  refine o_box rfl rfl ?_
  refine o_assign rfl ?_
  refine o_nil ?_
  refine k_seq ?_
  refine k_region ?_   -- region 1 outright.go:41
  first | refine o_loadN rfl rfl rfl sh27 rfl ?_ | refine o_loadRN rfl rfl sh27 rfl ?_
  refine o_call rfl (chk hi s) (.lrefl _) ?_
  refine o_eql rfl rfl rfl ?_
  refine o_move rfl ?_
  refine o_guard rfl rfl rfl rfl (fun _ => ?_) (fun h => absurd (h.symm.trans g9) (by decide))
  first | refine o_faddr rfl rfl fld27_0 ?_ | refine o_faddrR rfl rfl fld27_0 ?_
  refine o_guard rfl rfl rfl rfl (fun _ => ?_) (fun h => absurd (h.symm.trans g9) (by decide))
  first | refine o_load1 rfl rfl rfl sh22 rfl ?_ | refine o_loadR1 rfl rfl sh22 rfl ?_
  refine o_guard rfl rfl rfl rfl (fun _ => ?_) (fun h => absurd (h.symm.trans g9) (by decide))
  refine o_len rfl ty22 rfl rfl ?_
  refine o_guard rfl rfl rfl rfl (fun _ => ?_) (fun h => absurd (h.symm.trans g9) (by decide))
  refine o_call rfl (ret34 hi _ _ _) (.lrefl _) ?_
  refine o_pickT rfl rfl g9 ?_
  refine o_move rfl ?_
  refine o_guard rfl rfl rfl rfl (fun _ => ?_) (fun h => absurd (h.symm.trans g15) (by decide))
  first | refine o_faddr rfl rfl fld27_1 ?_ | refine o_faddrR rfl rfl fld27_1 ?_
  refine o_guard rfl rfl rfl rfl (fun _ => ?_) (fun h => absurd (h.symm.trans g15) (by decide))
  first | refine o_loadN rfl rfl rfl sh24 rfl ?_ | refine o_loadRN rfl rfl sh24 rfl ?_
  refine o_guard rfl rfl rfl rfl (fun _ => ?_) (fun h => absurd (h.symm.trans g15) (by decide))
  refine o_call rfl (ret54 hi _ _ _ _) (.lrefl _) ?_
  refine o_pickT rfl rfl g15 ?_
  refine o_move rfl ?_
  refine o_guard rfl rfl rfl rfl (fun _ => ?_) (fun h => absurd (h.symm.trans g20) (by decide))
  first | refine o_faddr rfl rfl fld27_2 ?_ | refine o_faddrR rfl rfl fld27_2 ?_
  refine o_guard rfl rfl rfl rfl (fun _ => ?_) (fun h => absurd (h.symm.trans g20) (by decide))
  first | refine o_load1 rfl rfl rfl sh25 rfl ?_ | refine o_loadR1 rfl rfl sh25 rfl ?_
  refine o_guard rfl rfl rfl rfl (fun _ => ?_) (fun h => absurd (h.symm.trans g20) (by decide))
  refine o_len rfl ty25 rfl rfl ?_
  refine o_guard rfl rfl rfl rfl (fun _ => ?_) (fun h => absurd (h.symm.trans g20) (by decide))
  refine o_leq rfl rfl rfl ?_
  refine o_pickT rfl rfl g20 ?_
  refine o_assign rfl ?_
  refine o_nil ?_
  refine k_seq ?_
  refine k_seq ?_
  refine k_region ?_   -- region 2 outright.go:42
  refine o_assign rfl ?_
  refine o_nil ?_
  refine k_block ?_
  -- LOOP 1
  refine k_loop (fun k st => ∃ n : Nat, k + n = s.tools.length ∧ st.st[0]? = some (.box s.cs) ∧ Holds st [(1, .box 0 0), (3, .bool true), (4, .int .i64 n)]) (fun k st hI => ?_) s.tools.length _ ?_
  · obtain ⟨n, hk0, hst, hs⟩ := hI
    rw [hs.eq]
    refine k_seq ?_
    refine k_seq ?_
    refine k_region ?_   -- region 3 outright.go:42
    refine o_move rfl ?_
    refine o_move rfl ?_
    refine o_guard rfl rfl rfl rfl (fun _ => ?_) (fun h => absurd (h.symm.trans rfl) (by decide))
    refine o_move rfl ?_
    refine o_guard rfl rfl rfl rfl (fun _ => ?_) (fun h => absurd (h.symm.trans rfl) (by decide))
    first | refine o_faddr rfl rfl fld27_0 ?_ | refine o_faddrR rfl rfl fld27_0 ?_
    refine o_guard rfl rfl rfl rfl (fun _ => ?_) (fun h => absurd (h.symm.trans rfl) (by decide))
    first | refine o_load1 rfl rfl rfl sh22 rfl ?_ | refine o_load1 rfl rfl (at_set _ _ _) sh22 rfl ?_ | refine o_load1 rfl rfl (at_new _ _) sh22 rfl ?_ | refine o_load1 rfl rfl (at_old2 hst) sh22 rfl ?_ | refine o_load1 rfl rfl (at_old hst) sh22 rfl ?_ | refine o_load1 rfl rfl hst sh22 rfl ?_ | refine o_loadR1 rfl rfl sh22 rfl ?_
    refine o_guard rfl rfl rfl rfl (fun _ => ?_) (fun h => absurd (h.symm.trans rfl) (by decide))
    refine o_len rfl ty22 rfl rfl ?_
    refine o_guard rfl rfl rfl rfl (fun _ => ?_) (fun h => absurd (h.symm.trans rfl) (by decide))
    refine o_lss rfl rfl rfl ?_
    refine o_pickT rfl rfl rfl ?_
    refine o_nil ?_
    refine k_cond rfl (fun h1 => ?_) (fun h1 => ?_)   -- slot 33
    · have h3' : n < s.tools.length := by
        have := of_decide_eq_true h1
        simp at this; omega
      obtain ⟨q, hq⟩ : ∃ q, s.tools[n]? = some q := ⟨s.tools[n], List.getElem?_eq_getElem h3'⟩
      have hm := hk.tools q (List.mem_of_getElem? hq)
      have g43 : (decide (-30 ≤ q.a) && (decide (q.a ≤ q.b) && decide (q.b ≤ 30))) = true := by simp; omega
      have g50 : (decide (1 ≤ q.c) && decide (q.c ≤ 10)) = true := by simp; omega
      refine k_skip ?_
      refine k_seq ?_
      refine k_block ?_
      refine k_region ?_   -- region 5 outright.go:43
      first | refine o_faddr rfl rfl fld27_0 ?_ | refine o_faddrR rfl rfl fld27_0 ?_
      first | refine o_load1 rfl rfl rfl sh22 rfl ?_ | refine o_load1 rfl rfl (at_set _ _ _) sh22 rfl ?_ | refine o_load1 rfl rfl (at_new _ _) sh22 rfl ?_ | refine o_load1 rfl rfl (at_old2 hst) sh22 rfl ?_ | refine o_load1 rfl rfl (at_old hst) sh22 rfl ?_ | refine o_load1 rfl rfl hst sh22 rfl ?_ | refine o_loadR1 rfl rfl sh22 rfl ?_
      refine o_move rfl ?_
      refine o_idx (u := q.u) rfl ty22 rfl rfl (Int.natCast_nonneg n) (by simp [hq]) cl52 ?_
      first | refine o_faddr rfl rfl fld52_0 ?_ | refine o_faddrR rfl rfl fld52_0 ?_
      first | refine o_loadN rfl rfl rfl sh24 rfl ?_ | refine o_loadN rfl rfl (at_set _ _ _) sh24 rfl ?_ | refine o_loadN rfl rfl (at_new _ _) sh24 rfl ?_ | refine o_loadN rfl rfl (at_old2 hst) sh24 rfl ?_ | refine o_loadN rfl rfl (at_old hst) sh24 rfl ?_ | refine o_loadN rfl rfl hst sh24 rfl ?_ | refine o_loadRN rfl rfl sh24 rfl ?_
      refine o_call rfl (ret54 hi _ _ _ _) (.lrefl _) ?_
      refine o_move rfl ?_
      refine o_guard rfl rfl rfl rfl (fun _ => ?_) (fun h => absurd (h.symm.trans g43) (by decide))
      first | refine o_faddr rfl rfl fld27_0 ?_ | refine o_faddrR rfl rfl fld27_0 ?_
      refine o_guard rfl rfl rfl rfl (fun _ => ?_) (fun h => absurd (h.symm.trans g43) (by decide))
      first | refine o_load1 rfl rfl rfl sh22 rfl ?_ | refine o_load1 rfl rfl (at_set _ _ _) sh22 rfl ?_ | refine o_load1 rfl rfl (at_new _ _) sh22 rfl ?_ | refine o_load1 rfl rfl (at_old2 hst) sh22 rfl ?_ | refine o_load1 rfl rfl (at_old hst) sh22 rfl ?_ | refine o_load1 rfl rfl hst sh22 rfl ?_ | refine o_loadR1 rfl rfl sh22 rfl ?_
      refine o_guard rfl rfl rfl rfl (fun _ => ?_) (fun h => absurd (h.symm.trans g43) (by decide))
      refine o_move rfl ?_
      refine o_guard rfl rfl rfl rfl (fun _ => ?_) (fun h => absurd (h.symm.trans g43) (by decide))
      refine o_idx (u := q.u) rfl ty22 rfl rfl (Int.natCast_nonneg n) (by simp [hq]) cl52 ?_
      refine o_guard rfl rfl rfl rfl (fun _ => ?_) (fun h => absurd (h.symm.trans g43) (by decide))
      first | refine o_faddr rfl rfl fld52_1 ?_ | refine o_faddrR rfl rfl fld52_1 ?_
      refine o_guard rfl rfl rfl rfl (fun _ => ?_) (fun h => absurd (h.symm.trans g43) (by decide))
      first | refine o_load1 rfl rfl rfl sh3 rfl ?_ | refine o_load1 rfl rfl (at_set _ _ _) sh3 rfl ?_ | refine o_load1 rfl rfl (at_new _ _) sh3 rfl ?_ | refine o_load1 rfl rfl (at_old2 hst) sh3 rfl ?_ | refine o_load1 rfl rfl (at_old hst) sh3 rfl ?_ | refine o_load1 rfl rfl hst sh3 rfl ?_ | refine o_loadR1 rfl rfl sh3 rfl ?_
      refine o_guard rfl rfl rfl rfl (fun _ => ?_) (fun h => absurd (h.symm.trans g43) (by decide))
      refine o_call rfl (ret34 hi _ _ _) (.lrefl _) ?_
      refine o_pickT rfl rfl g43 ?_
      refine o_assign rfl ?_
      refine o_nil ?_
      refine k_region ?_   -- region 4 outright.go:42
      refine o_move rfl ?_
      refine o_add rfl rfl rfl (by unfold I64; omega) ?_
      refine o_assign rfl ?_
      refine o_nil ?_
      exact ⟨k - 1, by omega, n + 1, by omega, (by first | exact hst | exact at_old2 hst), .cons rfl (.cons (congrArg U.bool g50) (.cons rfl (.nil rfl)))⟩
    · refine k_exit ?_
      refine k_seq ?_
      refine k_seq ?_
      refine k_region ?_   -- region 6 outright.go:45
      refine o_assign rfl ?_
      refine o_nil ?_
      refine k_block ?_
      -- LOOP 2
      refine k_loop (fun k st => ∃ n : Nat, k + n = s.keys.length ∧ st.st[0]? = some (.box s.cs) ∧ Holds st [(1, .box 0 0), (3, .bool true), (5, .int .i64 n)]) (fun k st hI => ?_) s.keys.length _ ?_
      · obtain ⟨n, hk0, hst, hs⟩ := hI
        rw [hs.eq]
        refine k_seq ?_
        refine k_seq ?_
        refine k_region ?_   -- region 7 outright.go:45
        refine o_move rfl ?_
        refine o_move rfl ?_
        refine o_guard rfl rfl rfl rfl (fun _ => ?_) (fun h => absurd (h.symm.trans rfl) (by decide))
        refine o_move rfl ?_
        refine o_guard rfl rfl rfl rfl (fun _ => ?_) (fun h => absurd (h.symm.trans rfl) (by decide))
        first | refine o_faddr rfl rfl fld27_2 ?_ | refine o_faddrR rfl rfl fld27_2 ?_
        refine o_guard rfl rfl rfl rfl (fun _ => ?_) (fun h => absurd (h.symm.trans rfl) (by decide))
        first | refine o_load1 rfl rfl rfl sh25 rfl ?_ | refine o_load1 rfl rfl (at_set _ _ _) sh25 rfl ?_ | refine o_load1 rfl rfl (at_new _ _) sh25 rfl ?_ | refine o_load1 rfl rfl (at_old2 hst) sh25 rfl ?_ | refine o_load1 rfl rfl (at_old hst) sh25 rfl ?_ | refine o_load1 rfl rfl hst sh25 rfl ?_ | refine o_loadR1 rfl rfl sh25 rfl ?_
        refine o_guard rfl rfl rfl rfl (fun _ => ?_) (fun h => absurd (h.symm.trans rfl) (by decide))
        refine o_len rfl ty25 rfl rfl ?_
        refine o_guard rfl rfl rfl rfl (fun _ => ?_) (fun h => absurd (h.symm.trans rfl) (by decide))
        refine o_lss rfl rfl rfl ?_
        refine o_pickT rfl rfl rfl ?_
        refine o_nil ?_
        refine k_cond rfl (fun h2 => ?_) (fun h2 => ?_)   -- slot 59
        · have h3' : n < s.keys.length := by
            have := of_decide_eq_true h2
            simp at this; omega
          obtain ⟨q, hq⟩ : ∃ q, s.keys[n]? = some q := ⟨s.keys[n], List.getElem?_eq_getElem h3'⟩
          have hm := hk.keys q (List.mem_of_getElem? hq)
          have g69 : (decide (-60 ≤ q.a) && (decide (q.a ≤ q.b) && decide (q.b ≤ 60))) = true := by simp; omega
          have g76 : (decide (0 ≤ q.c) && decide (q.c ≤ 30)) = true := by simp; omega
          refine k_skip ?_
          refine k_seq ?_
          refine k_block ?_
          refine k_region ?_   -- region 9 outright.go:46
          first | refine o_faddr rfl rfl fld27_2 ?_ | refine o_faddrR rfl rfl fld27_2 ?_
          first | refine o_load1 rfl rfl rfl sh25 rfl ?_ | refine o_load1 rfl rfl (at_set _ _ _) sh25 rfl ?_ | refine o_load1 rfl rfl (at_new _ _) sh25 rfl ?_ | refine o_load1 rfl rfl (at_old2 hst) sh25 rfl ?_ | refine o_load1 rfl rfl (at_old hst) sh25 rfl ?_ | refine o_load1 rfl rfl hst sh25 rfl ?_ | refine o_loadR1 rfl rfl sh25 rfl ?_
          refine o_move rfl ?_
          refine o_idx (u := q.u) rfl ty25 rfl rfl (Int.natCast_nonneg n) (by simp [hq]) cl64 ?_
          first | refine o_faddr rfl rfl fld64_0 ?_ | refine o_faddrR rfl rfl fld64_0 ?_
          first | refine o_loadN rfl rfl rfl sh24 rfl ?_ | refine o_loadN rfl rfl (at_set _ _ _) sh24 rfl ?_ | refine o_loadN rfl rfl (at_new _ _) sh24 rfl ?_ | refine o_loadN rfl rfl (at_old2 hst) sh24 rfl ?_ | refine o_loadN rfl rfl (at_old hst) sh24 rfl ?_ | refine o_loadN rfl rfl hst sh24 rfl ?_ | refine o_loadRN rfl rfl sh24 rfl ?_
          refine o_call rfl (ret54 hi _ _ _ _) (.lrefl _) ?_
          refine o_move rfl ?_
          refine o_guard rfl rfl rfl rfl (fun _ => ?_) (fun h => absurd (h.symm.trans g69) (by decide))
          first | refine o_faddr rfl rfl fld27_2 ?_ | refine o_faddrR rfl rfl fld27_2 ?_
          refine o_guard rfl rfl rfl rfl (fun _ => ?_) (fun h => absurd (h.symm.trans g69) (by decide))
          first | refine o_load1 rfl rfl rfl sh25 rfl ?_ | refine o_load1 rfl rfl (at_set _ _ _) sh25 rfl ?_ | refine o_load1 rfl rfl (at_new _ _) sh25 rfl ?_ | refine o_load1 rfl rfl (at_old2 hst) sh25 rfl ?_ | refine o_load1 rfl rfl (at_old hst) sh25 rfl ?_ | refine o_load1 rfl rfl hst sh25 rfl ?_ | refine o_loadR1 rfl rfl sh25 rfl ?_
          refine o_guard rfl rfl rfl rfl (fun _ => ?_) (fun h => absurd (h.symm.trans g69) (by decide))
          refine o_move rfl ?_
          refine o_guard rfl rfl rfl rfl (fun _ => ?_) (fun h => absurd (h.symm.trans g69) (by decide))
          refine o_idx (u := q.u) rfl ty25 rfl rfl (Int.natCast_nonneg n) (by simp [hq]) cl64 ?_
          refine o_guard rfl rfl rfl rfl (fun _ => ?_) (fun h => absurd (h.symm.trans g69) (by decide))
          first | refine o_faddr rfl rfl fld64_1 ?_ | refine o_faddrR rfl rfl fld64_1 ?_
          refine o_guard rfl rfl rfl rfl (fun _ => ?_) (fun h => absurd (h.symm.trans g69) (by decide))
          first | refine o_load1 rfl rfl rfl sh3 rfl ?_ | refine o_load1 rfl rfl (at_set _ _ _) sh3 rfl ?_ | refine o_load1 rfl rfl (at_new _ _) sh3 rfl ?_ | refine o_load1 rfl rfl (at_old2 hst) sh3 rfl ?_ | refine o_load1 rfl rfl (at_old hst) sh3 rfl ?_ | refine o_load1 rfl rfl hst sh3 rfl ?_ | refine o_loadR1 rfl rfl sh3 rfl ?_
          refine o_guard rfl rfl rfl rfl (fun _ => ?_) (fun h => absurd (h.symm.trans g69) (by decide))
          refine o_call rfl (ret34 hi _ _ _) (.lrefl _) ?_
          refine o_pickT rfl rfl g69 ?_
          refine o_assign rfl ?_
          refine o_nil ?_
          refine k_region ?_   -- region 8 outright.go:45
          refine o_move rfl ?_
          refine o_add rfl rfl rfl (by unfold I64; omega) ?_
          refine o_assign rfl ?_
          refine o_nil ?_
          exact ⟨k - 1, by omega, n + 1, by omega, (by first | exact hst | exact at_old2 hst), .cons rfl (.cons (congrArg U.bool g76) (.cons rfl (.nil rfl)))⟩
        · refine k_exit ?_
          refine k_seq ?_
          refine k_region ?_   -- region 10 outright.go:48
          refine o_move rfl ?_
          refine o_assign rfl ?_
          refine o_nil ?_
          refine k_ret ?_
          refine ⟨.inr rfl, _, .cons _ _ _ _ (.tmp 2) .nil, ?_⟩
          exact .refl _
      · exact ⟨0, rfl, hst, .cons rfl (.cons rfl (.cons rfl (.nil rfl)))⟩
  · exact ⟨0, rfl, rfl, .cons rfl (.cons (congrArg U.bool g25) (.cons rfl (.nil rfl)))⟩

set_option maxHeartbeats 4000000 in
theorem ret32n (hi : Off is) {s : Shop} (hv : checkR s.tools s.keys s.flo s.fhi ≠ 0) : RetP Try.prog is orc 32 [s.u] (.bool false) := by
  refine ret_of body32 pure32 (hi 32 (by decide)) rfl rfl (dat_l1 (dat_shop s 5)) (.inl (.bool _ _)) ?_
  have g9 : decide (checkR s.tools s.keys s.flo s.fhi = 0) = false := decide_eq_false hv
  refine k_seq ?_
  refine k_region ?_   -- region 0 outright.go:40
  refine o_box rfl rfl ?_
  refine o_assign rfl ?_
  refine o_nil ?_
  refine k_seq ?_
  refine k_region ?_   -- region 1 outright.go:41
  first | refine o_loadN rfl rfl rfl sh27 rfl ?_ | refine o_loadRN rfl rfl sh27 rfl ?_
  refine o_call rfl (chk hi s) (.lrefl _) ?_
  refine o_eql rfl rfl rfl ?_
  refine o_move rfl ?_
  refine o_guard rfl rfl rfl rfl (fun h => absurd (h.symm.trans g9) (by decide)) (fun _ => ?_)
  refine o_guard rfl rfl rfl rfl (fun h => absurd (h.symm.trans g9) (by decide)) (fun _ => ?_)
  refine o_guard rfl rfl rfl rfl (fun h => absurd (h.symm.trans g9) (by decide)) (fun _ => ?_)
  refine o_guard rfl rfl rfl rfl (fun h => absurd (h.symm.trans g9) (by decide)) (fun _ => ?_)
  refine o_pickF rfl rfl g9 ?_
  refine o_move rfl ?_
  refine o_guard rfl rfl rfl rfl (fun h => by cases h) (fun _ => ?_)
  refine o_guard rfl rfl rfl rfl (fun h => by cases h) (fun _ => ?_)
  refine o_guard rfl rfl rfl rfl (fun h => by cases h) (fun _ => ?_)
  refine o_pickF rfl rfl rfl ?_
  refine o_move rfl ?_
  refine o_guard rfl rfl rfl rfl (fun h => by cases h) (fun _ => ?_)
  refine o_guard rfl rfl rfl rfl (fun h => by cases h) (fun _ => ?_)
  refine o_guard rfl rfl rfl rfl (fun h => by cases h) (fun _ => ?_)
  refine o_guard rfl rfl rfl rfl (fun h => by cases h) (fun _ => ?_)
  refine o_pickF rfl rfl rfl ?_
  refine o_assign rfl ?_
  refine o_nil ?_
  refine k_seq ?_
  refine k_seq ?_
  refine k_region ?_   -- region 2 outright.go:42
  refine o_assign rfl ?_
  refine o_nil ?_
  refine k_block ?_
  -- LOOP 1
  refine k_loop (fun k st => st.st[0]? = some (.box s.cs) ∧ Holds st [(1, .box 0 0), (3, .bool false), (4, .int .i64 0)]) (fun k st hI => ?_) 0 _ ?_
  · obtain ⟨hst, hs⟩ := hI
    rw [hs.eq]
    refine k_seq ?_
    refine k_seq ?_
    refine k_region ?_   -- region 3 outright.go:42
    refine o_move rfl ?_
    refine o_move rfl ?_
    refine o_guard rfl rfl rfl rfl (fun h => absurd (h.symm.trans rfl) (by decide)) (fun _ => ?_)
    refine o_guard rfl rfl rfl rfl (fun h => absurd (h.symm.trans rfl) (by decide)) (fun _ => ?_)
    refine o_guard rfl rfl rfl rfl (fun h => absurd (h.symm.trans rfl) (by decide)) (fun _ => ?_)
    refine o_guard rfl rfl rfl rfl (fun h => absurd (h.symm.trans rfl) (by decide)) (fun _ => ?_)
    refine o_guard rfl rfl rfl rfl (fun h => absurd (h.symm.trans rfl) (by decide)) (fun _ => ?_)
    refine o_pickF rfl rfl rfl ?_
    refine o_nil ?_
    refine k_cond rfl (fun h => by cases h) (fun _ => ?_)
    refine k_exit ?_
    refine k_seq ?_
    refine k_seq ?_
    refine k_region ?_   -- region 6 outright.go:45
    refine o_assign rfl ?_
    refine o_nil ?_
    refine k_block ?_
    -- LOOP 2
    refine k_loop (fun k st => st.st[0]? = some (.box s.cs) ∧ Holds st [(1, .box 0 0), (3, .bool false), (5, .int .i64 0)]) (fun k st hI => ?_) 0 _ ?_
    · obtain ⟨hst, hs⟩ := hI
      rw [hs.eq]
      refine k_seq ?_
      refine k_seq ?_
      refine k_region ?_   -- region 7 outright.go:45
      refine o_move rfl ?_
      refine o_move rfl ?_
      refine o_guard rfl rfl rfl rfl (fun h => absurd (h.symm.trans rfl) (by decide)) (fun _ => ?_)
      refine o_guard rfl rfl rfl rfl (fun h => absurd (h.symm.trans rfl) (by decide)) (fun _ => ?_)
      refine o_guard rfl rfl rfl rfl (fun h => absurd (h.symm.trans rfl) (by decide)) (fun _ => ?_)
      refine o_guard rfl rfl rfl rfl (fun h => absurd (h.symm.trans rfl) (by decide)) (fun _ => ?_)
      refine o_guard rfl rfl rfl rfl (fun h => absurd (h.symm.trans rfl) (by decide)) (fun _ => ?_)
      refine o_pickF rfl rfl rfl ?_
      refine o_nil ?_
      refine k_cond rfl (fun h => by cases h) (fun _ => ?_)
      refine k_exit ?_
      refine k_seq ?_
      refine k_region ?_   -- region 10 outright.go:48
      refine o_move rfl ?_
      refine o_assign rfl ?_
      refine o_nil ?_
      refine k_ret ?_
      refine ⟨.inr rfl, _, .cons _ _ _ _ (.tmp 2) .nil, ?_⟩
      exact .refl _
    · exact ⟨hst, .cons rfl (.cons rfl (.cons rfl (.nil rfl)))⟩
  · exact ⟨rfl, .cons rfl (.cons rfl (.cons rfl (.nil rfl)))⟩

theorem ret14a (hi : Off is) {s : Shop} (hk : SOk s) {off metal c1 c2 : Int} (ho : offB off = true) (hm : metB metal = true) (hc : cho s true off metal = (c1, c2)) (h31 : c2 ≠ 31) : RetP Try.prog is orc 14 [s.u, .int .i64 off, .int .i64 metal] (.tup [.int .i64 c1, .int .i64 c2, .int .i64 0]) := by
  have := ret14 (orc := orc) hi hk (by have := chk (orc := orc) hi s; rwa [chk_ok hk] at this) ho hm
  rw [hc] at this
  rwa [show nextU (c1, c2) = .tup [.int .i64 c1, .int .i64 c2, .int .i64 0] from if_neg h31] at this
theorem ret14z (hi : Off is) {s : Shop} (hk : SOk s) {off metal : Int} (ho : offB off = true) (hm : metB metal = true) (hc : (cho s true off metal).2 = 31) : RetP Try.prog is orc 14 [s.u, .int .i64 off, .int .i64 metal] (.tup [.int .i64 0, .int .i64 0, .int .i64 4]) := by
  have := ret14 (orc := orc) hi hk (by have := chk (orc := orc) hi s; rwa [chk_ok hk] at this) ho hm
  rwa [show nextU (cho s true off metal) = .tup [.int .i64 0, .int .i64 0, .int .i64 4] from if_pos hc] at this
theorem st_off (a : Int) : offB (a % 121 - 60) = true := by
  have p1 := Int.emod_nonneg a (show (121 : Int) ≠ 0 by omega)
  have p2 := Int.emod_lt_of_pos a (show (0 : Int) < 121 by omega)
  unfold offB; simp; omega
theorem st_met (b : Int) : metB (b % 31) = true := by
  have p1 := Int.emod_nonneg b (show (31 : Int) ≠ 0 by omega)
  have p2 := Int.emod_lt_of_pos b (show (0 : Int) < 31 by omega)
  unfold metB; simp; omega

-- 6 saron/saronlaw03.RaspSure params [27, 28, 38] pure True
noncomputable def b6 : Code := (Try.f6.body).getD .skip
theorem body6 : bodyOf Try.prog 6 = some (115, b6, [.tmp 6]) := by kernel_rfl
theorem pure6 : pureFn Try.prog 6 = true := by kernel_rfl
set_option maxHeartbeats 4000000 in
theorem ret6n (hi : Off is) {s : Shop} (hv : checkR s.tools s.keys s.flo s.fhi ≠ 0) (a b : Int) (l : List Int) (r20 : RetP Try.prog is orc 20 [] (.bool true)) : RetP Try.prog is orc 6 [s.u, .agg [.int .i64 a, .int .i64 b], .lst .ro 1 (intsU l)] (.bool true) := by
  refine ret_of body6 pure6 (hi 6 (by decide)) rfl rfl (dat_l3 (dat_shop s 5) (dat_span _ _ _) (dat_ints 6 .ro (fun h => by cases h) 1 l)) (.inl (.bool _ _)) ?_
  refine k_seq ?_
  refine k_region ?_   -- region 0 outright.go:57
  refine o_box rfl rfl ?_
  refine o_box rfl rfl ?_
  refine o_assign rfl ?_
  refine o_nil ?_
  refine k_seq ?_
  refine k_seq ?_
  refine k_region ?_   -- region 1 outright.go:58
  first | refine o_loadN rfl rfl rfl sh27 rfl ?_ | refine o_loadRN rfl rfl sh27 rfl ?_
  refine o_call rfl (ret32n hi hv) (.lrefl _) ?_
  refine o_not rfl rfl ?_
  refine o_nil ?_
  refine k_cond rfl (fun _ => ?_) (fun h => absurd (h.symm.trans rfl) (by decide))
  refine k_seq ?_
  refine k_region ?_   -- region 2 outright.go:59
  refine o_call rfl (r20) (.lrefl _) ?_
  refine o_assign rfl ?_
  refine o_nil ?_
  refine k_ret ?_
  refine ⟨.inr rfl, _, .cons _ _ _ _ (.tmp 6) .nil, ?_⟩
  exact .refl _

theorem sh28 : shOf Try.prog 28 = .many 2 := by kernel_rfl
set_option maxHeartbeats 4000000 in
theorem ret6z (hi : Off is) {s : Shop} (hk : SOk s) (a b : Int) (l : List Int) (r20 : RetP Try.prog is orc 20 [] (.bool true)) (hn : (cho s true (a % 121 - 60) (b % 31)).2 = 31) : RetP Try.prog is orc 6 [s.u, .agg [.int .i64 a, .int .i64 b], .lst .ro 1 (intsU l)] (.bool true) := by
  refine ret_of body6 pure6 (hi 6 (by decide)) rfl rfl (dat_l3 (dat_shop s 5) (dat_span _ _ _) (dat_ints 6 .ro (fun h => by cases h) 1 l)) (.inl (.bool _ _)) ?_
  refine k_seq ?_
  refine k_region ?_   -- region 0 outright.go:57
  refine o_box rfl rfl ?_
  refine o_box rfl rfl ?_
  refine o_assign rfl ?_
  refine o_nil ?_
  refine k_seq ?_
  refine k_seq ?_
  refine k_region ?_   -- region 1 outright.go:58
  first | refine o_loadN rfl rfl rfl sh27 rfl ?_ | refine o_loadRN rfl rfl sh27 rfl ?_
  refine o_call rfl (ret32 hi hk) (.lrefl _) ?_
  refine o_not rfl rfl ?_
  refine o_nil ?_
  refine k_cond rfl (fun h => absurd (h.symm.trans rfl) (by decide)) (fun _ => ?_)
  refine k_skip ?_
  refine k_seq ?_
  refine k_region ?_   -- region 3 outright.go:61
  first | refine o_loadN rfl rfl rfl sh28 rfl ?_ | refine o_loadRN rfl rfl sh28 rfl ?_
  refine o_call rfl (ret33 hi a b) (.lrefl _) ?_
  refine o_move rfl ?_
  refine o_extract rfl rfl rfl ?_
  refine o_extract rfl rfl rfl ?_
  refine o_assign rfl ?_
  refine o_assign rfl ?_
  refine o_nil ?_
  refine k_seq ?_
  refine k_region ?_   -- region 4 outright.go:62
  first | refine o_loadN rfl rfl rfl sh27 rfl ?_ | refine o_loadRN rfl rfl sh27 rfl ?_
  refine o_move rfl ?_
  refine o_move rfl ?_
  refine o_call rfl (ret14z hi hk (st_off a) (st_met b) hn) (.lrefl _) ?_
  refine o_move rfl ?_
  refine o_extract rfl rfl rfl ?_
  refine o_extract rfl rfl rfl ?_
  refine o_extract rfl rfl rfl ?_
  refine o_assign rfl ?_
  refine o_assign rfl ?_
  refine o_assign rfl ?_
  refine o_nil ?_
  refine k_seq ?_
  refine k_seq ?_
  refine k_region ?_   -- region 5 outright.go:63
  refine o_move rfl ?_
  refine o_neq rfl rfl rfl ?_
  refine o_nil ?_
  refine k_cond rfl (fun _ => ?_) (fun h => absurd (h.symm.trans (decide_eq_true (by decide : (4 : Int) ≠ 0))) (by decide))
  refine k_seq ?_
  refine k_region ?_   -- region 6 outright.go:64
  refine o_move rfl ?_
  refine o_eql rfl rfl rfl ?_
  refine o_move rfl ?_
  refine o_guard rfl rfl rfl rfl (fun _ => ?_) (fun h => absurd (h.symm.trans (decide_eq_true (rfl : (4 : Int) = 4))) (by decide))
  refine o_move rfl ?_
  refine o_guard rfl rfl rfl rfl (fun _ => ?_) (fun h => absurd (h.symm.trans (decide_eq_true (rfl : (4 : Int) = 4))) (by decide))
  refine o_eql rfl rfl rfl ?_
  refine o_pickT rfl rfl (decide_eq_true (rfl : (4 : Int) = 4)) ?_
  refine o_move rfl ?_
  refine o_guard rfl rfl rfl rfl (fun _ => ?_) (fun h => absurd (h.symm.trans (decide_eq_true (rfl : (0 : Int) = 0))) (by decide))
  refine o_call rfl (r20) (.lrefl _) ?_
  refine o_pickT rfl rfl (decide_eq_true (rfl : (0 : Int) = 0)) ?_
  refine o_assign rfl ?_
  refine o_nil ?_
  refine k_ret ?_
  refine ⟨.inr rfl, _, .cons _ _ _ _ (.tmp 6) .nil, ?_⟩
  exact .refl _

def nxt (c : Int × Int) : Int := if c.2 = 31 then 0 else c.1
def nxn (c : Int × Int) : Int := if c.2 = 31 then 0 else c.2
def nxe (c : Int × Int) : Int := if c.2 = 31 then 4 else 0
theorem ret14g (hi : Off is) {s : Shop} (hk : SOk s) {off metal : Int} (ho : offB off = true) (hm : metB metal = true) : RetP Try.prog is orc 14 [s.u, .int .i64 off, .int .i64 metal] (.tup [.int .i64 (nxt (cho s true off metal)), .int .i64 (nxn (cho s true off metal)), .int .i64 (nxe (cho s true off metal))]) := by
  unfold nxt nxn nxe
  by_cases h : (cho s true off metal).2 = 31
  · rw [if_pos h, if_pos h, if_pos h]; exact ret14z hi hk ho hm h
  · rw [if_neg h, if_neg h, if_neg h]; exact ret14a hi hk ho hm rfl h
def aftN (s : Shop) (off metal : Int) (t : Tri) : Int := if spoilT s off metal t = true then 0 else hitT s off metal t
theorem spoil_few {s : Shop} {off metal : Int} {t : Tri} (h : metal < t.c) : spoilT s off metal t = true := by
  unfold spoilT; rw [decide_eq_true h]; rfl
theorem spoil_hit {s : Shop} {off metal : Int} {t : Tri} {j : Nat} (hj : j < widM t) (h : (cho s true (off + (t.a + j)) (metal - t.c)).2 = 31) : spoilT s off metal t = true := by
  unfold spoilT
  rw [Bool.or_eq_true]
  exact .inr (List.any_eq_true.2 ⟨_, List.mem_map.2 ⟨j, List.mem_range.2 hj, rfl⟩, by simp [recT, h]⟩)
theorem cho_out {s : Shop} (hs : SOk s) {off metal : Int} (h0 : 0 ≤ metal) (h : offB off = false) : (cho s true off metal).2 = 31 := by
  by_cases h1 : (cho s true off metal).2 = 31
  · exact h1
  · rw [cho_off hs h0 h1] at h; cases h
def Aft (s : Shop) (off metal : Int) (t : Tri) (j : Nat) : Prop := (hitL (recT s) off metal t j).any (fun x => decide (x = 31)) = false ∧ (0 < j → t.c ≤ metal)
theorem aft_zero (s : Shop) (off metal : Int) (t : Tri) : Aft s off metal t 0 := ⟨rfl, fun h => absurd h (Nat.lt_irrefl _)⟩
theorem aft_succ {s : Shop} {off metal : Int} {t : Tri} {j : Nat} (h : Aft s off metal t j) (hc : t.c ≤ metal) (hn : (cho s true (off + (t.a + j)) (metal - t.c)).2 ≠ 31) : Aft s off metal t (j + 1) := by
  refine ⟨?_, fun _ => hc⟩
  rw [hit_succ, List.any_append, h.1]
  simp [recT, hn]
theorem cnt_succ {s : Shop} {off metal : Int} {t : Tri} {j : Nat} : cntL true (hitL (recT s) off metal t (j + 1)) = max (cntL true (hitL (recT s) off metal t j)) (cho s true (off + (t.a + j)) (metal - t.c)).2 := by
  rw [hit_succ]
  unfold cntL
  simp only [if_true, List.foldl_append, List.foldl_cons, List.foldl_nil]
  rfl

-- 38 saron/saronlaw03.after params [27, 52, 3, 3] pure True
noncomputable def b38 : Code := (Try.f38.body).getD .skip
theorem body38 : bodyOf Try.prog 38 = some (55, b38, [.tmp 8, .tmp 9]) := by kernel_rfl
theorem pure38 : pureFn Try.prog 38 = true := by kernel_rfl
set_option maxHeartbeats 4000000 in
theorem ret38 (hi : Off is) {s : Shop} (hk : SOk s) {off metal : Int} (ho : offB off = true) (hm : metB metal = true) {t : Tri} (ht : t ∈ s.tools) : RetP Try.prog is orc 38 [s.u, t.u, .int .i64 off, .int .i64 metal] (.tup [.int .i64 (aftN s off metal t), .bool (spoilT s off metal t)]) := by
  refine ret_of body38 pure38 (hi 38 (by decide)) rfl rfl (fun v hv => by
    simp only [List.mem_cons, List.not_mem_nil, or_false] at hv
    rcases hv with rfl | rfl | rfl | rfl
    · exact dat_shop s 5
    · exact .agg _ _ (dat_l3 (.int _ _ _) (.int _ _ _) (.int _ _ _))
    · exact .int _ _ _
    · exact .int _ _ _) (.inr ⟨_, rfl, dat_l2 (.int _ _ _) (.bool _ _)⟩) ?_
  have hb := hk.tools t ht
  have hm' : 0 ≤ metal ∧ metal ≤ 30 := by unfold metB at hm; simpa using hm
  have ho' : -60 ≤ off ∧ off ≤ 60 := by unfold offB at ho; simpa using ho
  refine k_seq ?_
  refine k_region ?_   -- region 0 outright.go:86
  refine o_box rfl rfl ?_
  refine o_box rfl rfl ?_
  refine o_assign rfl ?_
  refine o_assign rfl ?_
  refine o_nil ?_
  refine k_seq ?_
  refine k_region ?_   -- region 1 outright.go:87
  refine o_assign rfl ?_
  refine o_nil ?_
  refine k_seq ?_
  refine k_seq ?_
  refine k_region ?_   -- region 2 outright.go:88
  first | refine o_faddr rfl rfl fld52_0 ?_ | refine o_faddrR rfl rfl fld52_0 ?_
  first | refine o_faddr rfl rfl fld24_0 ?_ | refine o_faddrR rfl rfl fld24_0 ?_
  first | refine o_load1 rfl rfl rfl sh3 rfl ?_ | refine o_loadR1 rfl rfl sh3 rfl ?_
  refine o_assign rfl ?_
  refine o_nil ?_
  refine k_block ?_
  -- LOOP 1
  refine k_loop (fun k st => ∃ j : Nat, k + j = widM t ∧ Aft s off metal t j ∧ st.st = [.box s.cs, .box [.int .i64 t.a, .int .i64 t.b, .int .i64 t.c]] ∧ Holds st [(2, .int .i64 off), (3, .int .i64 metal), (4, .box 0 0), (5, .box 1 0), (8, .int .i64 0), (9, .bool false), (10, .int .i64 (cntL true (hitL (recT s) off metal t j))), (11, .int .i64 (t.a + j))]) (fun k st hI => ?_) (widM t) _ ?_
  · obtain ⟨j, hkj, hA, hst, hs⟩ := hI
    refine k_gen _ _ hs hst fun fr => ?_
    refine k_seq ?_
    refine k_seq ?_
    refine k_region ?_   -- region 3 outright.go:88
    refine o_move rfl ?_
    first | refine o_faddr rfl rfl fld52_0 ?_ | refine o_faddrR rfl rfl fld52_0 ?_
    first | refine o_faddr rfl rfl fld24_1 ?_ | refine o_faddrR rfl rfl fld24_1 ?_
    first | refine o_load1 rfl rfl rfl sh3 rfl ?_ | refine o_load1 rfl rfl (at_set _ _ _) sh3 rfl ?_ | refine o_load1 rfl rfl (at_new _ _) sh3 rfl ?_ | refine o_load1 rfl rfl (at_old2 hst) sh3 rfl ?_ | refine o_load1 rfl rfl (at_old hst) sh3 rfl ?_ | refine o_load1 rfl rfl hst sh3 rfl ?_ | refine o_loadR1 rfl rfl sh3 rfl ?_
    refine o_leq rfl rfl rfl ?_
    refine o_nil ?_
    refine k_cond rfl (fun h1 => ?_) (fun h1 => ?_)   -- slot 22
    · have hj1 : j < widM t := by
        have := show t.a + (j : Int) ≤ t.b from of_decide_eq_true h1
        unfold widM; omega
      have h1t := show t.a + (j : Int) ≤ t.b from of_decide_eq_true h1
      refine k_skip ?_
      refine k_seq ?_
      refine k_block ?_
      refine k_seq ?_
      refine k_seq ?_
      refine k_region ?_   -- region 5 outright.go:89
      first | refine o_faddr rfl rfl fld52_1 ?_ | refine o_faddrR rfl rfl fld52_1 ?_
      first | refine o_load1 rfl rfl rfl sh3 rfl ?_ | refine o_load1 rfl rfl (at_set _ _ _) sh3 rfl ?_ | refine o_load1 rfl rfl (at_new _ _) sh3 rfl ?_ | refine o_load1 rfl rfl (at_old2 hst) sh3 rfl ?_ | refine o_load1 rfl rfl (at_old hst) sh3 rfl ?_ | refine o_load1 rfl rfl hst sh3 rfl ?_ | refine o_loadR1 rfl rfl sh3 rfl ?_
      refine o_move rfl ?_
      refine o_gtr rfl rfl rfl ?_
      refine o_move rfl ?_
      refine o_guard rfl rfl rfl rfl (fun h2 => ?_) (fun h2 => ?_)   -- slot 29
      · have hcm : t.c ≤ metal := by have := show ¬ metal < t.c from of_decide_eq_false h2; omega
        refine o_move rfl ?_
        refine o_guard rfl rfl rfl rfl (fun _ => ?_) (fun h => by rw [h2] at h; cases h)
        refine o_move rfl ?_
        refine o_guard rfl rfl rfl rfl (fun _ => ?_) (fun h => by rw [h2] at h; cases h)
        refine o_add rfl rfl rfl (by unfold I64; omega) ?_
        refine o_guard rfl rfl rfl rfl (fun _ => ?_) (fun h => by rw [h2] at h; cases h)
        refine o_call rfl (ret34 hi _ _ _) (.lrefl _) ?_
        refine o_guard rfl rfl rfl rfl (fun _ => ?_) (fun h => by rw [h2] at h; cases h)
        refine o_not rfl rfl ?_
        refine o_pickF rfl rfl h2 ?_
        refine o_nil ?_
        refine k_cond rfl (fun h3 => ?_) (fun h3 => ?_)   -- slot 35
        · refine k_seq ?_
          refine k_region ?_   -- region 6 outright.go:90
          refine o_assign rfl ?_
          refine o_assign rfl ?_
          refine o_nil ?_
          refine k_ret ?_
          refine ⟨.inr rfl, _, .cons _ _ _ _ (.tmp 8) (.cons _ _ _ _ (.tmp 9) .nil), ?_⟩
          have hsp := spoil_hit (s := s) (off := off) (metal := metal) hj1 (cho_out hk (show 0 ≤ metal - t.c by omega) (by unfold offB; exact (Bool.not_eq_true' _).mp h3))
          rw [show aftN s off metal t = 0 from if_pos hsp, hsp]; exact .refl _
        · have h3' : offB (off + (t.a + j)) = true := (Bool.not_eq_false' _).mp h3
          have hm2 : metB (metal - t.c) = true := by unfold metB; simp; omega
          have hcb := cho_b s true (off + (t.a + j)) (metal - t.c)
          refine k_skip ?_
          refine k_seq ?_
          refine k_region ?_   -- region 7 outright.go:92
          first | refine o_loadN rfl rfl rfl sh27 rfl ?_ | refine o_loadN rfl rfl (at_set _ _ _) sh27 rfl ?_ | refine o_loadN rfl rfl (at_new _ _) sh27 rfl ?_ | refine o_loadN rfl rfl (at_old2 hst) sh27 rfl ?_ | refine o_loadN rfl rfl (at_old hst) sh27 rfl ?_ | refine o_loadN rfl rfl hst sh27 rfl ?_ | refine o_loadRN rfl rfl sh27 rfl ?_
          refine o_move rfl ?_
          refine o_move rfl ?_
          refine o_add rfl rfl rfl (by unfold I64; omega) ?_
          refine o_move rfl ?_
          first | refine o_faddr rfl rfl fld52_1 ?_ | refine o_faddrR rfl rfl fld52_1 ?_
          first | refine o_load1 rfl rfl rfl sh3 rfl ?_ | refine o_load1 rfl rfl (at_set _ _ _) sh3 rfl ?_ | refine o_load1 rfl rfl (at_new _ _) sh3 rfl ?_ | refine o_load1 rfl rfl (at_old2 hst) sh3 rfl ?_ | refine o_load1 rfl rfl (at_old hst) sh3 rfl ?_ | refine o_load1 rfl rfl hst sh3 rfl ?_ | refine o_loadR1 rfl rfl sh3 rfl ?_
          refine o_sub rfl rfl rfl (by unfold I64; omega) ?_
          refine o_call rfl (ret14g hi hk h3' hm2) (.lrefl _) ?_
          refine o_move rfl ?_
          refine o_extract rfl rfl rfl ?_
          refine o_extract rfl rfl rfl ?_
          refine o_extract rfl rfl rfl ?_
          refine o_assign rfl ?_
          refine o_assign rfl ?_
          refine o_assign rfl ?_
          refine o_nil ?_
          refine k_seq ?_
          refine k_seq ?_
          refine k_region ?_   -- region 8 outright.go:93
          refine o_move rfl ?_
          refine o_neq rfl rfl rfl ?_
          refine o_nil ?_
          refine k_cond rfl (fun h4 => ?_) (fun h4 => ?_)   -- slot 50
          · refine k_seq ?_
            refine k_region ?_   -- region 9 outright.go:94
            refine o_assign rfl ?_
            refine o_assign rfl ?_
            refine o_nil ?_
            refine k_ret ?_
            refine ⟨.inr rfl, _, .cons _ _ _ _ (.tmp 8) (.cons _ _ _ _ (.tmp 9) .nil), ?_⟩
            have hsp := spoil_hit (s := s) (off := off) (metal := metal) hj1 (by
              unfold nxe at h4
              by_cases h : (cho s true (off + (t.a + j)) (metal - t.c)).2 = 31
              · exact h
              · rw [if_neg h] at h4; exact absurd h4 (by decide))
            rw [show aftN s off metal t = 0 from if_pos hsp, hsp]; exact .refl _
          · have hn4 : (cho s true (off + (t.a + j)) (metal - t.c)).2 ≠ 31 := fun h => by
              unfold nxe at h4; rw [if_pos h] at h4; exact absurd h4 (by decide)
            have e4 : nxn (cho s true (off + (t.a + j)) (metal - t.c)) = (cho s true (off + (t.a + j)) (metal - t.c)).2 := if_neg hn4
            refine k_skip ?_
            refine k_region ?_   -- region 10 outright.go:96
            refine o_move rfl ?_
            refine o_move rfl ?_
            refine o_max rfl rfl rfl ?_
            refine o_assign rfl ?_
            refine o_nil ?_
            refine k_region ?_   -- region 4 outright.go:88
            refine o_move rfl ?_
            refine o_add rfl rfl rfl (by unfold I64; omega) ?_
            refine o_assign rfl ?_
            refine o_nil ?_
            exact ⟨k - 1, by omega, j + 1, by omega, aft_succ hA hcm hn4, rfl, .cons rfl (.cons rfl (.cons rfl (.cons rfl (.cons rfl (.cons rfl (.cons (by rw [cnt_succ, ← e4]; rfl) (.cons (congrArg (U.int .i64) (by omega)) (.nil rfl))))))))⟩
      · refine o_guard rfl rfl rfl rfl (fun h => by rw [h2] at h; cases h) (fun _ => ?_)
        refine o_guard rfl rfl rfl rfl (fun h => by rw [h2] at h; cases h) (fun _ => ?_)
        refine o_guard rfl rfl rfl rfl (fun h => by rw [h2] at h; cases h) (fun _ => ?_)
        refine o_guard rfl rfl rfl rfl (fun h => by rw [h2] at h; cases h) (fun _ => ?_)
        refine o_pickT rfl rfl h2 ?_
        refine o_nil ?_
        refine k_cond rfl (fun _ => ?_) (fun h => by cases h)
        refine k_seq ?_
        refine k_region ?_   -- region 6 outright.go:90
        refine o_assign rfl ?_
        refine o_assign rfl ?_
        refine o_nil ?_
        refine k_ret ?_
        refine ⟨.inr rfl, _, .cons _ _ _ _ (.tmp 8) (.cons _ _ _ _ (.tmp 9) .nil), ?_⟩
        have hsp := spoil_few (s := s) (off := off) (show metal < t.c from of_decide_eq_true h2)
        rw [show aftN s off metal t = 0 from if_pos hsp, hsp]; exact .refl _
    · refine k_exit ?_
      refine k_seq ?_
      refine k_region ?_   -- region 11 outright.go:98
      refine o_move rfl ?_
      refine o_assign rfl ?_
      refine o_assign rfl ?_
      refine o_nil ?_
      refine k_ret ?_
      refine ⟨.inr rfl, _, .cons _ _ _ _ (.tmp 8) (.cons _ _ _ _ (.tmp 9) .nil), ?_⟩
      have hjw : j = widM t := by
        have := show ¬ t.a + (j : Int) ≤ t.b from of_decide_eq_false h1
        unfold widM at hkj ⊢; omega
      have hsp : spoilT s off metal t = false := by
        have hc := hA.2 (by unfold widM at hjw; omega)
        unfold spoilT
        rw [← hjw, hA.1, decide_eq_false (by omega)]; rfl
      rw [show aftN s off metal t = hitT s off metal t from if_neg (by rw [hsp]; exact fun h => by cases h), hsp, show hitT s off metal t = cntL true (hitL (recT s) off metal t j) by rw [hjw]; rfl]; exact .refl _
  · exact ⟨0, rfl, aft_zero _ _ _ _, rfl, .cons rfl (.cons rfl (.cons rfl (.cons rfl (.cons rfl (.cons rfl (.cons rfl (.cons (congrArg (U.int .i64) (by simp)) (.nil rfl))))))))⟩

-- 7 saron/saronlaw03.RaspLeast params [27, 28] pure True
noncomputable def b7 : Code := (Try.f7.body).getD .skip
theorem body7 : bodyOf Try.prog 7 = some (129, b7, [.tmp 4]) := by kernel_rfl
theorem pure7 : pureFn Try.prog 7 = true := by kernel_rfl
set_option maxHeartbeats 4000000 in
theorem ret7n (hi : Off is) {s : Shop} (hv : checkR s.tools s.keys s.flo s.fhi ≠ 0) (a b : Int) (r20 : RetP Try.prog is orc 20 [] (.bool true)) : RetP Try.prog is orc 7 [s.u, .agg [.int .i64 a, .int .i64 b]] (.bool true) := by
  refine ret_of body7 pure7 (hi 7 (by decide)) rfl rfl (dat_l2 (dat_shop s 5) (dat_span _ _ _)) (.inl (.bool _ _)) ?_
  refine k_seq ?_
  refine k_region ?_   -- region 0 outright.go:102
  refine o_box rfl rfl ?_
  refine o_box rfl rfl ?_
  refine o_assign rfl ?_
  refine o_nil ?_
  refine k_seq ?_
  refine k_seq ?_
  refine k_region ?_   -- region 1 outright.go:103
  first | refine o_loadN rfl rfl rfl sh27 rfl ?_ | refine o_loadRN rfl rfl sh27 rfl ?_
  refine o_call rfl (ret32n hi hv) (.lrefl _) ?_
  refine o_not rfl rfl ?_
  refine o_nil ?_
  refine k_cond rfl (fun _ => ?_) (fun h => absurd (h.symm.trans rfl) (by decide))
  refine k_seq ?_
  refine k_region ?_   -- region 2 outright.go:104
  refine o_call rfl (r20) (.lrefl _) ?_
  refine o_assign rfl ?_
  refine o_nil ?_
  refine k_ret ?_
  refine ⟨.inr rfl, _, .cons _ _ _ _ (.tmp 4) .nil, ?_⟩
  exact .refl _

set_option maxHeartbeats 4000000 in
theorem ret7f (hi : Off is) {s : Shop} (hk : SOk s) (a b : Int) (r20 : RetP Try.prog is orc 20 [] (.bool true)) (hf : fineB s (a % 121 - 60) = true) : RetP Try.prog is orc 7 [s.u, .agg [.int .i64 a, .int .i64 b]] (.bool true) := by
  refine ret_of body7 pure7 (hi 7 (by decide)) rfl rfl (dat_l2 (dat_shop s 5) (dat_span _ _ _)) (.inl (.bool _ _)) ?_
  have p1 := Int.emod_nonneg b (show (31 : Int) ≠ 0 by omega)
  have p2 := Int.emod_lt_of_pos b (show (0 : Int) < 31 by omega)
  refine k_seq ?_
  refine k_region ?_   -- region 0 outright.go:102
  refine o_box rfl rfl ?_
  refine o_box rfl rfl ?_
  refine o_assign rfl ?_
  refine o_nil ?_
  refine k_seq ?_
  refine k_seq ?_
  refine k_region ?_   -- region 1 outright.go:103
  first | refine o_loadN rfl rfl rfl sh27 rfl ?_ | refine o_loadRN rfl rfl sh27 rfl ?_
  refine o_call rfl (ret32 hi hk) (.lrefl _) ?_
  refine o_not rfl rfl ?_
  refine o_nil ?_
  refine k_cond rfl (fun h => absurd (h.symm.trans rfl) (by decide)) (fun _ => ?_)
  refine k_skip ?_
  refine k_seq ?_
  refine k_region ?_   -- region 3 outright.go:106
  first | refine o_loadN rfl rfl rfl sh28 rfl ?_ | refine o_loadRN rfl rfl sh28 rfl ?_
  refine o_call rfl (ret33 hi a b) (.lrefl _) ?_
  refine o_move rfl ?_
  refine o_extract rfl rfl rfl ?_
  refine o_extract rfl rfl rfl ?_
  refine o_assign rfl ?_
  refine o_assign rfl ?_
  refine o_nil ?_
  refine k_seq ?_
  refine k_region ?_   -- region 4 outright.go:107
  first | refine o_loadN rfl rfl rfl sh27 rfl ?_ | refine o_loadRN rfl rfl sh27 rfl ?_
  refine o_move rfl ?_
  refine o_move rfl ?_
  refine o_call rfl (ret14a hi hk (st_off a) (st_met b) (cho_fine hk p1 hf) (by decide)) (.lrefl _) ?_
  refine o_move rfl ?_
  refine o_extract rfl rfl rfl ?_
  refine o_extract rfl rfl rfl ?_
  refine o_extract rfl rfl rfl ?_
  refine o_assign rfl ?_
  refine o_assign rfl ?_
  refine o_assign rfl ?_
  refine o_nil ?_
  refine k_seq ?_
  refine k_seq ?_
  refine k_region ?_   -- region 5 outright.go:108
  refine o_move rfl ?_
  refine o_eql rfl rfl rfl ?_
  refine o_move rfl ?_
  refine o_guard rfl rfl rfl rfl (fun _ => ?_) (fun h => absurd (h.symm.trans (decide_eq_true rfl)) (by decide))
  refine o_move rfl ?_
  refine o_guard rfl rfl rfl rfl (fun _ => ?_) (fun h => absurd (h.symm.trans (decide_eq_true rfl)) (by decide))
  refine o_eql rfl rfl rfl ?_
  refine o_pickT rfl rfl (decide_eq_true rfl) ?_
  refine o_nil ?_
  refine k_cond rfl (fun _ => ?_) (fun h => absurd (h.symm.trans (decide_eq_true rfl)) (by decide))
  refine k_seq ?_
  refine k_region ?_   -- region 6 outright.go:109
  refine o_move rfl ?_
  refine o_eql rfl rfl rfl ?_
  refine o_move rfl ?_
  refine o_guard rfl rfl rfl rfl (fun _ => ?_) (fun h => absurd (h.symm.trans (decide_eq_true rfl)) (by decide))
  first | refine o_faddr rfl rfl fld27_1 ?_ | refine o_faddrR rfl rfl fld27_1 ?_
  refine o_guard rfl rfl rfl rfl (fun _ => ?_) (fun h => absurd (h.symm.trans (decide_eq_true rfl)) (by decide))
  first | refine o_loadN rfl rfl rfl sh24 rfl ?_ | refine o_loadRN rfl rfl sh24 rfl ?_
  refine o_guard rfl rfl rfl rfl (fun _ => ?_) (fun h => absurd (h.symm.trans (decide_eq_true rfl)) (by decide))
  refine o_move rfl ?_
  refine o_guard rfl rfl rfl rfl (fun _ => ?_) (fun h => absurd (h.symm.trans (decide_eq_true rfl)) (by decide))
  refine o_call rfl (ret35 hi _ _ _) (.lrefl _) ?_
  refine o_pickT rfl rfl (decide_eq_true rfl) ?_
  refine o_move rfl ?_
  refine o_guard rfl rfl rfl rfl (fun _ => ?_) (fun h => absurd (h.symm.trans hf) (by decide))
  refine o_call rfl (r20) (.lrefl _) ?_
  refine o_pickT rfl rfl hf ?_
  refine o_assign rfl ?_
  refine o_nil ?_
  refine k_ret ?_
  refine ⟨.inr rfl, _, .cons _ _ _ _ (.tmp 4) .nil, ?_⟩
  exact .refl _

set_option maxHeartbeats 4000000 in
theorem ret7z (hi : Off is) {s : Shop} (hk : SOk s) (a b : Int) (r20 : RetP Try.prog is orc 20 [] (.bool true)) (hn : (cho s true (a % 121 - 60) (b % 31)).2 = 31) : RetP Try.prog is orc 7 [s.u, .agg [.int .i64 a, .int .i64 b]] (.bool true) := by
  refine ret_of body7 pure7 (hi 7 (by decide)) rfl rfl (dat_l2 (dat_shop s 5) (dat_span _ _ _)) (.inl (.bool _ _)) ?_
  have p1 := Int.emod_nonneg b (show (31 : Int) ≠ 0 by omega)
  have p2 := Int.emod_lt_of_pos b (show (0 : Int) < 31 by omega)
  generalize hoff : a % 121 - 60 = off at *
  generalize hmet : b % 31 = metal at *
  have hr33 : RetP Try.prog is orc 33 [.agg [.int .i64 a, .int .i64 b]] (.tup [.int .i64 off, .int .i64 metal]) := by have := ret33 (orc := orc) hi a b; rwa [hoff, hmet] at this
  have ho : offB off = true := by rw [← hoff]; exact st_off a
  have hm : metB metal = true := by rw [← hmet]; exact st_met b
  have hz := cho_none hk p1 (by omega) ho hn
  refine k_seq ?_
  refine k_region ?_   -- region 0 outright.go:102
  refine o_box rfl rfl ?_
  refine o_box rfl rfl ?_
  refine o_assign rfl ?_
  refine o_nil ?_
  refine k_seq ?_
  refine k_seq ?_
  refine k_region ?_   -- region 1 outright.go:103
  first | refine o_loadN rfl rfl rfl sh27 rfl ?_ | refine o_loadRN rfl rfl sh27 rfl ?_
  refine o_call rfl (ret32 hi hk) (.lrefl _) ?_
  refine o_not rfl rfl ?_
  refine o_nil ?_
  refine k_cond rfl (fun h => absurd (h.symm.trans rfl) (by decide)) (fun _ => ?_)
  refine k_skip ?_
  refine k_seq ?_
  refine k_region ?_   -- region 3 outright.go:106
  first | refine o_loadN rfl rfl rfl sh28 rfl ?_ | refine o_loadRN rfl rfl sh28 rfl ?_
  refine o_call rfl (hr33) (.lrefl _) ?_
  refine o_move rfl ?_
  refine o_extract rfl rfl rfl ?_
  refine o_extract rfl rfl rfl ?_
  refine o_assign rfl ?_
  refine o_assign rfl ?_
  refine o_nil ?_
  refine k_seq ?_
  refine k_region ?_   -- region 4 outright.go:107
  first | refine o_loadN rfl rfl rfl sh27 rfl ?_ | refine o_loadRN rfl rfl sh27 rfl ?_
  refine o_move rfl ?_
  refine o_move rfl ?_
  refine o_call rfl (ret14z hi hk ho hm hn) (.lrefl _) ?_
  refine o_move rfl ?_
  refine o_extract rfl rfl rfl ?_
  refine o_extract rfl rfl rfl ?_
  refine o_extract rfl rfl rfl ?_
  refine o_assign rfl ?_
  refine o_assign rfl ?_
  refine o_assign rfl ?_
  refine o_nil ?_
  refine k_seq ?_
  refine k_seq ?_
  refine k_region ?_   -- region 5 outright.go:108
  refine o_move rfl ?_
  refine o_eql rfl rfl rfl ?_
  refine o_move rfl ?_
  refine o_guard rfl rfl rfl rfl (fun h => absurd (h.symm.trans (decide_eq_false (by decide : ¬ (4 : Int) = 0))) (by decide)) (fun _ => ?_)
  refine o_guard rfl rfl rfl rfl (fun h => absurd (h.symm.trans (decide_eq_false (by decide : ¬ (4 : Int) = 0))) (by decide)) (fun _ => ?_)
  refine o_pickF rfl rfl (decide_eq_false (by decide : ¬ (4 : Int) = 0)) ?_
  refine o_nil ?_
  refine k_cond rfl (fun h => by cases h) (fun _ => ?_)
  refine k_skip ?_
  refine k_seq ?_
  refine k_seq ?_
  refine k_region ?_   -- region 7 outright.go:111
  refine o_move rfl ?_
  refine o_neq rfl rfl rfl ?_
  refine o_move rfl ?_
  refine o_guard rfl rfl rfl rfl (fun _ => ?_) (fun h => absurd (h.symm.trans (decide_eq_true (by decide : (4 : Int) ≠ 0))) (by decide))
  refine o_move rfl ?_
  refine o_guard rfl rfl rfl rfl (fun _ => ?_) (fun h => absurd (h.symm.trans (decide_eq_true (by decide : (4 : Int) ≠ 0))) (by decide))
  refine o_neq rfl rfl rfl ?_
  refine o_guard rfl rfl rfl rfl (fun _ => ?_) (fun h => absurd (h.symm.trans (decide_eq_true (by decide : (4 : Int) ≠ 0))) (by decide))
  refine o_move rfl ?_
  refine o_guard rfl rfl rfl rfl (fun _ => ?_) (fun h => absurd (h.symm.trans (decide_eq_false (fun h => h rfl))) (by decide))
  first | refine o_faddr rfl rfl fld27_1 ?_ | refine o_faddrR rfl rfl fld27_1 ?_
  refine o_guard rfl rfl rfl rfl (fun _ => ?_) (fun h => absurd (h.symm.trans (decide_eq_false (fun h => h rfl))) (by decide))
  first | refine o_loadN rfl rfl rfl sh24 rfl ?_ | refine o_loadRN rfl rfl sh24 rfl ?_
  refine o_guard rfl rfl rfl rfl (fun _ => ?_) (fun h => absurd (h.symm.trans (decide_eq_false (fun h => h rfl))) (by decide))
  refine o_move rfl ?_
  refine o_guard rfl rfl rfl rfl (fun _ => ?_) (fun h => absurd (h.symm.trans (decide_eq_false (fun h => h rfl))) (by decide))
  refine o_call rfl (ret35 hi _ _ _) (.lrefl _) ?_
  refine o_guard rfl rfl rfl rfl (fun _ => ?_) (fun h => absurd (h.symm.trans (decide_eq_true (by decide : (4 : Int) ≠ 0))) (by decide))
  refine o_pickF rfl rfl (decide_eq_false (fun h => h rfl)) ?_
  refine o_pickT rfl rfl (decide_eq_true (by decide : (4 : Int) ≠ 0)) ?_
  refine o_move rfl ?_
  refine o_guard rfl rfl rfl rfl (fun _ => ?_) (fun h => absurd (h.symm.trans hz.1) (by decide))
  refine o_move rfl ?_
  refine o_guard rfl rfl rfl rfl (fun _ => ?_) (fun h => absurd (h.symm.trans hz.1) (by decide))
  refine o_eql rfl rfl rfl ?_
  refine o_guard rfl rfl rfl rfl (fun _ => ?_) (fun h => absurd (h.symm.trans hz.1) (by decide))
  refine o_move rfl ?_
  refine o_guard rfl rfl rfl rfl (fun h => absurd (h.symm.trans (decide_eq_false (by decide : ¬ (4 : Int) = 0))) (by decide)) (fun _ => ?_)
  refine o_guard rfl rfl rfl rfl (fun h => absurd (h.symm.trans (decide_eq_false (by decide : ¬ (4 : Int) = 0))) (by decide)) (fun _ => ?_)
  refine o_guard rfl rfl rfl rfl (fun h => absurd (h.symm.trans (decide_eq_false (by decide : ¬ (4 : Int) = 0))) (by decide)) (fun _ => ?_)
  refine o_guard rfl rfl rfl rfl (fun h => absurd (h.symm.trans (decide_eq_false (by decide : ¬ (4 : Int) = 0))) (by decide)) (fun _ => ?_)
  refine o_guard rfl rfl rfl rfl (fun h => absurd (h.symm.trans (decide_eq_false (by decide : ¬ (4 : Int) = 0))) (by decide)) (fun _ => ?_)
  refine o_guard rfl rfl rfl rfl (fun h => absurd (h.symm.trans (decide_eq_false (by decide : ¬ (4 : Int) = 0))) (by decide)) (fun _ => ?_)
  refine o_guard rfl rfl rfl rfl (fun h => absurd (h.symm.trans (decide_eq_false (by decide : ¬ (4 : Int) = 0))) (by decide)) (fun _ => ?_)
  refine o_guard rfl rfl rfl rfl (fun _ => ?_) (fun h => absurd (h.symm.trans hz.1) (by decide))
  refine o_pickF rfl rfl (decide_eq_false (by decide : ¬ (4 : Int) = 0)) ?_
  refine o_pickF rfl rfl hz.1 ?_
  refine o_nil ?_
  refine k_cond rfl (fun h => by cases h) (fun _ => ?_)
  refine k_skip ?_
  refine k_seq ?_
  refine k_seq ?_
  refine k_region ?_   -- region 9 outright.go:114
  refine o_assign rfl ?_
  refine o_nil ?_
  refine k_block ?_
  -- LOOP 1
  refine k_loop (fun k st => ∃ i : Nat, k + i = s.tools.length ∧ st.st = [.box s.cs, .box [.int .i64 a, .int .i64 b]] ∧ Holds st [(2, .box 0 0), (5, .int .i64 off), (6, .int .i64 metal), (7, .int .i64 0), (8, .int .i64 0), (9, .int .i64 4), (10, .int .i64 i)]) (fun k st hI => ?_) s.tools.length _ ?_
  · obtain ⟨i, hki, hst, hs⟩ := hI
    refine k_gen _ _ hs hst fun fr => ?_
    refine k_seq ?_
    refine k_seq ?_
    refine k_region ?_   -- region 10 outright.go:114
    refine o_move rfl ?_
    first | refine o_faddr rfl rfl fld27_0 ?_ | refine o_faddrR rfl rfl fld27_0 ?_
    first | refine o_load1 rfl rfl rfl sh22 rfl ?_ | refine o_load1 rfl rfl (at_set _ _ _) sh22 rfl ?_ | refine o_load1 rfl rfl (at_new _ _) sh22 rfl ?_ | refine o_load1 rfl rfl (at_old2 hst) sh22 rfl ?_ | refine o_load1 rfl rfl (at_old hst) sh22 rfl ?_ | refine o_load1 rfl rfl hst sh22 rfl ?_ | refine o_loadR1 rfl rfl sh22 rfl ?_
    refine o_len rfl ty22 rfl rfl ?_
    refine o_lss rfl rfl rfl ?_
    refine o_nil ?_
    refine k_cond rfl (fun h1 => ?_) (fun h1 => ?_)   -- slot 76
    · have hil : i < s.tools.length := by
        have := of_decide_eq_true h1
        simp at this; omega
      obtain ⟨t, hq⟩ : ∃ t, s.tools[i]? = some t := ⟨s.tools[i], List.getElem?_eq_getElem hil⟩
      have htm := List.mem_of_getElem? hq
      have hnt := hk.nt
      have g94 : (!(spoilT s off metal t)) = false := by rw [hz.2 i t hq]; rfl
      refine k_skip ?_
      refine k_seq ?_
      refine k_block ?_
      refine k_seq ?_
      refine k_draw [.read true, .plain, .read true, .plain, .plain, .read true, .plain, .plain, .plain, .plain, .plain, .plain, .plain, .plain] (by kernel_rfl) (by kernel_rfl) (by kernel_rfl) ?_   -- region 12
      first | refine d_load rfl (o_loadN rfl rfl rfl sh27 rfl (o_nil rfl)) ?_ | refine d_load rfl (o_loadN rfl rfl (at_set _ _ _) sh27 rfl (o_nil rfl)) ?_ | refine d_load rfl (o_loadN rfl rfl (at_new _ _) sh27 rfl (o_nil rfl)) ?_ | refine d_load rfl (o_loadN rfl rfl (at_old2 hst) sh27 rfl (o_nil rfl)) ?_ | refine d_load rfl (o_loadN rfl rfl (at_old hst) sh27 rfl (o_nil rfl)) ?_ | refine d_load rfl (o_loadN rfl rfl hst sh27 rfl (o_nil rfl)) ?_ | refine d_load rfl (o_loadRN rfl rfl sh27 rfl (o_nil rfl)) ?_
      first | refine d_plain (o_faddr rfl rfl fld27_0 (o_nil rfl)) ?_ | refine d_plain (o_faddrR rfl rfl fld27_0 (o_nil rfl)) ?_
      first | refine d_load rfl (o_load1 rfl rfl rfl sh22 rfl (o_nil rfl)) ?_ | refine d_load rfl (o_load1 rfl rfl (at_set _ _ _) sh22 rfl (o_nil rfl)) ?_ | refine d_load rfl (o_load1 rfl rfl (at_new _ _) sh22 rfl (o_nil rfl)) ?_ | refine d_load rfl (o_load1 rfl rfl (at_old2 hst) sh22 rfl (o_nil rfl)) ?_ | refine d_load rfl (o_load1 rfl rfl (at_old hst) sh22 rfl (o_nil rfl)) ?_ | refine d_load rfl (o_load1 rfl rfl hst sh22 rfl (o_nil rfl)) ?_ | refine d_load rfl (o_loadR1 rfl rfl sh22 rfl (o_nil rfl)) ?_
      refine d_plain (o_move rfl (o_nil rfl)) ?_
      refine d_plain (o_idx (u := t.u) rfl ty22 rfl rfl (Int.natCast_nonneg i) (by simp [hq]) cl52 (o_nil rfl)) ?_
      first | refine d_load rfl (o_loadN rfl rfl rfl sh52 rfl (o_nil rfl)) ?_ | refine d_load rfl (o_loadN rfl rfl (at_set _ _ _) sh52 rfl (o_nil rfl)) ?_ | refine d_load rfl (o_loadN rfl rfl (at_new _ _) sh52 rfl (o_nil rfl)) ?_ | refine d_load rfl (o_loadN rfl rfl (at_old2 hst) sh52 rfl (o_nil rfl)) ?_ | refine d_load rfl (o_loadN rfl rfl (at_old hst) sh52 rfl (o_nil rfl)) ?_ | refine d_load rfl (o_loadN rfl rfl hst sh52 rfl (o_nil rfl)) ?_ | refine d_load rfl (o_loadRN rfl rfl sh52 rfl (o_nil rfl)) ?_
      refine d_plain (o_move rfl (o_nil rfl)) ?_
      refine d_plain (o_move rfl (o_nil rfl)) ?_
      refine d_plain (o_call rfl (ret38 hi hk ho hm htm) (.lrefl _) (o_nil rfl)) ?_
      refine d_plain (o_move rfl (o_nil rfl)) ?_
      refine d_plain (o_extract rfl rfl rfl (o_nil rfl)) ?_
      refine d_plain (o_extract rfl rfl rfl (o_nil rfl)) ?_
      refine d_plain (o_assign rfl (o_nil rfl)) ?_
      refine d_plain (o_assign rfl (o_nil rfl)) ?_
      refine d_nil ?_
      refine k_seq ?_
      refine k_seq ?_
      refine k_region ?_   -- region 13 outright.go:116
      refine o_move rfl ?_
      refine o_neq rfl rfl rfl ?_
      refine o_nil ?_
      refine k_cond rfl (fun _ => ?_) (fun h => absurd (h.symm.trans (decide_eq_true (by decide : (4 : Int) ≠ 0))) (by decide))
      refine k_seq ?_
      refine k_seq ?_
      refine k_region ?_   -- region 14 outright.go:117
      refine o_move rfl ?_
      refine o_not rfl rfl ?_
      refine o_nil ?_
      refine k_cond rfl (fun h => absurd (h.symm.trans g94) (by decide)) (fun _ => ?_)
      refine k_skip ?_
      refine k_exit ?_
      refine k_region ?_   -- region 11 outright.go:114
      refine o_move rfl ?_
      refine o_add rfl rfl rfl (by unfold I64; omega) ?_
      refine o_assign rfl ?_
      refine o_nil ?_
      exact ⟨k - 1, by omega, i + 1, by omega, rfl, .cons rfl (.cons rfl (.cons rfl (.cons rfl (.cons rfl (.cons rfl (.cons rfl (.nil rfl)))))))⟩
    · refine k_exit ?_
      refine k_seq ?_
      refine k_region ?_   -- region 18 outright.go:126
      refine o_call rfl (r20) (.lrefl _) ?_
      refine o_assign rfl ?_
      refine o_nil ?_
      refine k_ret ?_
      refine ⟨.inr rfl, _, .cons _ _ _ _ (.tmp 4) .nil, ?_⟩
      exact .refl _
  · exact ⟨0, by omega, rfl, .cons rfl (.cons rfl (.cons rfl (.cons rfl (.cons rfl (.cons rfl (.cons rfl (.nil rfl)))))))⟩

set_option maxHeartbeats 4000000 in
theorem ret7a (hi : Off is) {s : Shop} (hk : SOk s) (a b : Int) (r20 : RetP Try.prog is orc 20 [] (.bool true)) (hf : fineB s (a % 121 - 60) = false) (hn : (cho s true (a % 121 - 60) (b % 31)).2 ≠ 31) : RetP Try.prog is orc 7 [s.u, .agg [.int .i64 a, .int .i64 b]] (.bool true) := by
  refine ret_of body7 pure7 (hi 7 (by decide)) rfl rfl (dat_l2 (dat_shop s 5) (dat_span _ _ _)) (.inl (.bool _ _)) ?_
  have p1 := Int.emod_nonneg b (show (31 : Int) ≠ 0 by omega)
  have p2 := Int.emod_lt_of_pos b (show (0 : Int) < 31 by omega)
  generalize hoff : a % 121 - 60 = off at *
  generalize hmet : b % 31 = metal at *
  have hr33 : RetP Try.prog is orc 33 [.agg [.int .i64 a, .int .i64 b]] (.tup [.int .i64 off, .int .i64 metal]) := by have := ret33 (orc := orc) hi a b; rwa [hoff, hmet] at this
  have ho : offB off = true := by rw [← hoff]; exact st_off a
  have hm : metB metal = true := by rw [← hmet]; exact st_met b
  obtain ⟨j0, t0, ht0, hc0, hsp0, h310, hbest⟩ := cho_tool hk p1 hf hn
  have hjl : j0 < s.tools.length := by
    rcases Nat.lt_or_ge j0 s.tools.length with h | h
    · exact h
    · rw [List.getElem?_eq_none h] at ht0; cases ht0
  have hnt0 := hk.nt
  have hlen : (trisU s.tools).length = s.tools.length := List.length_map ..
  have g35 : decide ((j0 : Int) = -1) = false := decide_eq_false (by omega)
  have g71 : (!(decide ((0 : Int) ≤ j0) && decide ((j0 : Int) ≤ ((trisU s.tools).length : Int) - 1))) = false := by simp; omega
  refine k_seq ?_
  refine k_region ?_   -- region 0 outright.go:102
  refine o_box rfl rfl ?_
  refine o_box rfl rfl ?_
  refine o_assign rfl ?_
  refine o_nil ?_
  refine k_seq ?_
  refine k_seq ?_
  refine k_region ?_   -- region 1 outright.go:103
  first | refine o_loadN rfl rfl rfl sh27 rfl ?_ | refine o_loadRN rfl rfl sh27 rfl ?_
  refine o_call rfl (ret32 hi hk) (.lrefl _) ?_
  refine o_not rfl rfl ?_
  refine o_nil ?_
  refine k_cond rfl (fun h => absurd (h.symm.trans rfl) (by decide)) (fun _ => ?_)
  refine k_skip ?_
  refine k_seq ?_
  refine k_region ?_   -- region 3 outright.go:106
  first | refine o_loadN rfl rfl rfl sh28 rfl ?_ | refine o_loadRN rfl rfl sh28 rfl ?_
  refine o_call rfl (hr33) (.lrefl _) ?_
  refine o_move rfl ?_
  refine o_extract rfl rfl rfl ?_
  refine o_extract rfl rfl rfl ?_
  refine o_assign rfl ?_
  refine o_assign rfl ?_
  refine o_nil ?_
  refine k_seq ?_
  refine k_region ?_   -- region 4 outright.go:107
  first | refine o_loadN rfl rfl rfl sh27 rfl ?_ | refine o_loadRN rfl rfl sh27 rfl ?_
  refine o_move rfl ?_
  refine o_move rfl ?_
  refine o_call rfl (ret14a hi hk ho hm hc0 (by omega)) (.lrefl _) ?_
  refine o_move rfl ?_
  refine o_extract rfl rfl rfl ?_
  refine o_extract rfl rfl rfl ?_
  refine o_extract rfl rfl rfl ?_
  refine o_assign rfl ?_
  refine o_assign rfl ?_
  refine o_assign rfl ?_
  refine o_nil ?_
  refine k_seq ?_
  refine k_seq ?_
  refine k_region ?_   -- region 5 outright.go:108
  refine o_move rfl ?_
  refine o_eql rfl rfl rfl ?_
  refine o_move rfl ?_
  refine o_guard rfl rfl rfl rfl (fun _ => ?_) (fun h => absurd (h.symm.trans (decide_eq_true rfl)) (by decide))
  refine o_move rfl ?_
  refine o_guard rfl rfl rfl rfl (fun _ => ?_) (fun h => absurd (h.symm.trans (decide_eq_true rfl)) (by decide))
  refine o_eql rfl rfl rfl ?_
  refine o_pickT rfl rfl (decide_eq_true rfl) ?_
  refine o_nil ?_
  refine k_cond rfl (fun h => absurd (h.symm.trans g35) (by decide)) (fun _ => ?_)
  refine k_skip ?_
  refine k_seq ?_
  refine k_seq ?_
  refine k_region ?_   -- region 7 outright.go:111
  refine o_move rfl ?_
  refine o_neq rfl rfl rfl ?_
  refine o_move rfl ?_
  refine o_guard rfl rfl rfl rfl (fun h => absurd (h.symm.trans (decide_eq_false (fun h => h rfl))) (by decide)) (fun _ => ?_)
  refine o_guard rfl rfl rfl rfl (fun h => absurd (h.symm.trans (decide_eq_false (fun h => h rfl))) (by decide)) (fun _ => ?_)
  refine o_guardX rfl rfl rfl rfl (fun h => absurd (h.symm.trans (decide_eq_false (fun h => h rfl))) (by decide)) (fun _ => ?_)
  refine o_dead rfl rfl rfl rfl ?_
  refine o_dead rfl rfl rfl rfl ?_
  refine o_dead rfl rfl rfl rfl ?_
  refine o_dead rfl rfl rfl rfl ?_
  refine o_guard rfl rfl rfl rfl (fun h => absurd (h.symm.trans (decide_eq_false (fun h => h rfl))) (by decide)) (fun _ => ?_)
  refine o_pickF rfl rfl (decide_eq_false (fun h => h rfl)) ?_
  refine o_move rfl ?_
  refine o_guard rfl rfl rfl rfl (fun _ => ?_) (fun h => by cases h)
  refine o_move rfl ?_
  refine o_guard rfl rfl rfl rfl (fun _ => ?_) (fun h => by cases h)
  refine o_eql rfl rfl rfl ?_
  refine o_guard rfl rfl rfl rfl (fun _ => ?_) (fun h => by cases h)
  refine o_move rfl ?_
  refine o_guard rfl rfl rfl rfl (fun _ => ?_) (fun h => absurd (h.symm.trans (decide_eq_true rfl)) (by decide))
  refine o_move rfl ?_
  refine o_guard rfl rfl rfl rfl (fun _ => ?_) (fun h => absurd (h.symm.trans (decide_eq_true rfl)) (by decide))
  first | refine o_faddr rfl rfl fld27_0 ?_ | refine o_faddrR rfl rfl fld27_0 ?_
  refine o_guard rfl rfl rfl rfl (fun _ => ?_) (fun h => absurd (h.symm.trans (decide_eq_true rfl)) (by decide))
  first | refine o_load1 rfl rfl rfl sh22 rfl ?_ | refine o_loadR1 rfl rfl sh22 rfl ?_
  refine o_guard rfl rfl rfl rfl (fun _ => ?_) (fun h => absurd (h.symm.trans (decide_eq_true rfl)) (by decide))
  refine o_len rfl ty22 rfl rfl ?_
  refine o_guard rfl rfl rfl rfl (fun _ => ?_) (fun h => absurd (h.symm.trans (decide_eq_true rfl)) (by decide))
  refine o_sub rfl rfl rfl (by unfold I64; omega) ?_
  refine o_guard rfl rfl rfl rfl (fun _ => ?_) (fun h => absurd (h.symm.trans (decide_eq_true rfl)) (by decide))
  refine o_call rfl (ret34 hi _ _ _) (.lrefl _) ?_
  refine o_guard rfl rfl rfl rfl (fun _ => ?_) (fun h => absurd (h.symm.trans (decide_eq_true rfl)) (by decide))
  refine o_not rfl rfl ?_
  refine o_guard rfl rfl rfl rfl (fun _ => ?_) (fun h => by cases h)
  refine o_pickT rfl rfl (decide_eq_true rfl) ?_
  refine o_pickF rfl rfl rfl ?_
  refine o_nil ?_
  refine k_cond rfl (fun h => absurd (h.symm.trans g71) (by decide)) (fun _ => ?_)
  refine k_skip ?_
  refine k_seq ?_
  refine k_seq ?_
  refine k_region ?_   -- region 9 outright.go:114
  refine o_assign rfl ?_
  refine o_nil ?_
  refine k_block ?_
  -- LOOP 1
  refine k_loop (fun k st => ∃ i : Nat, k + i = s.tools.length ∧ st.st = [.box s.cs, .box [.int .i64 a, .int .i64 b]] ∧ Holds st [(2, .box 0 0), (5, .int .i64 off), (6, .int .i64 metal), (7, .int .i64 j0), (8, .int .i64 (hitT s off metal t0 + 1)), (9, .int .i64 0), (10, .int .i64 i)]) (fun k st hI => ?_) s.tools.length _ ?_
  · obtain ⟨i, hki, hst, hs⟩ := hI
    refine k_gen _ _ hs hst fun fr => ?_
    refine k_seq ?_
    refine k_seq ?_
    refine k_region ?_   -- region 10 outright.go:114
    refine o_move rfl ?_
    first | refine o_faddr rfl rfl fld27_0 ?_ | refine o_faddrR rfl rfl fld27_0 ?_
    first | refine o_load1 rfl rfl rfl sh22 rfl ?_ | refine o_load1 rfl rfl (at_set _ _ _) sh22 rfl ?_ | refine o_load1 rfl rfl (at_new _ _) sh22 rfl ?_ | refine o_load1 rfl rfl (at_old2 hst) sh22 rfl ?_ | refine o_load1 rfl rfl (at_old hst) sh22 rfl ?_ | refine o_load1 rfl rfl hst sh22 rfl ?_ | refine o_loadR1 rfl rfl sh22 rfl ?_
    refine o_len rfl ty22 rfl rfl ?_
    refine o_lss rfl rfl rfl ?_
    refine o_nil ?_
    refine k_cond rfl (fun h1 => ?_) (fun h1 => ?_)   -- slot 76
    · have hil : i < s.tools.length := by
        have := of_decide_eq_true h1
        simp at this; omega
      obtain ⟨t, hq⟩ : ∃ t, s.tools[i]? = some t := ⟨s.tools[i], List.getElem?_eq_getElem hil⟩
      have htm := List.mem_of_getElem? hq
      have hnt := hk.nt
      have hlt : t = t0 → aftN s off metal t = hitT s off metal t0 := fun h => by subst h; exact if_neg (by rw [hsp0]; exact fun h => by cases h)
      have hit : decide ((i : Int) = (j0 : Int)) = true → t = t0 := fun h => by
        have h := of_decide_eq_true h
        have : i = j0 := by omega
        subst this; rw [hq] at ht0; cases ht0; rfl
      have g100 : decide ((i : Int) = (j0 : Int)) = true → spoilT s off metal t = false := fun h => by rw [hit h]; exact hsp0
      have g107 : decide ((i : Int) = (j0 : Int)) = true → decide (aftN s off metal t ≠ hitT s off metal t0 + 1 - 1) = false := fun h => decide_eq_false (fun hx => hx (by rw [hlt (hit h)]; omega))
      have haf : (!(spoilT s off metal t)) = true → aftN s off metal t = hitT s off metal t ∧ spoilT s off metal t = false := fun h => by
        have h : spoilT s off metal t = false := (Bool.not_eq_true' _).mp h
        exact ⟨if_neg (by rw [h]; exact fun h => by cases h), h⟩
      have g115 : (!(spoilT s off metal t)) = true → decide (aftN s off metal t < hitT s off metal t0 + 1 - 1) = false := fun h => decide_eq_false (by
        obtain ⟨h1, h2⟩ := haf h
        have := (hbest i t hq h2).1
        omega)
      have g127 : (!(spoilT s off metal t)) = true → decide (aftN s off metal t = hitT s off metal t0 + 1 - 1) = true → decide ((i : Int) < (j0 : Int)) = false := fun h h' => decide_eq_false (by
        obtain ⟨h1, h2⟩ := haf h
        have h' := of_decide_eq_true h'
        have := (hbest i t hq h2).2 (by omega)
        omega)
      have hh0 := hit_b (s := s) (off := off) (metal := metal) (t := t0)
      refine k_skip ?_
      refine k_seq ?_
      refine k_block ?_
      refine k_seq ?_
      refine k_draw [.read true, .plain, .read true, .plain, .plain, .read true, .plain, .plain, .plain, .plain, .plain, .plain, .plain, .plain] (by kernel_rfl) (by kernel_rfl) (by kernel_rfl) ?_   -- region 12
      first | refine d_load rfl (o_loadN rfl rfl rfl sh27 rfl (o_nil rfl)) ?_ | refine d_load rfl (o_loadN rfl rfl (at_set _ _ _) sh27 rfl (o_nil rfl)) ?_ | refine d_load rfl (o_loadN rfl rfl (at_new _ _) sh27 rfl (o_nil rfl)) ?_ | refine d_load rfl (o_loadN rfl rfl (at_old2 hst) sh27 rfl (o_nil rfl)) ?_ | refine d_load rfl (o_loadN rfl rfl (at_old hst) sh27 rfl (o_nil rfl)) ?_ | refine d_load rfl (o_loadN rfl rfl hst sh27 rfl (o_nil rfl)) ?_ | refine d_load rfl (o_loadRN rfl rfl sh27 rfl (o_nil rfl)) ?_
      first | refine d_plain (o_faddr rfl rfl fld27_0 (o_nil rfl)) ?_ | refine d_plain (o_faddrR rfl rfl fld27_0 (o_nil rfl)) ?_
      first | refine d_load rfl (o_load1 rfl rfl rfl sh22 rfl (o_nil rfl)) ?_ | refine d_load rfl (o_load1 rfl rfl (at_set _ _ _) sh22 rfl (o_nil rfl)) ?_ | refine d_load rfl (o_load1 rfl rfl (at_new _ _) sh22 rfl (o_nil rfl)) ?_ | refine d_load rfl (o_load1 rfl rfl (at_old2 hst) sh22 rfl (o_nil rfl)) ?_ | refine d_load rfl (o_load1 rfl rfl (at_old hst) sh22 rfl (o_nil rfl)) ?_ | refine d_load rfl (o_load1 rfl rfl hst sh22 rfl (o_nil rfl)) ?_ | refine d_load rfl (o_loadR1 rfl rfl sh22 rfl (o_nil rfl)) ?_
      refine d_plain (o_move rfl (o_nil rfl)) ?_
      refine d_plain (o_idx (u := t.u) rfl ty22 rfl rfl (Int.natCast_nonneg i) (by simp [hq]) cl52 (o_nil rfl)) ?_
      first | refine d_load rfl (o_loadN rfl rfl rfl sh52 rfl (o_nil rfl)) ?_ | refine d_load rfl (o_loadN rfl rfl (at_set _ _ _) sh52 rfl (o_nil rfl)) ?_ | refine d_load rfl (o_loadN rfl rfl (at_new _ _) sh52 rfl (o_nil rfl)) ?_ | refine d_load rfl (o_loadN rfl rfl (at_old2 hst) sh52 rfl (o_nil rfl)) ?_ | refine d_load rfl (o_loadN rfl rfl (at_old hst) sh52 rfl (o_nil rfl)) ?_ | refine d_load rfl (o_loadN rfl rfl hst sh52 rfl (o_nil rfl)) ?_ | refine d_load rfl (o_loadRN rfl rfl sh52 rfl (o_nil rfl)) ?_
      refine d_plain (o_move rfl (o_nil rfl)) ?_
      refine d_plain (o_move rfl (o_nil rfl)) ?_
      refine d_plain (o_call rfl (ret38 hi hk ho hm htm) (.lrefl _) (o_nil rfl)) ?_
      refine d_plain (o_move rfl (o_nil rfl)) ?_
      refine d_plain (o_extract rfl rfl rfl (o_nil rfl)) ?_
      refine d_plain (o_extract rfl rfl rfl (o_nil rfl)) ?_
      refine d_plain (o_assign rfl (o_nil rfl)) ?_
      refine d_plain (o_assign rfl (o_nil rfl)) ?_
      refine d_nil ?_
      refine k_seq ?_
      refine k_seq ?_
      refine k_region ?_   -- region 13 outright.go:116
      refine o_move rfl ?_
      refine o_neq rfl rfl rfl ?_
      refine o_nil ?_
      refine k_cond rfl (fun h => absurd (h.symm.trans (decide_eq_false (fun h => h rfl))) (by decide)) (fun _ => ?_)
      refine k_skip ?_
      refine k_seq ?_
      refine k_region ?_   -- region 16 outright.go:122
      refine o_move rfl ?_
      refine o_move rfl ?_
      refine o_eql rfl rfl rfl ?_
      refine o_move rfl ?_
      refine o_guard rfl rfl rfl rfl (fun h2 => ?_) (fun h2 => ?_)   -- slot 98
      · refine o_move rfl ?_
        refine o_guard rfl rfl rfl rfl (fun _ => ?_) (fun h => by rw [h2] at h; cases h)
        refine o_move rfl ?_
        refine o_guard rfl rfl rfl rfl (fun _ => ?_) (fun h => absurd (h.symm.trans (g100 (by assumption))) (by decide))
        refine o_move rfl ?_
        refine o_guard rfl rfl rfl rfl (fun _ => ?_) (fun h => absurd (h.symm.trans (g100 (by assumption))) (by decide))
        refine o_move rfl ?_
        refine o_guard rfl rfl rfl rfl (fun _ => ?_) (fun h => absurd (h.symm.trans (g100 (by assumption))) (by decide))
        refine o_sub rfl rfl rfl (by unfold I64; omega) ?_
        refine o_guard rfl rfl rfl rfl (fun _ => ?_) (fun h => absurd (h.symm.trans (g100 (by assumption))) (by decide))
        refine o_neq rfl rfl rfl ?_
        refine o_guard rfl rfl rfl rfl (fun _ => ?_) (fun h => by rw [h2] at h; cases h)
        refine o_pickF rfl rfl (g100 (by assumption)) ?_
        refine o_pickT rfl rfl h2 ?_
        refine o_move rfl ?_
        refine o_guard rfl rfl rfl rfl (fun _ => ?_) (fun h => absurd (h.symm.trans (show _ = false from by first | rfl | exact g107 (by assumption))) (by decide))
        refine o_move rfl ?_
        refine o_guard rfl rfl rfl rfl (fun _ => ?_) (fun h => absurd (h.symm.trans (show _ = false from by first | rfl | exact g107 (by assumption))) (by decide))
        refine o_not rfl rfl ?_
        refine o_guard rfl rfl rfl rfl (fun _ => ?_) (fun h => absurd (h.symm.trans (show _ = false from by first | rfl | exact g107 (by assumption))) (by decide))
        refine o_move rfl ?_
        refine o_guard rfl rfl rfl rfl (fun h3 => ?_) (fun h3 => ?_)   -- slot 110
        · refine o_move rfl ?_
          refine o_guard rfl rfl rfl rfl (fun _ => ?_) (fun h => by rw [h3] at h; cases h)
          refine o_move rfl ?_
          refine o_guard rfl rfl rfl rfl (fun _ => ?_) (fun h => by rw [h3] at h; cases h)
          refine o_sub rfl rfl rfl (by unfold I64; omega) ?_
          refine o_guard rfl rfl rfl rfl (fun _ => ?_) (fun h => by rw [h3] at h; cases h)
          refine o_lss rfl rfl rfl ?_
          refine o_guard rfl rfl rfl rfl (fun _ => ?_) (fun h => by rw [h3] at h; cases h)
          refine o_move rfl ?_
          refine o_guard rfl rfl rfl rfl (fun _ => ?_) (fun h => absurd (h.symm.trans (g115 (by assumption))) (by decide))
          refine o_move rfl ?_
          refine o_guard rfl rfl rfl rfl (fun _ => ?_) (fun h => absurd (h.symm.trans (g115 (by assumption))) (by decide))
          refine o_move rfl ?_
          refine o_guard rfl rfl rfl rfl (fun _ => ?_) (fun h => absurd (h.symm.trans (g115 (by assumption))) (by decide))
          refine o_sub rfl rfl rfl (by unfold I64; omega) ?_
          refine o_guard rfl rfl rfl rfl (fun _ => ?_) (fun h => absurd (h.symm.trans (g115 (by assumption))) (by decide))
          refine o_eql rfl rfl rfl ?_
          refine o_guard rfl rfl rfl rfl (fun _ => ?_) (fun h => absurd (h.symm.trans (g115 (by assumption))) (by decide))
          refine o_move rfl ?_
          refine o_guard rfl rfl rfl rfl (fun h4 => ?_) (fun h4 => ?_)   -- slot 120
          · refine o_move rfl ?_
            refine o_guard rfl rfl rfl rfl (fun _ => ?_) (fun h => by rw [h4] at h; cases h)
            refine o_move rfl ?_
            refine o_guard rfl rfl rfl rfl (fun _ => ?_) (fun h => by rw [h4] at h; cases h)
            refine o_lss rfl rfl rfl ?_
            refine o_guard rfl rfl rfl rfl (fun _ => ?_) (fun h => absurd (h.symm.trans (g115 (by assumption))) (by decide))
            refine o_pickT rfl rfl h4 ?_
            refine o_guard rfl rfl rfl rfl (fun _ => ?_) (fun h => by rw [h3] at h; cases h)
            refine o_pickF rfl rfl (g115 (by assumption)) ?_
            refine o_guard rfl rfl rfl rfl (fun _ => ?_) (fun h => absurd (h.symm.trans (show _ = false from by first | rfl | exact g107 (by assumption))) (by decide))
            refine o_pickT rfl rfl h3 ?_
            refine o_pickF rfl rfl (show _ = false from by first | rfl | exact g107 (by assumption)) ?_
            refine o_nil ?_
            refine k_cond rfl (fun h => absurd (h.symm.trans (show _ = false from by first | rfl | exact g127 (by assumption) (by assumption))) (by decide)) (fun _ => ?_)
            refine k_skip ?_
            refine k_region ?_   -- region 11 outright.go:114
            refine o_move rfl ?_
            refine o_add rfl rfl rfl (by unfold I64; omega) ?_
            refine o_assign rfl ?_
            refine o_nil ?_
            exact ⟨k - 1, by omega, i + 1, by omega, rfl, .cons rfl (.cons rfl (.cons rfl (.cons rfl (.cons rfl (.cons rfl (.cons rfl (.nil rfl)))))))⟩
          · refine o_guard rfl rfl rfl rfl (fun h => by rw [h4] at h; cases h) (fun _ => ?_)
            refine o_guard rfl rfl rfl rfl (fun h => by rw [h4] at h; cases h) (fun _ => ?_)
            refine o_guard rfl rfl rfl rfl (fun _ => ?_) (fun h => absurd (h.symm.trans (g115 (by assumption))) (by decide))
            refine o_pickF rfl rfl h4 ?_
            refine o_guard rfl rfl rfl rfl (fun _ => ?_) (fun h => by rw [h3] at h; cases h)
            refine o_pickF rfl rfl (g115 (by assumption)) ?_
            refine o_guard rfl rfl rfl rfl (fun _ => ?_) (fun h => absurd (h.symm.trans (show _ = false from by first | rfl | exact g107 (by assumption))) (by decide))
            refine o_pickT rfl rfl h3 ?_
            refine o_pickF rfl rfl (show _ = false from by first | rfl | exact g107 (by assumption)) ?_
            refine o_nil ?_
            refine k_cond rfl (fun h => by cases h) (fun _ => ?_)
            refine k_skip ?_
            refine k_region ?_   -- region 11 outright.go:114
            refine o_move rfl ?_
            refine o_add rfl rfl rfl (by unfold I64; omega) ?_
            refine o_assign rfl ?_
            refine o_nil ?_
            exact ⟨k - 1, by omega, i + 1, by omega, rfl, .cons rfl (.cons rfl (.cons rfl (.cons rfl (.cons rfl (.cons rfl (.cons rfl (.nil rfl)))))))⟩
        · refine o_guard rfl rfl rfl rfl (fun h => by rw [h3] at h; cases h) (fun _ => ?_)
          refine o_guard rfl rfl rfl rfl (fun h => by rw [h3] at h; cases h) (fun _ => ?_)
          refine o_guard rfl rfl rfl rfl (fun h => by rw [h3] at h; cases h) (fun _ => ?_)
          refine o_guardX rfl rfl rfl rfl (fun h => by rw [h3] at h; cases h) (fun _ => ?_)
          refine o_dead rfl rfl rfl rfl ?_
          refine o_dead rfl rfl rfl rfl ?_
          refine o_dead rfl rfl rfl rfl ?_
          refine o_dead rfl rfl rfl rfl ?_
          refine o_dead rfl rfl rfl rfl ?_
          refine o_dead rfl rfl rfl rfl ?_
          refine o_dead rfl rfl rfl rfl ?_
          refine o_dead rfl rfl rfl rfl ?_
          refine o_dead rfl rfl rfl rfl ?_
          refine o_guard rfl rfl rfl rfl (fun h => by rw [h3] at h; cases h) (fun _ => ?_)
          refine o_guard rfl rfl rfl rfl (fun _ => ?_) (fun h => absurd (h.symm.trans (show _ = false from by first | rfl | exact g107 (by assumption))) (by decide))
          refine o_pickF rfl rfl h3 ?_
          refine o_pickF rfl rfl (show _ = false from by first | rfl | exact g107 (by assumption)) ?_
          refine o_nil ?_
          refine k_cond rfl (fun h => by cases h) (fun _ => ?_)
          refine k_skip ?_
          refine k_region ?_   -- region 11 outright.go:114
          refine o_move rfl ?_
          refine o_add rfl rfl rfl (by unfold I64; omega) ?_
          refine o_assign rfl ?_
          refine o_nil ?_
          exact ⟨k - 1, by omega, i + 1, by omega, rfl, .cons rfl (.cons rfl (.cons rfl (.cons rfl (.cons rfl (.cons rfl (.cons rfl (.nil rfl)))))))⟩
      · refine o_guardX rfl rfl rfl rfl (fun h => by rw [h2] at h; cases h) (fun _ => ?_)
        refine o_dead rfl rfl rfl rfl ?_
        refine o_dead rfl rfl rfl rfl ?_
        refine o_dead rfl rfl rfl rfl ?_
        refine o_dead rfl rfl rfl rfl ?_
        refine o_guard rfl rfl rfl rfl (fun h => by rw [h2] at h; cases h) (fun _ => ?_)
        refine o_pickF rfl rfl h2 ?_
        refine o_move rfl ?_
        refine o_guard rfl rfl rfl rfl (fun _ => ?_) (fun h => by cases h)
        refine o_move rfl ?_
        refine o_guard rfl rfl rfl rfl (fun _ => ?_) (fun h => by cases h)
        refine o_not rfl rfl ?_
        refine o_guard rfl rfl rfl rfl (fun _ => ?_) (fun h => by cases h)
        refine o_move rfl ?_
        refine o_guard rfl rfl rfl rfl (fun h5 => ?_) (fun h5 => ?_)   -- slot 110
        · refine o_move rfl ?_
          refine o_guard rfl rfl rfl rfl (fun _ => ?_) (fun h => by rw [h5] at h; cases h)
          refine o_move rfl ?_
          refine o_guard rfl rfl rfl rfl (fun _ => ?_) (fun h => by rw [h5] at h; cases h)
          refine o_sub rfl rfl rfl (by unfold I64; omega) ?_
          refine o_guard rfl rfl rfl rfl (fun _ => ?_) (fun h => by rw [h5] at h; cases h)
          refine o_lss rfl rfl rfl ?_
          refine o_guard rfl rfl rfl rfl (fun _ => ?_) (fun h => by rw [h5] at h; cases h)
          refine o_move rfl ?_
          refine o_guard rfl rfl rfl rfl (fun _ => ?_) (fun h => absurd (h.symm.trans (g115 (by assumption))) (by decide))
          refine o_move rfl ?_
          refine o_guard rfl rfl rfl rfl (fun _ => ?_) (fun h => absurd (h.symm.trans (g115 (by assumption))) (by decide))
          refine o_move rfl ?_
          refine o_guard rfl rfl rfl rfl (fun _ => ?_) (fun h => absurd (h.symm.trans (g115 (by assumption))) (by decide))
          refine o_sub rfl rfl rfl (by unfold I64; omega) ?_
          refine o_guard rfl rfl rfl rfl (fun _ => ?_) (fun h => absurd (h.symm.trans (g115 (by assumption))) (by decide))
          refine o_eql rfl rfl rfl ?_
          refine o_guard rfl rfl rfl rfl (fun _ => ?_) (fun h => absurd (h.symm.trans (g115 (by assumption))) (by decide))
          refine o_move rfl ?_
          refine o_guard rfl rfl rfl rfl (fun h6 => ?_) (fun h6 => ?_)   -- slot 120
          · refine o_move rfl ?_
            refine o_guard rfl rfl rfl rfl (fun _ => ?_) (fun h => by rw [h6] at h; cases h)
            refine o_move rfl ?_
            refine o_guard rfl rfl rfl rfl (fun _ => ?_) (fun h => by rw [h6] at h; cases h)
            refine o_lss rfl rfl rfl ?_
            refine o_guard rfl rfl rfl rfl (fun _ => ?_) (fun h => absurd (h.symm.trans (g115 (by assumption))) (by decide))
            refine o_pickT rfl rfl h6 ?_
            refine o_guard rfl rfl rfl rfl (fun _ => ?_) (fun h => by rw [h5] at h; cases h)
            refine o_pickF rfl rfl (g115 (by assumption)) ?_
            refine o_guard rfl rfl rfl rfl (fun _ => ?_) (fun h => by cases h)
            refine o_pickT rfl rfl h5 ?_
            refine o_pickF rfl rfl rfl ?_
            refine o_nil ?_
            refine k_cond rfl (fun h => absurd (h.symm.trans (show _ = false from by first | rfl | exact g127 (by assumption) (by assumption))) (by decide)) (fun _ => ?_)
            refine k_skip ?_
            refine k_region ?_   -- region 11 outright.go:114
            refine o_move rfl ?_
            refine o_add rfl rfl rfl (by unfold I64; omega) ?_
            refine o_assign rfl ?_
            refine o_nil ?_
            exact ⟨k - 1, by omega, i + 1, by omega, rfl, .cons rfl (.cons rfl (.cons rfl (.cons rfl (.cons rfl (.cons rfl (.cons rfl (.nil rfl)))))))⟩
          · refine o_guard rfl rfl rfl rfl (fun h => by rw [h6] at h; cases h) (fun _ => ?_)
            refine o_guard rfl rfl rfl rfl (fun h => by rw [h6] at h; cases h) (fun _ => ?_)
            refine o_guard rfl rfl rfl rfl (fun _ => ?_) (fun h => absurd (h.symm.trans (g115 (by assumption))) (by decide))
            refine o_pickF rfl rfl h6 ?_
            refine o_guard rfl rfl rfl rfl (fun _ => ?_) (fun h => by rw [h5] at h; cases h)
            refine o_pickF rfl rfl (g115 (by assumption)) ?_
            refine o_guard rfl rfl rfl rfl (fun _ => ?_) (fun h => by cases h)
            refine o_pickT rfl rfl h5 ?_
            refine o_pickF rfl rfl rfl ?_
            refine o_nil ?_
            refine k_cond rfl (fun h => by cases h) (fun _ => ?_)
            refine k_skip ?_
            refine k_region ?_   -- region 11 outright.go:114
            refine o_move rfl ?_
            refine o_add rfl rfl rfl (by unfold I64; omega) ?_
            refine o_assign rfl ?_
            refine o_nil ?_
            exact ⟨k - 1, by omega, i + 1, by omega, rfl, .cons rfl (.cons rfl (.cons rfl (.cons rfl (.cons rfl (.cons rfl (.cons rfl (.nil rfl)))))))⟩
        · refine o_guard rfl rfl rfl rfl (fun h => by rw [h5] at h; cases h) (fun _ => ?_)
          refine o_guard rfl rfl rfl rfl (fun h => by rw [h5] at h; cases h) (fun _ => ?_)
          refine o_guard rfl rfl rfl rfl (fun h => by rw [h5] at h; cases h) (fun _ => ?_)
          refine o_guardX rfl rfl rfl rfl (fun h => by rw [h5] at h; cases h) (fun _ => ?_)
          refine o_dead rfl rfl rfl rfl ?_
          refine o_dead rfl rfl rfl rfl ?_
          refine o_dead rfl rfl rfl rfl ?_
          refine o_dead rfl rfl rfl rfl ?_
          refine o_dead rfl rfl rfl rfl ?_
          refine o_dead rfl rfl rfl rfl ?_
          refine o_dead rfl rfl rfl rfl ?_
          refine o_dead rfl rfl rfl rfl ?_
          refine o_dead rfl rfl rfl rfl ?_
          refine o_guard rfl rfl rfl rfl (fun h => by rw [h5] at h; cases h) (fun _ => ?_)
          refine o_guard rfl rfl rfl rfl (fun _ => ?_) (fun h => by cases h)
          refine o_pickF rfl rfl h5 ?_
          refine o_pickF rfl rfl rfl ?_
          refine o_nil ?_
          refine k_cond rfl (fun h => by cases h) (fun _ => ?_)
          refine k_skip ?_
          refine k_region ?_   -- region 11 outright.go:114
          refine o_move rfl ?_
          refine o_add rfl rfl rfl (by unfold I64; omega) ?_
          refine o_assign rfl ?_
          refine o_nil ?_
          exact ⟨k - 1, by omega, i + 1, by omega, rfl, .cons rfl (.cons rfl (.cons rfl (.cons rfl (.cons rfl (.cons rfl (.cons rfl (.nil rfl)))))))⟩
    · refine k_exit ?_
      refine k_seq ?_
      refine k_region ?_   -- region 18 outright.go:126
      refine o_call rfl (r20) (.lrefl _) ?_
      refine o_assign rfl ?_
      refine o_nil ?_
      refine k_ret ?_
      refine ⟨.inr rfl, _, .cons _ _ _ _ (.tmp 4) .nil, ?_⟩
      exact .refl _
  · exact ⟨0, by omega, rfl, .cons rfl (.cons rfl (.cons rfl (.cons rfl (.cons rfl (.cons rfl (.cons rfl (.nil rfl)))))))⟩

set_option linter.constructorNameAsVariable false
theorem und_struct {P : Program} {t : TypeId} (n : Nat) (h : (match P.underlying t with | some (.struct fs) => Nat.beq fs.size n | _ => false) = true) : ∃ fs, P.underlying t = some (.struct fs) := by
  cases hu : P.underlying t with
  | none => rw [hu] at h; cases h
  | some ty => rw [hu] at h; cases ty <;> first | exact ⟨_, rfl⟩ | cases h
theorem u38 : Try.prog.underlying 38 = some (.slice 3) := by kernel_rfl
theorem u3 : Try.prog.underlying 3 = some (.int .i64) := by kernel_rfl
theorem u22 : Try.prog.underlying 22 = some (.slice 52) := by kernel_rfl
theorem u25 : Try.prog.underlying 25 = some (.slice 64) := by kernel_rfl
def fts (P : Program) (t : TypeId) : List TypeId := match P.underlying t with | some (.struct fs) => fs.toList.map (·.type) | _ => []
theorem f27 : fts Try.prog 27 = [22, 24, 25] := by kernel_rfl
theorem f24 : fts Try.prog 24 = [3, 3] := by kernel_rfl
theorem f52 : fts Try.prog 52 = [24, 3] := by kernel_rfl
theorem f64 : fts Try.prog 64 = [24, 3] := by kernel_rfl
theorem shp_int {cs : List U} (h : Shp Try.prog 3 cs) : ∃ n : Int, cs = [.int .i64 n] := by
  cases h with
  | int _ k n hu _ => rw [u3] at hu; cases hu; exact ⟨n, rfl⟩
  | bool _ _ hu => rw [u3] at hu; cases hu
  | str _ _ hu => rw [u3] at hu; cases hu
  | slice _ _ _ hu => rw [u3] at hu; cases hu
  | struct _ _ _ hu => rw [u3] at hu; cases hu
  | array _ _ _ _ hu => rw [u3] at hu; cases hu
/-- a struct, by its fields' types -/
theorem shp_fields {P : Program} {t : TypeId} {cs : List U} (h : Shp P t cs) (hne : fts P t ≠ []) : ∃ fs : List Field, fs.map (·.type) = fts P t ∧ ShpF P fs cs := by
  have no : ∀ {ty}, P.underlying t = some ty → (∀ fs, ty ≠ .struct fs) → False := fun hu hn => hne (by unfold fts; rw [hu]; split <;> simp_all)
  cases h with
  | struct _ fs _ hu hf => exact ⟨fs.toList, by unfold fts; rw [hu], hf⟩
  | int _ k n hu _ => exact (no hu (by intro fs h; cases h)).elim
  | bool _ _ hu => exact (no hu (by intro fs h; cases h)).elim
  | str _ _ hu => exact (no hu (by intro fs h; cases h)).elim
  | slice _ _ _ hu => exact (no hu (by intro fs h; cases h)).elim
  | array _ _ _ _ hu => exact (no hu (by intro fs h; cases h)).elim
theorem shpF_cons {P : Program} {fs : List Field} {t : TypeId} {ts : List TypeId} {cs : List U} (h : ShpF P fs cs) (e : fs.map (·.type) = t :: ts) : ∃ gs xs ys, cs = xs ++ ys ∧ Shp P t xs ∧ ShpF P gs ys ∧ gs.map (·.type) = ts := by
  cases h with
  | nil => cases e
  | cons f fs xs ys h1 h2 =>
    simp only [List.map_cons, List.cons.injEq] at e
    obtain ⟨rfl, rfl⟩ := e
    exact ⟨fs, xs, ys, rfl, h1, h2, rfl⟩
theorem shpF_nil {P : Program} {fs : List Field} {cs : List U} (h : ShpF P fs cs) (e : fs.map (·.type) = []) : cs = [] := by
  cases h with
  | nil => rfl
  | cons => cases e
theorem shp_span {cs : List U} (h : Shp Try.prog 24 cs) : ∃ a b : Int, cs = [.int .i64 a, .int .i64 b] := by
  obtain ⟨fs, e, hf⟩ := shp_fields h (by rw [f24]; simp)
  rw [f24] at e
  obtain ⟨g1, a1, b1, rfl, k1, r1, e1⟩ := shpF_cons hf e
  obtain ⟨g2, a2, b2, rfl, k2, r2, e2⟩ := shpF_cons r1 e1
  obtain rfl := shpF_nil r2 e2
  obtain ⟨x, rfl⟩ := shp_int k1
  obtain ⟨y, rfl⟩ := shp_int k2
  exact ⟨x, y, rfl⟩
theorem shp_tri {t : TypeId} (hft : fts Try.prog t = [24, 3]) {cs : List U} (h : Shp Try.prog t cs) : ∃ q : Tri, cs = [.int .i64 q.a, .int .i64 q.b, .int .i64 q.c] := by
  obtain ⟨fs, e, hf⟩ := shp_fields h (by rw [hft]; simp)
  rw [hft] at e
  obtain ⟨g1, a1, b1, rfl, k1, r1, e1⟩ := shpF_cons hf e
  obtain ⟨g2, a2, b2, rfl, k2, r2, e2⟩ := shpF_cons r1 e1
  obtain rfl := shpF_nil r2 e2
  obtain ⟨x, y, rfl⟩ := shp_span k1
  obtain ⟨z, rfl⟩ := shp_int k2
  exact ⟨⟨x, y, z⟩, rfl⟩
theorem shpL_map {P : Program} {e : TypeId} {α : Type} {f : α → List U} {css : List (List U)} (h : ShpL P e css) (k : ∀ cs, Shp P e cs → ∃ q, cs = f q) : ∃ l : List α, css = l.map f := by
  induction css with
  | nil => exact ⟨[], rfl⟩
  | cons cs css ih =>
    cases h with
    | cons _ _ _ h1 h2 =>
      obtain ⟨q, rfl⟩ := k _ h1
      obtain ⟨l, rfl⟩ := ih h2
      exact ⟨q :: l, rfl⟩
theorem shp_slice {P : Program} {t e : TypeId} {cs : List U} (hu : P.underlying t = some (.slice e)) (h : Shp P t cs) : ∃ css, ShpL P e css ∧ cs = [.lst .ro (P.cellsOf e) (css.map (eU P e))] := by
  cases h with
  | slice _ e' css hu' hl => rw [hu] at hu'; cases hu'; exact ⟨css, hl, rfl⟩
  | int _ k n hu' _ => rw [hu] at hu'; cases hu'
  | bool _ _ hu' => rw [hu] at hu'; cases hu'
  | str _ _ hu' => rw [hu] at hu'; cases hu'
  | struct _ _ _ hu' => rw [hu] at hu'; cases hu'
  | array _ _ _ _ hu' => rw [hu] at hu'; cases hu'
theorem eu52 : ∀ cs, eU Try.prog 52 cs = .agg cs := by
  obtain ⟨fs, h⟩ := und_struct (P := Try.prog) (t := 52) 2 (by kernel_rfl)
  intro cs; unfold eU; rw [h]
theorem eu64 : ∀ cs, eU Try.prog 64 cs = .agg cs := by
  obtain ⟨fs, h⟩ := und_struct (P := Try.prog) (t := 64) 2 (by kernel_rfl)
  intro cs; unfold eU; rw [h]
theorem eu3 : ∀ cs, eU Try.prog 3 cs = cs.headD .junk := by
  intro cs; unfold eU; rw [u3]
theorem map_tris {F : List U → U} (he : ∀ cs, F cs = .agg cs) (l : List Tri) : (l.map fun q : Tri => [U.int .i64 q.a, .int .i64 q.b, .int .i64 q.c]).map F = trisU l := by
  rw [List.map_map]
  exact List.map_congr_left fun q _ => he _
theorem map_ints {F : List U → U} (he : ∀ cs, F cs = cs.headD .junk) (l : List Int) : (l.map fun n : Int => [U.int .i64 n]).map F = intsU l := by
  rw [List.map_map]
  exact List.map_congr_left fun q _ => he _
theorem shp_tris {t e : TypeId} (hu : Try.prog.underlying t = some (.slice e)) (hc : Program.cellsOf Try.prog e = 3) (hft : fts Try.prog e = [24, 3]) (he : ∀ cs, eU Try.prog e cs = .agg cs) {cs : List U} (h : Shp Try.prog t cs) : ∃ l : List Tri, cs = [.lst .ro 3 (trisU l)] := by
  obtain ⟨css, hl, rfl⟩ := shp_slice hu h
  obtain ⟨l, rfl⟩ := shpL_map (f := fun q : Tri => [.int .i64 q.a, .int .i64 q.b, .int .i64 q.c]) hl fun cs hcs => shp_tri hft hcs
  refine ⟨l, ?_⟩
  rw [hc, map_tris he]
theorem shp_ints {cs : List U} (h : Shp Try.prog 38 cs) : ∃ l : List Int, cs = [.lst .ro 1 (intsU l)] := by
  obtain ⟨css, hl, rfl⟩ := shp_slice u38 h
  obtain ⟨l, rfl⟩ := shpL_map (f := fun n : Int => [.int .i64 n]) hl fun cs hcs => shp_int hcs
  refine ⟨l, ?_⟩
  rw [cl3, map_ints eu3]
theorem shp_shop {cs : List U} (h : Shp Try.prog 27 cs) : ∃ s : Shop, cs = s.cs := by
  obtain ⟨fs, e, hf⟩ := shp_fields h (by rw [f27]; simp)
  rw [f27] at e
  obtain ⟨g1, a1, b1, rfl, k1, r1, e1⟩ := shpF_cons hf e
  obtain ⟨g2, a2, b2, rfl, k2, r2, e2⟩ := shpF_cons r1 e1
  obtain ⟨g3, a3, b3, rfl, k3, r3, e3⟩ := shpF_cons r2 e2
  obtain rfl := shpF_nil r3 e3
  obtain ⟨t, rfl⟩ := shp_tris u22 cl52 f52 eu52 k1
  obtain ⟨lo, hi, rfl⟩ := shp_span k2
  obtain ⟨k, rfl⟩ := shp_tris u25 cl64 f64 eu64 k3
  exact ⟨⟨t, lo, hi, k⟩, rfl⟩
theorem u28 : Try.prog.underlying 28 = some (.array 2 3) := by kernel_rfl
theorem shp_two {cs : List U} (h : Shp Try.prog 28 cs) : ∃ a b : Int, cs = [.int .i64 a, .int .i64 b] := by
  cases h with
  | array _ n e css hu hl hn =>
    rw [u28] at hu; cases hu
    obtain ⟨l, rfl⟩ := shpL_map (f := fun n : Int => [U.int .i64 n]) hl fun cs hcs => shp_int hcs
    rw [List.length_map] at hn
    match l, hn with
    | [a, b], _ => exact ⟨a, b, rfl⟩
  | int _ k n hu _ => rw [u28] at hu; cases hu
  | bool _ _ hu => rw [u28] at hu; cases hu
  | str _ _ hu => rw [u28] at hu; cases hu
  | slice _ _ _ hu => rw [u28] at hu; cases hu
  | struct _ _ _ hu => rw [u28] at hu; cases hu

theorem ret7_all {is : FuncId → Bool} {orc : Known} (hi : Off is) (r20 : RetP Try.prog is orc 20 [] (.bool true)) : ∀ us, ShpAs Try.prog [27, 28] us → RetP Try.prog is orc 7 us (.bool true) := by
  intro us h
  cases h with
  | cons _ _ u us h1 h => cases h with
  | cons _ _ v us h2 h =>
  cases h
  obtain ⟨fs, hu⟩ := und_struct (P := Try.prog) (t := 27) 3 (by kernel_rfl)
  unfold ShpA at h1 h2
  rw [hu] at h1
  rw [u28] at h2
  obtain ⟨cs, rfl, h1⟩ := h1
  obtain ⟨ds, rfl, h2⟩ := h2
  obtain ⟨s, rfl⟩ := shp_shop h1
  obtain ⟨a, b, rfl⟩ := shp_two h2
  by_cases hv : checkR s.tools s.keys s.flo s.fhi = 0
  · have hk := ok_chk hv
    by_cases hn : (cho s true (a % 121 - 60) (b % 31)).2 = 31
    · exact ret7z hi hk a b r20 hn
    · cases hf : fineB s (a % 121 - 60) with
      | true => exact ret7f hi hk a b r20 hf
      | false => exact ret7a hi hk a b r20 hf hn
  · exact ret7n hi hv a b r20
end Go.Proofs.Ytdahbimllmapkaa.raspLeast
